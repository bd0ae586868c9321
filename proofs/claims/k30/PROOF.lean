import PyProof.Rows.All
import Wide.All
import OpenK.AllK
import Wide.FinOn
import HandS.ForMost
import HandS.Wide
import HandS.WideMore
import HandS.TupAny
import HandS.TupLen
import HandS.Evl
import HandS.Codes
import PyProof.ReprLen
import PyProof.StrLawsRepr
import HandS.Walk
import HandS.Zip
import KE.GoesMore
import HandS.Style
import HandS.TupMul
import PyProof.StrOps2
import HandS.IsInst
import HandS.StrMore
import HandS.Dict
import KE.GoesZip
import KE.KDictZip
import PySem.Challenge.RW_pyhold_k30_binds_by_the_row
set_option Elab.async false
set_option linter.all false
set_option maxRecDepth 100000
set_option maxHeartbeats 4000000
/-! A layer of one's own over the hand layer: defs by name, data, the helpers that the laws share. -/
namespace LK
open PySem PySem.Spec PyProof.Rows L2

/-! ### a def's promise where nothing is being shown (repr asks who is) -/
structure FnG (P : Program) (w : World) (K : PySem.W.Frag) (mg : Str → Option Value) (base : Heap) (CX : CXT) (k : Nat) (f : Addr) (fd : FuncData) (ps : List Str) (sp : Sp) : Prop where
  len : ∀ vs H Q E, sp vs H Q E → vs.length = ps.length
  run : ∀ (A : Around) (outer : List Env) (s : Shared) (H : Hp) (args : Args) (us : List Value) (vs : List V) (Q : VK) (E : XK), Room k A → A.guards = some [] →
    Env0 P w K mg base A outer s H → BindsTo s fd args (ps.zip us) → Vals vs us → sp vs H Q E → codeAny (model P w) A (.call (.ref f) args) (CR CX outer P w H s Q E) s
section
variable {P : Program} {w : World} {K : PySem.W.Frag} {mg : Str → Option Value} {base : Heap} {CX : CXT}
theorem FnG.imp {k : Nat} {f : Addr} {fd : FuncData} {ps : List Str} {sp sp' : Sp} (F : FnG P w K mg base CX k f fd ps sp) (h : ∀ vs H Q E, sp' vs H Q E → sp vs H Q E) : FnG P w K mg base CX k f fd ps sp' where
  len := fun vs H Q E q => F.len vs H Q E (h vs H Q E q)
  run := fun A outer s H args us vs Q E hr hg he hb hv hs => F.run A outer s H args us vs Q E hr hg he hb hv (h vs H Q E hs)
/-- the rule for a def: its body as a term of rules, and the reading of that term -/
theorem okG {x qual : Str} {st : Stmt} {f : Addr} {fd : FuncData} {N ps : List Str} {k : Nat} {sp : Sp} (F : Fun K x qual st f fd) (S : FnScope N ps (defScope st)) (len : ∀ vs H Q E, sp vs H Q E → vs.length = ps.length)
    (body : ∀ (cdv : Value) (A : Around) (outer : List Env) (s : Shared) (H : Hp) (vs : List V) (Q : VK) (E : XK), Room k (A.deeper (envOfC qual (defScope st) s.heap.objs.size f cdv)) →
      (A.deeper (envOfC qual (defScope st) s.heap.objs.size f cdv)).guards = some [] → sp vs H Q E →
      ∃ t, PSs (cxOf CX P w K mg base N qual (defScope st) f cdv A outer s H E) (defBody st) t ∧ t { nx := fun _ H' => Q .non H', rt := Q } (start N vs) H) :
    FnG P w K mg base CX (k + 1) f fd ps sp := by
  obtain ⟨oc, od, kV, doc, pm, an, cdv, ct, osl, rfl, lk, hcd⟩ := F.ex
  refine ⟨len, fun A outer s H args us vs Q E hr hgd e0 hb r hsp => ?_⟩
  have inn : K.In s.heap := e0.mod.kin.keeps fun b o e => (e0.bs b o e).1
  refine codeAny_call_function hr.depth (inn _ _ lk) rfl S.co S.gen rfl (PySem.W.codeRec_of inn hcd) (hb _ _ _ _ ?_)
  refine wpAny_newFunctionEnv_cells S.kind (fun y hy => ?_) fun env he s1 made => ?_
  · obtain ⟨n, v⟩ := y
    exact (S.par n (List.of_mem_zip hy).1).elim .inl fun q => .inr ⟨q, PySem.W.cellsFrom_some _ _ _ (.inl q)⟩
  · subst he
    have lim : s.heap.NoLimit := e0.mod.nolimit.keeps fun b o e => (e0.bs b o e).1
    refine ⟨lim.keeps made.toInCall.keep, codeAny_func ?_⟩
    obtain ⟨t, ht, hq⟩ := body cdv A outer s H vs Q E (hr.deeper _) hgd hsp
    refine wpAny_mono (ht.run [] s1 (start N vs) H _ (inv_start S hr.hd e0 (len _ _ _ _ hsp) r made) hq) (fun fl s' hs => ?_) fun e s' hs => hs
    cases fl with
    | ret u => exact let ⟨v, _, H', J, rv, q⟩ := hs; ⟨v, H', J.os, J.bare, J.base, J.hok, rv, q⟩
    | next => exact let ⟨_, H', J, q⟩ := hs; ⟨V.non, H', J.os, J.bare, J.base, J.hok, rfl, q⟩
    | brk => exact let ⟨_, _, _, q⟩ := hs; q.elim
    | cont => exact let ⟨_, _, _, q⟩ := hs; q.elim
/-- .. whose body lets no exception out -/
theorem okG0 {x qual : Str} {st : Stmt} {f : Addr} {fd : FuncData} {N ps : List Str} {k : Nat} {sp : Sp} (F : Fun K x qual st f fd) (S : FnScope N ps (defScope st)) (len : ∀ vs H Q E, sp vs H Q E → vs.length = ps.length)
    (body : ∀ (cdv : Value) (A : Around) (outer : List Env) (s : Shared) (H : Hp) (vs : List V) (Q : VK) (E : XK), Room k (A.deeper (envOfC qual (defScope st) s.heap.objs.size f cdv)) →
      (A.deeper (envOfC qual (defScope st) s.heap.objs.size f cdv)).guards = some [] → sp vs H Q E →
      ∃ t, PSs (cxOf CX0 P w K mg base N qual (defScope st) f cdv A outer s H E).nox (defBody st) t ∧ t { nx := fun _ H' => Q .non H', rt := Q } (start N vs) H) :
    FnG P w K mg base CX0 (k + 1) f fd ps sp :=
  okG F S len fun cdv A outer s H vs Q E hr hg hs => let ⟨t, ht, q⟩ := body cdv A outer s H vs Q E hr hg hs; ⟨t, ht.nox, q⟩
end
section
variable {X : Cx} {CX : CXT} {k : Nat} {f : Addr} {fd : FuncData} {ps : List Str} {sp : Sp} {E : XK} {x : Str} {p pos : Pos} {e : Expr} {es : List Expr} {t : TA}
theorem run_fnG {pins : List (Addr × Obj)} {σ : L2.St} {H : Hp} {s : Shared} {Q : VK} {us : List Value} {vs : List V} (F : FnG X.prog X.w X.K X.mg X.base CX k f fd ps sp) (hr : Room k X.A) (hg : X.A.guards = some []) (hb : Binds X.K fd ps [])
    (hx : Passes CX X E) (I : Inv X pins σ H s) (r : Vals vs us) (h : sp vs H Q E) : wpAny (model X.prog X.w) X.A (call (.ref f) us) (EP X pins σ Q) X.xe s := by
  have hl : (us ++ []).length = ps.length := by rw [List.append_nil, ← r.length, F.len _ _ _ _ h]
  have hbs := hb s us I.kIn hl
  rw [List.append_nil] at hbs
  refine wpAny_call (codeAny_mono (F.run X.A X.stack s H ⟨us, []⟩ us vs Q E hr hg I.env0 hbs r h) fun res s' hq => ?_)
  match res, hq with
  | .error e, hq => exact hx pins σ H s e s' I hq
  | .ok (.ret u), hq => exact I.after hq
  | .ok .next, hq => exact hq.elim
  | .ok .brk, hq => exact hq.elim
  | .ok .cont, hq => exact hq.elim
end

/-! ### defs of the text, by name -/
/-- what the top has left of the def x, whose statement is st -/
def HasFn (K : PySem.W.Frag) (x : Str) (st : Stmt) : Prop := ∃ (f : Addr) (oc : Value) (od an : Option Addr) (kV doc pm cdv ct : Value) (osl : Array (Option Value)),
  PySem.W.nsIn K mainGlobals x = some (some (.ref f)) ∧ K.lookup f = some ⟨oc, od, .func (PySem.W.fnOf x x (defArgs st) (defBody st) (defScope st) .none kV doc pm an cdv ct), osl⟩ ∧
  PySem.W.codeIn K cdv x = true ∧ PySem.W.keepIn K (.ref f) = true
/-- the def x may be called: its promise sp, by level k -/
structure Use (P : Program) (w : World) (K : PySem.W.Frag) (mg : Str → Option Value) (base : Heap) (CX : CXT) (x : Str) (k : Nat) (ps : List Str) (sp : Sp) : Prop where
  ex : ∃ (f : Addr) (fd : FuncData), FnG P w K mg base CX k f fd ps sp ∧ mg x = some (.ref f) ∧ PySem.W.keepIn K (.ref f) = true ∧ Binds K fd ps []
section
variable {P : Program} {w : World} {K : PySem.W.Frag} {mg : Str → Option Value} {base h : Heap} {CX : CXT}
theorem mk_use {x : Str} {st : Stmt} {k : Nat} {ps : List Str} {sp : Sp} (F : HasFn K x st) (X : K.In h) (G : h.Ns mainGlobals mg)
    (hb : ∀ (kV doc pm : Value) (an : Option Addr) (cdv ct : Value) (us : List Value), us.length = ps.length → bindArgs (PySem.W.fnOf x x (defArgs st) (defBody st) (defScope st) .none kV doc pm an cdv ct) ⟨us, []⟩ = pure (ps.zip us))
    (ok : ∀ (f : Addr) (fd : FuncData), Fun K x x st f fd → FnG P w K mg base CX k f fd ps sp) : Use P w K mg base CX x k ps sp := by
  obtain ⟨f, oc, od, an, kV, doc, pm, cdv, ct, osl, e, l, c, kp⟩ := F
  have Fn := fun_mk (st := st) l c kp
  exact ⟨f, _, ok f _ Fn, PySem.W.mg_of X G e, kp, Fn.binds hb⟩
theorem Use.imp {x : Str} {k : Nat} {ps : List Str} {sp sp' : Sp} (U : Use P w K mg base CX x k ps sp) (h : ∀ vs H Q E, sp' vs H Q E → sp vs H Q E) : Use P w K mg base CX x k ps sp' := by
  obtain ⟨f, fd, ok, r⟩ := U.ex
  exact ⟨f, fd, ok.imp h, r⟩
end
section
variable {X : Cx} {CX : CXT} {E : XK} {k : Nat} {x : Str} {ps : List Str} {sp : Sp} {p pos : Pos} {e : Expr} {es : List Expr} {t : TA}
theorem pe_useX (U : Use X.prog X.w X.K X.mg X.base CX x k ps sp) (hx : Passes CX X E) (hr : Room k X.A) (gd : X.A.guards = some []) (hg : Gl X x) (ha : PA X (e :: es) t) (hdb : (x == ("__debug__" : Str)) = false := by decide)
    (he : starEach (e :: es) X.env = (false, eval e X.env) :: starEach es X.env := by rfl) (hpl : (backTo pos (starEach es X.env)).any (·.1) = false := by rfl) : PE X (.Call (.Name x p) (e :: es) [] pos) (fun σ H Q => t σ H fun vs H1 => sp vs H1 Q E) := by
  obtain ⟨f, fd, ok, hm, kp, hb⟩ := U.ex
  refine ⟨fun pins s σ H Q I h => wpAny_Call_Name_kw (ld_glob I hg hm ?_ hdb)⟩
  exact PySem.W.callWith_K (h₀ := X.base) I.ok.mod.kin kp (thn (ha.run pos pins s σ H _ I h) fun us s1 ⟨vs, H1, I1, r, q⟩ => ⟨I1.kIn, run_fnG ok hr gd hb hx I1 r q⟩) he hpl
def tUse (sp : Sp) (E : XK) (t : TA) : TE := fun σ H Q => t σ H fun vs H1 => sp vs H1 Q E
theorem pe_use (U : Use X.prog X.w X.K X.mg X.base CX0 x k ps sp) (hr : Room k X.A) (gd : X.A.guards = some []) (hg : Gl X x) (ha : PA X (e :: es) t) (hdb : (x == ("__debug__" : Str)) = false := by decide)
    (he : starEach (e :: es) X.env = (false, eval e X.env) :: starEach es X.env := by rfl) (hpl : (backTo pos (starEach es X.env)).any (·.1) = false := by rfl) : PE X (.Call (.Name x p) (e :: es) [] pos) (tUse sp E0 t) := pe_useX U pass0 hr gd hg ha hdb he hpl
theorem pe_use0 (U : Use X.prog X.w X.K X.mg X.base CX0 x k ps sp) (hr : Room k X.A) (gd : X.A.guards = some []) (hg : Gl X x) (hdb : (x == ("__debug__" : Str)) = false := by decide) : PE X (.Call (.Name x p) [] [] pos) (tUse sp E0 tNil) := by
  obtain ⟨f, fd, ok, hm, kp, hb⟩ := U.ex
  exact ⟨fun pins s σ H Q I h => wpAny_Call_Name_kw (ld_glob I hg hm (PySem.W.callWith_K0 I.kIn kp (run_fnG (us := []) ok hr gd hb pass0 I .nil h)) hdb)⟩
end

/-! ### what stays -/
theorem Same.new {H : Hp} {p : Addr} {o : HO} (h : H p = none) : Same H (upd H p o) := fun b u e => by
  rw [upd_ne (ne_of_none e h)]; exact e
theorem Same.rd {H H' : Hp} {a : Addr} {u : HO} (e : Same H H') (h : Rd H a u) : Rd H' a u := by
  rcases h with h | ⟨o, h⟩
  · exact .inl (e _ _ h)
  · exact .inr ⟨o, e _ _ h⟩
theorem Same.tupl {K : PySem.W.Frag} {H H' : Hp} {a : Addr} {xs : List V} (e : Same H H') (h : SqT K H a xs) : SqT K H' a xs := by
  rcases h with h | h
  · exact .inl (Same.rd e h)
  · exact .inr h
theorem SqT.mono {K : PySem.W.Frag} {H H' : Hp} {a : Addr} {xs : List V} (h : SqT K H a xs) (e : Same H H') : SqT K H' a xs := Same.tupl e h
theorem SqL.mono {K : PySem.W.Frag} {H H' : Hp} {a : Addr} {xs : List V} (h : SqL K H a xs) (e : Same H H') : SqL K H' a xs := e.seq h

/-! ### data: none, bools, ints, texts, tuples (and lists that stand still) -/
mutual
theorem Dp.mono {K : PySem.W.Frag} {H H' : Hp} (e : Same H H') : ∀ {v : V} {d : PyData}, Dp K H v d → Dp K H' v d
  | _, _, .non => .non
  | _, _, .bl b => .bl b
  | _, _, .int i => .int i
  | _, _, .str x => .str x
  | _, _, .lst h a => .lst (e.seq h) (DpAll.mono e a)
  | _, _, .tup h a => .tup (Same.tupl e h) (DpAll.mono e a)
theorem DpAll.mono {K : PySem.W.Frag} {H H' : Hp} (e : Same H H') : ∀ {vs : List V} {ds : List PyData}, DpAll K H vs ds → DpAll K H' vs ds
  | _, _, .nil => .nil
  | _, _, .cons h a => .cons (Dp.mono e h) (DpAll.mono e a)
end
/-- a tuple just made -/
theorem Dp.made {K : PySem.W.Frag} {H : Hp} {p : Addr} {xs : List V} {ds : List PyData} (hp : H p = none) (h : DpAll K H xs ds) : Dp K (upd H p (.tup xs)) (.ref p) (.tuple ds) :=
  .tup (SqT.of upd_same) (DpAll.mono (Same.new hp) h)
theorem DpAll.length {K : PySem.W.Frag} {H : Hp} : ∀ {vs : List V} {ds : List PyData}, DpAll K H vs ds → vs.length = ds.length
  | _, _, .nil => rfl
  | _, _, .cons _ t => by simp [DpAll.length t]
theorem DpAll.app {K : PySem.W.Frag} {H : Hp} : ∀ {vs ws : List V} {ds es : List PyData}, DpAll K H vs ds → DpAll K H ws es → DpAll K H (vs ++ ws) (ds ++ es)
  | _, _, _, _, .nil, t => t
  | _, _, _, _, .cons h a, t => .cons h (DpAll.app a t)

/-! ### repr of data -/
mutual
theorem Dp.noDict {K : PySem.W.Frag} {H : Hp} : ∀ {v : V} {d : PyData}, Dp K H v d → d.hasDict = false
  | _, _, .non => rfl
  | _, _, .bl _ => rfl
  | _, _, .int _ => rfl
  | _, _, .str _ => rfl
  | _, _, .lst _ a => by simp only [PyData.hasDict]; exact DpAll.noDict a
  | _, _, .tup _ a => by simp only [PyData.hasDict]; exact DpAll.noDict a
theorem DpAll.noDict {K : PySem.W.Frag} {H : Hp} : ∀ {vs : List V} {ds : List PyData}, DpAll K H vs ds → PyData.hasDictAll ds = false
  | _, _, .nil => rfl
  | _, _, .cons h a => by simp only [PyData.hasDictAll, Dp.noDict h, DpAll.noDict a, Bool.or_self]
end
/-- what repr asks of data -/
structure ShowOk (d : PyData) : Prop where
  ok : d.showable = true
  dp : d.depth ≤ 60
  sz : d.shown.length ≤ sizeLine
def rRepr (K : PySem.W.Frag) : List V → Hp → VK → Prop := fun xs H Q => ∃ v d, xs = [v] ∧ Dp K H v d ∧ ShowOk d ∧ Q (.str d.shown) H
section
variable {X : Cx}
theorem call_repr_data (hg : X.A.guards = some []) (hu : X.A.units + 64 < cLine) : CallR X (.builtin "repr") (rRepr X.K) := by
  intro pins s σ H xs us Q I r h
  obtain ⟨v, d, rfl, hd, ⟨hs, hdp, hsz⟩, q⟩ := h
  obtain ⟨u, rfl, rv⟩ := vals1 r
  obtain ⟨as, rr⟩ := Dp.reads I d v u hd rv
  have nd := Dp.noDict hd
  cases d with
  | none => cases rr; exact PySem.P.repr_of_none ⟨.str _, H, I.tok _, ⟨_, rfl⟩, q⟩
  | bool b => cases rr; exact PySem.P.repr_of_bool ⟨.str _, H, I.tok _, ⟨_, rfl⟩, by simpa [PyData.shown] using q⟩
  | int i => cases rr; exact PySem.P.repr_of_int (of_decide_eq_true (by simpa [PyData.showable] using hs)) ⟨.str _, H, I.tok _, ⟨_, rfl⟩, by simpa [PyData.shown] using q⟩
  | str x => cases rr; exact PySem.P.repr_of_str (hsz := by simpa [PyData.shown] using hsz) ⟨.str _, H, I.tok _, ⟨_, rfl⟩, by simpa [PyData.shown] using q⟩
  | list ds =>
    obtain ⟨a, rfl⟩ := PyProof.Rows.isRef_of_reads rr rfl
    exact repr_of_reads' rr hs (PyData.noDict_hsm nd) hg (by omega) (fun _ _ e => e) (fun h' u tk hk => ⟨.str _, H, I.kept hk, ⟨_, rfl⟩, q⟩) hsz
  | tuple ds =>
    obtain ⟨a, rfl⟩ := PyProof.Rows.isRef_of_reads rr rfl
    exact repr_of_reads' rr hs (PyData.noDict_hsm nd) hg (by omega) (fun _ _ e => e) (fun h' u tk hk => ⟨.str _, H, I.kept hk, ⟨_, rfl⟩, q⟩) hsz
  | dict kv => cases hd
end

/-! ### the law's own call -/
/-- the heap behind the top, seen with the script at a locked, or with nothing tracked -/
theorem law_callG {P : Program} {w : World} {K : PySem.W.Frag} {mg mb : Str → Option Value} {CX : CXT} {k : Nat} {fa a : Addr} {fd : FuncData} {x : Str} {sp : Sp} {s₁ : Shared} {vs : List Value} {ns : List Int}
    (inn : K.In s₁.heap) (hns : s₁.heap.Ns mainGlobals mg) (hb : s₁.heap.Ns builtinsNs mb) (hbb : ∀ x : Str, x ≠ "__name__" → mb x = bootBuiltins x) (hlim : s₁.heap.NoLimit) (hgens : s₁.gens = #[])
    (ha : s₁.heap.get? a = some { cls := .type "list", data := .seq vs.toArray }) (hi : IntsAre vs ns) (hl : ns.length ≤ sizeLine) (hr : Room k callerA)
    (F : ∀ base : Heap, K.In base → base.Ns mainGlobals mg → FnG P w K mg base CX k fa fd [x] sp) (hbind : ∀ (s : Shared) (u : Value), BindsTo s fd ⟨[u], []⟩ [(x, u)])
    (hsp : ∀ H : Hp, Only H → SqL K H a (ns.map V.int) → sp [.ref a] H (fun v _ => v = .bl true) fun _ _ _ => False)
    (hCX : ∀ H e s', CX [] H s₁ (fun _ _ _ => False) e s' → False) :
    codeAny (model P w) callerA (.call (.ref fa) ⟨[.ref a], []⟩) (fun r s' => r = .ok (.ret (.bool true)) ∧ OldK s₁.heap s'.heap ∧ s'.os = s₁.os ∧ AllBare s'.gens) s₁ := by
  have rv := vals_ints hi
  have run : ∀ H : Hp, Only H → SqL K H a (ns.map V.int) → HOk P w H s₁.heap → (∀ b u, H b = some u → b = a ∧ K.lookup a = none) →
      codeAny (model P w) callerA (.call (.ref fa) ⟨[.ref a], []⟩) (fun r s' => r = .ok (.ret (.bool true)) ∧ OldK s₁.heap s'.heap ∧ s'.os = s₁.os ∧ AllBare s'.gens) s₁ := by
    intro H only hS hok at_a
    -- what is no list stays in the base
    have free : ∀ {b : Addr} {o : Obj}, s₁.heap.get? b = some o → (∀ its n, o.data ≠ .seq its n) → H b = none := fun {b o} e hd => by
      cases q : H b with
      | none => rfl
      | some u =>
        obtain ⟨rfl, _⟩ := at_a b u q
        rw [ha] at e; cases e
        exact absurd rfl (hd _ _)
    have names : ∀ {b : Addr} {m : Str → Option Value}, s₁.heap.Ns b m → (hidT s₁.heap H).Ns b m := fun {b m} hn => by
      obtain ⟨o, es, ep, e, d, r⟩ := hn
      exact ⟨o, es, ep, hidT_get e (free e fun its n z => by rw [d] at z; cases z), d, r⟩
    have inb : K.In (hidT s₁.heap H) := fun b o e => by
      refine hidT_get (inn b o e) ?_
      cases q : H b with
      | none => rfl
      | some u =>
        obtain ⟨rfl, hk⟩ := at_a b u q
        rw [e] at hk; cases hk
    have md : Mod K mg (hidT s₁.heap H) := by
      obtain ⟨mc, h1, h2⟩ := hlim
      exact ⟨inb, names hns, ⟨mb, names hb, hbb⟩, ⟨mc, names h1, h2⟩⟩
    have none_in : ∀ b : Addr, b ∉ ([] : List Addr) := fun b z => nomatch z
    have e0 : Env0 P w K mg (hidT s₁.heap H) callerA [] s₁ H := ⟨rfl, md, fun b o e => of_hidT e, Nat.le_of_eq (hidT_size _ _), trivial, fun b z => absurd z (none_in b), hok, .of_eq hgens⟩
    refine codeAny_mono ((F _ inb (names hns)).run callerA [] s₁ H ⟨[.ref a], []⟩ [.ref a] [.ref a] _ _ hr rfl e0 (hbind s₁ (.ref a)) (.cons rfl .nil) (hsp H only hS)) fun r s' h => ?_
    match r, h with
    | .error e, h => exact (hCX H e s' h).elim
    | .ok .next, h => exact False.elim h
    | .ok .brk, h => exact False.elim h
    | .ok .cont, h => exact False.elim h
    | .ok (.ret u), h =>
      obtain ⟨v, H', os, bare, un, hok', r', q⟩ := h
      obtain rfl : v = V.bl true := q
      obtain rfl : u = Value.bool true := r'
      refine ⟨rfl, OldK.of_keep fun b o e => ?_, os, bare⟩
      cases q : H b with
      | none => exact un.keep b o e q (none_in b) (none_in b)
      | some u =>
        rcases only b with z | ⟨ob, xs, z⟩
        · rw [q] at z; cases z
        · have e1 : s₁.heap.get? b = some ob := (hok b _ z).1
          rw [e] at e1; cases e1
          exact (hok' b _ (un.frzs b o _ z)).1
  cases hk : K.lookup a with
  | some o =>
    have e := inn a o hk
    rw [ha] at e; cases e
    have sz : vs.toArray.size ≤ sizeLine := by rw [List.size_toArray, hi.length]; exact hl
    exact run (fun _ => none) (fun _ => .inl rfl) (.inr ⟨_, vs.toArray, _, hk, rfl, rfl, rfl, sz, by simpa using rv⟩) (fun b u z => nomatch (show (none : Option HO) = some u from z)) fun b u z => nomatch (show (none : Option HO) = some u from z)
  | none =>
    let u0 : HO := .frz { cls := .type "list", data := .seq vs.toArray } (.lst (ns.map V.int))
    have at1 : ∀ b u, upd (fun _ => none) a u0 b = some u → b = a ∧ u = u0 := fun b u z => by
      by_cases hb : b = a
      · subst hb; rw [upd_same] at z; exact ⟨rfl, (Option.some.inj z).symm⟩
      · rw [upd_ne hb] at z; cases z
    refine run (upd (fun _ => none) a u0) (fun b => ?_) (.inl (.inr ⟨_, upd_same⟩)) (fun b u z => ?_) fun b u z => ⟨(at1 b u z).1, hk⟩
    · by_cases hb : b = a
      · subst hb; exact .inr ⟨_, _, upd_same⟩
      · exact .inl (by rw [upd_ne hb])
    · obtain ⟨rfl, rfl⟩ := at1 b u z
      exact ⟨ha, by rw [List.length_map]; exact hl, vs, _, rv, ha⟩
theorem walkG {l : PySem.W.OpenLaw} {n k : Nat} {q : Program} {loose : List Str} {XP : (Str → Option Value) → Heap → Prop} {YP : World → Heap → Prop} {d : DefRec} {K : Params → PySem.W.Frag} {CX : CXT} {sp : PySem.W.Frag → Sp} {x : Str}
    (hn : l.most = some n) (hn2 : n ≤ sizeLine) (hdf : d.params.defaults = []) (hr : Room k callerA)
    (hY : ∀ (w : World) (h : Heap), YP w h → (K w.params).In h)
    (F : ∀ (w : World) (mg : Str → Option Value) (fa : Addr) (h : Heap), (K w.params).In h → h.Ns mainGlobals mg → mg d.name = some (.ref fa) →
      ∃ fd : FuncData, (∀ (s : Shared) (u : Value), BindsTo s fd ⟨[u], []⟩ [(x, u)]) ∧
        ∀ base : Heap, (K w.params).In base → base.Ns mainGlobals mg → FnG l.prog w (K w.params) mg base CX k fa fd [x] (sp (K w.params)))
    (hsp : ∀ (K : PySem.W.Frag) (H : Hp) (a : Addr) (ns : List Int), ns.length ≤ n → Only H → SqL K H a (ns.map V.int) → sp K [.ref a] H (fun v _ => v = .bl true) fun _ _ _ => False)
    (hCX : ∀ (H : Hp) (s : Shared) (e : Value) (s' : Shared), CX [] H s (fun _ _ _ => False) e s' → False) :
    PySem.W.WalkO q loose XP YP l.row.toRowW d [] (fun f vs => PySem.call f vs) :=
  Att.attach_call hn hdf fun w s₀ s₁ mg mb fa o pm cd doc a vs ns G Y ho hd hcd hmg hobj hints hlen hg =>
    let ⟨fd, hb, hF⟩ := F w mg fa _ (hY w _ Y) G.T.g hmg
    law_callG (hY w _ Y) G.T.g G.T.b G.T.builtins G.T.nolimit hg hobj hints (Nat.le_trans hlen hn2) hr hF hb (fun H hO hS => hsp (K w.params) H a ns hlen hO hS) fun H e s' => hCX H s₁ e s'
/-- from the top's facts: the law's def and its arguments -/
theorem law_use {P : Program} {w : World} {K : PySem.W.Frag} {mg : Str → Option Value} {h : Heap} {CX : CXT} {k : Nat} {fa : Addr} {st : Stmt} {x : Str} {sp : Sp} (L : HasFn K "law" st) (X : K.In h) (G : h.Ns mainGlobals mg) (hfa : mg "law" = some (.ref fa))
    (hb : ∀ (kV doc pm : Value) (an : Option Addr) (cdv ct v : Value), bindArgs (PySem.W.fnOf "law" "law" (defArgs st) (defBody st) (defScope st) .none kV doc pm an cdv ct) ⟨[v], []⟩ = pure [(x, v)])
    (ok : ∀ base : Heap, K.In base → base.Ns mainGlobals mg → ∀ fd, Fun K "law" "law" st fa fd → FnG P w K mg base CX k fa fd [x] sp) :
    ∃ fd : FuncData, (∀ (s : Shared) (v : Value), BindsTo s fd ⟨[v], []⟩ [(x, v)]) ∧ ∀ base : Heap, K.In base → base.Ns mainGlobals mg → FnG P w K mg base CX k fa fd [x] sp := by
  obtain ⟨f, oc, od, an, kV, doc, pm, cdv, ct, osl, e, l, c, kp⟩ := L
  have z := hfa.symm.trans (PySem.W.mg_of X G e)
  cases z
  have Fn := fun_mk (st := st) l c kp
  exact ⟨_, fun s v => .of_eq (hb ..), fun base h1 h2 => ok base h1 h2 _ Fn⟩

/-! ### tests whose answer is known -/
theorem iteFb {c : Bool} {A B : Prop} (h : c = false) (b : B) : if c = true then A else B := by rw [h]; exact iteF b
theorem iteTb {c : Bool} {A B : Prop} (h : c = true) (a : A) : if c = true then A else B := by rw [h]; exact iteT a
theorem ite3 {c : Bool} {A B : Prop} (h1 : c = true → A) (h2 : c = false → B) : if c = true then A else B := by
  cases c with
  | true => exact iteT (h1 rfl)
  | false => exact iteF (h2 rfl)

/-! ### constants of the top -/
def HasInt (K : PySem.W.Frag) (x : Str) (n : Int) : Prop := ∃ (t : Tok) (m : Int), PySem.W.nsIn K mainGlobals x = some (some (.int m t)) ∧ m = n
def KTup (K : PySem.W.Frag) (a : Addr) (xs : List V) : Prop := ∃ (od : Option Addr) (its : Array Value) (n : Nat) (sl : Array (Option Value)), K.lookup a = some ⟨.type "tuple", od, .seq its n, sl⟩ ∧ its.size ≤ sizeLine ∧ Vals xs its.toList
def HasTup (K : PySem.W.Frag) (x : Str) (xs : List V) : Prop := ∃ a, PySem.W.nsIn K mainGlobals x = some (some (.ref a)) ∧ KTup K a xs
theorem KTup.sq {K : PySem.W.Frag} {a : Addr} {xs : List V} (h : KTup K a xs) (H : Hp) : SqT K H a xs := by
  obtain ⟨od, its, n, sl, e, z, v⟩ := h
  exact .inr ⟨_, its, n, e, rfl, rfl, z, v⟩
/-- the module's names, as the defs see them -/
def GInt (mg : Str → Option Value) (x : Str) (n : Int) : Prop := ∃ t, mg x = some (.int n t)
def GTup (K : PySem.W.Frag) (mg : Str → Option Value) (x : Str) (xs : List V) : Prop := ∃ a, mg x = some (.ref a) ∧ KTup K a xs
theorem HasInt.g {K : PySem.W.Frag} {mg : Str → Option Value} {h : Heap} {x : Str} {n : Int} (i : HasInt K x n) (X : K.In h) (G : h.Ns mainGlobals mg) : GInt mg x n := by
  obtain ⟨t, m, e, rfl⟩ := i
  exact ⟨t, PySem.W.mg_of X G e⟩
theorem HasTup.g {K : PySem.W.Frag} {mg : Str → Option Value} {h : Heap} {x : Str} {xs : List V} (i : HasTup K x xs) (X : K.In h) (G : h.Ns mainGlobals mg) : GTup K mg x xs := by
  obtain ⟨a, e, k⟩ := i
  exact ⟨a, PySem.W.mg_of X G e, k⟩
section
variable {X : Cx} {x : Str} {pos : Pos}
theorem pe_globI {n : Int} (h : GInt X.mg x n) (hg : Gl X x) (hd : (x == ("__debug__" : Str)) = false := by decide) : PE X (.Name x pos) (tC (.int n)) := by
  obtain ⟨t, e⟩ := h
  exact pe_glob hg e ⟨t, rfl⟩ hd
/-- a tuple of the top: it is read as xs, wherever it stands -/
def tGT (K : PySem.W.Frag) (xs : List V) : TE := fun _ H Q => ∀ a, KTup K a xs → Q (.ref a) H
theorem pe_globT {xs : List V} (h : GTup X.K X.mg x xs) (hg : Gl X x) (hd : (x == ("__debug__" : Str)) = false := by decide) : PE X (.Name x pos) (tGT X.K xs) := by
  obtain ⟨a, e, k⟩ := h
  exact ⟨fun pins s σ H Q I q => (pe_glob (v := .ref a) hg e rfl hd).run pins s σ H Q I (q a k)⟩
end

/-! ### // by any divisor but 0 -/
def CDivX (_ j : Int) : Prop := j ≠ 0 ∧ j.natAbs.log2 < 9000
theorem op_fdivX {X : Cx} : OpR X (binaryOp .FloorDiv) (rI CDivX fun i j => .int (i.fdiv j)) := opI fun _ _ _ _ _ _ _ hc q => floordiv_int hc.1 q (.inl (PyProof.noPylong_of_log2 hc.2))
theorem fdiv_le_pos (i : Int) {j : Int} (hj : 0 < j) : (i.fdiv j).natAbs ≤ i.natAbs + 1 := by
  have e := Int.mul_fdiv_add_fmod i j
  have h0 := Int.fmod_nonneg_of_pos i hj
  have h1 := Int.fmod_lt_of_pos i hj
  have a : (i.fdiv j).natAbs ≤ (j * i.fdiv j).natAbs := by
    rw [Int.natAbs_mul]; exact Nat.le_mul_of_pos_left _ (by omega)
  by_cases hi : 0 ≤ i
  · have : 0 ≤ i.fdiv j := Int.fdiv_nonneg hi (by omega)
    have : 0 ≤ j * i.fdiv j := Int.mul_nonneg (by omega) this
    omega
  · have q : i.fdiv j ≤ -1 := by
      by_cases z : 0 ≤ i.fdiv j
      · have := Int.mul_nonneg (show 0 ≤ j by omega) z
        omega
      · omega
    have r : -1 + i ≤ i.fdiv j := by
      have : i.fdiv j * (j - 1) ≤ (-1) * (j - 1) := Int.mul_le_mul_of_nonneg_right q (by omega)
      have e2 : j * i.fdiv j = i.fdiv j * (j - 1) + i.fdiv j := by rw [Int.mul_sub, Int.mul_one, Int.mul_comm]; omega
      omega
    omega
theorem fdiv_le (i j : Int) : (i.fdiv j).natAbs ≤ i.natAbs + 1 := by
  by_cases h : 0 < j
  · exact fdiv_le_pos i h
  · by_cases h2 : j = 0
    · subst h2; rw [Int.fdiv_zero]; omega
    · have e : i.fdiv j = (-i).fdiv (-j) := by rw [Int.neg_fdiv_neg]
      have := fdiv_le_pos (-i) (show 0 < -j by omega)
      rw [e]; omega

/-! ### how long a shown thing is at most -/
structure Sm (d : PyData) (dp N : Nat) : Prop where
  ok : d.showable = true
  dp : d.depth ≤ dp
  sz : d.shown.length ≤ N
structure SmAll (ds : List PyData) (dp n N : Nat) : Prop where
  ok : PyData.showableAll ds = true
  dp : PyData.depthAll ds ≤ dp
  len : ds.length ≤ n
  sz : ((PyData.shownAll ds).map (·.length)).sum ≤ N
theorem Sm.show {d : PyData} {dp N : Nat} (h : Sm d dp N) (h1 : dp ≤ 60) (h2 : N ≤ sizeLine) : ShowOk d := ⟨h.ok, Nat.le_trans h.dp h1, Nat.le_trans h.sz h2⟩
theorem Sm.mono {d : PyData} {dp N dp' N' : Nat} (h : Sm d dp N) (h1 : dp ≤ dp') (h2 : N ≤ N') : Sm d dp' N' := ⟨h.ok, Nat.le_trans h.dp h1, Nat.le_trans h.sz h2⟩
theorem shownAll_length : ∀ ds : List PyData, (PyData.shownAll ds).length = ds.length
  | [] => rfl
  | d :: ds => by simp [PyData.shownAll, shownAll_length ds]
theorem Sm.int {i : Int} (h : i.natAbs < 2 ^ 1900) : Sm (.int i) 0 2000 := by
  have hl : i.natAbs.log2 < 1900 := PySem.Flt.log2_lt_of (by decide) h
  refine ⟨?_, Nat.le_refl 0, ?_⟩
  · simp only [PyData.showable, decide_eq_true_eq]; omega
  · have e := int_text_length_le (k := 1900) (by decide) hl
    show (Str.ofString (toString i)).length ≤ 2000
    rw [PySem.ofString_length]; omega
theorem Sm.bool (b : Bool) : Sm (.bool b) 0 10 := ⟨rfl, Nat.le_refl 0, by cases b <;> decide +kernel⟩
theorem Sm.none : Sm .none 0 10 := ⟨rfl, Nat.le_refl 0, by decide +kernel⟩
theorem Sm.str {x : Str} {n : Nat} (h : x.length ≤ n) (hc : ∀ c ∈ x.cps.toList, c < 16 ^ 8) : Sm (.str x) 0 (10 * n + 2) := ⟨rfl, Nat.le_refl 0, by
  have e := PySem.StrLaws.reprText_len x hc
  show (reprText x).length ≤ _
  omega⟩
theorem SmAll.nil : SmAll [] 0 0 0 := ⟨rfl, Nat.le_refl 0, Nat.le_refl 0, Nat.le_refl 0⟩
theorem SmAll.cons {d : PyData} {ds : List PyData} {dp dp' n N M : Nat} (h : Sm d dp N) (t : SmAll ds dp' n M) : SmAll (d :: ds) (max dp dp') (n + 1) (N + M) := by
  have h1 := h.dp
  have h2 := t.dp
  refine ⟨by simp [PyData.showableAll, h.ok, t.ok], ?_, by have := t.len; simp; omega, ?_⟩
  · simp only [PyData.depthAll]; omega
  · have := h.sz
    have := t.sz
    simp only [PyData.shownAll, List.map_cons, List.sum_cons]; omega
theorem Sm.tup {ds : List PyData} {dp n N : Nat} (h : SmAll ds dp n N) : Sm (.tuple ds) (dp + 1) (N + 2 * n + 3) := by
  refine ⟨by simpa [PyData.showable] using h.ok, by simp only [PyData.depth]; have := h.dp; omega, ?_⟩
  have e := tupleText_len_le (PyData.shownAll ds)
  have := h.sz
  have := h.len
  rw [shownAll_length] at e
  show (tupleText (PyData.shownAll ds)).length ≤ _
  omega
theorem Sm.lst {ds : List PyData} {dp n N : Nat} (h : SmAll ds dp n N) : Sm (.list ds) (dp + 1) (N + 2 * n + 3) := by
  refine ⟨by simpa [PyData.showable] using h.ok, by simp only [PyData.depth]; have := h.dp; omega, ?_⟩
  have e := listText_len_le (PyData.shownAll ds)
  have := h.sz
  have := h.len
  rw [shownAll_length] at e
  show (listText (PyData.shownAll ds)).length ≤ _
  omega
theorem SmAll.many {dp N : Nat} : ∀ {ds : List PyData}, (∀ d ∈ ds, Sm d dp N) → SmAll ds dp ds.length (N * ds.length)
  | [], _ => ⟨rfl, Nat.zero_le _, Nat.le_refl 0, Nat.zero_le _⟩
  | d :: ds, h => by
    have t := SmAll.cons (h d (by simp)) (SmAll.many (fun e he => h e (List.mem_cons_of_mem _ he)))
    rw [Nat.max_self] at t
    refine ⟨t.ok, t.dp, t.len, Nat.le_trans t.sz ?_⟩
    rw [List.length_cons, Nat.mul_succ]; omega
theorem sz_0 : (0 : Nat) ≤ sizeLine := by decide
theorem sz_1 : (1 : Nat) ≤ sizeLine := by decide
theorem sz_2 : (2 : Nat) ≤ sizeLine := by decide
theorem sz_3 : (3 : Nat) ≤ sizeLine := by decide
theorem sz_4 : (4 : Nat) ≤ sizeLine := by decide
theorem sz_5 : (5 : Nat) ≤ sizeLine := by decide
/-! ### the ends: each premise a fact that k_is finds -/
theorem HasFn.mk' {K : PySem.W.Frag} {x : Str} {st : Stmt} {f : Addr} {oc : Value} {od an : Option Addr} {kV doc pm cdv ct : Value} {osl : Array (Option Value)} (a : PySem.W.nsIn K mainGlobals x = some (some (.ref f)))
    (b : K.lookup f = some ⟨oc, od, .func (PySem.W.fnOf x x (defArgs st) (defBody st) (defScope st) .none kV doc pm an cdv ct), osl⟩) (c : PySem.W.codeIn K cdv x = true) (d : PySem.W.keepIn K (.ref f) = true) : HasFn K x st :=
  ⟨f, oc, od, an, kV, doc, pm, cdv, ct, osl, a, b, c, d⟩
theorem HasInt.mk' {K : PySem.W.Frag} {x : Str} {n m : Int} {t : Tok} (a : PySem.W.nsIn K mainGlobals x = some (some (.int m t))) (e : m = n) : HasInt K x n := ⟨t, m, a, e⟩
theorem HasTup.mk' {K : PySem.W.Frag} {x : Str} {xs : List V} {a : Addr} {od : Option Addr} {its : Array Value} {n : Nat} {sl : Array (Option Value)} (h : PySem.W.nsIn K mainGlobals x = some (some (.ref a)))
    (b : K.lookup a = some ⟨.type "tuple", od, .seq its n, sl⟩) (z : its.size ≤ sizeLine) (v : Vals xs its.toList) : HasTup K x xs := ⟨a, h, od, its, n, sl, b, z, v⟩
/-! ### what the laws' helpers promise -/
/-! the digits and the place -/
def BoxAt (H : Hp) (p dl : Addr) : Prop := ∃ (ds : List Int) (k : Int), H p = some (.lst [.ref dl, .int k]) ∧ 0 ≤ k ∧ H dl = some (.lst (ds.map V.int)) ∧ ds.length ≤ 4000 ∧ ∀ d ∈ ds, 0 ≤ d ∧ d < 1000
theorem BoxAt.at_ {H : Hp} {p dl : Addr} (h : BoxAt H p dl) : ∃ xs, H p = some (.lst xs) := let ⟨_, _, a, _⟩ := h; ⟨_, a⟩
theorem BoxAt.dg {H : Hp} {p dl : Addr} (h : BoxAt H p dl) : ∃ xs, H dl = some (.lst xs) := let ⟨_, _, _, _, c, _⟩ := h; ⟨_, c⟩
def Keep (p : Addr) (H H' : Hp) : Prop := ∀ b o, H b = some o → b ≠ p → H' b = some o
def spDraw (K : PySem.W.Frag) : Sp := fun vs H Q _ => ∃ (p dl : Addr) (m : Int), vs = [.ref p, .int m] ∧ BoxAt H p dl ∧ 0 < m ∧ ∀ r H', 0 ≤ r → r < m → BoxAt H' p dl → Keep p H H' → Q (.int r) H'
def spCell (K : PySem.W.Frag) : Sp := fun vs H Q _ => ∃ (a : Addr) (ns : List Int) (i : Int), vs = [.ref a, .int i] ∧ SqL K H a (ns.map V.int) ∧ 0 ≤ i ∧ ∀ r, Q (.int r) H
def DigAt (H0 H : Hp) (dl : Addr) (n : Nat) : Prop := ∃ ds : List Int, H dl = some (.lst (ds.map V.int)) ∧ ds.length ≤ n ∧ (∀ d ∈ ds, 0 ≤ d ∧ d < 1000) ∧ Same H0 H
theorem DigAt.mono {H0 H : Hp} {dl : Addr} {n m : Nat} (h : DigAt H0 H dl n) (l : n ≤ m) : DigAt H0 H dl m := let ⟨ds, a, b, c, d⟩ := h; ⟨ds, a, by omega, c, d⟩
theorem DigAt.add {H0 H : Hp} {dl : Addr} {n : Nat} {r : Int} {xs : List V} (h : DigAt H0 H dl n) (hx : H dl = some (.lst xs)) (nd : H0 dl = none) (h0 : 0 ≤ r) (h1 : r < 1000) : DigAt H0 (upd H dl (.lst (xs ++ [.int r]))) dl (n + 1) := by
  obtain ⟨ds, a, b, c, d⟩ := h
  rw [hx] at a
  obtain rfl := HO.lst.inj (Option.some.inj a)
  refine ⟨ds ++ [r], by rw [upd_same, List.map_append]; rfl, by simp; omega, fun z hz => ?_, fun q o e => by rw [upd_ne (ne_of_none e nd)]; exact d q o e⟩
  rcases List.mem_append.mp hz with hz | hz
  · exact c z hz
  · have : z = r := by simpa using hz
    omega
def spDigits (K : PySem.W.Frag) : Sp := fun vs H Q _ => ∃ (a : Addr) (ns : List Int) (lo hi : Nat), vs = [.ref a, .int lo, .int hi] ∧ SqL K H a (ns.map V.int) ∧ lo ≤ hi ∧ hi ≤ 64 ∧
  ∀ (p : Addr) (H' : Hp), H p = none → DigAt H H' p 4000 → Q (.ref p) H'
def spBound : Sp := fun vs H Q _ => vs = [] ∧ Q (.int (2 ^ 256)) H
theorem Keep.trans {p : Addr} {H H1 H2 : Hp} (a : Keep p H H1) (b : Keep p H1 H2) : Keep p H H2 := fun c o h ne => b c o (a c o h ne) ne
theorem Keep.refl (p : Addr) (H : Hp) : Keep p H H := fun _ _ h _ => h
def Sgn (z : Int) : Prop := z = 1 ∨ z = -1
theorem Sgn.mul {z n : Int} (h : Sgn z) : (z * n).natAbs = n.natAbs := by
  rcases h with rfl | rfl <;> omega
theorem Sgn.wide {z n : Int} (h : Sgn z) (hn : n.natAbs < 2 ^ 300) : CMulW z n := wide_mul (a := 2) (b := 300) (by rcases h with rfl | rfl <;> decide) hn (by decide) (by decide) (by decide)
def spNumber (K : PySem.W.Frag) : Sp := fun vs H Q _ => ∃ (p dl : Addr), vs = [.ref p] ∧ BoxAt H p dl ∧ ∀ (n : Int) H', n.natAbs < 2 ^ 260 → BoxAt H' p dl → Keep p H H' → Q (.int n) H'
def spSame (K : PySem.W.Frag) : Sp := fun vs H Q _ => ∃ (x y : V) (d : PyData), vs = [x, y] ∧ Dp K H x d ∧ Dp K H y d ∧ ShowOk d ∧ Q (.bl true) H
theorem Same.keep {p : Addr} {H H' : Hp} (e : Same H H') : Keep p H H' := fun b o h _ => e b o h
theorem BoxAt.same {p dl : Addr} {H H' : Hp} (h : BoxAt H p dl) (e : Same H H') : BoxAt H' p dl := by
  obtain ⟨ds, k, a, b, c, d⟩ := h
  exact ⟨ds, k, e _ _ a, b, e _ _ c, d⟩
theorem BoxAt.upd {p dl l : Addr} {H : Hp} {o : HO} (h : BoxAt H p dl) (h1 : l ≠ p) (h2 : l ≠ dl) : BoxAt (L2.upd H l o) p dl := by
  obtain ⟨ds, k, a, b, c, d⟩ := h
  exact ⟨ds, k, by rw [upd_ne (Ne.symm h1)]; exact a, b, by rw [upd_ne (Ne.symm h2)]; exact c, d⟩
theorem strOk (s : Str) (h : s.cps.toList.all (fun c => decide (c < 16 ^ 8)) = true) : ∀ c ∈ s.cps.toList, c < 16 ^ 8 := fun c hc => of_decide_eq_true (List.all_eq_true.mp h c hc)

/-! ### data without lists: what no change of a list can reach -/
mutual
inductive Dt (K : PySem.W.Frag) (H : Hp) : V → PyData → Prop
  | non : Dt K H .non .none
  | bl (b : Bool) : Dt K H (.bl b) (.bool b)
  | int (i : Int) : Dt K H (.int i) (.int i)
  | str (x : Str) : Dt K H (.str x) (.str x)
  | tup {a : Addr} {xs : List V} {ds : List PyData} : SqT K H a xs → DtAll K H xs ds → Dt K H (.ref a) (.tuple ds)
inductive DtAll (K : PySem.W.Frag) (H : Hp) : List V → List PyData → Prop
  | nil : DtAll K H [] []
  | cons {v : V} {vs : List V} {d : PyData} {ds : List PyData} : Dt K H v d → DtAll K H vs ds → DtAll K H (v :: vs) (d :: ds)
end
mutual
theorem Dt.dp {K : PySem.W.Frag} {H : Hp} : ∀ {v : V} {d : PyData}, Dt K H v d → Dp K H v d
  | _, _, .non => .non
  | _, _, .bl b => .bl b
  | _, _, .int i => .int i
  | _, _, .str x => .str x
  | _, _, .tup h a => .tup h (DtAll.dp a)
theorem DtAll.dp {K : PySem.W.Frag} {H : Hp} : ∀ {vs : List V} {ds : List PyData}, DtAll K H vs ds → DpAll K H vs ds
  | _, _, .nil => .nil
  | _, _, .cons h a => .cons (Dt.dp h) (DtAll.dp a)
end
/-- every tuple that H reads H' reads as well -/
def KeepT (K : PySem.W.Frag) (H H' : Hp) : Prop := ∀ a xs, SqT K H a xs → SqT K H' a xs
mutual
theorem Dt.keepT {K : PySem.W.Frag} {H H' : Hp} (e : KeepT K H H') : ∀ {v : V} {d : PyData}, Dt K H v d → Dt K H' v d
  | _, _, .non => .non
  | _, _, .bl b => .bl b
  | _, _, .int i => .int i
  | _, _, .str x => .str x
  | _, _, .tup h a => .tup (e _ _ h) (DtAll.keepT e a)
theorem DtAll.keepT {K : PySem.W.Frag} {H H' : Hp} (e : KeepT K H H') : ∀ {vs : List V} {ds : List PyData}, DtAll K H vs ds → DtAll K H' vs ds
  | _, _, .nil => .nil
  | _, _, .cons h a => .cons (Dt.keepT e h) (DtAll.keepT e a)
end
theorem KeepT.refl (K : PySem.W.Frag) (H : Hp) : KeepT K H H := fun _ _ h => h
theorem KeepT.trans {K : PySem.W.Frag} {H H1 H2 : Hp} (a : KeepT K H H1) (b : KeepT K H1 H2) : KeepT K H H2 := fun c xs h => b c xs (a c xs h)
theorem Same.keepT {K : PySem.W.Frag} {H H' : Hp} (e : Same H H') : KeepT K H H' := fun _ _ h => Same.tupl e h
theorem Keep.keepT {K : PySem.W.Frag} {p : Addr} {H H' : Hp} (e : Keep p H H') (hp : ∃ xs, H p = some (.lst xs)) : KeepT K H H' := fun a xs h => by
  obtain ⟨ys, hp⟩ := hp
  rcases h with (h | ⟨o, h⟩) | h
  · exact .inl (.inl (e _ _ h (ne_of h hp (by intro z; cases z))))
  · exact .inl (.inr ⟨o, e _ _ h (ne_of h hp (by intro z; cases z))⟩)
  · exact .inr h
theorem KeepT.upd {K : PySem.W.Frag} {p : Addr} {H : Hp} {o : HO} {xs : List V} (hp : H p = some (.lst xs)) : KeepT K H (upd H p o) :=
  Keep.keepT (p := p) (fun b u e hb => by rw [upd_ne hb]; exact e) ⟨xs, hp⟩
theorem Dt.mono {K : PySem.W.Frag} {H H' : Hp} {v : V} {d : PyData} (e : Same H H') (h : Dt K H v d) : Dt K H' v d := h.keepT (Same.keepT e)
theorem DtAll.mono {K : PySem.W.Frag} {H H' : Hp} {v : List V} {d : List PyData} (e : Same H H') (h : DtAll K H v d) : DtAll K H' v d := h.keepT (Same.keepT e)
theorem Dt.made {K : PySem.W.Frag} {H : Hp} {p : Addr} {xs : List V} {ds : List PyData} (hp : H p = none) (h : DtAll K H xs ds) : Dt K (L2.upd H p (.tup xs)) (.ref p) (.tuple ds) := .tup (SqT.of upd_same) (DtAll.mono (Same.new hp) h)
theorem DtAll.length {K : PySem.W.Frag} {H : Hp} {vs : List V} {ds : List PyData} (h : DtAll K H vs ds) : vs.length = ds.length := LK.DpAll.length h.dp
theorem DtAll.app {K : PySem.W.Frag} {H : Hp} : ∀ {vs ws : List V} {ds es : List PyData}, DtAll K H vs ds → DtAll K H ws es → DtAll K H (vs ++ ws) (ds ++ es)
  | _, _, _, _, .nil, t => t
  | _, _, _, _, .cons h a, t => .cons h (DtAll.app a t)
theorem DtAll.get {K : PySem.W.Frag} {H : Hp} : ∀ {vs : List V} {ds : List PyData} {i : Nat} {d : PyData}, DtAll K H vs ds → ds[i]? = some d → ∃ v, vs[i]? = some v ∧ Dt K H v d
  | _, _, 0, _, .cons h _, e => ⟨_, rfl, Option.some.inj e ▸ h⟩
  | _, _, i + 1, _, .cons _ a, e => DtAll.get (i := i) a e
theorem DtAll.getV {K : PySem.W.Frag} {H : Hp} : ∀ {vs : List V} {ds : List PyData} {i : Nat} {v : V}, DtAll K H vs ds → vs[i]? = some v → ∃ d, ds[i]? = some d ∧ Dt K H v d
  | _, _, 0, _, .cons h _, e => ⟨_, rfl, Option.some.inj e ▸ h⟩
  | _, _, i + 1, _, .cons _ a, e => DtAll.getV (i := i) a e
theorem Dt.tuple_inv {K : PySem.W.Frag} {H : Hp} {v : V} {ds : List PyData} (h : Dt K H v (.tuple ds)) : ∃ a xs, v = .ref a ∧ SqT K H a xs ∧ DtAll K H xs ds := by
  cases h with
  | tup h a => exact ⟨_, _, rfl, h, a⟩
theorem DtAll.cons_inv {K : PySem.W.Frag} {H : Hp} {vs : List V} {d : PyData} {ds : List PyData} (h : DtAll K H vs (d :: ds)) : ∃ v ws, vs = v :: ws ∧ Dt K H v d ∧ DtAll K H ws ds := by
  cases h with
  | cons h a => exact ⟨_, _, rfl, h, a⟩
theorem DtAll.nil_inv {K : PySem.W.Frag} {H : Hp} {vs : List V} (h : DtAll K H vs []) : vs = [] := by cases h; rfl
theorem Dt.int_inv {K : PySem.W.Frag} {H : Hp} {v : V} {i : Int} (h : Dt K H v (.int i)) : v = .int i := by cases h; rfl
theorem Dt.str_inv {K : PySem.W.Frag} {H : Hp} {v : V} {x : Str} (h : Dt K H v (.str x)) : v = .str x := by cases h; rfl
theorem Dt.bool_inv {K : PySem.W.Frag} {H : Hp} {v : V} {b : Bool} (h : Dt K H v (.bool b)) : v = .bl b := by cases h; rfl
theorem dtStrs {K : PySem.W.Frag} {H : Hp} : ∀ xs : List Str, DtAll K H (xs.map V.str) (xs.map PyData.str)
  | [] => .nil
  | x :: xs => .cons (.str x) (dtStrs xs)
end LK

set_option Elab.async false
set_option linter.all false
set_option maxRecDepth 100000
set_option maxHeartbeats 4000000
/-! enumerate of a tuple. -/
namespace LK
open PySem PySem.Spec PyProof.Rows L2
open AutoSeq1 (wpAny_loadPart')
open Sem (wp)
def enumObj (it : Addr) : Obj := { cls := .type "enumerate", data := .fields #[.none, .bool false, .ref it, rawInt 0, .none, .none] }
def tupIt (t : Addr) : Obj := { cls := .type "tuple_iterator", data := .fields #[.ref t, .int 0 0] }
theorem meets_enumT (t : Addr) (items : Array Value) (n : Nat) (dct : Option Addr) (sl : Array (Option Value)) :
    Meets (Builtin.«enumerate.__new__» ⟨[.type "enumerate", .ref t], []⟩) (fun _ R s => s.heap.get? t = some { cls := .type "tuple", dict := dct, data := .seq items n, slots := sl } ∧
      R (.ok (.ret (.ref (s.heap.push (tupIt t)).objs.size))) { s with heap := (s.heap.push (tupIt t)).push (enumObj s.heap.objs.size) }) :=
  .of_wp fun prog w A R s h => by
    obtain ⟨hp, g, d, tk, os⟩ := s
    obtain ⟨hl, h⟩ := h
    have hsub := sub_enumerate
    have hT : Heap.IsTuple (Shared.heap ⟨hp, g, d, tk, os⟩) t items := ⟨_, hl, rfl, n, rfl⟩
    wp_walk using wpAny_loadPart' hl
    refine wpAny_stack_any fun st => wpAny_pure ?_
    split
    · rename_i c _ _ _ _ _
      cases (c == Value.type "enumerate") <;> (wp_walk using wpAny_loadPart' hl, wpAny_pyIter_tuple hT; exact ⟨_, rfl, h⟩)
    · wp_walk using wpAny_loadPart' hl, wpAny_pyIter_tuple hT
      exact ⟨_, rfl, h⟩
section
variable {prog : Program} {w : World} {A : Around} {E : Value → Shared → Prop} {s : Shared}
theorem call_enumT {t : Addr} {items : Array Value} {Q : Value → Shared → Prop} (hT : s.heap.IsTuple t items)
    (h : ∀ h', IsEnum h' (s.heap.objs.size + 1) s.heap.objs.size 0 .none → h'.IsTupleIter s.heap.objs.size t 0 → (∀ b o, s.heap.get? b = some o → h'.get? b = some o) → Q (.ref (s.heap.objs.size + 1)) { s with heap := h' }) :
    wpAny (model prog w) A (call (.type "enumerate") [.ref t]) Q E s := by
  obtain ⟨⟨c, dct, dt, sl⟩, hl, hc, n, hd⟩ := hT
  obtain rfl : c = .type "tuple" := hc
  obtain rfl : dt = .seq items n := hd
  refine callType_new F.called_enumerate (by decide) (F.typeCall_enumerate_1 _) (F.newCall_enumerate_1 _) (fun obj => F.args_object_init_2 obj _) F.entry_enumerate_new (meets_enumT t items n dct sl) ⟨hl, ?_⟩
  have hz : (s.heap.push (tupIt t)).objs.size = s.heap.objs.size + 1 := Heap.size_push ..
  have he : IsEnum ((s.heap.push (tupIt t)).push (enumObj s.heap.objs.size)) (s.heap.objs.size + 1) s.heap.objs.size 0 .none := by
    have q := Heap.get?_push_size (s.heap.push (tupIt t)) (o := enumObj s.heap.objs.size) rfl
    rw [hz] at q
    exact q
  show _ ∧ _
  rw [hz]
  exact ⟨⟨_, he, rfl⟩, h _ he (Heap.get?_push_of_some _ (Heap.get?_push_size _ rfl) |> fun q => ⟨_, q, rfl, rfl⟩) fun b o x => Heap.get?_push_of_some _ (Heap.get?_push_of_some _ x)⟩
end
/-- the tuple at a, each item in a new pair with its place -/
def IteT (K : PySem.W.Frag) (a : Addr) : It where
  go := fun i H => ∃ (xs : List V) (x : V), SqT K H a xs ∧ xs[i]? = some x
  yld := fun i H v H' => ∃ T x, v = .ref T ∧ H T = none ∧ H' = upd H T (.tup [.int (i : Nat), x]) ∧ ∀ xs, SqT K H a xs → xs[i]? = some x
  stop := fun i H => ∃ xs : List V, SqT K H a xs ∧ xs.length = i
theorem turn_enumT {P : Program} {w : World} {K : PySem.W.Frag} {elts : List Expr} {kk : Nat} {tpos : Pos} (a e it : Addr) :
    Turn P w K (.Tuple elts kk tpos) (IteT K a) [e, it] e (fun i h => (∃ old, IsEnum h e it ((i : Nat) : Int) old) ∧ h.IsTupleIter it a i ∧ e ≠ it) where
  mem := List.mem_cons_self
  obj := fun i h st b hb => by
    obtain ⟨⟨old, he⟩, ⟨o, ho, hc, hd⟩, _⟩ := st
    have hb : b = e ∨ b = it := by simpa using hb
    rcases hb with rfl | rfl
    · exact ⟨_, he, fun v q => nomatch q⟩
    · exact ⟨o, ho, fun v q => by rw [hd] at q; cases q⟩
  keep := fun i h h' st k => by
    obtain ⟨⟨old, he⟩, hi, hne⟩ := st
    exact ⟨⟨old, k e (by simp) _ he⟩, hi.at fun o q => k it (by simp) o q, hne⟩
  item := by
    intro X hP hw hK hc i pins s σ H E I hf st hg
    subst hP hw hK
    obtain ⟨⟨old, he⟩, hit, hne⟩ := st
    obtain ⟨xs, x, hq, hx⟩ := hg
    obtain ⟨its, rv, p, hz⟩ := I.tuple hq
    obtain ⟨u, hu, ru⟩ := rv.get hx
    have hel : e < s.heap.objs.size := Heap.lt_size he
    have hil : it < s.heap.objs.size := by obtain ⟨_, q, _⟩ := hit; exact Heap.lt_size q
    have hat : a ≠ it := by
      intro z
      subst z
      obtain ⟨o, q1, c1, _⟩ := hit
      obtain ⟨o', q2, c2, _⟩ := p
      rw [q1] at q2; cases q2
      exact absurd (Value.type.inj (c1.symm.trans c2)) (by decide)
    have D := Draws.tuple (prog := X.prog) (w := X.w) (A := X.A.in1) (I.ok.hd hc) it a hat its.toArray
    have Dst : (fun i (h : Heap) => h.IsTupleIter it a i ∧ h.IsTuple a its.toArray) i s.heap := ⟨hit, p⟩
    have eat : e ≠ a := by
      intro z
      subst z
      obtain ⟨o', q2, c2, _⟩ := p
      rw [he] at q2; cases q2
      exact absurd (Value.type.inj c2) (by decide)
    have hi : i < its.toArray.size := by
      have := (List.getElem?_eq_some_iff.mp hu).1
      simpa using this
    refine wpAny_pyNext_enum_itemD D he Dst hi hne (by simp [hne, eat]) fun v h' tk hv ho hst hT hsz hk => ?_
    obtain rfl : v = u := by
      have hv : its.toArray[i]? = some v := hv
      rw [show its.toArray[i]? = some u by simpa using hu] at hv
      exact (Option.some.inj hv).symm
    refine ⟨_, rfl, wpAny_letOwnedTupleGo_enum (s := { s with heap := h', toks := tk + 1 }) ho fun h'' he' sb => ?_⟩
    have hT2 := (sb.2 _ (Nat.ne_of_gt hel)).trans hT
    have new : ObjOk X.prog X.w (upd H s.heap.objs.size (.tup [.int (i : Nat), x])) h'' s.heap.objs.size (.tup [.int (i : Nat), x]) :=
      ⟨by show 2 ≤ sizeLine; decide, [.int i tk, v], .cons ⟨_, rfl⟩ (.cons ru .nil), ⟨_, hT2, rfl, _, rfl⟩⟩
    have I1 : Inv X pins σ (upd H s.heap.objs.size (.tup [.int (i : Nat), x])) { s with heap := h'', toks := tk + 1 } :=
      I.turnedNew (ch := [e, it]) (fun b ob hb q => (sb.2 b (fun z => hb (by simp [z]))).trans (hk b ob (fun z => hb (by simp [z])) (fun z => hb (by simp [z])) q)) hf (Nat.le_refl _) new
    refine ⟨.ref s.heap.objs.size, _, I1, rfl, ⟨_, x, rfl, I.hok.fresh (Nat.le_refl _), rfl, fun ys hy => by rw [I.tuple_inj hy hq]; exact hx⟩, ⟨⟨v, ?_⟩, hst.1.at fun o q => (sb.2 it (Ne.symm hne)).trans q, hne⟩, fun b hb => ?_⟩
    · rw [show ((i + 1 : Nat) : Int) = (i : Int) + 1 by omega]
      exact he'
    · have hb' : b < s.heap.objs.size := by
        have z : b = e ∨ b = it := by simpa using hb
        rcases z with rfl | rfl <;> assumption
      rw [upd_ne (Nat.ne_of_lt hb')]
      exact (hf b hb).1
  done := by
    intro X hP hw hK hc i pins s σ H E I hf st hg
    subst hP hw hK
    obtain ⟨⟨old, he⟩, hit, hne⟩ := st
    obtain ⟨xs, hq, hx⟩ := hg
    obtain ⟨its, rv, p, hz⟩ := I.tuple hq
    obtain ⟨f0, f1, f2, f3, f4, f5⟩ := hf it (by simp)
    have hl := rv.length
    have hat : a ≠ it := by
      intro z
      subst z
      obtain ⟨o, q1, c1, _⟩ := hit
      obtain ⟨o', q2, c2, _⟩ := p
      rw [q1] at q2; cases q2
      exact absurd (Value.type.inj (c1.symm.trans c2)) (by decide)
    have D := Draws.tuple (prog := X.prog) (w := X.w) (A := X.A.in1) (I.ok.hd hc) it a hat its.toArray
    have hn : i = its.toArray.size := by simp; omega
    subst hn
    exact wpAny_pyNext_enum_endD D he ⟨hit, p⟩ fun h' eb => ⟨rfl, I.turned (t' := s.toks) (fun b o hb q => eb b o hb q) f0 f1 f3 f4 f5⟩
  self := fun A i s Q E st h => let ⟨⟨_, he⟩, _⟩ := st; wpAny_pyIter_enum he h
def iEnumT (K : PySem.W.Frag) (ta : TA) : TI := fun σ H R => ta σ H fun vs H1 => ∃ a xs, vs = [.ref a] ∧ SqT K H1 a xs ∧ R (IteT K a) H1
theorem pi_enumT {X : Cx} {e : Expr} {ta : TA} {p pos tpos : Pos} {elts : List Expr} {kk : Nat} (hg : Gl X "enumerate") (hm : X.mg "enumerate" = none) (ha : PA X [e] ta) (hs : starEach [e] X.env = [(false, eval e X.env)] := by rfl) :
    PI X (.Tuple elts kk tpos) (.Call (.Name "enumerate" p) [e] [] pos) (iEnumT X.K ta) := by
  refine ⟨fun pins s σ H R I h => ?_⟩
  refine Call_ (ld_blt I hg hm boot_enumerate (PyProof.Rows.callWith_type1 (thn (ha.run pos pins s σ H _ I h) fun us s1 ⟨vs, H1, I1, r1, q1⟩ => ?_) hs rfl))
  obtain ⟨a, xs, rfl, hq, q⟩ := q1
  cases r1 with
  | cons r rr =>
    cases rr
    cases r
    obtain ⟨its, rv, p', hz⟩ := I1.tuple hq
    refine call_enumT (show s1.heap.IsTuple a its.toArray from p') fun h' he hit hk => wpAny_pyIter_enum he ?_
    refine ⟨s1.heap.objs.size + 1, [s1.heap.objs.size + 1, s1.heap.objs.size], _, _, H1, rfl, I1.kept (t' := s1.toks) hk, turn_enumT a (s1.heap.objs.size + 1) s1.heap.objs.size, ⟨⟨.none, he⟩, hit, Nat.succ_ne_self _⟩, fun b hb => ?_, q⟩
    have hle : s1.heap.objs.size ≤ b := by
      have z : b = s1.heap.objs.size + 1 ∨ b = s1.heap.objs.size := by simpa using hb
      rcases z with rfl | rfl <;> omega
    exact I1.fpOk hle (I1.hok.fresh hle)
theorem walk_enumT {K : PySem.W.Frag} {a : Addr} {xs : List V} : Walk (IteT K a) xs.length (fun H => SqT K H a xs) (YPair (fun i => some (.int (i : Nat))) (fun i => xs[i]?)) := by
  refine ⟨fun i _ hi q => ⟨xs, xs[i], q, by simp [hi]⟩, fun _ q => ⟨xs, q, rfl⟩, fun i H v H' _ q y => ?_⟩
  obtain ⟨T, x, h1, h2, h3, h4⟩ := y
  exact ⟨T, .int (i : Nat), x, h1, h2, h3, rfl, h4 xs q⟩

/-! ### comprehensions whose items are data -/
theorem tYes_of {σ : L2.St} {H : Hp} {P R : Hp → Prop} (h : P H) : tYes σ H fun b H3 => if b = true then P H3 else R H3 := by
  show (if true = true then P H else R H)
  rw [if_pos rfl]
  exact h
/-- each turn gives data and leaves what stood; no test -/
theorem lc_dt {K : PySem.W.Frag} {J : It} {n : Nat} {G : Hp → Prop} {Y : Nat → Hp → V → Hp → Prop} (w : Walk J n G Y) {g : TG} {te : TE} {vs : List Nat} {σ : L2.St} {H : Hp} {D : Addr} {Qd : Hp → Prop} (hD : H D = none) (ds : List PyData) (hn : ds.length = n) (hz : n < sizeLine)
    (hG : ∀ H', Same H H' → G H')
    (hs : ∀ i x H1 H2 d (Nx : V → Hp → Prop), i < n → ds[i]? = some d → Same H H1 → (∃ acc, H1 D = some (.lst acc)) → Y i H1 x H2 → (∀ y H5, Same H1 H5 → Dt K H5 y d → Nx y H5) →
      g x (wipe σ vs) H2 fun σ2 H3 => wipe σ2 vs = wipe σ vs ∧ te σ2 H3 Nx)
    (hd : ∀ H' acc, Same H H' → H' D = some (.lst acc) → DtAll K H' acc ds → Qd H')
    (mono : ∀ x σ H Q Q', (∀ σ' H', Q σ' H' → Q' σ' H') → g x σ H Q → g x σ H Q') :
    ∃ W : Nat → Nat → Hp → Prop, (∃ m, W 0 m (upd H D (.lst []))) ∧ ∀ i m H, W i m H →
      (J.stop i H ∧ Qd H) ∨ (J.go i H ∧ ∃ Nx : Hp → Prop, (∀ H', Nx H' → ∃ m', m' < m ∧ W (i + 1) m' H') ∧ ∀ x H', J.yld i H x H' → g x (wipe σ vs) H' fun σ2 H2 => wipe σ2 vs = wipe σ vs ∧ tYes σ2 H2 fun b H3 =>
        if b = true then te σ2 H3 fun y H4 => ∃ acc, H4 D = some (.lst acc) ∧ acc.length < sizeLine ∧ Nx (upd H4 D (.lst (acc ++ [y]))) else Nx H3) := by
  refine lc_it w (fun i H' => ∃ acc, H' D = some (.lst acc) ∧ DtAll K H' acc (ds.take i) ∧ Same H H') ⟨[], upd_same, .nil, Same.new hD⟩ (fun i H' _ h => let ⟨_, _, _, s⟩ := h; hG H' s) (fun i x H1 H2 hi h y => ?_) fun H' h => ?_
  · obtain ⟨acc, a1, a2, a3⟩ := h
    have hi' : i < ds.length := by omega
    have hg := hs i x H1 H2 ds[i] (fun y H4 => ∃ acc, H4 D = some (.lst acc) ∧ acc.length < sizeLine ∧ ∃ acc', upd H4 D (.lst (acc ++ [y])) D = some (.lst acc') ∧ DtAll K (upd H4 D (.lst (acc ++ [y]))) acc' (ds.take (i + 1)) ∧ Same H (upd H4 D (.lst (acc ++ [y]))))
      hi (List.getElem?_eq_getElem hi') a3 ⟨acc, a1⟩ y fun y H5 s hy => ?_
    · exact mono _ _ _ _ _ (fun σ2 H3 q => ⟨q.1, tYes_of q.2⟩) hg
    · have b1 := s _ _ a1
      have kt : KeepT K H5 (upd H5 D (.lst (acc ++ [y]))) := KeepT.upd b1
      refine ⟨acc, b1, ?_, _, upd_same, ?_, fun b o e => ?_⟩
      · rw [a2.length, List.length_take]; omega
      · rw [List.take_succ, List.getElem?_eq_getElem hi']
        exact DtAll.app (DtAll.keepT (KeepT.trans (Same.keepT s) kt) a2) (.cons (Dt.keepT kt hy) .nil)
      · rw [upd_ne (ne_of_none e hD)]
        exact s _ _ (a3 _ _ e)
  · obtain ⟨acc, a1, a2, a3⟩ := h
    rw [← hn, List.take_length] at a2
    exact hd H' acc a3 a1 a2
theorem mono_name {i : Nat} : ∀ x (σ : L2.St) (H : Hp) (Q Q' : L2.St → Hp → Prop), (∀ σ' H', Q σ' H' → Q' σ' H') → gName i x σ H Q → gName i x σ H Q' := fun _ _ _ _ _ h q => h _ _ q
theorem mono_tup2 {K : PySem.W.Frag} {i j n : Nat} : ∀ x (σ : L2.St) (H : Hp) (Q Q' : L2.St → Hp → Prop), (∀ σ' H', Q σ' H' → Q' σ' H') → gTup K n (gCons (gName i) (gCons (gName j) gNil)) x σ H Q → gTup K n (gCons (gName i) (gCons (gName j) gNil)) x σ H Q' := by
  rintro x σ H Q Q' h ⟨a, xs, e1, e2, e3, v, r, e4, v', r', e5, e6, q⟩
  exact ⟨a, xs, e1, e2, e3, v, r, e4, v', r', e5, e6, h _ _ q⟩
end LK

set_option Elab.async false
set_option linter.all false
set_option maxRecDepth 100000
set_option maxHeartbeats 4000000
set_option exponentiation.threshold 3000
/-! More rules: text * int, two rules at one place, what == says of data. -/
namespace LK
open PySem PySem.Spec PyProof.Rows L2
theorem at_of' {α : Type} {xs : List α} {z : Int} {j : Nat} {v : α} (e : z = (j : Int)) (h : xs[j]? = some v) : atI xs z = some v := by
  rw [e]
  exact atI_nat h
/-- z repeated k times, by its codes -/
def repC (z : List Nat) (k : Int) : List Nat := (List.replicate k.toNat z).flatten
def repS (z : Str) (k : Int) : Str := ⟨(repC z.cps.toList k).toArray⟩
theorem repC_length (z : List Nat) (k : Int) : (repC z k).length = k.toNat * z.length := by simp [repC]
theorem foldl_arr (z : Array Nat) : ∀ (n : Nat) (acc : Array Nat), (List.replicate n z).foldl (· ++ ·) acc = acc ++ (List.replicate n z.toList).flatten.toArray
  | 0, acc => by simp
  | n + 1, acc => by
    rw [List.replicate_succ, List.foldl_cons, foldl_arr z n, List.replicate_succ, List.flatten_cons]
    apply Array.ext'
    simp
def rRepS : R2 := fun x y H Q => ∃ (z : Str) (k : Int), x = .str z ∧ y = .int k ∧ -1000000000000 ≤ k ∧ k < 1000000000000 ∧ z.length * k.toNat ≤ 1000000 ∧ Q (.str (repS z k)) H
theorem repS_arr (z : Str) (k : Int) : (⟨(List.replicate k.toNat z.cps).foldl (· ++ ·) #[]⟩ : Str) = repS z k := by
  rw [foldl_arr]
  simp [repS, repC]
theorem op_rep_str {X : Cx} : OpR X (binaryOp .Mult) rRepS := by
  intro pins s σ H x y v u Q I rx ry h
  obtain ⟨z, k, rfl, rfl, h1, h2, h3, q⟩ := h
  obtain ⟨t, rfl⟩ := rx
  obtain ⟨t', rfl⟩ := ry
  have szl : (1000000 : Nat) ≤ sizeLine := by decide
  have e1 : ¬ k < 1 → k = (k.toNat : Int) := fun h => by omega
  refine PySem.P.mul_str ?_ (fun hk hz => ?_) (fun hk hz => ?_) ?_
  · rw [decide_eq_false (by omega), decide_eq_false (by omega)]; rfl
  · have e0 : z.length ≠ 0 := fun e => by rw [e] at hz; simp at hz
    have hd : (9223372036854775807 : Int) / k ≥ 1000000 := by
      apply Int.le_ediv_of_mul_le (by omega)
      have hlen : k.toNat ≤ 1000000 := Nat.le_trans (Nat.le_mul_of_pos_left _ (by omega)) h3
      omega
    have hl : z.length ≤ 1000000 := Nat.le_trans (Nat.le_mul_of_pos_right _ (by omega)) h3
    show ¬ ((z.length : Int) > 9223372036854775807 / k)
    omega
  · unfold Builtin.Str.tooLong
    simp
    omega
  · split
    · rename_i hk
      have e : repS z k = Str.empty := by
        have : k.toNat = 0 := by omega
        simp [repS, repC, this]; rfl
      refine ⟨by decide, .str _, H, I.tok _, ⟨_, rfl⟩, ?_⟩
      rw [← e]; exact q
    · rename_i hk
      split
      · rename_i hz
        have e : repS z k = z := by
          rcases Bool.or_eq_true_iff.mp hz with h | h
          · have : k = 1 := by simpa using h
            subst this
            simp [repS, repC]
          · have : z.cps.toList = [] := by
              have : z.cps.size = 0 := by simpa [Str.length] using h
              exact List.eq_nil_of_length_eq_zero (by simpa using this)
            have e2 : (List.replicate k.toNat ([] : List Nat)).flatten = [] := by simp
            unfold repS repC
            rw [this, e2]
            cases z with
            | mk c =>
              have : c = #[] := Array.toList_inj.mp (by simpa using this)
              subst this; rfl
        refine ⟨.str _, H, I, ⟨t, rfl⟩, ?_⟩
        rw [← e]; exact q
      · rw [repS_arr]
        refine ⟨?_, .str _, H, I.tok _, ⟨_, rfl⟩, q⟩
        show (repC z.cps.toList k).toArray.size ≤ sizeLine
        rw [List.size_toArray, repC_length]
        have : z.cps.toList.length = z.length := by simp [Str.length]
        rw [this, Nat.mul_comm]; omega
/-! ### the objects at the beginning -/
def clsNames : List Str := ["Exception", "ArithmeticError", "ZeroDivisionError", "OverflowError", "LookupError", "IndexError", "KeyError", "NameError", "AttributeError", "TypeError", "ValueError", "StopIteration", "RuntimeError", "RecursionError", "MemoryError", "HostError"]
def clsBases : List Int := [-1, 1, 2, 2, 1, 5, 5, 1, 1, 1, 1, 1, 1, 13, 1, 1]
def builtNames : List Str := ["print", "len", "range", "repr", "str", "int", "list", "tuple", "dict", "iter", "next", "isinstance", "abs"]
def clsVar (i : Nat) (n : Str) : PyData := .tuple [.str n, .tuple [.str "ref", .int ((i : Int) + 1)]]
def nameVar (k n : Str) : PyData := .tuple [.str n, .tuple [.str k, .str n]]
def clsObj (n : Str) (b : Int) : PyData := .tuple [.str "class", .str n, .int b, .tuple []]
def clsVars : List PyData := clsNames.mapIdx clsVar
def startVars (hs : List Str) : List PyData := clsVars ++ builtNames.map (nameVar "built") ++ hs.map (nameVar "host")
def startD (hs : List Str) : List PyData := .tuple [.str "scope", .tuple (startVars hs), .tuple [], .tuple [], .int (-1), .bool false] :: List.zipWith clsObj clsNames clsBases
/-- a list at p, of the data ds -/
def ListAt (K : PySem.W.Frag) (H : Hp) (p : Addr) (ds : List PyData) : Prop := ∃ xs, H p = some (.lst xs) ∧ DtAll K H xs ds
def spStart (K : PySem.W.Frag) : Sp := fun vs H Q _ => ∃ (t : Addr) (hs : List Str), vs = [.ref t] ∧ SqT K H t (hs.map V.str) ∧ hs.length ≤ 1000 ∧
  ∀ (p : Addr) (H' : Hp), H p = none → Same H H' → ListAt K H' p (startD hs) → Q (.ref p) H'
theorem at0 {α : Type} {x : α} {ws : List α} : atI (x :: ws) 0 = some x := at_of' (j := 0) rfl rfl
theorem at1 {α : Type} {x y : α} {ws : List α} : atI (x :: y :: ws) 1 = some y := at_of' (j := 1) rfl rfl
theorem at2 {α : Type} {x y z : α} {ws : List α} : atI (x :: y :: z :: ws) 2 = some z := at_of' (j := 2) rfl rfl
/-- a written pair, triple as it is read -/
theorem Dt.head {K : PySem.W.Frag} {H : Hp} {v : V} {z : Str} {rest : List PyData} (h : Dt K H v (.tuple (.str z :: rest))) : ∃ a ws, v = .ref a ∧ SqT K H a (.str z :: ws) ∧ DtAll K H ws rest := by
  obtain ⟨q, xs, rfl, hs, ha⟩ := h.tuple_inv
  obtain ⟨x, ws, rfl, h1, hw⟩ := ha.cons_inv
  cases h1.str_inv
  exact ⟨q, ws, rfl, hs, hw⟩
theorem Dt.pair {K : PySem.W.Frag} {H : Hp} {v : V} {z : Str} {d : PyData} (h : Dt K H v (.tuple [.str z, d])) : ∃ a x, v = .ref a ∧ SqT K H a [.str z, x] ∧ Dt K H x d := by
  obtain ⟨a, ws, rfl, hs, hw⟩ := h.head
  obtain ⟨x, ws', rfl, h1, hn⟩ := hw.cons_inv
  cases hn.nil_inv
  exact ⟨a, x, rfl, hs, h1⟩
theorem Dt.triple {K : PySem.W.Frag} {H : Hp} {v : V} {z : Str} {d e : PyData} (h : Dt K H v (.tuple [.str z, d, e])) : ∃ a x y, v = .ref a ∧ SqT K H a [.str z, x, y] ∧ Dt K H x d ∧ Dt K H y e := by
  obtain ⟨a, ws, rfl, hs, hw⟩ := h.head
  obtain ⟨x, ws', rfl, h1, hn⟩ := hw.cons_inv
  obtain ⟨y, ws'', rfl, h2, hn2⟩ := hn.cons_inv
  cases hn2.nil_inv
  exact ⟨a, x, y, rfl, hs, h1, h2⟩
theorem listAt_mono {K : PySem.W.Frag} {H H' : Hp} {p : Addr} {ds : List PyData} (h : ListAt K H p ds) (e : Same H H') : ListAt K H' p ds := by
  obtain ⟨xs, hx, ax⟩ := h
  exact ⟨xs, e _ _ hx, DtAll.mono e ax⟩
theorem eqv_nil (ds : List PyData) : PyData.eqv (.tuple ds) (.tuple []) = ds.isEmpty := by
  cases ds <;> simp [PyData.eqv, PyData.eqvAll]
theorem listAt_upd {K : PySem.W.Frag} {H : Hp} {l l' : Addr} {ds : List PyData} {xs : List V} {o : HO} (h : ListAt K H l ds) (ne : l ≠ l') (hl : H l' = some (.lst xs)) : ListAt K (upd H l' o) l ds := by
  obtain ⟨ys, hy, ay⟩ := h
  exact ⟨ys, by rw [upd_ne ne]; exact hy, DtAll.keepT (KeepT.upd hl) ay⟩
theorem listAt_app {K : PySem.W.Frag} {H : Hp} {l : Addr} {ds : List PyData} {xs : List V} {v : V} {d : PyData} (h : ListAt K H l ds) (hl : H l = some (.lst xs)) (hd : Dt K H v d) : ListAt K (upd H l (.lst (xs ++ [v]))) l (ds ++ [d]) := by
  obtain ⟨ys, hy, ay⟩ := h
  rw [hl] at hy
  obtain rfl := HO.lst.inj (Option.some.inj hy)
  exact ⟨_, upd_same, DtAll.app (DtAll.keepT (KeepT.upd hl) ay) (.cons (Dt.keepT (KeepT.upd hl) hd) .nil)⟩
theorem listAt_keep {K : PySem.W.Frag} {H H' : Hp} {l p : Addr} {ds : List PyData} (h : ListAt K H l ds) (e : Keep p H H') (ne : l ≠ p) (hp : ∃ xs, H p = some (.lst xs)) : ListAt K H' l ds := by
  obtain ⟨ys, hy, ay⟩ := h
  exact ⟨ys, e _ _ hy ne, DtAll.keepT (Keep.keepT e hp) ay⟩
theorem listAt_made {K : PySem.W.Frag} {H : Hp} {l : Addr} {xs : List V} {ds : List PyData} (hl : H l = none) (h : DtAll K H xs ds) : ListAt K (upd H l (.lst xs)) l ds := ⟨xs, upd_same, DtAll.mono (Same.new hl) h⟩
/-! how long the objects at the beginning are, shown -/
def shortS (n : Str) : Bool := decide (n.length ≤ 40) && n.cps.toList.all (fun c => decide (c < 16 ^ 8))
theorem Sm.short {n : Str} (h : shortS n = true) : Sm (.str n) 0 500 := by
  obtain ⟨h1, h2⟩ := Bool.and_eq_true_iff.mp h
  exact (Sm.str (of_decide_eq_true h1) (strOk n h2)).mono (by decide) (by decide)
theorem cls_short : ∀ n ∈ clsNames, shortS n = true := by decide +kernel
theorem built_short : ∀ n ∈ builtNames, shortS n = true := by decide +kernel
theorem Sm.nm {k n : Str} (hk : shortS k = true) (hn : shortS n = true) : Sm (nameVar k n) 3 4000 :=
  (Sm.tup (.cons (Sm.short hn) (.cons (Sm.tup (.cons (Sm.short hk) (.cons (Sm.short hn) .nil))) .nil))).mono (by decide) (by decide)
theorem Sm.cv {i : Nat} {n : Str} (hi : i < 1000) (hn : shortS n = true) : Sm (clsVar i n) 3 4000 :=
  (Sm.tup (.cons (Sm.short hn) (.cons (Sm.tup (.cons (Sm.short (n := "ref") (by decide +kernel)) (.cons (Sm.int (Nat.lt_of_lt_of_le (show ((i : Int) + 1).natAbs < 2 ^ 20 by omega) (Nat.pow_le_pow_right (by decide) (by decide)))) .nil))) .nil))).mono (by decide) (by decide)
theorem Sm.co {b : Int} {n : Str} (hb : b.natAbs < 1000) (hn : shortS n = true) : Sm (clsObj n b) 3 4000 :=
  (Sm.tup (.cons (Sm.short (n := "class") (by decide +kernel)) (.cons (Sm.short hn) (.cons (Sm.int (Nat.lt_of_lt_of_le (show b.natAbs < 2 ^ 20 by omega) (Nat.pow_le_pow_right (by decide) (by decide)))) (.cons (Sm.tup .nil) .nil))))).mono (by decide) (by decide)
theorem SmAll.mem {ds : List PyData} {dp n N m M : Nat} (h : SmAll ds dp n N) (h1 : n ≤ m) (h2 : N ≤ M) : SmAll ds dp m M := ⟨h.ok, h.dp, Nat.le_trans h.len h1, Nat.le_trans h.sz h2⟩
theorem sm_vars {hs : List Str} {L : Nat} (h : ∀ n ∈ hs, shortS n = true) (hl : hs.length ≤ L) : SmAll (startVars hs) 3 (29 + L) (4000 * (29 + L)) := by
  have h1 : ∀ d ∈ startVars hs, Sm d 3 4000 := fun d hd => by
    rcases List.mem_append.mp hd with hd | hd
    · rcases List.mem_append.mp hd with hd | hd
      · obtain ⟨i, hi, rfl⟩ := List.mem_mapIdx.mp hd
        exact Sm.cv (Nat.lt_trans hi (by decide)) (cls_short _ (List.getElem_mem hi))
      · obtain ⟨n, hn, rfl⟩ := List.mem_map.mp hd
        exact Sm.nm (by decide +kernel) (built_short n hn)
    · obtain ⟨n, hn, rfl⟩ := List.mem_map.mp hd
      exact Sm.nm (by decide +kernel) (h n hn)
  have hlen : (startVars hs).length = 29 + hs.length := by
    simp only [startVars, List.length_append, List.length_map]
    have : clsVars.length = 16 := by decide
    have : builtNames.length = 13 := by decide
    omega
  exact (SmAll.many h1).mem (by omega) (by omega)
theorem sm_start {hs : List Str} {L : Nat} (h : ∀ n ∈ hs, shortS n = true) (hl : hs.length ≤ L) : ∀ d ∈ startD hs, Sm d 5 (5000 * (30 + L)) := fun d hd => by
  rcases List.mem_cons.mp hd with rfl | hd
  · exact (Sm.tup (.cons (Sm.short (n := "scope") (by decide +kernel)) (.cons (Sm.tup (sm_vars h hl)) (.cons (Sm.tup .nil) (.cons (Sm.tup .nil) (.cons (Sm.int (by decide)) (.cons (Sm.bool false) .nil))))))).mono (by decide) (by omega)
  · have : ∃ n b, d = clsObj n b ∧ n ∈ clsNames ∧ b.natAbs < 1000 := by
      have key : ∀ q ∈ List.zip clsNames clsBases, q.1 ∈ clsNames ∧ q.2.natAbs < 1000 := by decide +kernel
      rw [← List.map_uncurry_zip_eq_zipWith] at hd
      obtain ⟨q, hq, rfl⟩ := List.mem_map.mp hd
      exact ⟨q.1, q.2, rfl, key q hq⟩
    obtain ⟨n, b, rfl, hn, hb⟩ := this
    exact (Sm.co hb (cls_short n hn)).mono (by decide) (by omega)
theorem start_cls {hs : List Str} {k : Nat} (h1 : 1 ≤ k) (h2 : k ≤ 16) : ∃ rest, (startD hs)[k]? = some (.tuple (.str "class" :: rest)) := by
  obtain ⟨j, rfl⟩ : ∃ j, k = j + 1 := ⟨k - 1, by omega⟩
  have l1 : clsNames.length = 16 := by decide
  have l2 : clsBases.length = 16 := by decide
  refine ⟨[.str clsNames[j]!, .int clsBases[j]!, .tuple []], ?_⟩
  have e1 : clsNames[j]? = some clsNames[j]! := by rw [List.getElem!_eq_getElem?_getD]; rw [List.getElem?_eq_getElem (by omega)]; rfl
  have e2 : clsBases[j]? = some clsBases[j]! := by rw [List.getElem!_eq_getElem?_getD]; rw [List.getElem?_eq_getElem (by omega)]; rfl
  show (List.zipWith clsObj clsNames clsBases)[j]? = _
  rw [List.getElem?_zipWith, e1, e2]
  rfl
end LK

set_option Elab.async false
set_option linter.all false
set_option maxRecDepth 100000
set_option maxHeartbeats 4000000
set_option exponentiation.threshold 3000
/-! tuple * 1; rows: texts or tuples at one place; the type of what is read as a tuple; data equal to itself. -/
namespace LK
open PySem PySem.Spec PyProof.Rows L2
theorem tuple_mul1 (l : Addr) (items : Array Value) (n : Nat) (dd : Option Addr) (sl : Array (Option Value)) (u : Tok) :
    Meets (Builtin.«tuple.__mul__» ⟨[.ref l, .int 1 u], []⟩) (fun _ R s => s.heap.get? l = some { cls := .type "tuple", dict := dd, data := .seq items n, slots := sl } ∧ R (.ok (.ret (Value.ref l))) s) :=
  .of_wp fun prog w A R s h => by
    obtain ⟨hp, g, d, tk, os⟩ := s
    obtain ⟨hl, h⟩ := h
    have f1 := AutoSeq1.idx_int
    have c0 : (decide ((1 : Int) < -(2 ^ 63)) || decide ((1 : Int) ≥ 2 ^ 63)) = false := by decide
    have c1 : (items.isEmpty || (1 : Int) == 1) = true := by simp
    wp_walk using wpAny_loadPart' hl
    exact ⟨_, rfl, h⟩
/-- a tuple times an int from 1 to 1000 -/
def rRepTA (K : PySem.W.Frag) : R2 := fun x y H Q => ∃ l k xs, x = .ref l ∧ y = .int k ∧ SqT K H l xs ∧ xs ≠ [] ∧ 1 ≤ k ∧ k ≤ 1000 ∧ xs.length ≤ 1000 ∧ (k = 1 → Q (.ref l) H) ∧ (k ≠ 1 → ∀ p, H p = none → Q (.ref p) (upd H p (.tup (List.replicate k.toNat xs).flatten)))
section
variable {X : Cx}
theorem op_repTA : OpR X (binaryOp .Mult) (rRepTA X.K) := by
  intro pins s σ H x y v u Q I rx ry h
  obtain ⟨l, k, xs, rfl, rfl, hT, hne, h1, h2, hz, q1, q2⟩ := h
  by_cases hk : k = 1
  · subst hk
    cases rx
    obtain ⟨t, rfl⟩ := ry
    obtain ⟨its, r, ⟨⟨cls, dd, data, sl⟩, ho, hc, n, hd⟩, hs⟩ := I.tuple hT
    simp only at hc hd
    subst hc hd
    refine wpAny_binaryOp_repeat_ref (T := "tuple") (U := "int") (by decide) ⟨_, ho, rfl⟩ (fun s' => typeIs_int s' 1 t) noFill_tuple_mul F.fills_int_mul F.slot_int_rmul repeat_tuple F.slot_int_index.lookup
      (call_meets F.slot_int_rmul (typeIs_int s 1 t) F.entry_int_rmul (F.args_int_rmul_2 _ _) (int_rmul_tuple 1 t l its.toArray n dd sl)
        ⟨ho, rfl, ⟨_, ho, rfl⟩, call_meets F.slot_tuple_mul ⟨_, ho, rfl⟩ F.entry_tuple_mul (F.args_tuple_mul_2 _ _) (tuple_mul1 l its.toArray n dd sl t) ⟨ho, ?_⟩⟩)
    exact ⟨.ref l, H, I, rfl, q1 rfl⟩
  · exact op_repT pins s σ H _ _ v u Q I rx ry ⟨l, k, xs, rfl, rfl, hT, hne, by omega, h2, hz, q2 hk⟩
end
theorem SqT.tyX {K : PySem.W.Frag} {H : Hp} {a : Addr} {xs : List V} (h : SqT K H a xs) : TyX K H (.ref a) (.type "tuple") := by
  rcases h with (h | ⟨o, h⟩) | ⟨o, its, n, e, c, _⟩
  · exact .base (.tup h)
  · exact .fTuple h
  · exact .kTuple e c
/-! ### data equal to itself -/
mutual
theorem eqv_self : ∀ {d : PyData}, d.canLay0 = true → PyData.eqv d d = true
  | .none, _ => by simp [PyData.eqv]
  | .bool _, _ => by simp [PyData.eqv]
  | .int _, _ => by simp [PyData.eqv]
  | .str _, _ => by simp [PyData.eqv]
  | .list xs, h => by rw [PyData.eqv]; exact eqvAll_self (by simpa [PyData.canLay0] using h)
  | .tuple xs, h => by rw [PyData.eqv]; exact eqvAll_self (by simpa [PyData.canLay0] using h)
  | .dict _, h => absurd h (by simp [PyData.canLay0])
theorem eqvAll_self : ∀ {xs : List PyData}, PyData.canLayAll0 xs = true → PyData.eqvAll xs xs = true
  | [], _ => by simp [PyData.eqvAll]
  | x :: xs, h => by
    rw [PyData.canLayAll0, Bool.and_eq_true] at h
    rw [PyData.eqvAll, eqv_self h.1, eqvAll_self h.2]; rfl
end
theorem canLayAll0_of {ds : List PyData} (h : ∀ d ∈ ds, d.canLay0 = true) : PyData.canLayAll0 ds = true := by
  induction ds with
  | nil => rfl
  | cons d ds ih => rw [PyData.canLayAll0, h d (by simp), ih fun e he => h e (List.mem_cons_of_mem _ he)]; rfl
theorem depthAll_of {ds : List PyData} {n : Nat} (h : ∀ d ∈ ds, d.depth ≤ n) : PyData.depthAll ds ≤ n := by
  induction ds with
  | nil => exact Nat.zero_le _
  | cons d ds ih => rw [PyData.depthAll]; exact Nat.max_le.mpr ⟨h d (by simp), ih fun e he => h e (List.mem_cons_of_mem _ he)⟩
/-! ### rows: a text, or a tuple of small ints -/
def Item (d : PyData) : Prop := ∃ i : Int, d = .tuple [.str "int", .int i] ∧ 0 ≤ i ∧ i < 11
def Low (z : Str) : Prop := ∀ c ∈ z.cps.toList, c < 128
inductive Row : Bool → PyData → Nat → Prop
  | txt {z : Str} {n : Nat} : z.length = n → Low z → Row true (.str z) n
  | tup {ds : List PyData} {n : Nat} : ds.length = n → (∀ d ∈ ds, Item d) → Row false (.tuple ds) n
def catD : PyData → PyData → PyData
  | .str a, .str b => .str (a ++ b)
  | .tuple a, .tuple b => .tuple (a ++ b)
  | a, _ => a
def repD (d : PyData) (k : Int) : PyData := match d with
  | .str a => .str (repS a k)
  | .tuple a => .tuple (List.replicate k.toNat a).flatten
  | a => a
def noneD : PyData → PyData
  | .str a => .str (cutS a none (some 0))
  | .tuple _ => .tuple []
  | a => a
theorem len_app (a b : Str) : (a ++ b).length = a.length + b.length := strLen_append a b
theorem len_rep (z : Str) (k : Int) : (repS z k).length = z.length * k.toNat := by
  show (repC z.cps.toList k).toArray.size = _
  rw [List.size_toArray, repC_length, Nat.mul_comm]
  simp [Str.length]
theorem Low.app {a b : Str} (h : Low a) (g : Low b) : Low (a ++ b) := by
  intro c hc
  have e : (a ++ b).cps.toList = a.cps.toList ++ b.cps.toList := by
    show (a.cps ++ b.cps).toList = _
    simp
  rw [e] at hc
  rcases List.mem_append.mp hc with hc | hc
  · exact h c hc
  · exact g c hc
theorem Low.rep {a : Str} (h : Low a) (k : Int) : Low (repS a k) := by
  intro c hc
  have hc : c ∈ (List.replicate k.toNat a.cps.toList).flatten := by simpa [repS, repC] using hc
  obtain ⟨l, hl, hcl⟩ := List.mem_flatten.mp hc
  exact h c (List.eq_of_mem_replicate hl ▸ hcl)
theorem Low.cut {a : Str} (h : Low a) (lo hi : Option Int) : Low (cutS a lo hi) := by
  intro c hc
  have hc : c ∈ (a.cps.toList.drop (HT.sIx a.length 0 lo)).take (HT.sIx a.length a.length hi - HT.sIx a.length 0 lo) := hc
  exact h c (List.mem_of_mem_drop (List.mem_of_mem_take hc))
theorem cut_to (a : Str) (m : Nat) : (cutS a none (some (m : Int))).length ≤ m := by
  show ((a.cps.toList.drop (HT.sIx a.length 0 none)).take (HT.sIx a.length a.length (some (m : Int)) - HT.sIx a.length 0 none)).toArray.size ≤ m
  rw [List.size_toArray, List.length_take, HT.sIx_nat]
  omega
theorem Row.cat {t : Bool} {a b : PyData} {n m : Nat} (h : Row t a n) (g : Row t b m) : Row t (catD a b) (n + m) := by
  cases h with
  | txt e l =>
    cases g with
    | txt e2 l2 => exact .txt (by rw [len_app, e, e2]) (l.app l2)
  | tup e l =>
    cases g with
    | tup e2 l2 => exact .tup (by rw [List.length_append, e, e2]) fun d hd => (List.mem_append.mp hd).elim (l d) (l2 d)
theorem Row.rep {t : Bool} {a : PyData} {n : Nat} (h : Row t a n) (k : Int) : Row t (repD a k) (n * k.toNat) := by
  cases h with
  | txt e l => exact .txt (by rw [len_rep, e]) (l.rep k)
  | tup e l =>
    refine .tup (by rw [PyProof.Rows.lm_len_rep_flat, e, Nat.mul_comm]) fun d hd => ?_
    obtain ⟨x, hx, hdx⟩ := List.mem_flatten.mp hd
    exact l d (List.eq_of_mem_replicate hx ▸ hdx)
theorem Row.none {t : Bool} {a : PyData} {n : Nat} (h : Row t a n) : Row t (noneD a) 0 := by
  cases h with
  | @txt z _ e l => exact .txt (Nat.le_zero.mp (cut_to z 0)) (l.cut _ _)
  | tup e l => exact .tup rfl fun d hd => by cases hd
theorem Item.sm {d : PyData} (h : Item d) : Sm d 1 3000 := by
  obtain ⟨i, rfl, h0, h1⟩ := h
  exact (Sm.tup (.cons (Sm.short (n := "int") (by decide +kernel)) (.cons (Sm.int (Nat.lt_of_lt_of_le (show i.natAbs < 2 ^ 20 by omega) (Nat.pow_le_pow_right (by decide) (by decide)))) .nil))).mono (by decide) (by decide)
theorem Row.sm {t : Bool} {d : PyData} {n : Nat} (h : Row t d n) (hn : n ≤ 1000) : Sm d 2 3100000 := by
  cases h with
  | txt e l => exact (Sm.str (n := 1000) (by omega) fun c hc => Nat.lt_of_lt_of_le (l c hc) (by decide)).mono (by decide) (by decide)
  | tup e l => exact (Sm.tup ((SmAll.many fun d hd => (l d hd).sm).mem (m := 1000) (M := 3000000) (by omega) (by omega))).mono (by decide) (by decide)
theorem Row.lay {t : Bool} {d : PyData} {n : Nat} (h : Row t d n) : d.canLay0 = true := by
  cases h with
  | @txt z _ e l =>
    rw [PyData.canLay0]
    exact Array.all_eq_true_iff_forall_mem.mpr fun c hc => by
      have := l c (Array.mem_toList_iff.mpr hc)
      exact decide_eq_true (by omega)
  | tup e l =>
    rw [PyData.canLay0]
    exact canLayAll0_of fun d hd => by obtain ⟨i, rfl, _⟩ := l d hd; simp only [PyData.canLay0, PyData.canLayAll0, Bool.and_true]; decide +kernel
section
variable {X : Cx}
/-- a + b, two rows -/
def rCatD (K : PySem.W.Frag) : R2 := fun x y H Q => ∃ (t : Bool) (a b : PyData) (n m : Nat), Row t a n ∧ Row t b m ∧ Dt K H x a ∧ Dt K H y b ∧ n + m ≤ 2000 ∧ ∀ v H', Same H H' → Dt K H' v (catD a b) → Q v H'
theorem op_catD : OpR X (binaryOp .Add) (rCatD X.K) := by
  intro pins s σ H x y v u Q I rx ry h
  obtain ⟨t, a, b, n, m, ha, hb, da, db, hz, q⟩ := h
  cases ha with
  | txt e l =>
    cases hb with
    | txt e2 l2 =>
      cases da.str_inv; cases db.str_inv
      exact op_add_str pins s σ H _ _ v u Q I rx ry ⟨_, _, rfl, rfl, by rw [e, e2]; exact Nat.le_trans hz (by decide), q _ _ (Same.refl _) (.str _)⟩
  | @tup ds _ e l =>
    cases hb with
    | @tup es _ e2 l2 =>
      obtain ⟨p, xs, rfl, hs, ax⟩ := da.tuple_inv
      obtain ⟨p2, ys, rfl, hs2, ay⟩ := db.tuple_inv
      have lx := ax.length
      have ly := ay.length
      refine op_catA pins s σ H _ _ v u Q I rx ry ⟨p, p2, xs, ys, rfl, rfl, hs, hs2, by rw [lx, ly, e, e2]; exact Nat.le_trans hz (by decide), fun h0 => ?_, fun _ h0 => ?_, fun _ _ z hz => ?_⟩
      · subst h0
        have : ds = [] := List.eq_nil_of_length_eq_zero (by rw [← lx]; rfl)
        subst this
        exact q _ _ (Same.refl _) db
      · subst h0
        have : es = [] := List.eq_nil_of_length_eq_zero (by rw [← ly]; rfl)
        subst this
        refine q _ _ (Same.refl _) ?_
        show Dt X.K H (.ref p) (.tuple (ds ++ []))
        rw [List.append_nil]; exact da
      · exact q _ _ (Same.new hz) (Dt.made hz (DtAll.app ax ay))
/-- a * k, a row and an int -/
def rRepD (K : PySem.W.Frag) : R2 := fun x y H Q => ∃ (t : Bool) (a : PyData) (n : Nat) (k : Int), Row t a n ∧ Dt K H x a ∧ y = .int k ∧ 1 ≤ n ∧ 1 ≤ k ∧ n * k ≤ 1000 ∧ ∀ v H', Same H H' → Dt K H' v (repD a k) → Q v H'
theorem dtRep {K : PySem.W.Frag} {H : Hp} {xs : List V} {ds : List PyData} (h : DtAll K H xs ds) : ∀ m : Nat, DtAll K H (List.replicate m xs).flatten (List.replicate m ds).flatten
  | 0 => .nil
  | m + 1 => by
    rw [List.replicate_succ, List.flatten_cons, List.replicate_succ, List.flatten_cons]
    exact DtAll.app h (dtRep h m)
theorem op_repD : OpR X (binaryOp .Mult) (rRepD X.K) := by
  intro pins s σ H x y v u Q I rx ry h
  obtain ⟨t, a, n, k, ha, da, rfl, hn, hk, hz, q⟩ := h
  have k1 : k ≤ 1000 := by
    have : 1 * k ≤ n * k := Int.mul_le_mul_of_nonneg_right (by omega) (by omega)
    omega
  have n1 : n ≤ 1000 := by
    have : (n : Int) * 1 ≤ n * k := Int.mul_le_mul_of_nonneg_left hk (by omega)
    omega
  cases ha with
  | txt e l =>
    cases da.str_inv
    refine op_rep_str pins s σ H _ _ v u Q I rx ry ⟨_, k, rfl, rfl, by omega, by omega, ?_, q _ _ (Same.refl _) (.str _)⟩
    rw [e]
    exact Nat.le_trans (Nat.mul_le_mul n1 (show k.toNat ≤ 1000 by omega)) (by decide)
  | @tup ds _ e l =>
    obtain ⟨p, xs, rfl, hs, ax⟩ := da.tuple_inv
    have lx := ax.length
    refine op_repTA pins s σ H _ _ v u Q I rx ry ⟨p, k, xs, rfl, rfl, hs, fun z => ?_, hk, k1, by omega, fun h1 => ?_, fun h1 z hz => ?_⟩
    · subst z
      rw [List.length_nil] at lx
      omega
    · subst h1
      refine q _ _ (Same.refl _) ?_
      show Dt X.K H (.ref p) (.tuple (List.replicate 1 ds).flatten)
      rw [show (List.replicate 1 ds).flatten = ds by simp]
      exact da
    · exact q _ _ (Same.new hz) (Dt.made hz (dtRep ax _))
/-- a[:0], a row -/
def rNoneD (K : PySem.W.Frag) : V → Option Int → Option Int → Hp → VK → Prop := fun x lo hi H Q => ∃ (t : Bool) (a : PyData) (n : Nat), Row t a n ∧ Dt K H x a ∧ n ≤ 2000 ∧ lo = none ∧ hi = some 0 ∧ ∀ v H', Same H H' → Dt K H' v (noneD a) → Q v H'
theorem sl_noneD : SlR X (rNoneD X.K) := by
  intro pins s σ H x v vl vu lo hi sl Q I rx hs pl pu h
  obtain ⟨t, a, n, ha, da, hn, rfl, rfl, q⟩ := h
  cases ha with
  | txt e l =>
    cases da.str_inv
    exact sl_str pins s σ H _ v vl vu _ _ sl Q I rx hs pl pu ⟨_, rfl, by rw [e]; exact Nat.le_trans hn (by decide), q _ _ (Same.refl _) (.str _)⟩
  | @tup ds _ e l =>
    obtain ⟨p, xs, rfl, hq, ax⟩ := da.tuple_inv
    have lx := ax.length
    refine sl_tupA pins s σ H _ v vl vu _ _ sl Q I rx hs pl pu ⟨p, xs, rfl, hq, fun hw => ?_, fun _ z hz => ?_⟩
    · have h0 : ds.length = 0 := by
        have := hw.2
        rw [show (some (0 : Int)) = some ((0 : Nat) : Int) from rfl, HT.sIx_nat] at this
        omega
      have := List.eq_nil_of_length_eq_zero h0
      subst this
      exact q _ _ (Same.refl _) da
    · refine q _ _ (Same.new hz) (Dt.made hz ?_)
      have : cutV xs none (some 0) = [] := by
        apply List.eq_nil_of_length_eq_zero
        unfold cutV
        rw [List.length_take, show (some (0 : Int)) = some ((0 : Nat) : Int) from rfl, HT.sIx_nat]
        omega
      rw [this]
      exact .nil
/-- len(a), a row -/
def rLenD (K : PySem.W.Frag) : List V → Hp → VK → Prop := fun vs H Q => ∃ (v : V) (t : Bool) (a : PyData) (n : Nat), vs = [v] ∧ Row t a n ∧ Dt K H v a ∧ n ≤ 2000 ∧ Q (.int (n : Int)) H
theorem call_lenD' : CallR X (.builtin "len") (rLenD X.K) := by
  intro pins s σ H xs us Q I r h
  obtain ⟨v, t, a, n, rfl, ha, da, hn, q⟩ := h
  cases ha with
  | txt e l =>
    cases da.str_inv
    exact call_len pins s σ H _ us Q I r ⟨_, n, rfl, ⟨by rw [e]; exact Nat.le_trans hn (by decide), e.symm⟩, q⟩
  | @tup ds _ e l =>
    obtain ⟨p, ys, rfl, hq, ax⟩ := da.tuple_inv
    exact call_len pins s σ H _ us Q I r ⟨_, n, rfl, .inr ⟨_, hq, by rw [ax.length, e]⟩, q⟩
end
end LK

set_option Elab.async false
set_option linter.all false
set_option maxRecDepth 100000
set_option maxHeartbeats 4000000
set_option exponentiation.threshold 3000
/-! Letters, digits, underscores; texts of the top. -/
namespace LK
open PySem PySem.Spec PyProof.Rows L2 SX
def isD (c : Nat) : Bool := decide (48 ≤ c) && decide (c ≤ 57)
def isL (c : Nat) : Bool := (decide (65 ≤ c) && decide (c ≤ 90)) || (decide (97 ≤ c) && decide (c ≤ 122)) || c == 95
def isW (c : Nat) : Bool := isD c || isL c
theorem isW_lt {c : Nat} (h : isW c = true) : c < 128 := by
  simp [isW, isD, isL] at h; omega
theorem uni_alpha : ∀ c < 128, Unicode.isAlpha c = (isL c && c != 95) := by decide +kernel
theorem uni_digit : ∀ c < 128, Unicode.isDigit c = isD c := by decide +kernel
theorem uni_alnum : ∀ c < 128, Unicode.isAlnum c = (isW c && c != 95) := by decide +kernel
theorem alpha1 {c : Nat} (h : c < 128) : Txt.isalpha (S [c]) = (isL c && c != 95) := by
  show (decide ((S [c]).length > 0) && (S [c]).cps.all Unicode.isAlpha) = _
  rw [S_len]; simp [S, uni_alpha c h]
theorem digit1 {c : Nat} (h : c < 128) : Txt.isdigit (S [c]) = isD c := by
  show (decide ((S [c]).length > 0) && (S [c]).cps.all Unicode.isDigit) = _
  rw [S_len]; simp [S, uni_digit c h]
theorem alnum1 {c : Nat} (h : c < 128) : Txt.isalnum (S [c]) = (isW c && c != 95) := by
  show (decide ((S [c]).length > 0) && (S [c]).cps.all Unicode.isAlnum) = _
  rw [S_len]; simp [S, uni_alnum c h]
theorem digitS {a : List Nat} (h : ∀ c ∈ a, c < 128) (hne : a ≠ []) : Txt.isdigit (S a) = a.all isD := by
  show (decide ((S a).length > 0) && (S a).cps.all Unicode.isDigit) = _
  have : 0 < a.length := List.length_pos_iff.mpr hne
  rw [S_len, decide_eq_true this, Bool.true_and]
  show a.toArray.all Unicode.isDigit = _
  rw [List.all_toArray]
  apply Bool.eq_iff_iff.mpr
  rw [List.all_eq_true, List.all_eq_true]
  exact ⟨fun g c hc => uni_digit c (h c hc) ▸ g c hc, fun g c hc => (uni_digit c (h c hc)).symm ▸ g c hc⟩
/-! texts of the top -/
def GStr (mg : Str → Option Value) (x : Str) (z : Str) : Prop := ∃ t, mg x = some (.str z t)
def HasStr (K : PySem.W.Frag) (x : Str) (p : Str → Prop) : Prop := ∃ (z : Str) (t : Tok), PySem.W.nsIn K mainGlobals x = some (some (.str z t)) ∧ p z
theorem HasStr.mk' {K : PySem.W.Frag} {x : Str} {p : Str → Prop} {z : Str} {t : Tok} (a : PySem.W.nsIn K mainGlobals x = some (some (.str z t))) (b : p z) : HasStr K x p := ⟨z, t, a, b⟩
theorem HasStr.g {K : PySem.W.Frag} {mg : Str → Option Value} {h : Heap} {x : Str} {p : Str → Prop} (i : HasStr K x p) (X : K.In h) (G : h.Ns mainGlobals mg) : ∃ z, GStr mg x z ∧ p z := by
  obtain ⟨z, t, e, hp⟩ := i
  exact ⟨z, ⟨t, PySem.W.mg_of X G e⟩, hp⟩
theorem pe_globS {X : Cx} {x z : Str} {pos : Pos} (h : GStr X.mg x z) (hg : Gl X x) (hd : (x == ("__debug__" : Str)) = false := by decide) : PE X (.Name x pos) (tC (.str z)) := by
  obtain ⟨t, e⟩ := h
  exact pe_glob hg e ⟨t, rfl⟩ hd
theorem split1 {a : List Nat} {c : Nat} (h : c ∉ a) (hc : c < 256) : Txt.split (S a) (S [c]) = [S a] := by
  rw [split_S (by simp) (by simpa using hc)]
  have := SX.spl_join (c := c) (sep := []) (parts := [a]) (by simp) (by simpa using h)
  have e : TL.joinL [c] [a] = a := by simp [TL.joinL]
  rw [e] at this
  rw [this]; rfl
theorem lstrip1 {a : List Nat} {b : List Nat} (h : ∀ c, a.head? = some c → c ∉ b) : Txt.lstripChars (S a) (S b) = S a := by
  have e1 : (S a).cps.toList.takeWhile (S b).cps.contains = [] := tw0 a fun c hc => by
    have := h c hc
    show b.toArray.contains c = false
    rw [List.contains_toArray]
    simpa using this
  have e0 : stripLo (S b).cps.contains true (S a) = 0 := by
    unfold stripLo
    rw [if_pos rfl, e1] <;> rfl
  have e3 : stripHi (S b).cps.contains false (S a) 0 = (S a).length := by
    unfold stripHi
    rw [if_neg Bool.false_ne_true]
  unfold Txt.lstripChars Txt.stripBy stripSame
  rw [e0, e3]
  exact if_pos (by simp)
/-! while, its test's reading made monotone -/
def tUp (c : TT) : TT := fun σ H Q => ∃ P : Bool → Hp → Prop, c σ H P ∧ ∀ b H1, P b H1 → Q b H1
theorem pt_up {X : Cx} {e : Expr} {c : TT} (h : PT X e c) : PT X e (tUp c) :=
  ⟨fun pins s σ H Q I ⟨P, hP, k⟩ => thn (h.run pins s σ H P I hP) fun b s1 ⟨H1, I1, q⟩ => ⟨H1, I1, k _ _ q⟩⟩
theorem while_up {c : TT} {tb : TS} {D : Ends} {σ : L2.St} {H : Hp} (Pv : L2.St → Hp → Prop) (μ : L2.St → Hp → Nat) (h0 : Pv σ H)
    (hs : ∀ σ H, Pv σ H → c σ H fun b H1 => if b = true then tb { D with nx := fun σ' H' => Pv σ' H' ∧ μ σ' H' < μ σ H, ct := fun σ' H' => Pv σ' H' ∧ μ σ' H' < μ σ H, bk := D.nx } σ H1 else D.nx σ H1) : tWhile (tUp c) tb D σ H :=
  while_by Pv μ h0 (fun σ H p => ⟨_, hs σ H p, fun _ _ h => h⟩) (fun σ H Q Q' hq ⟨P, hP, k⟩ => ⟨P, hP, fun b H1 h => hq b H1 (k b H1 h)⟩)
theorem nl_S : ("\n" : Str) = S [10] := by decide +kernel
theorem us_S : ("_" : Str) = S [95] := by decide +kernel
theorem sp_S : (" " : Str) = S [32] := by decide +kernel
theorem hash_S : ("#" : Str) = S [35] := by decide +kernel
theorem sign_eq {c d : Nat} : decide (V.str ⟨#[c]⟩ = V.str (S [d])) = decide (c = d) := by
  by_cases h : c = d
  · subst h; rw [decide_eq_true rfl, decide_eq_true rfl]
  · rw [decide_eq_false h, decide_eq_false]
    intro e
    have := S_inj (a := [c]) (b := [d]) (V.str.inj e)
    exact h (by simpa using this)
theorem str_eq {a b : List Nat} : decide (V.str (S a) = V.str (S b)) = decide (a = b) := by
  by_cases h : a = b
  · subst h; rw [decide_eq_true rfl, decide_eq_true rfl]
  · rw [decide_eq_false h, decide_eq_false]
    intro e
    exact h (S_inj (V.str.inj e))
theorem starts1 {c d : Nat} {r : List Nat} : Txt.startswith (S (c :: r)) (S [d]) = decide (c = d) := by
  show (decide (0 + (S [d]).length ≤ (S (c :: r)).length) && ((c :: r).toArray.extract 0 (0 + (S [d]).length) == [d].toArray)) = _
  rw [S_len, S_len]
  have e : (c :: r).toArray.extract 0 (0 + [d].length) = #[c] := by simp
  rw [e]
  by_cases h : c = d
  · subst h; simp
  · simp [h]
theorem at_S {a : List Nat} {j c : Nat} (h : a[j]? = some c) : atI (S a).cps.toList (j : Int) = some c := atI_nat h
theorem cut_all {a : List Nat} : cutS (S a) (some 0) (some ((a.length : Nat) : Int)) = S a := by
  unfold cutS
  rw [S_len, show (some (0 : Int)) = some ((0 : Nat) : Int) from rfl, HT.sIx_nat, HT.sIx_nat]
  show (⟨((a.drop (min 0 a.length)).take (min a.length a.length - min 0 a.length)).toArray⟩ : Str) = ⟨a.toArray⟩
  rw [Nat.zero_min, List.drop_zero, Nat.min_self, Nat.sub_zero, List.take_length]
/-! a promise at a higher level -/
theorem FnG.mono {P : Program} {w : World} {K : PySem.W.Frag} {mg : Str → Option Value} {base : Heap} {CX : CXT} {j k : Nat} {f : Addr} {fd : FuncData} {ps : List Str} {sp : Sp} (F : FnG P w K mg base CX j f fd ps sp) (h : j ≤ k) : FnG P w K mg base CX k f fd ps sp :=
  ⟨F.len, fun A outer s H args us vs Q E hr => F.run A outer s H args us vs Q E (hr.mono h)⟩
theorem Use.mono {P : Program} {w : World} {K : PySem.W.Frag} {mg : Str → Option Value} {base : Heap} {CX : CXT} {x : Str} {j k : Nat} {ps : List Str} {sp : Sp} (U : Use P w K mg base CX x j ps sp) (h : j ≤ k) : Use P w K mg base CX x k ps sp := by
  obtain ⟨f, fd, ok, r⟩ := U.ex
  exact ⟨f, fd, ok.mono h, r⟩
/-! the signs that a program may hold -/
def okC (c : Nat) : Bool := c == 10 || (decide (32 ≤ c) && decide (c ≤ 126) && c != 37)
theorem okC_lt {c : Nat} (h : okC c = true) : c < 128 := by
  simp [okC] at h; omega
theorem lstrip_sp (a : List Nat) : Txt.lstripChars (S a) (S [32]) = S (a.dropWhile (· == 32)) := by
  have e1 : (S a).cps.toList.takeWhile (S [32]).cps.contains = a.takeWhile (· == 32) := by
    show a.takeWhile _ = _
    congr 1
    funext c
    show #[32].contains c = _
    simp [Array.contains, BEq.comm]
  have el : (a.takeWhile (· == 32)).length ≤ a.length := (List.takeWhile_prefix _).length_le
  have ed : a.drop (a.takeWhile (· == 32)).length = a.dropWhile (· == 32) := by
    have h := List.takeWhile_append_dropWhile (p := (· == 32)) (l := a)
    have : (a.takeWhile (· == 32) ++ a.dropWhile (· == 32)).drop (a.takeWhile (· == 32)).length = a.dropWhile (· == 32) := List.drop_left
    rwa [h] at this
  have e0 : stripLo (S [32]).cps.contains true (S a) = (a.takeWhile (· == 32)).length := by
    unfold stripLo
    rw [if_pos rfl, e1] <;> rfl
  have e3 : stripHi (S [32]).cps.contains false (S a) (a.takeWhile (· == 32)).length = (S a).length := by
    unfold stripHi
    rw [if_neg Bool.false_ne_true]
  unfold Txt.lstripChars Txt.stripBy stripSame stripped
  rw [e0, e3]
  split
  · rename_i h
    simp at h
    have : (a.takeWhile (· == 32)).length = 0 := by simpa using h
    rw [this, List.drop_zero] at ed
    rw [← ed]
  · show (⟨a.toArray.extract (a.takeWhile (· == 32)).length (S a).length⟩ : Str) = _
    rw [S_len, ← ed]
    congr 1
    apply Array.toList_inj.mp
    simp only [Array.toList_extract, List.extract_eq_drop_take]
    exact List.take_of_length_le (by rw [List.length_drop]; omega)
/-- z[i:j] by codes -/
theorem cut_S {a : List Nat} {i j : Nat} (hi : i ≤ a.length) (hj : j ≤ a.length) : cutS (S a) (some ((i : Nat) : Int)) (some ((j : Nat) : Int)) = S ((a.drop i).take (j - i)) := by
  unfold cutS
  rw [S_len, HT.sIx_nat, HT.sIx_nat, Nat.min_eq_left hi, Nat.min_eq_left hj]
/-- a line: so many spaces, and perhaps a word -/
def lnT (s : Nat) (w : List Nat) : List Nat := List.replicate s 32 ++ w
theorem lnT_len (s : Nat) (w : List Nat) : (lnT s w).length = s + w.length := by simp [lnT]
theorem lnT_sp {s : Nat} {w : List Nat} {i : Nat} (h : i < s) : (lnT s w)[i]? = some 32 := by
  unfold lnT
  rw [List.getElem?_append_left (by simpa using h), List.getElem?_replicate, if_pos h]
theorem lnT_w {s : Nat} {w : List Nat} {i : Nat} : (lnT s w)[s + i]? = w[i]? := by
  unfold lnT
  rw [List.getElem?_append_right (by simp), List.length_replicate, Nat.add_sub_cancel_left]
theorem lnT_drop (s : Nat) (w : List Nat) : (lnT s w).drop s = w := by
  unfold lnT
  rw [List.drop_append_of_le_length (by simp)]
  simp
end LK

set_option Elab.async false
set_option linter.all false
set_option maxRecDepth 100000
set_option maxHeartbeats 4000000
set_option exponentiation.threshold 3000
/-! What several laws share: boxes and lists beside changes of other objects. -/
namespace LK
open PySem PySem.Spec PyProof.Rows L2
section
variable {K : PySem.W.Frag}
theorem BoxAt.ne_new {H : Hp} {p dl b : Addr} (B : BoxAt H p dl) (h : H b = none) : b ≠ p ∧ b ≠ dl := by
  obtain ⟨xs, g⟩ := B.at_
  obtain ⟨ys, g2⟩ := B.dg
  exact ⟨fun e => (by subst e; rw [h] at g; cases g), fun e => (by subst e; rw [h] at g2; cases g2)⟩
theorem BoxAt.kp {H H' : Hp} {p dl : Addr} (B : BoxAt H p dl) (h : ∀ b o, b = p ∨ b = dl → H b = some o → H' b = some o) : BoxAt H' p dl := by
  obtain ⟨ds, k, a, b, c, d⟩ := B
  exact ⟨ds, k, h _ _ (.inl rfl) a, b, h _ _ (.inr rfl) c, d⟩
theorem BoxAt.keep' {H H' : Hp} {p dl l : Addr} (B : BoxAt H p dl) (k : Keep l H H') (h1 : l ≠ p) (h2 : l ≠ dl) : BoxAt H' p dl :=
  B.kp fun b o hb e => k b o e (by
    rcases hb with rfl | rfl
    · exact Ne.symm h1
    · exact Ne.symm h2)
theorem BoxAt.keep2 {H H' : Hp} {p dl l m : Addr} (B : BoxAt H p dl) (k : ∀ b o, H b = some o → b ≠ l → b ≠ m → H' b = some o) (h1 : l ≠ p) (h2 : l ≠ dl) (h3 : m ≠ p) (h4 : m ≠ dl) : BoxAt H' p dl :=
  B.kp fun b o hb e => by
    rcases hb with rfl | rfl
    · exact k _ _ e (Ne.symm h1) (Ne.symm h3)
    · exact k _ _ e (Ne.symm h2) (Ne.symm h4)
theorem KeepT.ins {p C dx : Addr} {H : Hp} {o : HO} {fs : List (Str × V)} (hp : H p = some (.ins C dx fs)) : KeepT K H (L2.upd H p o) := fun a xs h => by
  rcases h with (h | ⟨o', h⟩) | h
  · exact .inl (.inl (by rw [upd_ne (ne_of h hp (by intro z; cases z))]; exact h))
  · exact .inl (.inr ⟨o', by rw [upd_ne (ne_of h hp (by intro z; cases z))]; exact h⟩)
  · exact .inr h
theorem listAt_ins {p C dx l : Addr} {H : Hp} {o : HO} {fs : List (Str × V)} {ds : List PyData} (h : ListAt K H l ds) (hp : H p = some (.ins C dx fs)) : ListAt K (upd H p o) l ds := by
  obtain ⟨xs, e, a⟩ := h
  exact ⟨xs, by rw [upd_ne (ne_of e hp (by intro z; cases z))]; exact e, DtAll.keepT (KeepT.ins hp) a⟩
theorem Low.zero : Low "" := fun c hc => by
  have e : ("" : Str).cps.toList = [] := by decide +kernel
  rw [e] at hc; cases hc
theorem DtAll.take {H : Hp} : ∀ (n : Nat) {vs : List V} {ds : List PyData}, DtAll K H vs ds → DtAll K H (vs.take n) (ds.take n)
  | 0, _, _, _ => .nil
  | _ + 1, _, _, .nil => .nil
  | n + 1, _, _, .cons h a => .cons h (DtAll.take n a)
theorem len_start0 : (startD []).length = 17 := by decide
theorem sm_start0 : ∀ d ∈ startD [], Sm d 5 150000 := fun d hd => sm_start (hs := []) (L := 0) (by simp) (by simp) d hd
theorem sm_heap {ds : List PyData} (h : ds.length ≤ 30) (sm : ∀ d ∈ ds, Sm d 5 150000) : ShowOk (.list ds) := (Sm.lst ((SmAll.many sm).mem (m := 30) (M := 4500000) h (by omega))).show (by decide) (by decide)
theorem ListAt.dp {H : Hp} {l : Addr} {ds : List PyData} (h : ListAt K H l ds) : Dp K H (.ref l) (.list ds) := let ⟨_, e, a⟩ := h; .lst (SqL.of e) a.dp
end
theorem FnG.or {P : Program} {w : World} {K : PySem.W.Frag} {mg : Str → Option Value} {base : Heap} {CX : CXT} {k : Nat} {f : Addr} {fd : FuncData} {ps : List Str} {sp sp' : Sp} (A : FnG P w K mg base CX k f fd ps sp) (B : FnG P w K mg base CX k f fd ps sp') :
    FnG P w K mg base CX k f fd ps (fun vs H Q E => sp vs H Q E ∨ sp' vs H Q E) where
  len := fun vs H Q E h => h.elim (A.len vs H Q E) (B.len vs H Q E)
  run := fun A' outer s H args us vs Q E hr hg he hb hv h => h.elim (A.run A' outer s H args us vs Q E hr hg he hb hv) (B.run A' outer s H args us vs Q E hr hg he hb hv)
/-- start_heap of a list of names -/
def spStartL (K : PySem.W.Frag) : Sp := fun vs H Q _ => ∃ (t : Addr) (hs : List Str), vs = [.ref t] ∧ SqL K H t (hs.map V.str) ∧ hs.length ≤ 1000 ∧
  ∀ (p : Addr) (H' : Hp), H p = none → Same H H' → ListAt K H' p (startD hs) → Q (.ref p) H'
def spStart2 (K : PySem.W.Frag) : Sp := fun vs H Q E => spStart K vs H Q E ∨ spStartL K vs H Q E
theorem ip_fdiv {X : Cx} : PIp X .FloorDiv (rI CDiv fun i j => .int (i / j)) := fun pins s σ H x y v u Q I r1 r2 h => iop_fdiv pins s σ H x y v u Q I r1 r2 h
theorem none_back0 {p np : Addr} {H H' : Hp} (K1 : Keep p H H') (B : ∃ xs, H' p = some (.lst xs)) (h : H' np = none) : H np = none := by
  cases e : H np with
  | none => rfl
  | some o =>
    by_cases ep : np = p
    · subst ep
      obtain ⟨xs, g⟩ := B
      rw [g] at h; cases h
    · rw [K1 _ _ e ep] at h; cases h
end LK

set_option Elab.async false
set_option linter.all false
set_option maxRecDepth 100000
set_option maxHeartbeats 4000000
/-! rows: texts by their codes, tuples of data; cut, joined, their length -/
namespace LK
open PySem PySem.Spec PyProof.Rows L2 SX
inductive RowD where
  | txt (cs : List Nat)
  | tup (ds : List PyData)
namespace RowD
def d : RowD → PyData
  | txt cs => .str (S cs)
  | tup ds => .tuple ds
def len : RowD → Nat
  | txt cs => cs.length
  | tup ds => ds.length
end RowD
/-- xs[lo:hi] -/
def cutG {α : Type} (xs : List α) (lo hi : Option Int) : List α := (xs.drop (HT.sIx xs.length 0 lo)).take (HT.sIx xs.length xs.length hi - HT.sIx xs.length 0 lo)
def RowD.cut (r : RowD) (lo hi : Option Int) : RowD := match r with
  | .txt cs => .txt (cutG cs lo hi)
  | .tup ds => .tup (cutG ds lo hi)
theorem cutG_nat {α : Type} (xs : List α) {i j : Nat} (hi : i ≤ xs.length) (hj : j ≤ xs.length) : cutG xs (some (i : Int)) (some (j : Int)) = (xs.drop i).take (j - i) := by
  unfold cutG
  rw [HT.sIx_nat, HT.sIx_nat, Nat.min_eq_left hi, Nat.min_eq_left hj]
theorem cutG_to {α : Type} (xs : List α) {j : Nat} (hj : j ≤ xs.length) : cutG xs none (some (j : Int)) = xs.take j := by
  unfold cutG
  rw [HT.sIx_none, HT.sIx_nat, Nat.min_eq_left hj, List.drop_zero, Nat.sub_zero]
theorem cutG_from {α : Type} (xs : List α) {j : Nat} (hj : j ≤ xs.length) : cutG xs (some (j : Int)) none = xs.drop j := by
  unfold cutG
  rw [HT.sIx_none, HT.sIx_nat, Nat.min_eq_left hj]
  exact List.take_of_length_le (by rw [List.length_drop]; omega)
theorem DtAll.drop {K : PySem.W.Frag} {H : Hp} : ∀ {vs : List V} {ds : List PyData} (n : Nat), DtAll K H vs ds → DtAll K H (vs.drop n) (ds.drop n)
  | _, _, 0, h => h
  | _, _, _ + 1, .nil => .nil
  | _, _, n + 1, .cons _ t => t.drop n
theorem DtAll.takeN {K : PySem.W.Frag} {H : Hp} : ∀ {vs : List V} {ds : List PyData} (n : Nat), DtAll K H vs ds → DtAll K H (vs.take n) (ds.take n)
  | _, _, 0, _ => by rw [List.take_zero, List.take_zero]; exact .nil
  | _, _, _ + 1, .nil => .nil
  | _, _, n + 1, .cons h t => .cons h (t.takeN n)
theorem DtAll.cutG {K : PySem.W.Frag} {H : Hp} {vs : List V} {ds : List PyData} (h : DtAll K H vs ds) (lo hi : Option Int) : DtAll K H (cutV vs lo hi) (cutG ds lo hi) := by
  unfold cutV LK.cutG
  rw [h.length]
  exact DtAll.takeN _ (h.drop _)
theorem cutS_G (cs : List Nat) (lo hi : Option Int) : cutS (S cs) lo hi = S (cutG cs lo hi) := by
  unfold cutS cutG
  rw [S_len]
section
variable {X : Cx}
def rSlR (K : PySem.W.Frag) : V → Option Int → Option Int → Hp → VK → Prop := fun x lo hi H Q => ∃ r : RowD, Dt K H x r.d ∧ r.len ≤ 2000 ∧ ∀ v H', Same H H' → Dt K H' v (r.cut lo hi).d → Q v H'
theorem sl_row : SlR X (rSlR X.K) := by
  intro pins s σ H x v vl vu lo hi sl Q I rx hs pl pu h
  obtain ⟨r, dr, hn, q⟩ := h
  cases r with
  | txt cs =>
    cases dr.str_inv
    refine sl_str pins s σ H _ v vl vu _ _ sl Q I rx hs pl pu ⟨_, rfl, by rw [S_len]; exact Nat.le_trans hn (by decide), q _ _ (Same.refl _) ?_⟩
    rw [cutS_G]
    exact .str _
  | tup ds =>
    obtain ⟨p, xs, rfl, hq, ax⟩ := dr.tuple_inv
    have lx := ax.length
    refine sl_tupA pins s σ H _ v vl vu _ _ sl Q I rx hs pl pu ⟨p, xs, rfl, hq, fun hw => ?_, fun _ z hz => ?_⟩
    · refine q _ _ (Same.refl _) ?_
      rw [lx] at hw
      show Dt _ _ _ (PyData.tuple (cutG ds lo hi))
      unfold cutG
      rw [hw.1, hw.2, List.drop_zero, Nat.sub_zero, List.take_length]
      exact dr
    · exact q _ _ (Same.new hz) (Dt.made hz (ax.cutG lo hi))
/-- len(a), a row -/
def rLenR (K : PySem.W.Frag) : List V → Hp → VK → Prop := fun vs H Q => ∃ (v : V) (r : RowD), vs = [v] ∧ Dt K H v r.d ∧ r.len ≤ 2000 ∧ Q (.int (r.len : Int)) H
theorem call_lenR : CallR X (.builtin "len") (rLenR X.K) := by
  intro pins s σ H xs us Q I r h
  obtain ⟨v, rw', rfl, da, hn, q⟩ := h
  cases rw' with
  | txt cs =>
    cases da.str_inv
    exact call_len pins s σ H _ us Q I r ⟨_, cs.length, rfl, ⟨by rw [S_len]; exact Nat.le_trans hn (by decide), (S_len _).symm⟩, q⟩
  | tup ds =>
    obtain ⟨p, ys, rfl, hq, ax⟩ := da.tuple_inv
    exact call_len pins s σ H _ us Q I r ⟨_, ds.length, rfl, .inr ⟨_, hq, ax.length.symm⟩, q⟩
/-- x + y, tuples of data -/
def rCatTD (K : PySem.W.Frag) : R2 := fun x y H Q => ∃ ds es : List PyData, Dt K H x (.tuple ds) ∧ Dt K H y (.tuple es) ∧ ds.length + es.length ≤ 2000 ∧ ∀ v H', Same H H' → Dt K H' v (.tuple (ds ++ es)) → Q v H'
theorem op_catTD : OpR X (binaryOp .Add) (rCatTD X.K) := by
  intro pins s σ H x y v u Q I rx ry h
  obtain ⟨ds, es, dx, dy, hz, q⟩ := h
  obtain ⟨a, xs, rfl, ha, ax⟩ := dx.tuple_inv
  obtain ⟨b, ys, rfl, hb, ay⟩ := dy.tuple_inv
  have lx := ax.length
  have ly := ay.length
  refine op_catA pins s σ H _ _ v u Q I rx ry ⟨a, b, xs, ys, rfl, rfl, ha, hb, by rw [lx, ly]; exact Nat.le_trans hz (by decide), fun e => ?_, fun _ e => ?_, fun _ _ p hp => ?_⟩
  · subst e
    cases ax
    exact q _ _ (Same.refl _) dy
  · subst e
    cases ay
    rw [List.append_nil] at q
    exact q _ _ (Same.refl _) dx
  · exact q _ _ (Same.new hp) (Dt.made hp (DtAll.app ax ay))
end
end LK

set_option Elab.async false
set_option linter.all false
set_option maxRecDepth 100000
set_option maxHeartbeats 4000000
/-! dict(zip(x, y)) of two tuples; dict(x) of a tuple of pairs that has no dict of its own; d.update(e) of a dict -/
namespace LK
open PySem PySem.Spec PyProof.Rows L2 SX
section
variable {prog : Program} {w : World} {A : Around} {E : Value → Shared → Prop} {s : Shared} {z TI TO i1 i2 : Addr} {fp1 fp2 : List Addr} {n1 n2 : Nat} {P1 P2 : Nat → Value → Prop} {St1 St2 : Nat → Heap → Prop} {i : Nat}
/-- the next pair while the one before is still known -/
theorem zipH_item {T : Addr} {f : Bool} {oT : Obj} {Q : Value → Shared → Prop} (S : ZipSep2 z TI TO i1 i2 fp1 fp2) (D1 : Draws prog w A i1 fp1 n1 P1 St1) (D2 : Draws prog w A i2 fp2 n2 P2 St2)
    (hz : IsZipHeld s.heap z TI TO T f) (hT : s.heap.get? T = some oT) (hTI : IsTupOf2 s.heap TI (.ref i1) (.ref i2)) (st1 : St1 i s.heap) (st2 : St2 i s.heap) (hlt1 : i < n1) (hlt2 : i < n2)
    (hQ : ∀ x1 x2 h' tk, P1 i x1 → P2 i x2 → IsZipHeld h' z TI TO T true → St1 (i + 1) h' → St2 (i + 1) h' → IsTupOf2 h' s.heap.objs.size x1 x2 → h'.objs.size = s.heap.objs.size + 1 →
      (∀ c o, c ≠ z → c ≠ i1 → c ≠ i2 → s.heap.get? c = some o → h'.get? c = some o) → Q (.ref s.heap.objs.size) { s with heap := h', toks := tk }) :
    wpAny (model prog w) A (Builtin.«zip.__next__» ⟨[.ref z], []⟩) (fun fin s' => ∃ v, fin = .done (.ret v) ∧ Q v s') E s := by
  obtain ⟨hp, g, d, tk0, os⟩ := s
  show wpAny _ _ (field (.ref z) 2 >>= _) _ _ _
  refine wpAny_bind (wpAny_field hz rfl (x := .bool false) rfl ?_)
  show wpAny _ _ (field (.ref z) 3 >>= _) _ _ _
  refine wpAny_bind (wpAny_field hz rfl (x := .ref TI) rfl ?_)
  refine wpAny_bind (wpAny_seqItems hTI rfl ?_)
  show wpAny _ _ (Builtin.SmallTypes.ownedTupleIsFree (.ref z) >>= _) _ _ _
  refine wpAny_bind (wpAny_tupleHeld_zip hz hT fun h₁ hz₁ hs₁ => ?_)
  replace hs₁ : Heap.SameBut z hp h₁ := hs₁
  simp only [Bool.false_eq_true, if_false]
  refine wpAny_bind ?_
  rw [← Array.forIn_toList]
  simp only [List.forIn_cons, List.forIn_nil]
  refine wpAny_bind (wpAny_bind (wpAny_holding ?_))
  show wpAny _ _ (Builtin.SmallTypes.nextOf (.ref i1) >>= _) _ _ ⟨h₁, g, d, tk0, os⟩
  refine wpAny_bind (D1.item i _ _ _ hlt1 (D1.over st1 hs₁ S.zf1) fun x1 p1 tk1 hx1 sn1 hp1 => wpAny_pure ?_)
  replace hp1 : Heap.SameBut i1 h₁ p1 := hp1
  refine wpAny_pure ?_
  refine wpAny_bind (wpAny_bind (wpAny_holding ?_))
  show wpAny _ _ (Builtin.SmallTypes.nextOf (.ref i2) >>= _) _ _ ⟨p1, g, d, tk1, os⟩
  refine wpAny_bind (D2.item i _ _ _ hlt2 (D2.over (D2.over st2 hs₁ S.zf2) hp1 S.sep1_2) fun x2 p2 tk2 hx2 sn2 hp2 => wpAny_pure ?_)
  replace hp2 : Heap.SameBut i2 p1 p2 := hp2
  refine wpAny_pure (wpAny_pure ?_)
  show wpAny _ _ (newTuple [x1, x2] >>= _) _ _ ⟨p2, g, d, tk2, os⟩
  refine wpAny_bind (wpAny_newTuple ?_)
  have hsz : p2.objs.size = hp.objs.size := by rw [hp2.1, hp1.1, hs₁.1]
  have hz2 : IsZipHeld p2 z TI TO T true := hp2.extBut _ _ S.zi2 (hp1.extBut _ _ S.zi1 hz₁)
  have hk : ∀ c o, c ≠ z → c ≠ i1 → c ≠ i2 → hp.get? c = some o → p2.get? c = some o := fun c o c1 c2 c3 e => hp2.extBut _ _ c3 (hp1.extBut _ _ c2 (hs₁.extBut _ _ c1 e))
  have j1 : St1 (i + 1) p2 := D1.over sn1 hp2 S.sep2_1
  have up : ∀ c o, p2.get? c = some o → (p2.push { cls := .type "tuple", data := .seq #[x1, x2] }).get? c = some o := fun c o e => Heap.get?_push_of_some _ e
  refine wpAny_pure ⟨_, rfl, ?_⟩
  show Q (.ref p2.objs.size) ⟨p2.push { cls := .type "tuple", data := .seq #[x1, x2] }, g, d, tk2, os⟩
  have hp4 : IsTupOf2 (p2.push { cls := .type "tuple", data := .seq #[x1, x2] }) p2.objs.size x1 x2 := Heap.get?_push_size _ rfl
  have hz4 : (p2.push { cls := .type "tuple", data := .seq #[x1, x2] }).objs.size = p2.objs.size + 1 := Heap.size_push ..
  rw [hsz] at hp4 hz4 ⊢
  exact hQ x1 x2 _ tk2 hx1 hx2 (up _ _ hz2) (D1.frame _ _ _ j1 fun b _ o e => up b o e) (D2.frame _ _ _ sn2 fun b _ o e => up b o e) hp4 hz4 fun c o c1 c2 c3 e => up c o (hk c o c1 c2 c3 e)
/-- no next pair, while the last one is still known -/
theorem zipH_end {T : Addr} {f : Bool} {oT : Obj} {Q : Fin → Shared → Prop} (S : ZipSep2 z TI TO i1 i2 fp1 fp2) (D1 : Draws prog w A i1 fp1 n1 P1 St1) (D2 : Draws prog w A i2 fp2 n2 P2 St2)
    (hz : IsZipHeld s.heap z TI TO T f) (hT : s.heap.get? T = some oT) (hTI : IsTupOf2 s.heap TI (.ref i1) (.ref i2)) (st1 : St1 i s.heap) (st2 : St2 i s.heap) (hle1 : i ≤ n1) (hle2 : i ≤ n2) (hend : i = n1 ∨ i = n2)
    (hE : ∀ h' tk e, (∀ c o, c ≠ z → c ≠ i1 → c ≠ i2 → s.heap.get? c = some o → h'.get? c = some o) → (∃ o, h'.get? e = some o ∧ o.cls = .type "StopIteration") → E (.ref e) { s with heap := h', toks := tk }) :
    wpAny (model prog w) A (Builtin.«zip.__next__» ⟨[.ref z], []⟩) Q E s := by
  obtain ⟨hp, g, d, tk0, os⟩ := s
  show wpAny _ _ (field (.ref z) 2 >>= _) _ _ _
  refine wpAny_bind (wpAny_field hz rfl (x := .bool false) rfl ?_)
  show wpAny _ _ (field (.ref z) 3 >>= _) _ _ _
  refine wpAny_bind (wpAny_field hz rfl (x := .ref TI) rfl ?_)
  refine wpAny_bind (wpAny_seqItems hTI rfl ?_)
  show wpAny _ _ (Builtin.SmallTypes.ownedTupleIsFree (.ref z) >>= _) _ _ _
  refine wpAny_bind (wpAny_tupleHeld_zip hz hT fun h₁ hz₁ hs₁ => ?_)
  replace hs₁ : Heap.SameBut z hp h₁ := hs₁
  simp only [Bool.false_eq_true, if_false]
  refine wpAny_bind ?_
  rw [← Array.forIn_toList]
  simp only [List.forIn_cons, List.forIn_nil]
  refine wpAny_bind (wpAny_bind (wpAny_holding ?_))
  show wpAny _ _ (Builtin.SmallTypes.nextOf (.ref i1) >>= _) _ _ ⟨h₁, g, d, tk0, os⟩
  by_cases hlt1 : i < n1
  · refine wpAny_bind (D1.item i _ _ _ hlt1 (D1.over st1 hs₁ S.zf1) fun x1 p1 tk1 hx1 sn1 hp1 => wpAny_pure ?_)
    replace hp1 : Heap.SameBut i1 h₁ p1 := hp1
    have hi2 : i = n2 := by omega
    refine wpAny_pure ?_
    refine wpAny_bind (wpAny_bind (wpAny_holding ?_))
    show wpAny _ _ (Builtin.SmallTypes.nextOf (.ref i2) >>= _) _ _ ⟨p1, g, d, tk1, os⟩
    refine wpAny_bind (D2.done ⟨p1, g, d, tk1, os⟩ _ _ (by rw [← hi2]; exact D2.over (D2.over st2 hs₁ S.zf2) hp1 S.sep1_2) fun q e hq he => ?_)
    exact hE q tk1 e (fun c o c1 c2 c3 x => hq _ _ c3 (hp1.extBut _ _ c2 (hs₁.extBut _ _ c1 x))) he
  · have hi1 : i = n1 := by omega
    refine wpAny_bind (D1.done ⟨h₁, g, d, tk0, os⟩ _ _ (by rw [← hi1]; exact D1.over st1 hs₁ S.zf1) fun q e hq he => ?_)
    exact hE q tk0 e (fun c o c1 c2 _ x => hq _ _ c2 (hs₁.extBut _ _ c1 x)) he
theorem zipH_pyNext_item {T : Addr} {f : Bool} {oT : Obj} {Q : Option Value → Shared → Prop} (S : ZipSep2 z TI TO i1 i2 fp1 fp2) (D1 : Draws prog w A.in1 i1 fp1 n1 P1 St1) (D2 : Draws prog w A.in1 i2 fp2 n2 P2 St2)
    (hz : IsZipHeld s.heap z TI TO T f) (hT : s.heap.get? T = some oT) (hTI : IsTupOf2 s.heap TI (.ref i1) (.ref i2)) (st1 : St1 i s.heap) (st2 : St2 i s.heap) (hlt1 : i < n1) (hlt2 : i < n2)
    (hQ : ∀ x1 x2 h' tk, P1 i x1 → P2 i x2 → IsZipHeld h' z TI TO T true → St1 (i + 1) h' → St2 (i + 1) h' → IsTupOf2 h' s.heap.objs.size x1 x2 → h'.objs.size = s.heap.objs.size + 1 →
      (∀ c o, c ≠ z → c ≠ i1 → c ≠ i2 → s.heap.get? c = some o → h'.get? c = some o) → Q (some (.ref s.heap.objs.size)) { s with heap := h', toks := tk }) :
    wpAny (model prog w) A (pyNext (.ref z)) Q E s := by
  have hTy : s.TypeIs (.ref z) "zip" := ⟨_, hz, rfl⟩
  unfold pyNext
  exact wpAny_bind (wpAny_attempt (wpAny_callSpecial?_slot (name := Str.ofString "__next__") hTy F.slot_zip_next
    (wpAny_call_entry F.slot_zip_next hTy F.entry_zip_next
      (zipH_item S D1 D2 hz hT hTI st1 st2 hlt1 hlt2 fun x1 x2 h' tk y1 y2 b1 b2 b3 b4 b5 b6 => wpAny_pure (hQ x1 x2 h' tk y1 y2 b1 b2 b3 b4 b5 b6)) (F.args_zip_next_1 _))))
theorem zipH_pyNext_end {T : Addr} {f : Bool} {oT : Obj} {Q : Option Value → Shared → Prop} (S : ZipSep2 z TI TO i1 i2 fp1 fp2) (D1 : Draws prog w A.in1 i1 fp1 n1 P1 St1) (D2 : Draws prog w A.in1 i2 fp2 n2 P2 St2)
    (hz : IsZipHeld s.heap z TI TO T f) (hT : s.heap.get? T = some oT) (hTI : IsTupOf2 s.heap TI (.ref i1) (.ref i2)) (st1 : St1 i s.heap) (st2 : St2 i s.heap) (hle1 : i ≤ n1) (hle2 : i ≤ n2) (hend : i = n1 ∨ i = n2)
    (hQ : ∀ h' tk, (∀ c o, c ≠ z → c ≠ i1 → c ≠ i2 → s.heap.get? c = some o → h'.get? c = some o) → Q none { s with heap := h', toks := tk }) : wpAny (model prog w) A (pyNext (.ref z)) Q E s := by
  have hTy : s.TypeIs (.ref z) "zip" := ⟨_, hz, rfl⟩
  unfold pyNext
  refine wpAny_bind (wpAny_attempt (wpAny_callSpecial?_slot (name := Str.ofString "__next__") hTy F.slot_zip_next
    (wpAny_call_entry F.slot_zip_next hTy F.entry_zip_next (zipH_end S D1 D2 hz hT hTI st1 st2 hle1 hle2 hend fun h' tk e hk he => ?_) (F.args_zip_next_1 _))))
  obtain ⟨o, ho, hc⟩ := he
  refine wpAny_bind (wpAny_isInstance (T := "StopIteration") (b := true) ⟨o, ho, hc⟩ isSubtype_stop ?_)
  exact wpAny_pure (hQ _ _ hk)
end
/-- zip(x, y) of two tuples, as what dict takes -/
theorem pairs_zipT {prog : Program} {w : World} (z TI TO i1 i2 l1 l2 : Addr) (D : ZipApart z TI TO i1 i2 l1 l2) (S : ZipSep2 z TI TO i1 i2 [i1, l1] [i2, l2]) (xs ys : Array Value) :
    PairArg prog w "zip" z [z, TI, TO, i1, i2, l1, l2] [z, TO, i1, i2] (min xs.size ys.size) (fun i k v => xs[i]? = some k ∧ ys[i]? = some v)
      (fun h => IsZip h z TI TO .none ∧ IsTupOf2 h TI (.ref i1) (.ref i2) ∧ (∃ a b, IsTupOf2 h TO a b) ∧ h.IsTupleIter i1 l1 0 ∧ h.IsTupleIter i2 l2 0 ∧ h.IsTuple l1 xs ∧ h.IsTuple l2 ys) where
  type := fun s ok => ⟨_, ok.1, rfl⟩
  notDict := by decide
  keep := fun h h' ok hk => by
    obtain ⟨hz, hTI, ⟨a, b, hTO⟩, h1, h2, hl1, hl2⟩ := ok
    exact ⟨hk _ _ hz, hk _ _ hTI, ⟨a, b, hk _ _ hTO⟩, h1.at fun o e => hk _ o e, h2.at fun o e => hk _ o e, hl1.at fun o e => hk _ o e, hl2.at fun o e => hk _ o e⟩
  there := fun h ok b hb => by
    obtain ⟨hz, hTI, ⟨a, c, hTO⟩, ⟨o1, h1, _⟩, ⟨o2, h2, _⟩, ⟨o3, hl1, _⟩, ⟨o4, hl2, _⟩⟩ := ok
    simp only [List.mem_cons, List.not_mem_nil, or_false] at hb
    rcases hb with rfl | rfl | rfl | rfl | rfl | rfl | rfl
    all_goals first | exact ⟨_, hz⟩ | exact ⟨_, hTI⟩ | exact ⟨_, hTO⟩ | exact ⟨_, h1⟩ | exact ⟨_, h2⟩ | exact ⟨_, hl1⟩ | exact ⟨_, hl2⟩
  sub := fun b hb => by simp at hb ⊢; rcases hb with rfl | rfl | rfl | rfl <;> simp
  noKeys := fun A s Q E hA ok h => getAttrOr_miss_zip ok.1 rfl rfl rfl zip_no_keys (by decide +kernel) hA h
  iter := fun A s d Q E hA ok hd hdf h => by
    obtain ⟨hz, hTI, ⟨a, b, hTO⟩, h1, h2, hl1, hl2⟩ := ok
    simp only [List.mem_cons, List.not_mem_nil, or_false, not_or] at hdf
    obtain ⟨dz, dTI, dTO, di1, di2, dl1, dl2⟩ := hdf
    have D1 := Draws.tuple (prog := prog) (w := w) (A := A.in1) hA i1 l1 D.l1i1 xs
    have D2 := Draws.tuple (prog := prog) (w := w) (A := A.in1) hA i2 l2 D.l2i2 ys
    refine wpAny_pyIter_zip hz (h z [z, TO, i1, i2] (fun i h => IsTupOf2 h TI (.ref i1) (.ref i2) ∧ (h.IsTupleIter i1 l1 i ∧ h.IsTuple l1 xs) ∧ (h.IsTupleIter i2 l2 i ∧ h.IsTuple l2 ys) ∧
      ((IsZip h z TI TO .none ∧ ∃ a b, IsTupOf2 h TO a b) ∨ ∃ T f oT, IsZipHeld h z TI TO T f ∧ h.get? T = some oT ∧ T ≠ z ∧ T ≠ i1 ∧ T ≠ i2 ∧ T ≠ d)) s.heap s.toks ?_
      ⟨hTI, ⟨h1, hl1⟩, ⟨h2, hl2⟩, .inl ⟨hz, a, b, hTO⟩⟩ (fun _ _ e => e) fun b hb => .inl hb)
    exact {
      off := fun hm => by
        simp only [List.mem_cons, List.not_mem_nil, or_false] at hm
        rcases hm with e | e | e | e
        · exact dz e
        · exact dTO e
        · exact di1 e
        · exact di2 e
      frame := fun i h₁ h₂ st hk => by
        obtain ⟨hTI, st1, st2, hz⟩ := st
        refine ⟨hk _ _ (Ne.symm dTI) hTI, ⟨st1.1.at fun o e => hk _ o (Ne.symm di1) e, st1.2.at fun o e => hk _ o (Ne.symm dl1) e⟩, ⟨st2.1.at fun o e => hk _ o (Ne.symm di2) e, st2.2.at fun o e => hk _ o (Ne.symm dl2) e⟩, ?_⟩
        rcases hz with ⟨hz, a, b, hTO⟩ | ⟨T, f, oT, hz, hT, r1, r2, r3, r4⟩
        · exact .inl ⟨hk _ _ (Ne.symm dz) hz, a, b, hk _ _ (Ne.symm dTO) hTO⟩
        · exact .inr ⟨T, f, oT, hk _ _ (Ne.symm dz) hz, hk _ _ r4 hT, r1, r2, r3, r4⟩
      item := fun i s₁ Q₁ E₁ hi st hds hQ => by
        obtain ⟨hTI, st1, st2, hz⟩ := st
        have hix : i < xs.size := Nat.lt_of_lt_of_le hi (Nat.min_le_left ..)
        have hiy : i < ys.size := Nat.lt_of_lt_of_le hi (Nat.min_le_right ..)
        have lt : ∀ {c o}, s₁.heap.get? c = some o → s₁.heap.objs.size ≠ c := fun e => Nat.ne_of_gt (Heap.lt_size e)
        have n1 : s₁.heap.objs.size ≠ i1 := let ⟨_, e, _⟩ := st1.1; lt e
        have n2 : s₁.heap.objs.size ≠ i2 := let ⟨_, e, _⟩ := st2.1; lt e
        rcases hz with ⟨hz, a, b, hTO⟩ | ⟨T, f, oT, hz, hT, r1, r2, r3, r4⟩
        · refine wpAny_pyNext_zipD2_item S D1 D2 hz hTI hTO st1 st2 hix hiy fun x1 x2 h' tk p1 p2 b1 b2 b3 b4 b5 b6 hk => ?_
          exact hQ s₁.heap.objs.size _ _ h' tk ⟨p1, p2⟩ (.inl ⟨_, b5, rfl, _, rfl⟩)
            ⟨hk _ _ D.TIz D.TITO D.TIi1 D.TIi2 hTI, b3, b4, .inr ⟨s₁.heap.objs.size, false, _, b1, b5, lt hz, n1, n2, Nat.ne_of_gt hds⟩⟩
            fun c o hc e => hk c o (fun x => hc (by simp [x])) (fun x => hc (by simp [x])) (fun x => hc (by simp [x])) (fun x => hc (by simp [x])) e
        · refine zipH_pyNext_item S D1 D2 hz hT hTI st1 st2 hix hiy fun x1 x2 h' tk p1 p2 b1 b3 b4 b5 b6 hk => ?_
          exact hQ s₁.heap.objs.size _ _ h' tk ⟨p1, p2⟩ (.inl ⟨_, b5, rfl, _, rfl⟩)
            ⟨hk _ _ D.TIz D.TIi1 D.TIi2 hTI, b3, b4, .inr ⟨T, true, oT, b1, hk _ _ r1 r2 r3 hT, r1, r2, r3, r4⟩⟩
            fun c o hc e => hk c o (fun x => hc (by simp [x])) (fun x => hc (by simp [x])) (fun x => hc (by simp [x])) e
      done := fun s₁ Q₁ E₁ st hQ => by
        obtain ⟨hTI, st1, st2, hz⟩ := st
        have e1 : min xs.size ys.size ≤ xs.size := Nat.min_le_left ..
        have e2 : min xs.size ys.size ≤ ys.size := Nat.min_le_right ..
        have e3 : min xs.size ys.size = xs.size ∨ min xs.size ys.size = ys.size := by omega
        rcases hz with ⟨hz, a, b, hTO⟩ | ⟨T, f, oT, hz, hT, r1, r2, r3, r4⟩
        · exact wpAny_pyNext_zipD2_end S D1 D2 hz hTI hTO st1 st2 e1 e2 e3 fun h' tk hk => hQ h' tk fun c o hc e => hk c o (fun x => hc (by simp [x])) (fun x => hc (by simp [x])) (fun x => hc (by simp [x])) (fun x => hc (by simp [x])) e
        · exact zipH_pyNext_end S D1 D2 hz hT hTI st1 st2 e1 e2 e3 fun h' tk hk => hQ h' tk fun c o hc e => hk c o (fun x => hc (by simp [x])) (fun x => hc (by simp [x])) (fun x => hc (by simp [x])) e }
theorem sep_T {z TI TO i1 i2 a b : Addr} (D : ZipApart z TI TO i1 i2 a b) : ZipSep2 z TI TO i1 i2 [i1, a] [i2, b] :=
  ⟨D.TIz, D.TOz, D.TITO, D.TIi1, by simp, by simp [D.i1z.symm, D.l1z.symm], by simp [D.TOi1, D.l1TO.symm], D.TIi2, by simp, by simp [D.i2z.symm, D.l2z.symm], by simp [D.TOi2, D.l2TO.symm], by simp [D.i12, D.l2i1.symm], by simp [D.i12.symm, D.l1i2.symm]⟩
/-! ### dict(zip(x, y)) -/
def tDictZ (K : PySem.W.Frag) (ta : TA) : TE := fun σ H Q => ta σ H fun vs H1 => ∃ (a b : Addr) (ks : List Key) (ys : List V), vs = [.ref a, .ref b] ∧ SqT K H1 a (ks.map kV) ∧ SqT K H1 b ys ∧ ∀ p, H1 p = none → Q (.ref p) (L2.upd H1 p (.dK (mergeK [] (ks.zip ys))))
theorem kvs_zip : ∀ {ys : List V} {us : List Value} {ks : List Key}, Vals ys us → KV (ks.zip ys) (ks.zip us)
  | _, _, [], _ => .nil
  | [], us, k :: ks, r => by cases r; exact .nil
  | y :: ys, us, k :: ks, r => by
    cases r with
    | cons h t => exact .cons ⟨rfl, h⟩ (kvs_zip t)
theorem pe_dictZip {X : Cx} {e e2 : Expr} {ta : TA} {p p1 pos pos2 : Pos} (calm : X.calm = true) (hg : Gl X "zip") (hm : X.mg "zip" = none) (hgd : Gl X "dict") (hmd : X.mg "dict" = none) (ha : PA X [e, e2] ta)
    (hs : starEach [e, e2] X.env = (false, eval e X.env) :: starEach [e2] X.env := by rfl) (hpl : (backTo pos (starEach [e2] X.env)).any (·.1) = false := by rfl)
    (hs2 : starEach [.Call (.Name "zip" p) [e, e2] [] pos] X.env = (false, eval (.Call (.Name "zip" p) [e, e2] [] pos) X.env) :: starEach [] X.env := by rfl) :
    PE X (.Call (.Name "dict" p1) [.Call (.Name "zip" p) [e, e2] [] pos] [] pos2) (tDictZ X.K ta) := by
  refine ⟨fun pins s σ H Q I h => ?_⟩
  refine wpAny_Call_Name_kw (ld_blt I hgd hmd PyProof.Rows.boot_dict ?_ (by decide) (by decide))
  refine PyProof.Rows.callWith_type1 ?_ hs2 rfl
  rw [hs2]
  show wpAny _ _ (spliced ((false, eval (.Call (.Name "zip" p) [e, e2] [] pos) X.env) :: backTo pos2 (starEach [] X.env))) _ _ s
  refine Calls.spliced_cons ?_
  refine wpAny_Call_Name_kw (ld_blt I hg hm PyProof.Rows.boot_zip (PyProof.Rows.callWith_type1 (thn (ha.run pos pins s σ H _ I h) fun us s1 ⟨vs, H1, I1, r1, q1⟩ => ?_) hs hpl) (by decide) (by decide))
  obtain ⟨a, b, ks, ys, rfl, hqa, hqb, q⟩ := q1
  obtain ⟨u1, u2, rfl, r1, r2⟩ := vals2 r1
  cases r1
  cases r2
  obtain ⟨ia, ra, pa, za⟩ := I1.tuple hqa
  obtain ⟨ib, rb, pb, zb⟩ := I1.tuple hqb
  obtain ⟨oa, hoa, _⟩ := id pa
  obtain ⟨ob, hob, _⟩ := id pb
  have la : a < s1.heap.objs.size := Heap.lt_size hoa
  have lb : b < s1.heap.objs.size := Heap.lt_size hob
  have D := PySem.W.ktu_apart s1.heap.objs.size a b la lb
  refine zip_begins2 (begins_tuple a ia.toArray) (begins_tuple b ib.toArray) pa pb fun h' hz hTI hTO h1 h2 hsz hk => Calls.spliced_nil ?_
  have ka := ra.length
  rw [List.length_map] at ka za
  have hlen : (ks.zip ib).length = min ia.toArray.size ib.toArray.size := by simp; omega
  refine PySem.call_dict_pairs (knd := mixKind X.prog X.w) (kvs := ks.zip ib) (pairs_zipT _ _ _ _ _ a b D (sep_T D) ia.toArray ib.toArray) (I1.ok.hd calm)
    ⟨hz, hTI, ⟨_, _, hTO⟩, ⟨_, h1, rfl, rfl⟩, ⟨_, h2, rfl, rfl⟩, pa.keeps hk, pb.keeps hk⟩ ⟨hlen, fun i key v ⟨ek, ev⟩ => ?_⟩ (by simp; omega) fun h3 tk hd3 hk3 => ?_
  · have ek : ia[i]? = some key := by simpa using ek
    have ev : ib[i]? = some v := by simpa using ev
    have hi : i < ks.length := by have := (List.getElem?_eq_some_iff.mp ek).1; omega
    obtain ⟨u, hu, ru⟩ := ra.get (i := i) (x := kV ks[i]) (by simp [hi])
    rw [ek] at hu
    obtain rfl := Option.some.inj hu
    exact ⟨ks[i], by rw [List.getElem?_zip_eq_some]; exact ⟨by simp [hi], ev⟩, kV_is ru⟩
  · have le : s1.heap.objs.size ≤ h'.objs.size := by omega
    have hmz : (h'.objs.size == sysModules) = false := beq_eq_false_iff_ne.mpr (Nat.ne_of_gt (Nat.lt_of_lt_of_le I1.big le))
    have rel : KV (ks.zip ys) (ks.zip ib) := kvs_zip rb
    have hml : (mergeK [] (ks.zip ys)).length ≤ sizeLine := by
      refine Nat.le_trans (length_mergeK _ []) ?_
      simp; omega
    have kk : ∀ c o, s1.heap.get? c = some o → h3.get? c = some o := fun c o e => hk3 c o (fun hc => by
      have := Heap.lt_size e
      simp only [List.mem_cons, List.not_mem_nil, or_false] at hc
      rcases hc with e | e | e | e
      · rw [e] at this; exact absurd this (Nat.not_lt.mpr (Nat.le_add_right _ _))
      · rw [e] at this; exact absurd this (Nat.not_lt.mpr (Nat.le_add_right _ _))
      · rw [e] at this; exact absurd this (Nat.lt_irrefl _)
      · rw [e] at this; exact absurd this (Nat.not_lt.mpr (Nat.le_add_right _ _))) (hk c o e)
    exact ⟨.ref h'.objs.size, _, I1.laid (t' := tk) kk le (show ObjOk X.prog X.w _ _ _ (.dK (mergeK [] (ks.zip ys))) from ⟨hml, hmz, merged [] (ks.zip ib), KV.merge rel .nil, hd3⟩), rfl, q _ (I1.hok.fresh le)⟩
/-! ### tuples that have no dict of their own; dict(x) of one of pairs -/
def FT (H : Hp) (a : Addr) (ys : List V) : Prop := ∃ o : Obj, H a = some (.frz o (.tup ys)) ∧ o.dict = none
theorem FT.sq {K : PySem.W.Frag} {H : Hp} {a : Addr} {ys : List V} (h : FT H a ys) : SqT K H a ys := let ⟨o, e, _⟩ := h; .inl (.inr ⟨o, e⟩)
theorem FT.same {H H' : Hp} {a : Addr} {ys : List V} (h : FT H a ys) (e : Same H H') : FT H' a ys := let ⟨o, e1, e2⟩ := h; ⟨o, e _ _ e1, e2⟩
theorem call_tupleF {X : Cx} : CallR X (.type "tuple") (fun xs H Q => ∃ p ys, xs = [.ref p] ∧ SqL X.K H p ys ∧ ∀ l (o : Obj), H l = none → o.dict = none → Q (.ref l) (L2.upd H l (.frz o (.tup ys)))) := by
  intro pins s σ H xs us Q I r h
  obtain ⟨p, ys, rfl, hq, q⟩ := h
  obtain ⟨u, rfl, rx⟩ := vals1 r
  cases rx
  obtain ⟨its, r', pl, hz⟩ := I.list hq
  have hlen := r'.length
  refine call_tuple_list pl.isList (fun h' kp => ?_) (by simp only [List.size_toArray] <;> omega)
  have I1 : Inv X pins σ H { s with heap := h' } := I.kept (t' := s.toks) kp
  have I2 : Inv X pins σ (L2.upd H h'.objs.size (.frz { cls := .type "tuple", data := .seq its.toArray } (.tup ys))) { s with heap := h'.push { cls := .type "tuple", data := .seq its.toArray } } :=
    I1.laid (t' := s.toks) (fun b o e => Heap.get?_push_of_some _ e) (Nat.le_refl _) (show ObjOk X.prog X.w _ _ _ (.frz { cls := .type "tuple", data := .seq its.toArray } (.tup ys)) from ⟨Heap.get?_push_size _ rfl, hz, its, r', IsTup.new _ _⟩)
  exact ⟨.ref h'.objs.size, _, I2, rfl, q _ _ (I1.hok.fresh (Nat.le_refl _)) rfl⟩
theorem pairs_at {X : Cx} {pins : List (Addr × Obj)} {σ : L2.St} {H : Hp} {s : Shared} (I : Inv X pins σ H s) : ∀ {ps : List Addr} {kvs : List (Key × V)}, Paired (fun p kv => SqT X.K H p [kV kv.1, kv.2]) ps kvs →
    ∃ (prs : List (Key × Value)) (ws : List (Value × Value)), KV kvs prs ∧ prs.length = ps.length ∧ ws.length = ps.length ∧ ∀ (j : Nat) (x : Value × Value), ws[j]? = some x → ∃ (b : Addr) (k : Key), ps[j]? = some b ∧ prs[j]? = some (k, x.2) ∧ IsTup s.heap b #[x.1, x.2] ∧ (mixKind X.prog X.w).is k x.1 = true
  | _, _, .nil => ⟨[], [], .nil, rfl, rfl, fun j q e => by simp at e⟩
  | _, _, .cons (a := p) (b := kv) h t => by
    obtain ⟨prs, ws, r, hl, hw, hp⟩ := pairs_at I t
    obtain ⟨its, rv, ht, _⟩ := I.tuple h
    obtain ⟨u, y, ei, ru, ry⟩ := vals2 rv
    subst ei
    refine ⟨(kv.1, y) :: prs, (u, y) :: ws, .cons ⟨rfl, ry⟩ r, by rw [List.length_cons, List.length_cons, hl], by rw [List.length_cons, List.length_cons, hw], fun j q e => ?_⟩
    cases j with
    | zero =>
      have e' : (u, y) = q := Option.some.inj e
      subst e'
      exact ⟨p, kv.1, rfl, rfl, ht, kV_is ru⟩
    | succ j =>
      obtain ⟨b, k, e1, e2, e3⟩ := hp j q (by simpa using e)
      exact ⟨b, k, by simpa using e1, by simpa using e2, e3⟩
theorem call_dictT {X : Cx} (calm : X.calm = true) : CallR X (.type "dict") (fun xs H Q => ∃ (a : Addr) (ps : List Addr) (kvs : List (Key × V)), xs = [.ref a] ∧ FT H a (ps.map V.ref) ∧ Paired (fun p kv => SqT X.K H p [kV kv.1, kv.2]) ps kvs ∧
    ∀ p, H p = none → Q (.ref p) (L2.upd H p (.dK (mergeK [] kvs)))) := by
  intro pins s σ H xs us Q I r q
  obtain ⟨a, ps, kvs, ex, ⟨o, eo, od⟩, hp, q⟩ := q
  subst ex
  obtain ⟨u, eu, rx⟩ := vals1 r
  subst eu
  cases rx
  obtain ⟨ha, hz, its, rv, pt⟩ := (show ObjOk X.prog X.w H s.heap a (.frz o (.tup (ps.map V.ref))) from I.hok a _ eo)
  obtain ⟨o', ho', hc, n, hdat⟩ := pt
  rw [ha] at ho'
  obtain rfl := Option.some.inj ho'
  obtain rfl := refs_at rv
  rw [List.length_map] at hz
  obtain ⟨prs, ws, rel, hl, hw, hpr⟩ := pairs_at I hp
  refine PySem.call_dict_pairs (knd := mixKind X.prog X.w) (kvs := prs) (PairArg.tuple a (ps.map Value.ref).toArray (fun j => ps.getD j 0) ws) (I.ok.hd calm) ⟨⟨o, n, ha, hc, od, hdat⟩, by simp [hw], fun j k v e => ?_⟩ ⟨by rw [hl, hw], fun i key v e => ?_⟩ (by rw [hw]; exact hz) fun h' tk hd' k => ?_
  · obtain ⟨b, k', e1, _, e3, _⟩ := hpr j (k, v) e
    have eg : ps.getD j 0 = b := by rw [List.getD_eq_getElem?_getD, e1]; rfl
    refine ⟨by simp [e1], .inl ?_⟩
    show s.heap.IsTuple (ps.getD j 0) #[k, v]
    rw [eg]
    exact e3
  · obtain ⟨b, k', _, e2, _, e4⟩ := hpr i (key, v) e
    exact ⟨k', e2, e4⟩
  · have hm : (s.heap.objs.size == sysModules) = false := beq_eq_false_iff_ne.mpr (Nat.ne_of_gt I.big)
    have hlen : (mergeK [] kvs).length ≤ sizeLine := by
      refine Nat.le_trans (length_mergeK kvs []) ?_
      rw [List.length_nil, Nat.zero_add, rel.length, hl]
      exact hz
    exact ⟨.ref s.heap.objs.size, L2.upd H s.heap.objs.size (.dK (mergeK [] kvs)), I.laid (t' := tk) (fun b o e => k b o (fun h => nomatch h) e) (Nat.le_refl _) (show ObjOk X.prog X.w _ _ _ (.dK (mergeK [] kvs)) from ⟨hlen, hm, merged [] prs, KV.merge rel .nil, hd'⟩), rfl, q _ (I.hok.fresh (Nat.le_refl _))⟩
/-! ### d.update(e) of a dict -/
def tDUpd (td ty : TE) : TE := fun σ H Q => td σ H fun x H1 => ∃ a, x = .ref a ∧ IsD H1 a ∧ ty σ H1 fun y H2 => ∃ (b : Addr) (kvs more : List (Key × V)), y = .ref b ∧ a ≠ b ∧ H2 a = some (.dK kvs) ∧ Rd H2 b (.dK more) ∧ kvs.length + more.length ≤ sizeLine ∧ Q .non (L2.upd H2 a (.dK (mergeK kvs more)))
theorem d_update {X : Cx} {pins : List (Addr × Obj)} {σ : L2.St} {H : Hp} {s : Shared} {a b : Addr} {kvs more : List (Key × V)} {A : Around} {E : Value → Shared → Prop} {Q : Value → Shared → Prop} (I : Inv X pins σ H s) (e : H a = some (.dK kvs)) (eb : Rd H b (.dK more)) (hab : a ≠ b) (hl : kvs.length + more.length ≤ sizeLine)
    (h : ∀ s', Inv X pins σ (L2.upd H a (.dK (mergeK kvs more))) s' → Q .none s') : wpAny (model X.prog X.w) A (call (.builtin "dict.update") [.ref a, .ref b]) Q E s := by
  obtain ⟨z, hd, vs, rel, dd⟩ := dk_of I.hok e
  obtain ⟨zb, hb, ws, relb, db⟩ := dk_rd I.hok eb
  refine call_meetsIn PySem.F.slot_dict_update dd.typeIs PySem.F.entry_dict_update (PySem.F.args_dict_update_2 _ _) (meets_dict_update (mixKind X.prog X.w) a b hab hb)
    ⟨vs, ws, dd, db, by rw [← rel.length, ← relb.length]; exact hl, fun h' dd' _ hs => h _ ?_⟩
  have he : ∃ q, h'.get? a = some q := let ⟨q, _, _, hq, _⟩ := dd'; ⟨q, hq⟩
  exact d_write (t' := s.toks) I (by rw [e]; exact True.intro) hs he (dk_new (Nat.le_trans (length_mergeK more kvs) hl) hd (KV.merge relb rel) dd')
theorem pe_dupd {X : Cx} {o e : Expr} {apos cpos : Pos} {td ty : TE} (ho : PE X o td) (he : PE X e ty) (m : M1 X o "update" apos e cpos) : PE X (.Call (.Attribute o "update" apos) [e] [] cpos) (tDUpd td ty) := by
  refine ⟨fun pins s σ H Q I h => ?_⟩
  refine wpAny_Call_method m.base m.few m.line PySem.F.plainAttrs_dict PySem.F.slot_dict_update PySem.F.type_dict_update (thn (ho.run pins s σ H _ I h) fun u s1 ⟨x, H1, I1, rx, a, ex, d, q1⟩ => ?_)
  subst ex
  obtain rfl : u = Value.ref a := rx
  obtain ⟨t1, t2, _⟩ := isD_at I1 d
  refine ⟨t1, t2, ?_⟩
  rw [m.trees]
  refine Calls.callWith_builtin rfl (Calls.evalArgs_plain (Calls.spliced_cons (thn (he.run pins s1 σ H1 _ I1 q1) fun iv s2 ⟨y, H2, I2, ry, b, kvs, more, ey, hab, ea, eb, hl, q2⟩ => Calls.spliced_nil ?_)))
  subst ey
  obtain rfl : iv = Value.ref b := ry
  exact d_update I2 ea eb hab hl fun s3 I3 => ⟨.non, _, I3, rfl, q2⟩
/-! ### dicts of texts, told by what each text is -/
theorem valV_merge (k : Key) : ∀ (more kvs : List (Key × V)), (more.map (·.1)).Nodup → valV (mergeK kvs more) k = (valV more k).or (valV kvs k)
  | [], kvs, _ => by rw [valV_nil]; rfl
  | p :: r, kvs, h => by
    rw [List.map_cons, List.nodup_cons] at h
    show valV (mergeK (putK kvs p.1 p.2) r) k = _
    rw [valV_merge k r _ h.2, valV_put]
    by_cases c : p.1 = k
    · rw [valV_pos c, if_pos c.symm]
      have : valV r k = none := by
        cases e : valV r k with
        | none => rfl
        | some v =>
          exfalso
          have hs := valV_any k r
          rw [e] at hs
          obtain ⟨x, hx, hk⟩ := List.any_eq_true.mp hs
          exact h.1 (by rw [c, ← of_decide_eq_true hk]; exact List.mem_map_of_mem hx)
      rw [this]
      rfl
    · rw [valV_neg c, if_neg (Ne.symm c)]
/-- the dict at a is, for each text, what f says -/
def KfAt (K : PySem.W.Frag) (H : Hp) (a : Addr) (n : Nat) (f : Str → Option PyData) : Prop := ∃ kvs : List (Key × V), H a = some (.dK kvs) ∧ kvs.length ≤ n ∧ ∀ z, match f z with | none => valV kvs (.inr z) = none | some d => ∃ v, valV kvs (.inr z) = some v ∧ Dt K H v d
end LK

set_option Elab.async false
set_option linter.all false
set_option maxRecDepth 100000
set_option maxHeartbeats 4000000
set_option exponentiation.threshold 3000
namespace K30
open PySem PySem.Spec PyProof.Rows LK SX
open L2
def top (i : Nat) : Stmt := PySem.Challenge.pw_pyhold_k30_binds_by_the_row.main.body.getD i (.Pass ⟨0, 0, 0, 0⟩)
structure Txt (K : PySem.W.Frag) (mg : Str → Option Value) : Prop where
  c_TYPE_ERROR : GInt mg "TYPE_ERROR" 10
  b_len : mg "len" = none
  b_int : mg "int" = none
  b_range : mg "range" = none
  b_list : mg "list" = none
  b_tuple : mg "tuple" = none
  b_repr : mg "repr" = none
  b_dict : mg "dict" = none
  b_zip : mg "zip" = none
abbrev s_law_cell : Stmt := top 5
abbrev N_law_cell : List Str := ["script", "k"]
abbrev P_law_cell : List Str := ["script", "k"]
theorem sc_law_cell : FnScope N_law_cell P_law_cell (defScope s_law_cell) := ⟨rfl, rfl, rfl, by decide +kernel, rfl, by decide +kernel, by decide +kernel⟩
abbrev s_law_digits : Stmt := top 6
abbrev N_law_digits : List Str := ["script", "first", "last", "digits", "k", "cell", "turn", "seed"]
abbrev P_law_digits : List Str := ["script", "first", "last"]
theorem sc_law_digits : FnScope N_law_digits P_law_digits (defScope s_law_digits) := ⟨rfl, rfl, rfl, by decide +kernel, rfl, by decide +kernel, by decide +kernel⟩
abbrev s_law_draw : Stmt := top 7
abbrev N_law_draw : List Str := ["box", "many", "at"]
abbrev P_law_draw : List Str := ["box", "many"]
theorem sc_law_draw : FnScope N_law_draw P_law_draw (defScope s_law_draw) := ⟨rfl, rfl, rfl, by decide +kernel, rfl, by decide +kernel, by decide +kernel⟩
section
variable {P : Program} {w : World} {K : PySem.W.Frag} {mg : Str → Option Value} {base : Heap}
theorem ok_draw {f : Addr} {fd : FuncData} (F : Fun K "_law_draw" "_law_draw" s_law_draw f fd) (T : Txt K mg) : FnG P w K mg base CX0 1 f fd P_law_draw (spDraw K) := by
  refine okG0 F sc_law_draw (fun vs H Q E h => ?_) fun cdv A outer s H vs Q E hr hg h => ?_
  · obtain ⟨p, dl, m, rfl, _⟩ := h
    rfl
  · obtain ⟨p, dl, m, rfl, B, hm, k⟩ := h
    obtain ⟨ds, n, hp, hn, hd, hl, hds⟩ := id B
    refine ⟨_, (pss_cons (ps_set (i := 2) sc_law_draw.nd rfl (Or.inl rfl) (pe_ix ix_list (pv 0) pe_int (fun _ _ => rfl)))
  (pss_cons (ps_asg (pe_op op_add (pv 2) pe_int) (pg_sub (pv 0) pe_int set_list))
  (pss_cons (ps_if (pt_cmpR op_lt (pv 2) (pe_callB call_len (by rfl) T.b_len PySem.boot_len (pa_cons (pe_ix ix_list (pv 0) pe_int (fun _ _ => rfl)) pa_nil)) (nomark _))
   (pss_one (ps_ret (pe_op op_mod (pe_callTy call_int1 (by rfl) T.b_int (by decide +kernel) (pa_cons (pe_ix ix_list (pe_ix ix_list (pv 0) pe_int (fun _ _ => rfl)) (pv 2) (fun _ _ => rfl)) pa_nil)) (pv 1))))
   pss_nil)
  (pss_one (ps_ret (pe_op op_mod (pe_callTy call_int1 (by rfl) T.b_int (by decide +kernel) (pa_cons (pe_op op_add (pe_op op_mul (pv 2) pe_int) pe_int) pa_nil)) (pv 1))))))), ?_⟩
    -- at = box[1]; box[1] = at + 1
    refine ⟨_, rfl, p, _, _, _, rfl, rfl, SqL.of hp, rfl, ?_⟩
    refine ⟨_, rfl, _, _, rfl, rfl, _, rfl, p, _, _, _, rfl, rfl, hp, rfl, ?_⟩
    have npd : dl ≠ p := by
      intro e
      subst e
      rw [hp] at hd
      have e := HO.lst.inj (Option.some.inj hd)
      cases ds with
      | nil => cases e
      | cons d ds => cases (List.cons.inj e).1
    have B' : BoxAt (upd H p (.lst [.ref dl, .int (n + 1)])) p dl := ⟨ds, n + 1, upd_same, by omega, by rw [upd_ne npd]; exact hd, hl, hds⟩
    have kp : Keep p H (upd H p (.lst [.ref dl, .int (n + 1)])) := fun b o e hb => by rw [upd_ne hb]; exact e
    have hd' : upd H p (.lst [.ref dl, .int (n + 1)]) dl = some (.lst (ds.map V.int)) := by rw [upd_ne npd]; exact hd
    -- if at < len(box[0])
    refine ⟨_, rfl, _, rfl, p, _, _, _, rfl, rfl, SqL.of upd_same, rfl, _, _, rfl, .inl ⟨_, SqL.of hd', rfl⟩, ?_⟩
    refine ⟨_, _, rfl, rfl, _, rfl, ?_⟩
    refine ite2 (fun c => ?_) fun c => ?_
    · have c1 : n < (ds.length : Int) := by simpa using c
      have c2 : n.toNat < ds.length := by omega
      have mem := hds _ (List.getElem_mem c2)
      refine ⟨_, rfl, p, _, _, _, rfl, rfl, SqL.of upd_same, rfl, _, rfl, dl, _, _, .int ds[n.toNat], rfl, rfl, SqL.of hd', ?_, .inl ⟨_, rfl, ?_⟩⟩
      · have e : n = ((n.toNat : Nat) : Int) := by omega
        exact at_of e (by simp [c2])
      · refine ⟨_, rfl, _, _, rfl, rfl, hm, ?_⟩
        exact k _ _ (Int.emod_nonneg _ (by omega)) (Int.emod_lt_of_pos _ hm) B' kp
    · refine ⟨_, rfl, _, _, rfl, rfl, .inr ⟨by decide, by decide⟩, _, _, rfl, rfl, .inl ⟨_, rfl, _, rfl, _, _, rfl, rfl, hm, ?_⟩⟩
      exact k _ _ (Int.emod_nonneg _ (by omega)) (Int.emod_lt_of_pos _ hm) B' kp
theorem ok_cell {f : Addr} {fd : FuncData} (F : Fun K "_law_cell" "_law_cell" s_law_cell f fd) (T : Txt K mg) : FnG P w K mg base CX0 1 f fd P_law_cell (spCell K) := by
  refine okG0 F sc_law_cell (fun vs H Q E h => ?_) fun cdv A outer s H vs Q E hr hg h => ?_
  · obtain ⟨a, ns, i, rfl, _⟩ := h
    rfl
  · obtain ⟨a, ns, i, rfl, hs, hi, k⟩ := h
    refine ⟨_, (pss_cons (ps_if (pt_cmpR op_lt (pv 1) (pe_callB call_len (by rfl) T.b_len PySem.boot_len (pa_cons (pv 0) pa_nil)) (nomark _))
   (pss_one (ps_ret (pe_ix ix_list (pv 0) (pv 1) (fun _ _ => rfl))))
   pss_nil)
  (pss_one (ps_ret pe_int))), ?_⟩
    refine ⟨_, rfl, _, rfl, _, _, rfl, .inl ⟨_, hs, rfl⟩, _, _, rfl, rfl, _, rfl, ?_⟩
    refine ite3 (fun c => ?_) fun _ => k 0
    have c1 : i < (ns.length : Int) := by simpa using c
    have c2 : i.toNat < ns.length := by omega
    exact ⟨_, rfl, _, rfl, a, _, _, .int ns[i.toNat], rfl, rfl, hs, at_of (show i = ((i.toNat : Nat) : Int) by omega) (by simp [c2]), k _⟩
theorem ok_digits {f : Addr} {fd : FuncData} (F : Fun K "_law_digits" "_law_digits" s_law_digits f fd) (T : Txt K mg) (U_law_cell : Use P w K mg base CX0 "_law_cell" 1 P_law_cell (spCell K)) : FnG P w K mg base CX0 2 f fd P_law_digits (spDigits K) := by
  refine okG0 F sc_law_digits (fun vs H Q E h => ?_) fun cdv A outer s H vs Q E hr hg h => ?_
  · obtain ⟨a, ns, lo, hi, rfl, _⟩ := h
    rfl
  · obtain ⟨a, ns, lo, hi, rfl, hs, hlo, hhi, k⟩ := h
    refine ⟨_, (pss_cons (ps_set (i := 3) sc_law_digits.nd rfl (Or.inl rfl) (pe_lst pa_nil))
  (pss_cons (ps_for PassesOwn.never rfl (pi_range2 (by rfl) T.b_range (pa_cons (pv 1) (pa_cons (pv 2) pa_nil))) (pg_name (i := 4) sc_law_digits.nd rfl (Or.inl rfl))
   (pss_cons (ps_set (i := 5) sc_law_digits.nd rfl (Or.inl rfl) (pe_use U_law_cell (hr.mono (by decide)) hg rfl (pa_cons (pv 0) (pa_cons (pv 4) pa_nil))))
  (C8.pss_cut (ps_if (pt_cmpR op_lt (pv 5) pe_int (nomark _))
   (pss_one (ps_set (i := 5) sc_law_digits.nd rfl (Or.inl rfl) (pe_op op_sub pe_int (pe_op op_mul pe_int (pv 5)))))
   pss_nil)
  (pss_one (ps_if (pt_cmpR op_ge (pv 5) (pe_op op_pow pe_int pe_int) (nomark _))
   (pss_one (ps_for PassesOwn.never rfl (pi_range1 (by rfl) T.b_range (pa_cons pe_int pa_nil)) (pg_name (i := 6) sc_law_digits.nd rfl (Or.inl rfl))
   (pss_one (ps_if (pt_cmpR op_gt (pv 5) pe_int (nomark _))
   (pss_cons (ps_expr (pe_bm PySem.F.plainAttrs_list PySem.F.slot_list_append PySem.F.type_list_append mt_append (pv 3) (pa_cons (pe_op op_mod (pe_callTy call_int1 (by rfl) T.b_int (by decide +kernel) (pa_cons (pv 5) pa_nil)) pe_int) pa_nil)))
  (pss_one (ps_set (i := 5) sc_law_digits.nd rfl (Or.inl rfl) (pe_op op_fdiv (pv 5) pe_int))))
   pss_nil))))
   (pss_cons (ps_set (i := 7) sc_law_digits.nd rfl (Or.inl rfl) (pe_op op_mod (pe_callTy call_int1 (by rfl) T.b_int (by decide +kernel) (pa_cons (pe_op op_add (pe_op op_add (pe_op op_mul (pv 5) pe_int) (pe_op op_mul (pv 4) pe_int)) pe_int) pa_nil)) pe_int))
  (pss_one (ps_for PassesOwn.never rfl (pi_range1 (by rfl) T.b_range (pa_cons pe_int pa_nil)) (pg_name (i := 6) sc_law_digits.nd rfl (Or.inl rfl))
   (pss_cons (ps_set (i := 7) sc_law_digits.nd rfl (Or.inl rfl) (pe_op op_mod (pe_callTy call_int1 (by rfl) T.b_int (by decide +kernel) (pa_cons (pe_op op_add (pe_op op_add (pe_op op_mul (pv 7) pe_int) (pe_op op_mul pe_int (pv 6))) pe_int) pa_nil)) pe_int))
  (pss_one (ps_expr (pe_bm PySem.F.plainAttrs_list PySem.F.slot_list_append PySem.F.type_list_append mt_append (pv 3) (pa_cons (pe_op op_mod (pe_callTy call_int1 (by rfl) T.b_int (by decide +kernel) (pa_cons (pe_op op_fdiv (pv 7) pe_int) pa_nil)) pe_int) pa_nil)))))))))))))
  (pss_one (ps_ret (pv 3))))), ?_⟩
    refine ⟨by decide, fun dl nd => ?_⟩
    have sz : (4000 : Nat) < sizeLine := by decide
    -- for k in range(first, last)
    refine ⟨_, rfl, _, rfl, _, _, rfl, ⟨by omega, by omega, by omega, by omega⟩, ?_⟩
    refine for_range (lo := (lo : Int)) (n := ((hi : Int) - (lo : Int)).toNat) (fun i σ H1 => ∃ x5 x6 x7 x4, σ = [some (.ref a), some (.int lo), some (.int hi), some (.ref dl), x4, x5, x6, x7] ∧ DigAt H H1 dl (60 * i)) ?_ ?_ ?_
    · exact ⟨none, none, none, none, rfl, [], upd_same, by simp, by simp, Same.new nd⟩
    · rintro i σ H1 hi' ⟨x5, x6, x7, x4, rfl, D⟩
      have S1 : Same H H1 := let ⟨_, _, _, _, z⟩ := D; z
      -- cell = _law_cell(script, k)
      refine ⟨_, rfl, _, rfl, a, ns, _, rfl, S1.seq hs, by omega, fun cell => ?_⟩
      -- if cell < 0: cell = 1 - 2 * cell
      refine ⟨fun σ H2 => ∃ c : Int, σ = [some (.ref a), some (.int lo), some (.int hi), some (.ref dl), some (.int ((lo : Int) + i)), some (.int c), x6, x7] ∧ H2 = H1, ?_, ?_⟩
      · refine ⟨_, rfl, _, _, rfl, rfl, _, rfl, ?_⟩
        refine ite3 (fun _ => ?_) fun _ => ⟨cell, rfl, rfl⟩
        exact ⟨_, rfl, _, _, rfl, rfl, .inl ⟨by decide, by decide⟩, _, _, rfl, rfl, _, rfl, rfl⟩
      · rintro _ _ ⟨c, rfl, rfl⟩
        -- if cell >= 10 ** 18
        refine ⟨_, rfl, _, _, rfl, rfl, ⟨by decide, by decide, by decide⟩, _, _, rfl, rfl, _, rfl, ?_⟩
        refine ite3 (fun hc => ?_) fun hc => ?_
        · refine ⟨_, rfl, by decide, by decide, ?_⟩
          refine for_range (lo := 0) (n := 60) (fun j σ H1 => ∃ (c : Int) (y6 : Option V), σ = [some (.ref a), some (.int lo), some (.int hi), some (.ref dl), some (.int ((lo : Int) + i)), some (.int c), y6, x7] ∧ DigAt H H1 dl (60 * i + j)) ⟨c, x6, rfl, D⟩ ?_ ?_
          · rintro j σ H2 hj ⟨c, y6, rfl, D2⟩
            obtain ⟨ds, hd, hl, _⟩ := id D2
            refine ⟨_, rfl, _, _, rfl, rfl, _, rfl, ?_⟩
            refine ite3 (fun hp => ?_) fun _ => ⟨c, _, rfl, D2.mono (by omega)⟩
            have hp : 0 < c := by simpa using hp
            refine ⟨_, rfl, .inl ⟨rfl, _, SqL.of hd⟩, _, rfl, .inl ⟨_, rfl, _, _, rfl, rfl, (by show (0 : Int) < 1000; decide), dl, _, _, rfl, rfl, hd, (by simp; omega), ?_⟩⟩
            refine ⟨_, rfl, _, _, rfl, rfl, ⟨by decide, by decide⟩, ?_⟩
            exact ⟨_, _, rfl, D2.add hd nd (Int.emod_nonneg _ (by decide)) (Int.emod_lt_of_pos _ (by decide))⟩
          · rintro σ H2 ⟨c, y6, rfl, D2⟩
            exact ⟨_, _, _, _, rfl, D2.mono (by omega)⟩
        · refine ⟨_, rfl, _, _, rfl, rfl, .inr ⟨by decide, by decide⟩, _, rfl, _, _, rfl, rfl, .inr ⟨by decide, by decide⟩, _, _, rfl, rfl, _, _, rfl, rfl, .inl ⟨_, rfl, _, _, rfl, rfl, (by show (0 : Int) < 2147483647; decide), ?_⟩⟩
          refine ⟨_, rfl, by decide, by decide, ?_⟩
          refine for_range (lo := 0) (n := 12) (fun j σ H1 => ∃ (sd : Int) (y6 : Option V), σ = [some (.ref a), some (.int lo), some (.int hi), some (.ref dl), some (.int ((lo : Int) + i)), some (.int c), y6, some (.int sd)] ∧ DigAt H H1 dl (60 * i + j)) ⟨_, x6, rfl, D⟩ ?_ ?_
          · rintro j σ H2 hj ⟨sd, y6, rfl, D2⟩
            obtain ⟨ds, hd, hl, _⟩ := id D2
            refine ⟨_, rfl, _, _, rfl, rfl, .inr ⟨by decide, by decide⟩, _, rfl, _, _, rfl, rfl, .inl ⟨by decide, by decide⟩, _, _, rfl, rfl, _, _, rfl, rfl, .inl ⟨_, rfl, _, _, rfl, rfl, (by show (0 : Int) < 2147483647; decide), ?_⟩⟩
            refine ⟨_, rfl, .inl ⟨rfl, _, SqL.of hd⟩, _, rfl, _, _, rfl, rfl, ⟨by decide, by decide⟩, .inl ⟨_, rfl, _, _, rfl, rfl, (by show (0 : Int) < 1000; decide), dl, _, _, rfl, rfl, hd, (by simp; omega), ?_⟩⟩
            exact ⟨_, _, rfl, D2.add hd nd (Int.emod_nonneg _ (by decide)) (Int.emod_lt_of_pos _ (by decide))⟩
          · rintro σ H2 ⟨sd, y6, rfl, D2⟩
            exact ⟨_, _, _, _, rfl, D2.mono (by omega)⟩
    · rintro σ H1 ⟨x5, x6, x7, x4, rfl, D⟩
      exact ⟨_, rfl, k dl H1 nd (D.mono (by omega))⟩
end

section
/-! data whose texts are texts and that are not deep -/
def Shp (n : Nat) (d : PyData) : Prop := d.canLay0 = true ∧ d.depth ≤ n
theorem Shp.all {n : Nat} : ∀ {ds : List PyData}, (∀ d ∈ ds, Shp n d) → PyData.canLayAll0 ds = true ∧ PyData.depthAll ds ≤ n
  | [], _ => ⟨rfl, Nat.zero_le _⟩
  | d :: r, h => by
    obtain ⟨a, b⟩ := h d (by simp)
    obtain ⟨c, e⟩ := Shp.all (ds := r) fun x hx => h x (List.mem_cons_of_mem _ hx)
    exact ⟨by simp only [PyData.canLayAll0, a, c]; rfl, Nat.max_le.mpr ⟨b, e⟩⟩
theorem Shp.tup {n : Nat} {ds : List PyData} (h : ∀ d ∈ ds, Shp n d) : Shp (n + 1) (.tuple ds) := by
  obtain ⟨a, b⟩ := Shp.all h
  exact ⟨by simp only [PyData.canLay0]; exact a, show PyData.depthAll ds + 1 ≤ n + 1 by omega⟩
theorem Shp.lst {n : Nat} {ds : List PyData} (h : ∀ d ∈ ds, Shp n d) : Shp (n + 1) (.list ds) := by
  obtain ⟨a, b⟩ := Shp.all h
  exact ⟨by simp only [PyData.canLay0]; exact a, show PyData.depthAll ds + 1 ≤ n + 1 by omega⟩
theorem Shp.sh {n : Nat} {d : PyData} (h : Shp n d) (hn : n ≤ 64) : SeqAt.shaped d = true := by
  unfold SeqAt.shaped
  rw [h.1, decide_eq_true (Nat.le_trans h.2 hn)]; rfl
theorem Shp.mono {n m : Nat} {d : PyData} (h : Shp n d) (l : n ≤ m) : Shp m d := ⟨h.1, Nat.le_trans h.2 l⟩
theorem Shp.str {n : Nat} {x : Str} (h : PyData.canLay0 (.str x) = true) : Shp n (.str x) := ⟨h, Nat.zero_le _⟩
theorem Shp.int (n : Nat) (i : Int) : Shp n (.int i) := ⟨rfl, Nat.zero_le _⟩
theorem Shp.bool (n : Nat) (b : Bool) : Shp n (.bool b) := ⟨rfl, Nat.zero_le _⟩
theorem Shp.nil : Shp 1 (.tuple []) := Shp.tup (n := 0) fun _ h => by cases h
theorem Shp.cons2 {n : Nat} {d : PyData} {ds : List PyData} (h : Shp n d) (t : ∀ x ∈ ds, Shp n x) : ∀ x ∈ d :: ds, Shp n x := fun x hx => by
  rcases List.mem_cons.mp hx with rfl | hx
  · exact h
  · exact t x hx
theorem Shp.none2 {n : Nat} : ∀ x ∈ ([] : List PyData), Shp n x := fun _ h => by cases h
theorem Shp.strS {n : Nat} {a : List Nat} (h : ∀ c ∈ a, c < 128) : Shp n (.str (S a)) := by
  refine Shp.str ?_
  rw [PyData.canLay0]
  exact Array.all_eq_true_iff_forall_mem.mpr fun c hc => by
    have := h c (by simpa [S] using hc)
    exact decide_eq_true (by omega)
end

abbrev s_law_same : Stmt := top 10
abbrev N_law_same : List Str := ["actual", "due"]
abbrev P_law_same : List Str := ["actual", "due"]
theorem sc_law_same : FnScope N_law_same P_law_same (defScope s_law_same) := ⟨rfl, rfl, rfl, by decide +kernel, rfl, by decide +kernel, by decide +kernel⟩
section
variable {P : Program} {w : World} {K : PySem.W.Frag} {mg : Str → Option Value} {base : Heap}
theorem ok_same {f : Addr} {fd : FuncData} (F : Fun K "_law_same" "_law_same" s_law_same f fd) (T : Txt K mg) : FnG P w K mg base CX0 1 f fd P_law_same (spSame K) := by
  refine okG0 F sc_law_same (fun vs H Q E h => ?_) fun cdv A outer s H vs Q E hr hg h => ?_
  · obtain ⟨x, y, d, rfl, _⟩ := h
    rfl
  · obtain ⟨x, y, d, rfl, hx, hy, hs, k⟩ := h
    refine ⟨_, (pss_one (ps_ret (pe_cmpR op_eq (pe_callB (call_repr_data hg hr.units) (by rfl) T.b_repr (by decide +kernel) (pa_cons (pv 0) pa_nil)) (pe_callB (call_repr_data hg hr.units) (by rfl) T.b_repr (by decide +kernel) (pa_cons (pv 1) pa_nil)) (nomark _)))), ?_⟩
    refine ⟨_, rfl, _, d, rfl, hx, hs, _, rfl, _, d, rfl, hy, hs, rfl, ?_⟩
    rw [decide_eq_true rfl]
    exact k
end

abbrev s_law_names : Stmt := top 8
abbrev N_law_names : List Str := ["box", "letters", "first", "place", "names", "k", "letter"]
abbrev P_law_names : List Str := ["box"]
theorem sc_law_names : FnScope N_law_names P_law_names (defScope s_law_names) := ⟨rfl, rfl, rfl, by decide +kernel, rfl, by decide +kernel, by decide +kernel⟩
abbrev s_law_value : Stmt := top 9
abbrev N_law_value : List Str := ["box", "kind"]
abbrev P_law_value : List Str := ["box"]
theorem sc_law_value : FnScope N_law_value P_law_value (defScope s_law_value) := ⟨rfl, rfl, rfl, by decide +kernel, rfl, by decide +kernel, by decide +kernel⟩
section
variable {P : Program} {w : World} {K : PySem.W.Frag} {mg : Str → Option Value} {base : Heap}
structure NameOk (x : Str) : Prop where
  ex : ∃ a : List Nat, x = S a ∧ a.length ≤ 10 ∧ ∀ c ∈ a, c < 128
theorem NameOk.len {x : Str} (h : NameOk x) : x.length ≤ 10 := by
  obtain ⟨a, rfl, h1, _⟩ := h.ex
  rw [S_len]; exact h1
theorem NameOk.sm {x : Str} (h : NameOk x) : Sm (.str x) 0 200 := by
  obtain ⟨a, rfl, h1, h2⟩ := h.ex
  refine (Sm.str (n := 10) (by rw [S_len]; exact h1) fun c hc => ?_).mono (Nat.le_refl _) (by omega)
  have := h2 c (by simpa [S] using hc)
  omega
theorem NameOk.shp {n : Nat} {x : Str} (h : NameOk x) : Shp n (.str x) := by
  obtain ⟨a, rfl, _, h2⟩ := h.ex
  exact Shp.strS h2
def spNames (K : PySem.W.Frag) : Sp := fun vs H Q _ => ∃ p dl, vs = [.ref p] ∧ BoxAt H p dl ∧ ∀ (np : Addr) (ns : List Str) (H' : Hp), H np = none → BoxAt H' p dl → Keep p H H' → H' np = some (.lst (ns.map V.str)) → ns.length = 8 → (∀ x ∈ ns, NameOk x) → ns.Nodup → Q (.ref np) H'
def lets : List Nat := ("abcdefghijklmnopqrstuvwxyz" : Str).cps.toList
theorem cut_xyz {r : Int} (h0 : 0 ≤ r) (h1 : r < 4) : ∃ u v : List Nat, cutS "xyz" none (some r) = S u ∧ cutS "xyz" (some r) none = S v ∧ u.length ≤ 3 ∧ v.length ≤ 3 ∧ (∀ c ∈ u, c < 128) ∧ (∀ c ∈ v, c < 128) := by
  obtain ⟨i, rfl⟩ := Int.eq_ofNat_of_zero_le h0
  match i, h1 with
  | 0, _ => exact ⟨[], [120, 121, 122], by decide +kernel, by decide +kernel, by decide, by decide, by decide, by decide⟩
  | 1, _ => exact ⟨[120], [121, 122], by decide +kernel, by decide +kernel, by decide, by decide, by decide, by decide⟩
  | 2, _ => exact ⟨[120, 121], [122], by decide +kernel, by decide +kernel, by decide, by decide, by decide, by decide⟩
  | 3, _ => exact ⟨[120, 121, 122], [], by decide +kernel, by decide +kernel, by decide, by decide, by decide, by decide⟩
  | i + 4, h => omega
theorem none_back {p np : Addr} {H H' : Hp} (K1 : Keep p H H') (B : ∃ xs, H' p = some (.lst xs)) (h : H' np = none) : H np = none := by
  cases e : H np with
  | none => rfl
  | some o =>
    by_cases ep : np = p
    · subst ep
      obtain ⟨xs, g⟩ := B
      rw [g] at h; cases h
    · rw [K1 _ _ e ep] at h; cases h
/-- the k-th letter behind the t-th, three by three -/
def c8 (t : Int) (k : Nat) : Nat := lets.getD ((t + 3 * (k : Int)) % 26).toNat 0
theorem c8_ne {t : Int} (h0 : 0 ≤ t) (h1 : t < 26) {j k : Nat} (hj : j < 8) (hk : k < 8) (h : c8 t j = c8 t k) : j = k := by
  obtain ⟨n, rfl⟩ := Int.eq_ofNat_of_zero_le h0
  have hn : n < 26 := by omega
  have key : ∀ n < 26, ∀ j < 8, ∀ k < 8, lets.getD ((n + 3 * j) % 26) 0 = lets.getD ((n + 3 * k) % 26) 0 → j = k := by decide +kernel
  have e : ∀ i : Nat, (((n : Nat) : Int) + 3 * (i : Int)) % 26 = (((n + 3 * i) % 26 : Nat) : Int) := fun i => by omega
  refine key n hn j hj k hk ?_
  unfold c8 at h
  rw [e, e] at h
  exact h
theorem names_nodup {t : Int} (h0 : 0 ≤ t) (h1 : t < 26) {u v : List Nat} {ns : List Str} (hl : ns.length = 8) (hn : ∀ (k : Nat) (z : Str), ns[k]? = some z → z = S ([110] ++ u ++ [c8 t k] ++ v)) : ns.Nodup := by
  rw [List.Nodup, List.pairwise_iff_getElem]
  intro i j hi hj hij e
  have e1 := hn i _ (List.getElem?_eq_getElem hi)
  have e2 := hn j _ (List.getElem?_eq_getElem hj)
  rw [e1, e2] at e
  have e3 : ([110] ++ u ++ [c8 t i] ++ v : List Nat) = [110] ++ u ++ [c8 t j] ++ v := by
    have := congrArg (fun z : Str => z.cps.toList) e
    simpa [S] using this
  have e4 : c8 t i = c8 t j := by
    have := List.append_cancel_left (as := [110] ++ u) (bs := [c8 t i] ++ v) (cs := [c8 t j] ++ v) (by simpa using e3)
    exact (List.cons.inj this).1
  have := c8_ne h0 h1 (by omega) (by omega) e4
  omega
theorem ok_names {f : Addr} {fd : FuncData} (F : Fun K "_law_names" "_law_names" s_law_names f fd) (T : Txt K mg) (U_law_draw : Use P w K mg base CX0 "_law_draw" 1 P_law_draw (spDraw K)) : FnG P w K mg base CX0 2 f fd P_law_names (spNames K) := by
  refine okG0 F sc_law_names (fun vs H Q E h => ?_) fun cdv A outer s H vs Q E hr hg h => ?_
  · obtain ⟨p, dl, rfl, _⟩ := h
    rfl
  · obtain ⟨p, dl, rfl, B, k⟩ := h
    refine ⟨_, (pss_cons (ps_set (i := 1) sc_law_names.nd rfl (Or.inl rfl) pe_str)
  (pss_cons (ps_set (i := 2) sc_law_names.nd rfl (Or.inl rfl) (pe_use U_law_draw (hr.mono (by decide)) hg rfl (pa_cons (pv 0) (pa_cons pe_int pa_nil))))
  (pss_cons (ps_set (i := 3) sc_law_names.nd rfl (Or.inl rfl) (pe_use U_law_draw (hr.mono (by decide)) hg rfl (pa_cons (pv 0) (pa_cons pe_int pa_nil))))
  (pss_cons (ps_set (i := 4) sc_law_names.nd rfl (Or.inl rfl) (pe_lst pa_nil))
  (pss_cons (ps_for PassesOwn.never rfl (pi_range1 (by rfl) T.b_range (pa_cons pe_int pa_nil)) (pg_name (i := 5) sc_law_names.nd rfl (Or.inl rfl))
   (pss_cons (ps_set (i := 6) sc_law_names.nd rfl (Or.inl rfl) (pe_ix ix_str (pv 1) (pe_op op_mod (pe_callTy call_int1 (by rfl) T.b_int (by decide +kernel) (pa_cons (pe_op op_add (pv 2) (pe_op op_mul pe_int (pv 5))) pa_nil)) pe_int) (fun _ _ => rfl)))
  (pss_one (ps_expr (pe_bm PySem.F.plainAttrs_list PySem.F.slot_list_append PySem.F.type_list_append mt_append (pv 4) (pa_cons (pe_op op_add_str (pe_op op_add_str (pe_op op_add_str pe_str (pe_slice sl_str pe_str po_none (po_some (pv 3)))) (pv 6)) (pe_slice sl_str pe_str (po_some (pv 3)) po_none)) pa_nil))))))
  (pss_one (ps_ret (pv 4)))))))), ?_⟩
    refine ⟨_, rfl, p, dl, 26, rfl, B, by decide, fun t H1 t0 t1 B1 K1 => ?_⟩
    refine ⟨_, rfl, p, dl, 4, rfl, B1, by decide, fun r H2 r0 r1 B2 K2 => ?_⟩
    obtain ⟨u, v, eu, ev, lu, lv, hu, hv⟩ := cut_xyz r0 r1
    refine ⟨sz_0, fun np hnp => ?_⟩
    refine ⟨_, rfl, by decide, by decide, ?_⟩
    have hnp0 : H np = none := none_back (K1.trans K2) B2.at_ hnp
    have npp : np ≠ p := fun e => by subst e; obtain ⟨xs, g⟩ := B2.at_; rw [g] at hnp; cases hnp
    have npd : np ≠ dl := fun e => by subst e; obtain ⟨xs, g⟩ := B2.dg; rw [g] at hnp; cases hnp
    refine for_range (lo := 0) (n := 8) (fun i σ H3 => ∃ (ns : List Str) (x5 x6 : Option V), σ = [some (.ref p), some (.str "abcdefghijklmnopqrstuvwxyz"), some (.int t), some (.int r), some (.ref np), x5, x6] ∧ ns.length = i ∧ (∀ (k : Nat) (z : Str), ns[k]? = some z → z = S ([110] ++ u ++ [c8 t k] ++ v)) ∧ (∀ x ∈ ns, NameOk x) ∧ H3 np = some (.lst (ns.map V.str)) ∧ BoxAt H3 p dl ∧ (∀ b o, H2 b = some o → H3 b = some o)) ⟨[], none, none, rfl, rfl, by simp, by simp, upd_same, B2.upd npp npd, Same.new hnp⟩ ?_ ?_
    · rintro i σ H3 hi ⟨ns, x5, x6, rfl, hl, hnm, hok, en, B3, S3⟩
      have hLets : ("abcdefghijklmnopqrstuvwxyz" : Str) = S lets := by decide +kernel
      have hLl : lets.length = 26 := by decide +kernel
      have hL128 : ∀ c ∈ lets, c < 128 := by decide +kernel
      obtain ⟨j, hj⟩ : ∃ j : Nat, (t + 3 * (0 + (i : Int))) % 26 = (j : Int) := ⟨_, (Int.toNat_of_nonneg (Int.emod_nonneg _ (by decide))).symm⟩
      have hj26 : j < lets.length := by
        have := Int.emod_lt_of_pos (t + 3 * (0 + (i : Int))) (show (0 : Int) < 26 by decide)
        omega
      have hc : lets[j]? = some lets[j] := List.getElem?_eq_getElem hj26
      have hcm := hL128 _ (List.getElem_mem hj26)
      have hc8 : c8 t i = lets[j] := by
        unfold c8
        rw [show (t + 3 * (i : Int)) % 26 = (j : Int) by rw [← hj, Int.zero_add], Int.toNat_natCast, List.getD_eq_getElem?_getD, hc]
        rfl
      generalize lets[j] = c at hc hcm hc8
      have hq : ("n" : Str) = S [110] := by decide +kernel
      have hc1 : (⟨#[c]⟩ : Str) = S [c] := rfl
      have h3 : ("xyz" : Str).length ≤ sizeLine := by decide +kernel
      have sz : ∀ a b : List Nat, a.length + b.length ≤ 100 → (S a).length + (S b).length ≤ sizeLine := fun a b h => by rw [S_len, S_len]; exact Nat.le_trans h (by decide)
      have e : ("n" : Str) ++ cutS "xyz" none (some r) ++ (⟨#[c]⟩ : Str) ++ cutS "xyz" (some r) none = S ([110] ++ u ++ [c] ++ v) := by
        rw [hq, eu, ev, hc1, S_cat, S_cat, S_cat]
      refine ⟨_, rfl, _, rfl, _, rfl, _, _, rfl, rfl, .inl ⟨by decide, by decide⟩, _, _, rfl, rfl, .inl ⟨_, rfl, _, _, rfl, rfl, (by show (0 : Int) < 26; decide), S lets, (j : Int), c, by rw [hLets], congrArg V.int hj, by rw [S_len, hLl]; decide, at_S hc, ?_⟩⟩
      refine ⟨_, rfl, .inl ⟨rfl, _, SqL.of en⟩, _, rfl, _, rfl, _, rfl, h3, _, _, rfl, rfl, by rw [hq, eu]; exact sz _ _ (by simp; omega), ?_⟩
      refine ⟨_, rfl, _, _, rfl, rfl, by rw [hq, eu, hc1, S_cat]; exact sz _ _ (by simp; omega), ?_⟩
      refine ⟨_, rfl, _, rfl, _, rfl, h3, _, _, rfl, rfl, by rw [hq, eu, ev, hc1, S_cat, S_cat]; exact sz _ _ (by simp; omega), ?_⟩
      refine ⟨np, _, _, rfl, rfl, en, by rw [List.length_map, hl]; exact Nat.lt_of_lt_of_le hi (by decide), ?_⟩
      rw [e]
      refine ⟨ns ++ [S ([110] ++ u ++ [c] ++ v)], _, _, rfl, by simp; omega, fun k z hz => ?_, fun x hx => ?_, by rw [upd_same, List.map_append]; rfl, B3.upd npp npd, fun b o hb => ?_⟩
      · rcases Nat.lt_trichotomy k ns.length with hk | hk | hk
        · exact hnm k z (by rw [List.getElem?_append_left hk] at hz; exact hz)
        · subst hk
          rw [List.getElem?_append_right (Nat.le_refl _), Nat.sub_self] at hz
          obtain rfl := Option.some.inj hz
          rw [hl, hc8]
        · rw [List.getElem?_eq_none (by simp; omega)] at hz; cases hz
      · rcases List.mem_append.mp hx with hx | hx
        · exact hok x hx
        · rw [List.mem_singleton.mp hx]
          refine ⟨_, rfl, by simp; omega, fun d hd => ?_⟩
          simp only [List.mem_append, List.mem_singleton] at hd
          rcases hd with ((rfl | hd) | rfl) | hd
          · decide
          · exact hu d hd
          · exact hcm
          · exact hv d hd
      · rw [upd_ne (ne_of_none hb hnp)]; exact S3 b o hb
    · rintro σ H3 ⟨ns, x5, x6, rfl, hl, hnm, hok, en, B3, S3⟩
      exact ⟨_, rfl, k np ns H3 hnp0 B3 ((K1.trans K2).trans (Same.keep S3)) en hl hok (names_nodup t0 t1 hl hnm)⟩
/-- a drawn value -/
structure VOk (d : PyData) : Prop where
  tup : ∃ z r, d = .tuple (.str z :: r) ∧ z ≠ ""
  sm : Sm d 1 3000
  shp : Shp 1 d
def spValue (K : PySem.W.Frag) : Sp := fun vs H Q _ => ∃ p dl, vs = [.ref p] ∧ BoxAt H p dl ∧ ∀ v d H', BoxAt H' p dl → Keep p H H' → Dt K H' v d → VOk d → Q v H'
theorem vok1 {z x : Str} (h1 : shortS z = true) (h2 : shortS x = true) (h3 : PyData.canLay0 (.str z) = true) (h4 : PyData.canLay0 (.str x) = true) (hz : z ≠ "") : VOk (.tuple [.str z, .str x]) :=
  ⟨⟨_, _, rfl, hz⟩, (Sm.tup (.cons (Sm.short h1) (.cons (Sm.short h2) .nil))).mono (by decide) (by decide), Shp.tup (Shp.cons2 (Shp.str h3) (Shp.cons2 (Shp.str h4) Shp.none2))⟩
theorem ten_val : ∀ n : Nat, NumText.digitsVal (49 :: List.replicate n 48) = 10 ^ n
  | 0 => rfl
  | n + 1 => by
    rw [List.replicate_succ', ← List.cons_append]
    have h : ∀ (cs : List Nat) (c : Nat), NumText.digitsVal (cs ++ [c]) = NumText.digitsVal cs * 10 + (c - 48) := fun cs c => by
      unfold NumText.digitsVal
      rw [List.foldl_append]
      rfl
    rw [h, ten_val n, Nat.pow_succ]
    simp
theorem ten_S (n : Nat) (hn : n ≤ 100) : PySem.intText? (S ([49] ++ List.replicate n 48)) = some ((10 : Int) ^ n) := by
  have h : ([49] ++ List.replicate n 48).all (fun c => decide (48 ≤ c) && decide (c ≤ 57)) = true := List.all_eq_true.mpr fun c hc => by
    rcases List.mem_append.mp hc with hc | hc
    · rw [List.mem_singleton.mp hc]; rfl
    · rw [List.eq_of_mem_replicate hc]; rfl
  rw [int_S h (by simp) (by simp; omega)]
  have e : NumText.digitsVal ([49] ++ List.replicate n 48) = 10 ^ n := ten_val n
  rw [e]
  congr 1
theorem ok_value {f : Addr} {fd : FuncData} (F : Fun K "_law_value" "_law_value" s_law_value f fd) (T : Txt K mg) (U_law_draw : Use P w K mg base CX0 "_law_draw" 1 P_law_draw (spDraw K)) : FnG P w K mg base CX0 2 f fd P_law_value (spValue K) := by
  refine okG0 F sc_law_value (fun vs H Q E h => ?_) fun cdv A outer s H vs Q E hr hg h => ?_
  · obtain ⟨p, dl, rfl, _⟩ := h
    rfl
  · obtain ⟨p, dl, rfl, B, k⟩ := h
    refine ⟨_, (pss_cons (ps_set (i := 1) sc_law_value.nd rfl (Or.inl rfl) (pe_use U_law_draw (hr.mono (by decide)) hg rfl (pa_cons (pv 0) (pa_cons pe_int pa_nil))))
  (pss_cons (ps_if (pt_cmpR op_eq (pv 1) pe_int (nomark _))
   (pss_one (ps_ret (pe_tup (pa_cons pe_str pa_nil))))
   pss_nil)
  (pss_cons (ps_if (pt_cmpR op_eq (pv 1) pe_int (nomark _))
   (pss_one (ps_ret (pe_tup (pa_cons pe_str (pa_cons (pe_cmpR op_eq (pe_use U_law_draw (hr.mono (by decide)) hg rfl (pa_cons (pv 0) (pa_cons pe_int pa_nil))) pe_int (nomark _)) pa_nil)))))
   pss_nil)
  (pss_cons (ps_if (pt_cmpR op_eq (pv 1) pe_int (nomark _))
   (pss_one (ps_ret (pe_tup (pa_cons pe_str (pa_cons (pe_slice sl_str pe_str po_none (po_some (pe_use U_law_draw (hr.mono (by decide)) hg rfl (pa_cons (pv 0) (pa_cons pe_int pa_nil))))) pa_nil)))))
   pss_nil)
  (pss_cons (ps_if (pt_cmpR op_eq (pv 1) pe_int (nomark _))
   (pss_one (ps_ret (pe_tup (pa_cons pe_str (pa_cons (pe_ix ix_list (pe_lst (pa_cons pe_str (pa_cons pe_str (pa_cons pe_str pa_nil)))) (pe_use U_law_draw (hr.mono (by decide)) hg rfl (pa_cons (pv 0) (pa_cons pe_int pa_nil))) (fun _ _ => rfl)) pa_nil)))))
   pss_nil)
  (pss_one (ps_ret (pe_tup (pa_cons pe_str (pa_cons (pe_op op_sub (pe_op op_mulW (pe_use U_law_draw (hr.mono (by decide)) hg rfl (pa_cons (pv 0) (pa_cons pe_int pa_nil))) (pe_callTy call_int_str (by rfl) T.b_int (by decide +kernel) (pa_cons (pe_op op_add_str pe_str (pe_op op_rep_str pe_str (pe_use U_law_draw (hr.mono (by decide)) hg rfl (pa_cons (pv 0) (pa_cons pe_int pa_nil))))) pa_nil))) (pe_use U_law_draw (hr.mono (by decide)) hg rfl (pa_cons (pv 0) (pa_cons pe_int pa_nil)))) pa_nil)))))))))), ?_⟩
    refine ⟨_, rfl, p, dl, 6, rfl, B, by decide, fun kind H1 k0 k1 B1 K1 => ?_⟩
    refine ⟨_, rfl, rfl, _, rfl, ?_⟩
    refine ite3 (fun _ => ?_) fun _ => ?_
    · refine ⟨sz_1, fun u hu => k _ _ _ (B1.same (Same.new hu)) (K1.trans (Same.keep (Same.new hu))) (Dt.made hu (.cons (.str _) .nil)) ⟨⟨_, _, rfl, by decide +kernel⟩, (Sm.tup (.cons (Sm.short (by decide +kernel)) .nil)).mono (by decide) (by decide), Shp.tup (Shp.cons2 (Shp.str (by decide +kernel)) Shp.none2)⟩⟩
    refine ⟨_, rfl, rfl, _, rfl, ?_⟩
    refine ite3 (fun _ => ?_) fun _ => ?_
    · refine ⟨_, rfl, p, dl, 2, rfl, B1, by decide, fun r H2 r0 r1 B2 K2 => ?_⟩
      refine ⟨rfl, sz_2, fun u hu => k _ _ _ (B2.same (Same.new hu)) ((K1.trans K2).trans (Same.keep (Same.new hu))) (Dt.made hu (.cons (.str _) (.cons (.bl _) .nil))) ⟨⟨_, _, rfl, by decide +kernel⟩, (Sm.tup (.cons (Sm.short (by decide +kernel)) (.cons (Sm.bool _) .nil))).mono (by decide) (by decide), Shp.tup (Shp.cons2 (Shp.str (by decide +kernel)) (Shp.cons2 (Shp.bool _ _) Shp.none2))⟩⟩
    refine ⟨_, rfl, rfl, _, rfl, ?_⟩
    refine ite3 (fun _ => ?_) fun _ => ?_
    · refine ⟨_, rfl, p, dl, 3, rfl, B1, by decide, fun r H2 r0 r1 B2 K2 => ?_⟩
      obtain ⟨z, ez, z1, z2⟩ : ∃ z, cutS "ab" none (some r) = z ∧ shortS z = true ∧ PyData.canLay0 (.str z) = true := by
        obtain ⟨i, rfl⟩ := Int.eq_ofNat_of_zero_le r0
        match i, r1 with
        | 0, _ => exact ⟨"", by decide +kernel, by decide +kernel, by decide +kernel⟩
        | 1, _ => exact ⟨"a", by decide +kernel, by decide +kernel, by decide +kernel⟩
        | 2, _ => exact ⟨"ab", by decide +kernel, by decide +kernel, by decide +kernel⟩
        | i + 3, h => omega
      refine ⟨_, rfl, _, rfl, by decide +kernel, sz_2, fun u hu => ?_⟩
      rw [ez]
      exact k _ _ _ (B2.same (Same.new hu)) ((K1.trans K2).trans (Same.keep (Same.new hu))) (Dt.made hu (.cons (.str _) (.cons (.str _) .nil))) (vok1 (by decide +kernel) z1 (by decide +kernel) z2 (by decide +kernel))
    refine ⟨_, rfl, rfl, _, rfl, ?_⟩
    refine ite3 (fun _ => ?_) fun _ => ?_
    · refine ⟨sz_3, fun l hl => ?_⟩
      have S1 := Same.new (o := .lst [.str "len", .str "print", .str "abs"]) hl
      have lp : l ≠ p := fun e => by subst e; obtain ⟨xs, g⟩ := B1.at_; rw [g] at hl; cases hl
      have el := upd_same (H := H1) (a := l) (o := HO.lst [.str "len", .str "print", .str "abs"])
      have B1' := B1.same S1
      generalize upd H1 l _ = H1' at S1 el B1'
      refine ⟨_, rfl, p, dl, 3, rfl, B1', by decide, fun r H2 r0 r1 B2 K2 => ?_⟩
      obtain ⟨z, ez, z1, z2⟩ : ∃ z, atI [V.str "len", V.str "print", V.str "abs"] r = some (.str z) ∧ shortS z = true ∧ PyData.canLay0 (.str z) = true := by
        obtain ⟨i, rfl⟩ := Int.eq_ofNat_of_zero_le r0
        match i, r1 with
        | 0, _ => exact ⟨"len", at0, by decide +kernel, by decide +kernel⟩
        | 1, _ => exact ⟨"print", at1, by decide +kernel, by decide +kernel⟩
        | 2, _ => exact ⟨"abs", at2, by decide +kernel, by decide +kernel⟩
        | i + 3, h => omega
      refine ⟨l, _, _, _, rfl, rfl, SqL.of (K2 _ _ el lp), ez, sz_2, fun u hu => ?_⟩
      exact k _ _ _ (B2.same (Same.new hu)) (((K1.trans (Same.keep S1)).trans K2).trans (Same.keep (Same.new hu))) (Dt.made hu (.cons (.str _) (.cons (.str _) .nil))) (vok1 (by decide +kernel) z1 (by decide +kernel) z2 (by decide +kernel))
    refine ⟨_, rfl, p, dl, 1000, rfl, B1, by decide, fun r H2 r0 r1 B2 K2 => ?_⟩
    refine ⟨_, rfl, p, dl, 60, rfl, B2, by decide, fun m H3 m0 m1 B3 K3 => ?_⟩
    obtain ⟨n, rfl⟩ := Int.eq_ofNat_of_zero_le m0
    have l0 : ("0" : Str).length = 1 := by decide +kernel
    have e0 : repS "0" (n : Int) = S (List.replicate n 48) := by
      show (⟨(repC ("0" : Str).cps.toList (n : Int)).toArray⟩ : Str) = _
      rw [show ("0" : Str).cps.toList = [48] by decide +kernel]
      have : repC [48] (n : Int) = List.replicate n 48 := by
        show (List.replicate (n : Int).toNat [48]).flatten = List.replicate n 48
        rw [Int.toNat_natCast]
        clear m0 m1
        induction n with
        | zero => rfl
        | succ n ih => rw [List.replicate_succ, List.flatten_cons, ih, List.replicate_succ]; rfl
      rw [this]
    refine ⟨_, _, rfl, rfl, by omega, by omega, by rw [l0]; omega, ?_⟩
    rw [e0, show ("1" : Str) = S [49] by decide +kernel]
    refine ⟨_, _, rfl, rfl, by rw [S_len, S_len]; exact Nat.le_trans (show _ ≤ 100 by simp; omega) (by decide), ?_⟩
    rw [S_cat]
    refine ⟨_, _, rfl, ten_S n (by omega), by rw [S_len]; simp; omega, ?_⟩
    have hb : ((10 : Int) ^ n).natAbs < 2 ^ 250 := by
      have h1 : (10 : Nat) ^ n ≤ 10 ^ 60 := Nat.pow_le_pow_right (by decide) (by omega)
      have h2 : (10 : Nat) ^ 60 < 2 ^ 250 := by decide +kernel
      have h3 : ((10 : Int) ^ n).natAbs = 10 ^ n := by
        rw [Int.natAbs_pow]; rfl
      omega
    refine ⟨_, _, rfl, rfl, wide_mul (a := 10) (b := 250) (by omega) hb (by decide) (by decide) (by decide), ?_⟩
    refine ⟨_, rfl, p, dl, 3, rfl, B3, by decide, fun q H4 q0 q1 B4 K4 => ?_⟩
    refine ⟨_, _, rfl, rfl, sz_2, fun u hu => ?_⟩
    have hi : (r * 10 ^ n - q).natAbs < 2 ^ 1900 := by
      have h1 : (r * 10 ^ n).natAbs < 2 ^ 10 * 2 ^ 250 := by
        rw [Int.natAbs_mul]
        exact Nat.mul_lt_mul'' (by omega) hb
      have h2 : (2 : Nat) ^ 10 * 2 ^ 250 + 3 < 2 ^ 1900 := by decide +kernel
      omega
    exact k _ _ _ (B4.same (Same.new hu)) ((((K1.trans K2).trans K3).trans K4).trans (Same.keep (Same.new hu))) (Dt.made hu (.cons (.str _) (.cons (.int _) .nil))) ⟨⟨_, _, rfl, by decide +kernel⟩, (Sm.tup (.cons (Sm.short (by decide +kernel)) (.cons (Sm.int hi) .nil))).mono (by decide) (by decide), Shp.tup (Shp.cons2 (Shp.str (by decide +kernel)) (Shp.cons2 (Shp.int _ _) Shp.none2))⟩
end

abbrev s_bind : Stmt := top 2
abbrev N_bind : List Str := ["name", "params", "defaults", "args", "named", "known", "words", "x"]
abbrev P_bind : List Str := ["name", "params", "defaults", "args", "named"]
theorem sc_bind : FnScope N_bind P_bind (defScope s_bind) := ⟨rfl, rfl, rfl, by decide +kernel, rfl, by decide +kernel, by decide +kernel⟩
abbrev s_refusal : Stmt := top 3
abbrev N_refusal : List Str := ["params", "args", "named", "known", "x", "_"]
abbrev P_refusal : List Str := ["params", "args", "named", "known"]
theorem sc_refusal : FnScope N_refusal P_refusal (defScope s_refusal) := ⟨rfl, rfl, rfl, by decide +kernel, rfl, by decide +kernel, by decide +kernel⟩
abbrev s_law_given : Stmt := top 11
abbrev N_law_given : List Str := ["name", "pairs", "pair"]
abbrev P_law_given : List Str := ["name", "pairs"]
theorem sc_law_given : FnScope N_law_given P_law_given (defScope s_law_given) := ⟨rfl, rfl, rfl, by decide +kernel, rfl, by decide +kernel, by decide +kernel⟩
abbrev s_law_due : Stmt := top 12
abbrev N_law_due : List Str := ["params", "defaults", "args", "named", "pair", "rows", "k", "found"]
abbrev P_law_due : List Str := ["params", "defaults", "args", "named"]
theorem sc_law_due : FnScope N_law_due P_law_due (defScope s_law_due) := ⟨rfl, rfl, rfl, by decide +kernel, rfl, by decide +kernel, by decide +kernel⟩
abbrev s_law : Stmt := top 13
abbrev N_law : List Str := ["script", "box", "names", "params", "defaults", "k", "args", "many", "named", "name", "pair", "due", "first", "again"]
abbrev P_law : List Str := ["script"]
theorem sc_law : FnScope N_law P_law (defScope s_law) := ⟨rfl, rfl, rfl, by decide +kernel, rfl, by decide +kernel, by decide +kernel⟩
section
variable {P : Program} {w : World} {K : PySem.W.Frag} {mg : Str → Option Value} {base : Heap}
abbrev Mp := List (Str × PyData)
def pairD (p : Str × PyData) : PyData := .tuple [.str p.1, p.2]
def gv (m : Mp) (z : Str) : Option PyData := (m.find? fun p => decide (p.1 = z)).map (·.2)
/-- a tuple of pairs that has no dict of its own -/
def PrAt (K : PySem.W.Frag) (H : Hp) (a : Addr) (m : Mp) : Prop := ∃ xs, FT H a xs ∧ DtAll K H xs (m.map pairD)
inductive KvD (K : PySem.W.Frag) (H : Hp) : List (Key × V) → Mp → Prop
  | nil : KvD K H [] []
  | cons {z : Str} {v : V} {d : PyData} {r : List (Key × V)} {m : Mp} : Dt K H v d → KvD K H r m → KvD K H ((.inr z, v) :: r) ((z, d) :: m)
theorem KvD.len {H : Hp} : ∀ {kvs m}, KvD K H kvs m → kvs.length = m.length
  | _, _, .nil => rfl
  | _, _, .cons _ h => by rw [List.length_cons, List.length_cons, h.len]
theorem KvD.keys {H : Hp} : ∀ {kvs m}, KvD K H kvs m → kvs.map (·.1) = m.map fun p => (.inr p.1 : Key)
  | _, _, .nil => rfl
  | _, _, .cons _ h => by rw [List.map_cons, List.map_cons, h.keys]
theorem KvD.mono {H H' : Hp} (e : Same H H') : ∀ {kvs m}, KvD K H kvs m → KvD K H' kvs m
  | _, _, .nil => .nil
  | _, _, .cons d h => .cons (d.mono e) (h.mono e)
/-- for each text, what f says -/
def KF (K : PySem.W.Frag) (H : Hp) (kvs : List (Key × V)) (f : Str → Option PyData) : Prop := ∀ z, match f z with | none => valV kvs (.inr z) = none | some d => ∃ v, valV kvs (.inr z) = some v ∧ Dt K H v d
theorem KvD.kf {H : Hp} : ∀ {kvs m}, KvD K H kvs m → KF K H kvs (gv m)
  | _, _, .nil => fun z => valV_nil
  | _, _, .cons (z := y) (d := d) dv h => fun z => by
    unfold gv
    by_cases c : y = z
    · subst c
      rw [List.find?_cons_of_pos (by simp)]
      exact ⟨_, valV_pos rfl, dv⟩
    · rw [List.find?_cons_of_neg (by simpa using c), valV_neg (fun e => c (Sum.inr.inj e))]
      exact h.kf z
theorem KF.merge {H : Hp} {kvs more : List (Key × V)} {f g : Str → Option PyData} (h1 : KF K H kvs f) (h2 : KF K H more g) (nd : (more.map (·.1)).Nodup) : KF K H (mergeK kvs more) fun z => (g z).or (f z) := fun z => by
  have a1 := h1 z
  have a2 := h2 z
  show match (g z).or (f z) with | none => valV (mergeK kvs more) (.inr z) = none | some d => ∃ v, valV (mergeK kvs more) (.inr z) = some v ∧ Dt K H v d
  rw [valV_merge _ _ _ nd]
  cases e2 : g z with
  | some d =>
    rw [e2] at a2
    obtain ⟨v, ev, dv⟩ := a2
    exact ⟨v, by rw [ev]; rfl, dv⟩
  | none =>
    rw [e2] at a2
    have a2 : valV more (.inr z) = none := a2
    rw [a2]
    exact a1
theorem KF.mono {H H' : Hp} {kvs : List (Key × V)} {f : Str → Option PyData} (h : KF K H kvs f) (e : Same H H') : KF K H' kvs f := fun z => by
  have a := h z
  cases e2 : f z with
  | none => rw [e2] at a; exact a
  | some d =>
    rw [e2] at a
    obtain ⟨v, ev, dv⟩ := a
    exact ⟨v, ev, dv.mono e⟩
theorem mergeK_app : ∀ (more kvs : List (Key × V)), (more.map (·.1)).Nodup → (∀ k ∈ more.map (·.1), valV kvs k = none) → mergeK kvs more = kvs ++ more
  | [], kvs, _, _ => (List.append_nil _).symm
  | p :: r, kvs, h, hn => by
    rw [List.map_cons, List.nodup_cons] at h
    show mergeK (putK kvs p.1 p.2) r = _
    rw [putK_new p.2 (hn _ (by simp)), mergeK_app r _ h.2 fun k hk => ?_]
    · simp
    · rw [valV_snoc _ _ _ _ (hn _ (by simp)), if_neg fun e => h.1 (by rw [← e]; exact hk)]
      exact hn k (List.mem_cons_of_mem _ hk)
theorem mergeK_nil {more : List (Key × V)} (h : (more.map (·.1)).Nodup) : mergeK [] more = more := by rw [mergeK_app more [] h fun k _ => valV_nil]; rfl
theorem prs_of {H : Hp} : ∀ {m : Mp} {xs : List V}, DtAll K H xs (m.map pairD) → ∃ (ps : List Addr) (kvs : List (Key × V)), xs = ps.map V.ref ∧ Paired (fun p kv => SqT K H p [kV kv.1, kv.2]) ps kvs ∧ KvD K H kvs m
  | [], xs, h => ⟨[], [], h.nil_inv, .nil, .nil⟩
  | (z, d) :: m, xs, h => by
    obtain ⟨v, ws, rfl, dv, hw⟩ := DtAll.cons_inv h
    obtain ⟨q, u, rfl, hq, du⟩ := Dt.pair dv
    obtain ⟨ps, kvs, rfl, hp, hk⟩ := prs_of hw
    exact ⟨q :: ps, (.inr z, u) :: kvs, rfl, .cons hq hp, .cons du hk⟩
theorem prD_at {H : Hp} {xs : List V} {m : Mp} {i : Nat} {y : V} (ha : DtAll K H xs (m.map pairD)) (hy : xs[i]? = some y) : ∃ z d q u, m[i]? = some (z, d) ∧ y = .ref q ∧ SqT K H q [.str z, u] ∧ Dt K H u d := by
  obtain ⟨d0, hd0, dy⟩ := ha.getV hy
  rw [List.getElem?_map] at hd0
  cases e : m[i]? with
  | none => rw [e] at hd0; cases hd0
  | some p =>
    rw [e] at hd0
    obtain rfl := Option.some.inj hd0
    obtain ⟨z, d⟩ := p
    obtain ⟨q, u, rfl, hq, du⟩ := Dt.pair dy
    exact ⟨z, d, q, u, rfl, rfl, hq, du⟩
theorem KvD.zip {H : Hp} : ∀ {ns : List Str} {ys : List V} {as : List PyData}, DtAll K H ys as → KvD K H ((ns.map fun x => (.inr x : Key)).zip ys) (ns.zip as)
  | [], _, _, _ => .nil
  | _ :: _, _, _, .nil => .nil
  | x :: ns, _, _, .cons d h => .cons d (KvD.zip h)
def known (ns : List Str) (ds : Mp) (as : List PyData) (nm : Mp) (z : Str) : Option PyData := (gv nm z).or ((gv (ns.zip as) z).or (gv ds z))
def refusal (ns : List Str) (ds : Mp) (as : List PyData) (nm : Mp) : Str :=
  if ns.length < as.length then "takes too many arguments" else
  match nm.find? fun p => !decide (p.1 ∈ ns) with
  | some p => "has no parameter " ++ p.1
  | none => match nm.find? fun p => decide (p.1 ∈ ns.take as.length) with
    | some p => "was given " ++ p.1 ++ " twice"
    | none => match ns.find? fun x => (known ns ds as nm x).isNone with
      | some x => "needs " ++ x
      | none => ""
def due (ns : List Str) (ds : Mp) (as : List PyData) (nm : Mp) : PyData :=
  if refusal ns ds as nm = "" then .tuple [.str "ok", .tuple (ns.map fun x => pairD (x, (known ns ds as nm x).getD .none))] else .tuple [.str "raise", .int 10, .str ("go" ++ "() " ++ refusal ns ds as nm)]
theorem find_at {α : Type} {f : α → Bool} {p : α} : ∀ {l : List α} {i : Nat}, l[i]? = some p → f p = true → (∀ j q, j < i → l[j]? = some q → f q = false) → l.find? f = some p
  | [], i, h, _, _ => by simp at h
  | x :: l, 0, h, hp, _ => by
    obtain rfl := Option.some.inj h
    exact List.find?_cons_of_pos hp
  | x :: l, i + 1, h, hp, hb => by
    rw [List.find?_cons_of_neg (by rw [hb 0 x (Nat.succ_pos _) rfl]; exact Bool.false_ne_true)]
    exact find_at (by simpa using h) hp fun j q hj e => hb (j + 1) q (Nat.succ_lt_succ hj) (by simpa using e)
theorem find_no {α : Type} {f : α → Bool} {l : List α} (h : ∀ j q, j < l.length → l[j]? = some q → f q = false) : l.find? f = none := by
  rw [List.find?_eq_none]
  intro x hx
  obtain ⟨j, hj, e⟩ := List.mem_iff_getElem.mp hx
  rw [h j x hj (by rw [List.getElem?_eq_getElem hj, e])]
  exact Bool.false_ne_true
/-- what a call gives -/
structure CallIs (ns : List Str) (ds : Mp) (as : List PyData) (nm : Mp) : Prop where
  nl : ns.length ≤ 8
  nd : ns.Nodup
  no : ∀ x ∈ ns, NameOk x
  dl : ds.length ≤ 8
  dd : (ds.map (·.1)).Nodup
  al : as.length ≤ 10
  ml : nm.length ≤ 8
  md : (nm.map (·.1)).Nodup
  mo : ∀ p ∈ nm, NameOk p.1
theorem inV_str {x : Str} (ys : List Str) : inV (.str x) (ys.map V.str) = decide (x ∈ ys) := by
  unfold inV
  induction ys with
  | nil => rfl
  | cons y r ih =>
    rw [List.map_cons, List.any_cons, ih]
    have : eqV (.str y) (.str x) = decide (y = x) := by
      show (y == x) = _
      by_cases e : y = x
      · subst e; simp
      · simp [e]
    rw [this]
    by_cases e : y = x
    · subst e; simp
    · have : x ≠ y := fun h => e h.symm
      simp [e, this]
theorem len_cat (a b : Str) : (a ++ b).length = a.length + b.length := by
  obtain ⟨a⟩ := a; obtain ⟨b⟩ := b
  show (a ++ b).size = _
  exact Array.size_append
theorem slT_take {H : Hp} {a : Addr} {xs : List V} {n : Nat} {Q : VK} (h : SqT K H a xs) (hn : n ≤ xs.length) (k : ∀ p H', Same H H' → SqT K H' p (xs.take n) → Q (.ref p) H') : rSlA K (.ref a) none (some (n : Int)) H Q := by
  refine ⟨a, xs, rfl, h, fun e => ?_, fun e p hp => ?_⟩
  · obtain ⟨_, e⟩ := e
    have e := (HT.sIx_nat xs.length xs.length n).symm.trans e
    have : n = xs.length := by omega
    exact k a H (Same.refl _) (by rw [this, List.take_length]; exact h)
  · have : cutV xs none (some (n : Int)) = xs.take n := by
      unfold cutV
      rw [HT.sIx_nat]
      show (xs.drop 0).take (min n xs.length - 0) = _
      rw [List.drop_zero, Nat.sub_zero, Nat.min_eq_left hn]
    rw [this]
    exact k p _ (Same.new hp) (SqT.of upd_same)
def spRefusal (K : PySem.W.Frag) : Sp := fun vs H Q _ => ∃ (pp ap np kp : Addr) (ns : List Str) (ys xs : List V) (ds : Mp) (as : List PyData) (nm : Mp) (kvs : List (Key × V)), vs = [.ref pp, .ref ap, .ref np, .ref kp] ∧ SqT K H pp (ns.map V.str) ∧ SqT K H ap ys ∧ DtAll K H ys as ∧ SqT K H np xs ∧ DtAll K H xs (nm.map pairD) ∧ H kp = some (.dK kvs) ∧ KF K H kvs (known ns ds as nm) ∧ CallIs ns ds as nm ∧
  ∀ H', Same H H' → Q (.str (refusal ns ds as nm)) H'
theorem ok_refusal {f : Addr} {fd : FuncData} (F : Fun K "_refusal" "_refusal" s_refusal f fd) (T : Txt K mg) : FnG P w K mg base CX0 1 f fd P_refusal (spRefusal K) := by
  refine okG0 F sc_refusal (fun vs H Q E h => ?_) fun cdv A outer s H vs Q E hr hg h => ?_
  · obtain ⟨pp, ap, np, kp, ns, ys, xs, ds, as, nm, kvs, rfl, _⟩ := h
    rfl
  · obtain ⟨pp, ap, np, kp, ns, ys, xs, ds, as, nm, kvs, rfl, hp, ha, da, hn, dn, hk, kf, C, k⟩ := h
    have hu : (A.deeper (envOfC "_refusal" (defScope s_refusal) s.heap.objs.size f cdv)).units + 1 < cLine := Nat.lt_of_le_of_lt (by omega) hr.units
    refine ⟨_, (pss_cons (ps_if (pt_cmpR op_gt (pe_callB call_len (by rfl) T.b_len PySem.boot_len (pa_cons (pv 1) pa_nil)) (pe_callB call_len (by rfl) T.b_len PySem.boot_len (pa_cons (pv 0) pa_nil)) (nomark _))
   (pss_one (ps_ret pe_str))
   pss_nil)
  (pss_cons (ps_for PassesOwn.never rfl (pi_tup (pv 2)) (pg_tup (by rfl) (pgs_cons (pg_name (i := 4) sc_refusal.nd rfl (Or.inl rfl)) (pgs_cons (pg_name (i := 5) sc_refusal.nd rfl (Or.inl rfl)) pgs_nil)))
   (pss_one (ps_if (pt_cmpR op_notIn_seq (pv 4) (pv 0) (by rfl))
   (pss_one (ps_ret (pe_op op_add_str pe_str (pv 4))))
   pss_nil)))
  (pss_cons (ps_for PassesOwn.never rfl (pi_tup (pv 2)) (pg_tup (by rfl) (pgs_cons (pg_name (i := 4) sc_refusal.nd rfl (Or.inl rfl)) (pgs_cons (pg_name (i := 5) sc_refusal.nd rfl (Or.inl rfl)) pgs_nil)))
   (pss_one (ps_if (pt_cmpR op_in_seq (pv 4) (pe_slice sl_tupA (pv 0) po_none (po_some (pe_callB call_len (by rfl) T.b_len PySem.boot_len (pa_cons (pv 1) pa_nil)))) (by rfl))
   (pss_one (ps_ret (pe_op op_add_str (pe_op op_add_str pe_str (pv 4)) pe_str)))
   pss_nil)))
  (pss_cons (ps_for PassesOwn.never rfl (pi_tup (pv 0)) (pg_name (i := 4) sc_refusal.nd rfl (Or.inl rfl))
   (pss_one (ps_if (pt_cmp (pc_dnotin hu (pv 4) (pv 3)))
   (pss_one (ps_ret (pe_op op_add_str pe_str (pv 4))))
   pss_nil)))
  (pss_one (ps_ret pe_str)))))), ?_⟩
    refine ⟨_, rfl, _, _, rfl, .inr ⟨_, ha, rfl⟩, ?_⟩
    refine ⟨_, rfl, _, _, rfl, .inr ⟨_, hp, rfl⟩, ?_⟩
    refine ⟨_, _, rfl, rfl, ?_⟩
    have hl := da.length
    have hm := dn.length
    rw [List.length_map] at hm
    rw [List.length_map]
    refine ⟨_, rfl, ?_⟩
    have fN : (ns.map V.str).all flatV = true := by rw [List.all_map]; exact List.all_eq_true.mpr fun _ _ => rfl
    have zN : ∀ x, NameOk x → x.length ≤ 10 := fun x h => h.len
    refine ite3 (fun c => ?_) fun c => ?_
    · have e : refusal ns ds as nm = "takes too many arguments" := by unfold refusal; rw [if_pos (by have := of_decide_eq_true c; omega)]
      have k := k H (Same.refl _)
      rw [e] at k
      exact k
    have c0 : ¬ ns.length < as.length := by have := of_decide_eq_false c; omega
    refine ⟨_, rfl, np, rfl, ⟨_, hn⟩, ?_⟩
    refine for_tup (xs := xs) (fun i σ H1 => ∃ x4 x5, σ = [some (.ref pp), some (.ref ap), some (.ref np), some (.ref kp), x4, x5] ∧ Same H H1 ∧ ∀ j q, j < i → nm[j]? = some q → q.1 ∈ ns) ⟨none, none, rfl, Same.refl _, fun j q hj => absurd hj (Nat.not_lt_zero _)⟩ ?_ ?_ ?_
    · rintro i σ H1 _ ⟨x4, x5, rfl, S1, _⟩
      exact Same.tupl S1 hn
    · rintro i y σ H1 hy ⟨x4, x5, rfl, S1, hb⟩
      obtain ⟨z, d, q, u, hz, rfl, hq, du⟩ := prD_at (DtAll.mono S1 dn) hy
      refine ⟨q, _, rfl, hq, rfl, _, _, rfl, _, _, rfl, rfl, ?_⟩
      refine ⟨_, rfl, _, rfl, pp, _, rfl, .inr (Same.tupl S1 hp), rfl, fN, _, rfl, ?_⟩
      have ez : (!decide (z ∈ ns)) = true → refusal ns ds as nm = "has no parameter " ++ z := fun c => by
        unfold refusal
        rw [if_neg c0, find_at (i := i) hz c fun j q hj e => by rw [hb j q hj e |> decide_eq_true]; rfl]
      rw [inV_str]
      refine ite3 (fun c => ?_) fun c => ?_
      · have zm : z.length ≤ 10 := zN z (C.mo _ (List.mem_of_getElem? hz))
        refine ⟨_, rfl, _, _, rfl, rfl, Nat.le_trans (Nat.add_le_add_left zm _) (by decide +kernel), ?_⟩
        have k := k _ S1
        rw [ez c] at k
        exact k
      · refine ⟨_, _, rfl, S1, fun j p hj e => ?_⟩
        rcases Nat.lt_succ_iff_lt_or_eq.mp hj with hj | rfl
        · exact hb j p hj e
        · rw [hz] at e
          obtain rfl := Option.some.inj e
          have : decide (z ∈ ns) = true := by revert c; cases decide (z ∈ ns) <;> simp
          exact of_decide_eq_true this
    rintro σ H1 ⟨x4, x5, rfl, S1, hb⟩
    have f1 : nm.find? (fun p => !decide (p.1 ∈ ns)) = none := find_no fun j q hj e => by rw [hb j q (by omega) e |> decide_eq_true]; rfl
    clear hb
    refine ⟨_, rfl, np, rfl, ⟨_, Same.tupl S1 hn⟩, ?_⟩
    refine for_tup (xs := xs) (fun i σ H2 => ∃ x4 x5, σ = [some (.ref pp), some (.ref ap), some (.ref np), some (.ref kp), x4, x5] ∧ Same H H2 ∧ ∀ j q, j < i → nm[j]? = some q → ¬ q.1 ∈ ns.take as.length) ⟨_, _, rfl, S1, fun j q hj => absurd hj (Nat.not_lt_zero _)⟩ ?_ ?_ ?_
    · rintro i σ H2 _ ⟨x4, x5, rfl, S2, _⟩
      exact Same.tupl S2 hn
    · rintro i y σ H2 hy ⟨x4, x5, rfl, S2, hb⟩
      obtain ⟨z, d, q, u, hz, rfl, hq, du⟩ := prD_at (DtAll.mono S2 dn) hy
      refine ⟨q, _, rfl, hq, rfl, _, _, rfl, _, _, rfl, rfl, ?_⟩
      refine ⟨_, rfl, _, rfl, ?_⟩
      refine ⟨_, rfl, _, _, rfl, .inr ⟨_, Same.tupl S2 ha, rfl⟩, _, rfl, ?_⟩
      rw [hl]
      refine slT_take (Same.tupl S2 hp) (n := as.length) (by rw [List.length_map]; omega) fun t H3 S3 ht => ?_
      rw [← List.map_take] at ht
      refine ⟨t, _, rfl, .inr ht, rfl, by rw [List.all_map]; exact List.all_eq_true.mpr fun _ _ => rfl, _, rfl, ?_⟩
      rw [inV_str]
      have S4 := S2.trans S3
      refine ite3 (fun c => ?_) fun c => ?_
      · have zm : z.length ≤ 10 := zN z (C.mo _ (List.mem_of_getElem? hz))
        refine ⟨_, rfl, _, _, rfl, rfl, Nat.le_trans (Nat.add_le_add_left zm _) (by decide +kernel), _, _, rfl, rfl, ?_, ?_⟩
        · rw [len_cat]
          exact Nat.le_trans (Nat.add_le_add_right (Nat.add_le_add_left zm _) _) (by decide +kernel)
        have k := k _ S4
        have e : refusal ns ds as nm = "was given " ++ z ++ " twice" := by
          unfold refusal
          rw [if_neg c0, f1, find_at (i := i) hz c fun j q hj e => decide_eq_false (hb j q hj e)]
        rw [e] at k
        exact k
      · refine ⟨_, _, rfl, S4, fun j p hj e => ?_⟩
        rcases Nat.lt_succ_iff_lt_or_eq.mp hj with hj | rfl
        · exact hb j p hj e
        · rw [hz] at e
          obtain rfl := Option.some.inj e
          exact of_decide_eq_false c
    rintro σ H2 ⟨x4, x5, rfl, S2, hb⟩
    have f2 : nm.find? (fun p => decide (p.1 ∈ ns.take as.length)) = none := find_no fun j q hj e => decide_eq_false (hb j q (by omega) e)
    clear hb S1
    refine ⟨_, rfl, pp, rfl, ⟨_, Same.tupl S2 hp⟩, ?_⟩
    refine for_tup (xs := ns.map V.str) (fun i σ H3 => ∃ x4 x5, σ = [some (.ref pp), some (.ref ap), some (.ref np), some (.ref kp), x4, x5] ∧ Same H H3 ∧ ∀ j q, j < i → ns[j]? = some q → (known ns ds as nm q).isNone = false) ⟨_, _, rfl, S2, fun j q hj => absurd hj (Nat.not_lt_zero _)⟩ ?_ ?_ ?_
    · rintro i σ H3 _ ⟨x4, x5, rfl, S3, _⟩
      exact Same.tupl S3 hp
    · rintro i y σ H3 hy ⟨x4, x5, rfl, S3, hb⟩
      rw [List.getElem?_map] at hy
      obtain ⟨z, hz, rfl⟩ : ∃ z, ns[i]? = some z ∧ y = .str z := by
        cases e : ns[i]? with
        | none => rw [e] at hy; cases hy
        | some z => rw [e] at hy; exact ⟨z, rfl, (Option.some.inj hy).symm⟩
      have kz := kf z
      refine ⟨_, rfl, _, rfl, kp, valV kvs (.inr z), rfl, .inl ⟨kvs, .inr z, .inl (S3 _ _ hk), rfl, rfl⟩, _, rfl, ?_⟩
      have eN : (!(valV kvs (.inr z)).isSome) = (known ns ds as nm z).isNone := by
        cases e : known ns ds as nm z with
        | none => rw [e] at kz; rw [show valV kvs (.inr z) = none from kz]; rfl
        | some d => rw [e] at kz; obtain ⟨v, ev, _⟩ := kz; rw [ev]; rfl
      rw [eN]
      refine ite3 (fun c => ?_) fun c => ?_
      · have zm : z.length ≤ 10 := zN z (C.no _ (List.mem_of_getElem? hz))
        refine ⟨_, rfl, _, _, rfl, rfl, Nat.le_trans (Nat.add_le_add_left zm _) (by decide +kernel), ?_⟩
        have k := k _ S3
        have e : refusal ns ds as nm = "needs " ++ z := by
          unfold refusal
          rw [if_neg c0, f1, f2, find_at (i := i) hz c hb]
        rw [e] at k
        exact k
      · refine ⟨_, _, rfl, S3, fun j p hj e => ?_⟩
        rcases Nat.lt_succ_iff_lt_or_eq.mp hj with hj | rfl
        · exact hb j p hj e
        · rw [hz] at e
          obtain rfl := Option.some.inj e
          exact c
    rintro σ H3 ⟨x4, x5, rfl, S3, hb⟩
    have f3 : ns.find? (fun x => (known ns ds as nm x).isNone) = none := find_no fun j q hj e => hb j q (by rw [List.length_map]; exact hj) e
    have k := k _ S3
    have e : refusal ns ds as nm = "" := by
      unfold refusal
      rw [if_neg c0, f1, f2, f3]
    rw [e] at k
    exact k
def spBind (K : PySem.W.Frag) : Sp := fun vs H Q _ => ∃ (pp dp ap np : Addr) (ns : List Str) (ys : List V) (ds : Mp) (as : List PyData) (nm : Mp), vs = [.str "go", .ref pp, .ref dp, .ref ap, .ref np] ∧ SqT K H pp (ns.map V.str) ∧ PrAt K H dp ds ∧ SqT K H ap ys ∧ DtAll K H ys as ∧ PrAt K H np nm ∧ CallIs ns ds as nm ∧
  ∀ v H', Same H H' → Dt K H' v (due ns ds as nm) → Q v H'
theorem nodup_inr {α : Type} {m : List α} {f : α → Str} (h : (m.map f).Nodup) : (m.map fun p => (.inr (f p) : Key)).Nodup := by
  have : (m.map fun p => (.inr (f p) : Key)) = (m.map f).map Sum.inr := by rw [List.map_map]; rfl
  rw [this]
  exact List.Pairwise.map _ (fun a b hab e => hab (Sum.inr.inj e)) h
theorem zip_keys : ∀ (ns : List Str) (as : List PyData), (ns.zip as).map (·.1) = ns.take as.length
  | [], as => by simp
  | n :: ns, [] => rfl
  | n :: ns, a :: as => by
    show n :: (ns.zip as).map (·.1) = n :: ns.take as.length
    rw [zip_keys ns as]
theorem pr_mono {H H' : Hp} (e : Same H H') : ∀ {ps : List Addr} {kvs : List (Key × V)}, Paired (fun p kv => SqT K H p [kV kv.1, kv.2]) ps kvs → Paired (fun p kv => SqT K H' p [kV kv.1, kv.2]) ps kvs
  | _, _, .nil => .nil
  | _, _, .cons h t => .cons (Same.tupl e h) (pr_mono e t)
theorem refusal_len {ns : List Str} {ds : Mp} {as : List PyData} {nm : Mp} (C : CallIs ns ds as nm) : (refusal ns ds as nm).length ≤ 40 := by
  unfold refusal
  split
  · decide +kernel
  split
  · rename_i p e
    rw [len_cat]
    exact Nat.le_trans (Nat.add_le_add_left (C.mo _ (List.mem_of_find?_eq_some e)).len _) (by decide +kernel)
  split
  · rename_i p e
    rw [len_cat, len_cat]
    exact Nat.le_trans (Nat.add_le_add_right (Nat.add_le_add_left (C.mo _ (List.mem_of_find?_eq_some e)).len _) _) (by decide +kernel)
  split
  · rename_i p e
    rw [len_cat]
    exact Nat.le_trans (Nat.add_le_add_left (C.no _ (List.mem_of_find?_eq_some e)).len _) (by decide +kernel)
  · decide +kernel
theorem cat_ne {a b : Str} (h : a.length ≠ 0) : a ++ b ≠ "" := fun e => by
  have e := congrArg Str.length e
  rw [len_cat] at e
  have : ("" : Str).length = 0 := by decide +kernel
  omega
theorem refusal_nil {ns : List Str} {ds : Mp} {as : List PyData} {nm : Mp} (h : refusal ns ds as nm = "") : ¬ ns.length < as.length ∧ (∀ p ∈ nm, p.1 ∈ ns) ∧ (∀ p ∈ nm, ¬ p.1 ∈ ns.take as.length) ∧ ∀ x ∈ ns, known ns ds as nm x ≠ none := by
  unfold refusal at h
  split at h
  · exact absurd h (by decide +kernel)
  rename_i c0
  split at h
  · exact absurd h (cat_ne (by decide +kernel))
  rename_i c1
  split at h
  · exact absurd h (fun e => by
      have e := congrArg Str.length e
      rw [len_cat, len_cat] at e
      have h1 : ("" : Str).length = 0 := by decide +kernel
      have h2 : (" twice" : Str).length = 6 := by decide +kernel
      omega)
  rename_i c2
  split at h
  · exact absurd h (cat_ne (by decide +kernel))
  rename_i c3
  refine ⟨c0, fun p hp => ?_, fun p hp => ?_, fun x hx e => ?_⟩
  · have := List.find?_eq_none.mp c1 p hp
    simpa using this
  · have := List.find?_eq_none.mp c2 p hp
    simpa using this
  · have := List.find?_eq_none.mp c3 x hx
    rw [e] at this
    exact this rfl
theorem ok_bind {f : Addr} {fd : FuncData} (F : Fun K "bind" "bind" s_bind f fd) (T : Txt K mg) (U_refusal : Use P w K mg base CX0 "_refusal" 1 P_refusal (spRefusal K)) : FnG P w K mg base CX0 2 f fd P_bind (spBind K) := by
  refine okG0 F sc_bind (fun vs H Q E h => ?_) fun cdv A outer s H vs Q E hr hg h => ?_
  · obtain ⟨pp, dp, ap, np, ns, ys, ds, as, nm, rfl, _⟩ := h
    rfl
  · obtain ⟨pp, dp, ap, np, ns, ys, ds, as, nm, rfl, hp, ⟨xd, fd', dd⟩, ha, da, ⟨xn, fn, dn⟩, C, k⟩ := h
    have hu : (A.deeper (envOfC "bind" (defScope s_bind) s.heap.objs.size f cdv)).units + 1 < cLine := Nat.lt_of_le_of_lt (by omega) hr.units
    refine ⟨_, (pss_cons (ps_set (i := 5) sc_bind.nd rfl (Or.inr rfl) (pe_callTy (call_dictT rfl) (by rfl) T.b_dict (by decide +kernel) (pa_cons (pv 2) pa_nil)))
  (pss_cons (ps_expr (pe_dupd (pv 5) (pe_dictZip rfl (by rfl) T.b_zip (by rfl) T.b_dict (pa_cons (pv 1) (pa_cons (pv 3) pa_nil))) ⟨rfl, rfl, rfl, rfl⟩))
  (pss_cons (ps_expr (pe_dupd (pv 5) (pe_callTy (call_dictT rfl) (by rfl) T.b_dict (by decide +kernel) (pa_cons (pv 4) pa_nil)) ⟨rfl, rfl, rfl, rfl⟩))
  (pss_cons (ps_set (i := 6) sc_bind.nd rfl (Or.inl rfl) (pe_use U_refusal (hr.mono (by decide)) hg rfl (pa_cons (pv 1) (pa_cons (pv 3) (pa_cons (pv 4) (pa_cons (pv 5) pa_nil))))))
  (pss_cons (ps_if (pt_cmpR op_ne (pv 6) pe_str (nomark _))
   (pss_one (ps_ret (pe_tup (pa_cons pe_str (pa_cons (pe_globI T.c_TYPE_ERROR (by rfl)) (pa_cons (pe_op op_add_str (pe_op op_add_str (pv 0) pe_str) (pv 6)) pa_nil))))))
   pss_nil)
  (pss_one (ps_ret (pe_tup (pa_cons pe_str (pa_cons (pe_callTy call_tuple_of (by rfl) T.b_tuple (by decide +kernel) (pa_cons (pe_lc (own := [("x", 7)]) (g := (gName 7)) rfl sc_bind.nd (pi_tup (pv 1)) (blkOk_by (N := N_bind) (sc := defScope s_bind) (by decide +kernel)) (fun _ _ _ _ _ => (pg_name (i := 7) sc_bind.nd rfl (Or.inl rfl))) (fun _ _ _ _ _ => pts_nil) (fun _ _ _ _ _ => (pe_tup (pa_cons (pv 7) (pa_cons (pe_dget hu (pv 5) (pv 7) (fun _ _ => rfl)) pa_nil))))) pa_nil)) pa_nil)))))))))), ?_⟩
    obtain ⟨psd, kd, rfl, pd, vd⟩ := prs_of dd
    refine ⟨_, rfl, dp, psd, kd, rfl, fd', pd, fun kp hkp => ?_⟩
    have ndd : (kd.map (·.1)).Nodup := by rw [vd.keys]; exact nodup_inr C.dd
    rw [mergeK_nil ndd]
    have k0 : (upd H kp (.dK kd)) kp = some (.dK kd) := upd_same
    have S0 : Same H (upd H kp (.dK kd)) := Same.new hkp
    have n0 : ∀ b, H b ≠ none → b ≠ kp := fun b h e => h (e ▸ hkp)
    generalize upd H kp (.dK kd) = H0 at k0 S0 ⊢
    have hp0 : SqT K H0 pp ((ns.map fun x => (.inr x : Key)).map kV) := by rw [List.map_map]; exact Same.tupl S0 hp
    have vz := KvD.zip (ns := ns) da
    have ndz : (((ns.map fun x => (.inr x : Key)).zip ys).map (·.1)).Nodup := by
      rw [vz.keys]
      exact nodup_inr (f := fun p : Str × PyData => p.1) (by rw [zip_keys]; exact C.nd.sublist (List.take_sublist _ _))
    have lz := vz.len
    have ld := vd.len
    have lzz : (ns.zip as).length ≤ 8 := by rw [List.length_zip]; exact Nat.le_trans (Nat.min_le_left _ _) C.nl
    have cdl := C.dl
    refine ⟨_, rfl, kp, rfl, .inl ⟨_, .inl k0⟩, _, rfl, _, rfl, pp, ap, _, ys, rfl, hp0, Same.tupl S0 ha, fun zp hzp => ?_⟩
    rw [mergeK_nil ndz]
    generalize (ns.map fun x => (.inr x : Key)).zip ys = zs at vz ndz lz ⊢
    have z1 : (upd H0 zp (.dK zs)) zp = some (.dK zs) := upd_same
    have S1 := S0.trans (Same.new (o := .dK zs) hzp)
    have k1 := Same.new (o := .dK zs) hzp _ _ k0
    have nz : zp ≠ kp := fun e => by subst e; rw [k0] at hzp; cases hzp
    generalize upd H0 zp (.dK zs) = H1 at z1 S1 k1 ⊢
    refine ⟨zp, kd, zs, rfl, nz.symm, k1, .inl z1, by rw [ld, lz]; exact Nat.le_trans (show _ ≤ 16 by omega) (by decide), ?_⟩
    have k2 : (upd H1 kp (.dK (mergeK kd zs))) kp = some (.dK (mergeK kd zs)) := upd_same
    have S2 : Same H (upd H1 kp (.dK (mergeK kd zs))) := fun b o e => by rw [upd_ne (n0 b (by rw [e]; exact fun h => nomatch h))]; exact S1 b o e
    generalize upd H1 kp (.dK (mergeK kd zs)) = H2 at k2 S2 ⊢
    obtain ⟨psn, kn, rfl, pn, vn⟩ := prs_of dn
    have ndn : (kn.map (·.1)).Nodup := by rw [vn.keys]; exact nodup_inr C.md
    have ln := vn.len
    have cml := C.ml
    refine ⟨_, rfl, kp, rfl, .inl ⟨_, .inl k2⟩, _, rfl, np, psn, kn, rfl, fn.same S2, pr_mono S2 pn, fun qp hqp => ?_⟩
    rw [mergeK_nil ndn]
    have q3 : (upd H2 qp (.dK kn)) qp = some (.dK kn) := upd_same
    have S3 := S2.trans (Same.new (o := .dK kn) hqp)
    have k3 := Same.new (o := .dK kn) hqp _ _ k2
    have nq : qp ≠ kp := fun e => by subst e; rw [k2] at hqp; cases hqp
    generalize upd H2 qp (.dK kn) = H3 at q3 S3 k3 ⊢
    have lm := length_mergeK zs kd
    refine ⟨qp, _, kn, rfl, nq.symm, k3, .inl q3, Nat.le_trans (show _ ≤ 24 by omega) (by decide), ?_⟩
    have k4 : (upd H3 kp (.dK (mergeK (mergeK kd zs) kn))) kp = some (.dK (mergeK (mergeK kd zs) kn)) := upd_same
    have S4 : Same H (upd H3 kp (.dK (mergeK (mergeK kd zs) kn))) := fun b o e => by rw [upd_ne (n0 b (by rw [e]; exact fun h => nomatch h))]; exact S3 b o e
    generalize upd H3 kp (.dK (mergeK (mergeK kd zs) kn)) = H4 at k4 S4 ⊢
    have kf : KF K H4 (mergeK (mergeK kd zs) kn) (known ns ds as nm) := (((vd.mono S4).kf).merge ((vz.mono S4).kf) ndz).merge ((vn.mono S4).kf) ndn
    refine ⟨_, rfl, _, rfl, _, rfl, _, rfl, pp, ap, np, kp, ns, ys, _, ds, as, nm, _, rfl, Same.tupl S4 hp, Same.tupl S4 ha, da.mono S4, Same.tupl S4 fn.sq, dn.mono S4, k4, kf, C, fun H5 S5 => ?_⟩
    have S5' := S4.trans S5
    have k5 := S5 _ _ k4
    have kf5 := kf.mono S5
    have rl := refusal_len C
    refine ⟨_, rfl, rfl, _, rfl, ?_⟩
    refine ite3 (fun c => ?_) fun c => ?_
    · have c' : ¬ refusal ns ds as nm = "" := fun e => by rw [e] at c; exact absurd c (by decide +kernel)
      have ed : due ns ds as nm = .tuple [.str "raise", .int 10, .str ("go" ++ "() " ++ refusal ns ds as nm)] := by unfold due; rw [if_neg c']
      rw [ed] at k
      have g1 : ("go" ++ "() " : Str).length = 5 := by decide +kernel
      refine ⟨_, rfl, _, _, rfl, rfl, (by decide +kernel), _, rfl, _, _, rfl, rfl, by rw [g1]; exact Nat.le_trans (Nat.add_le_add_left rl _) (by decide), sz_3, fun u hu => ?_⟩
      exact k _ _ (S5'.trans (Same.new hu)) (Dt.made hu (.cons (.str _) (.cons (.int _) (.cons (.str _) .nil))))
    · have c' : refusal ns ds as nm = "" := by
        have := of_decide_eq_true (p := V.str (refusal ns ds as nm) = V.str "") (by revert c; cases decide (V.str (refusal ns ds as nm) = V.str "") <;> simp)
        exact V.str.inj this
      have ed : due ns ds as nm = .tuple [.str "ok", .tuple (ns.map fun x => pairD (x, (known ns ds as nm x).getD .none))] := by unfold due; rw [if_pos c']
      rw [ed] at k
      obtain ⟨_, _, _, ka⟩ := refusal_nil c'
      refine ⟨_, rfl, pp, rfl, ⟨_, Same.tupl S5' hp⟩, fun D hD => ?_⟩
      have cnl := C.nl
      refine lc_dt (K := K) (walk_tup (xs := ns.map V.str)) hD (ns.map fun x => pairD (x, (known ns ds as nm x).getD .none)) (by simp) (by rw [List.length_map]; exact Nat.lt_of_le_of_lt cnl (by decide)) (fun H' S => Same.tupl S (Same.tupl S5' hp)) ?_ ?_ mono_name
      · rintro i x H6 H7 d Nx hi hd S6 _ ⟨rfl, e2⟩ q
        obtain ⟨z, hz, rfl, rfl⟩ : ∃ z, ns[i]? = some z ∧ x = .str z ∧ d = pairD (z, (known ns ds as nm z).getD .none) := by
          rw [List.getElem?_map] at e2 hd
          cases en : ns[i]? with
          | none => rw [en] at e2; cases e2
          | some n => rw [en] at e2 hd; exact ⟨n, rfl, (Option.some.inj e2).symm, (Option.some.inj hd).symm⟩
        have kz := kf5 z
        cases ek : known ns ds as nm z with
        | none => exact absurd ek (ka z (List.mem_of_getElem? hz))
        | some d =>
          rw [ek] at kz q
          obtain ⟨v, ev, dv⟩ := kz
          refine ⟨rfl, _, rfl, _, rfl, _, rfl, kp, v, rfl, .inl ⟨_, .inr z, .inl (S6 _ _ k5), rfl, ev.symm⟩, sz_2, fun y hy => q _ _ (Same.new hy) ?_⟩
          exact Dt.made hy (.cons (.str _) (.cons (dv.mono S6) .nil))
      intro H6 vs S6 d6 a6
      refine ⟨D, vs, rfl, .inl ⟨SqL.of d6, fun l hl => ⟨sz_2, fun u hu => ?_⟩⟩⟩
      exact k _ _ (((S5'.trans S6).trans (Same.new hl)).trans (Same.new hu)) (Dt.made hu (.cons (.str _) (.cons (Dt.made hl a6) .nil)))
--SPLIT
end
section
variable {P : Program} {w : World} {K : PySem.W.Frag} {mg : Str → Option Value} {base : Heap}
theorem none_same {H H' : Hp} {l : Addr} (S : Same H H') (h : H' l = none) : H l = none := by
  cases e : H l with
  | none => rfl
  | some o => rw [S _ _ e] at h; cases h
def gvL (m : Mp) (z : Str) : List PyData := match gv m z with | none => [] | some d => [d]
def spGiven (K : PySem.W.Frag) : Sp := fun vs H Q _ => ∃ (q : Addr) (xs : List V) (m : Mp) (z : Str), vs = [.str z, .ref q] ∧ SqT K H q xs ∧ DtAll K H xs (m.map pairD) ∧ ∀ l H', H l = none → Same H H' → ListAt K H' l (gvL m z) → Q (.ref l) H'
theorem ok_given {f : Addr} {fd : FuncData} (F : Fun K "_law_given" "_law_given" s_law_given f fd) (T : Txt K mg) : FnG P w K mg base CX0 1 f fd P_law_given (spGiven K) := by
  refine okG0 F sc_law_given (fun vs H Q E h => ?_) fun cdv A outer s H vs Q E hr hg h => ?_
  · obtain ⟨q, xs, m, z, rfl, _⟩ := h
    rfl
  · obtain ⟨q, xs, m, z, rfl, hq, da, k⟩ := h
    refine ⟨_, (pss_cons (ps_for PassesOwn.never rfl (pi_tup (pv 1)) (pg_name (i := 2) sc_law_given.nd rfl (Or.inl rfl))
   (pss_one (ps_if (pt_cmpR op_eq (pe_ix ix_tup (pv 2) pe_int (fun _ _ => rfl)) (pv 0) (nomark _))
   (pss_one (ps_ret (pe_lst (pa_cons (pe_ix ix_tup (pv 2) pe_int (fun _ _ => rfl)) pa_nil))))
   pss_nil)))
  (pss_one (ps_ret (pe_lst pa_nil)))), ?_⟩
    refine ⟨_, rfl, q, rfl, ⟨_, hq⟩, ?_⟩
    have lm := da.length
    rw [List.length_map] at lm
    refine for_tup (xs := xs) (fun i σ H1 => ∃ x2, σ = [some (.str z), some (.ref q), x2] ∧ Same H H1 ∧ ∀ j p, j < i → m[j]? = some p → decide (p.1 = z) = false) ⟨none, rfl, Same.refl _, fun j q hj => absurd hj (Nat.not_lt_zero _)⟩ ?_ ?_ ?_
    · rintro i σ H1 _ ⟨x2, rfl, S1, _⟩
      exact Same.tupl S1 hq
    · rintro i y σ H1 hy ⟨x2, rfl, S1, hb⟩
      obtain ⟨x, d, q2, u, hz, rfl, hq2, du⟩ := prD_at (DtAll.mono S1 da) hy
      refine ⟨_, rfl, q2, _, _, _, rfl, rfl, hq2, at0, _, rfl, rfl, _, rfl, ?_⟩
      have ec : decide (V.str x = V.str z) = decide (x = z) := by
        by_cases c : x = z
        · subst c; simp
        · rw [decide_eq_false c, decide_eq_false fun h => c (V.str.inj h)]
      rw [ec]
      refine ite3 (fun c => ?_) fun c => ?_
      · have e : gvL m z = [d] := by unfold gvL gv; rw [find_at (i := i) hz c hb]; rfl
        rw [e] at k
        refine ⟨_, rfl, q2, _, _, _, rfl, rfl, hq2, at1, sz_1, fun l hl => ?_⟩
        exact k _ _ (none_same S1 hl) (S1.trans (Same.new hl)) ⟨_, upd_same, .cons (du.mono (Same.new hl)) .nil⟩
      · refine ⟨_, rfl, S1, fun j p hj e => ?_⟩
        rcases Nat.lt_succ_iff_lt_or_eq.mp hj with hj | rfl
        · exact hb j p hj e
        · rw [hz] at e
          obtain rfl := Option.some.inj e
          exact c
    rintro σ H1 ⟨x2, rfl, S1, hb⟩
    have e : gvL m z = [] := by unfold gvL gv; rw [find_no fun j q hj e => hb j q (by omega) e]; rfl
    rw [e] at k
    exact ⟨sz_0, fun l hl => k _ _ (none_same S1 hl) (S1.trans (Same.new hl)) ⟨[], upd_same, .nil⟩⟩
--SPLIT
end
section
variable {P : Program} {w : World} {K : PySem.W.Frag} {mg : Str → Option Value} {base : Heap}
theorem str_assoc (a b c : Str) : a ++ b ++ c = a ++ (b ++ c) := by
  obtain ⟨a⟩ := a; obtain ⟨b⟩ := b; obtain ⟨c⟩ := c
  show (⟨a ++ b ++ c⟩ : Str) = ⟨a ++ (b ++ c)⟩
  rw [Array.append_assoc]
def fnd (ds : Mp) (as : List PyData) (nm : Mp) (k : Nat) (x : Str) : List PyData := if k < as.length then (as[k]?).toList else gvL nm x ++ gvL ds x
theorem known_at {ns : List Str} {ds : Mp} {as : List PyData} {nm : Mp} (nd : ns.Nodup) (h2 : ∀ p ∈ nm, ¬ p.1 ∈ ns.take as.length) {k : Nat} {x : Str} (hx : ns[k]? = some x) : known ns ds as nm x = (fnd ds as nm k x).head? := by
  have hk := (List.getElem?_eq_some_iff.mp hx).1
  have inj : ∀ j : Nat, ns[j]? = some x → j = k := fun j hj => by
    have h1 := (List.getElem?_eq_some_iff.mp hj)
    obtain ⟨h1, e1⟩ := h1
    obtain ⟨h3, e3⟩ := List.getElem?_eq_some_iff.mp hx
    exact (List.getElem_inj nd).mp (e1.trans e3.symm)
  unfold known fnd
  by_cases c : k < as.length
  · rw [if_pos c]
    have n1 : gv nm x = none := by
      unfold gv
      rw [List.find?_eq_none.mpr fun p hp => by
        have := h2 p hp
        simp only [decide_eq_true_eq]
        exact fun e => this (by rw [e]; exact List.mem_of_getElem? (i := k) (by rw [List.getElem?_take, if_pos c]; exact hx))]
      rfl
    have n2 : gv (ns.zip as) x = some as[k] := by
      unfold gv
      rw [find_at (i := k) (p := (x, as[k])) (by rw [List.getElem?_zip_eq_some]; exact ⟨hx, List.getElem?_eq_getElem c⟩) (by simp) fun j q hj e => by
        rw [List.getElem?_zip_eq_some] at e
        exact decide_eq_false fun h => Nat.ne_of_lt hj (inj j (by rw [← h]; exact e.1))]
      rfl
    rw [n1, n2, List.getElem?_eq_getElem c]
    rfl
  · rw [if_neg c]
    have n2 : gv (ns.zip as) x = none := by
      unfold gv
      rw [List.find?_eq_none.mpr fun p hp => by
        simp only [decide_eq_true_eq]
        intro e
        obtain ⟨j, hj, ej⟩ := List.mem_iff_getElem.mp hp
        have ej : (ns.zip as)[j]? = some p := by rw [List.getElem?_eq_getElem hj, ej]
        rw [List.getElem?_zip_eq_some] at ej
        have a1 := inj j (by rw [← e]; exact ej.1)
        have a2 := (List.getElem?_eq_some_iff.mp ej.2).1
        omega]
      rfl
    rw [n2]
    unfold gvL
    cases gv nm x with
    | some d => rfl
    | none =>
      cases gv ds x with
      | some d => rfl
      | none => rfl
def spDue (K : PySem.W.Frag) : Sp := fun vs H Q _ => ∃ (pp dp ap np : Addr) (ns : List Str) (ys xd xn : List V) (ds : Mp) (as : List PyData) (nm : Mp), vs = [.ref pp, .ref dp, .ref ap, .ref np] ∧ SqT K H pp (ns.map V.str) ∧ SqT K H dp xd ∧ DtAll K H xd (ds.map pairD) ∧ SqT K H ap ys ∧ DtAll K H ys as ∧ SqT K H np xn ∧ DtAll K H xn (nm.map pairD) ∧ CallIs ns ds as nm ∧
  ∀ v H', Same H H' → Dt K H' v (due ns ds as nm) → Q v H'
theorem ok_due {f : Addr} {fd : FuncData} (F : Fun K "_law_due" "_law_due" s_law_due f fd) (T : Txt K mg) (U_law_given : Use P w K mg base CX0 "_law_given" 1 P_law_given (spGiven K)) : FnG P w K mg base CX0 2 f fd P_law_due (spDue K) := by
  refine okG0 F sc_law_due (fun vs H Q E h => ?_) fun cdv A outer s H vs Q E hr hg h => ?_
  · obtain ⟨pp, dp, ap, np, ns, ys, xd, xn, ds, as, nm, rfl, _⟩ := h
    rfl
  · obtain ⟨pp, dp, ap, np, ns, ys, xd, xn, ds, as, nm, rfl, hp, hd, dd, ha, da, hn, dn, C, k⟩ := h
    refine ⟨_, (pss_cons (ps_if (pt_cmpR op_gt (pe_callB call_len (by rfl) T.b_len PySem.boot_len (pa_cons (pv 2) pa_nil)) (pe_callB call_len (by rfl) T.b_len PySem.boot_len (pa_cons (pv 0) pa_nil)) (nomark _))
   (pss_one (ps_ret (pe_tup (pa_cons pe_str (pa_cons pe_int (pa_cons pe_str pa_nil))))))
   pss_nil)
  (pss_cons (ps_for PassesOwn.never rfl (pi_tup (pv 3)) (pg_name (i := 4) sc_law_due.nd rfl (Or.inl rfl))
   (pss_one (ps_if (pt_cmpR op_notIn_seq (pe_ix ix_tup (pv 4) pe_int (fun _ _ => rfl)) (pv 0) (by rfl))
   (pss_one (ps_ret (pe_tup (pa_cons pe_str (pa_cons pe_int (pa_cons (pe_op op_add_str pe_str (pe_ix ix_tup (pv 4) pe_int (fun _ _ => rfl))) pa_nil))))))
   pss_nil)))
  (pss_cons (ps_for PassesOwn.never rfl (pi_tup (pv 3)) (pg_name (i := 4) sc_law_due.nd rfl (Or.inl rfl))
   (pss_one (ps_if (pt_cmpR op_in_seq (pe_ix ix_tup (pv 4) pe_int (fun _ _ => rfl)) (pe_slice sl_tupA (pv 0) po_none (po_some (pe_callB call_len (by rfl) T.b_len PySem.boot_len (pa_cons (pv 2) pa_nil)))) (by rfl))
   (pss_one (ps_ret (pe_tup (pa_cons pe_str (pa_cons pe_int (pa_cons (pe_op op_add_str (pe_op op_add_str pe_str (pe_ix ix_tup (pv 4) pe_int (fun _ _ => rfl))) pe_str) pa_nil))))))
   pss_nil)))
  (pss_cons (ps_set (i := 5) sc_law_due.nd rfl (Or.inl rfl) (pe_lst pa_nil))
  (pss_cons (ps_for PassesOwn.never rfl (pi_range1 (by rfl) T.b_range (pa_cons (pe_callB call_len (by rfl) T.b_len PySem.boot_len (pa_cons (pv 0) pa_nil)) pa_nil)) (pg_name (i := 6) sc_law_due.nd rfl (Or.inl rfl))
   (pss_cons (ps_set (i := 7) sc_law_due.nd rfl (Or.inl rfl) (pe_op op_cat (pe_use U_law_given (hr.mono (by decide)) hg rfl (pa_cons (pe_ix ix_tup (pv 0) (pv 6) (fun _ _ => rfl)) (pa_cons (pv 3) pa_nil))) (pe_use U_law_given (hr.mono (by decide)) hg rfl (pa_cons (pe_ix ix_tup (pv 0) (pv 6) (fun _ _ => rfl)) (pa_cons (pv 1) pa_nil)))))
  (C8.pss_cut (ps_if (pt_cmpR op_lt (pv 6) (pe_callB call_len (by rfl) T.b_len PySem.boot_len (pa_cons (pv 2) pa_nil)) (nomark _))
   (pss_one (ps_set (i := 7) sc_law_due.nd rfl (Or.inl rfl) (pe_lst (pa_cons (pe_ix ix_tup (pv 2) (pv 6) (fun _ _ => rfl)) pa_nil))))
   pss_nil)
  (pss_cons (ps_if (pt_cmpR op_eq (pe_callB call_len (by rfl) T.b_len PySem.boot_len (pa_cons (pv 7) pa_nil)) pe_int (nomark _))
   (pss_one (ps_ret (pe_tup (pa_cons pe_str (pa_cons pe_int (pa_cons (pe_op op_add_str pe_str (pe_ix ix_tup (pv 0) (pv 6) (fun _ _ => rfl))) pa_nil))))))
   pss_nil)
  (pss_one (ps_expr (pe_bm PySem.F.plainAttrs_list PySem.F.slot_list_append PySem.F.type_list_append mt_append (pv 5) (pa_cons (pe_tup (pa_cons (pe_ix ix_tup (pv 0) (pv 6) (fun _ _ => rfl)) (pa_cons (pe_ix ix_list (pv 7) pe_int (fun _ _ => rfl)) pa_nil))) pa_nil))))))))
  (pss_one (ps_ret (pe_tup (pa_cons pe_str (pa_cons (pe_callTy call_tuple_of (by rfl) T.b_tuple (by decide +kernel) (pa_cons (pv 5) pa_nil)) pa_nil)))))))))), ?_⟩
    have hl := da.length
    have hm := dn.length
    rw [List.length_map] at hm
    have fN : (ns.map V.str).all flatV = true := by rw [List.all_map]; exact List.all_eq_true.mpr fun _ _ => rfl
    have bad : ∀ (H' : Hp) (r : Str) (u : Addr), Same H H' → refusal ns ds as nm = r → r ≠ "" → H' u = none → Q (.ref u) (upd H' u (.tup [.str "raise", .int 10, .str ("go() " ++ r)])) := fun H' r u S e e2 hu => by
      refine k _ _ (S.trans (Same.new hu)) ?_
      have ed : due ns ds as nm = .tuple [.str "raise", .int 10, .str ("go() " ++ r)] := by
        unfold due
        rw [e, if_neg e2, show ("go" ++ "() " : Str) = "go() " by decide +kernel]
      rw [ed]
      exact Dt.made hu (.cons (.str _) (.cons (.int _) (.cons (.str _) .nil)))
    refine ⟨_, rfl, _, _, rfl, .inr ⟨_, ha, rfl⟩, ?_⟩
    refine ⟨_, rfl, _, _, rfl, .inr ⟨_, hp, rfl⟩, ?_⟩
    refine ⟨_, _, rfl, rfl, ?_⟩
    rw [List.length_map]
    refine ⟨_, rfl, ?_⟩
    refine ite3 (fun c => ?_) fun c => ?_
    · have e : refusal ns ds as nm = "takes too many arguments" := by unfold refusal; rw [if_pos (by have := of_decide_eq_true c; omega)]
      refine ⟨sz_3, fun u hu => ?_⟩
      exact bad _ _ u (Same.refl _) e (by decide +kernel) hu
    have c0 : ¬ ns.length < as.length := by have := of_decide_eq_false c; omega
    refine ⟨_, rfl, np, rfl, ⟨_, hn⟩, ?_⟩
    refine for_tup (xs := xn) (fun i σ H1 => ∃ x4, σ = [some (.ref pp), some (.ref dp), some (.ref ap), some (.ref np), x4, none, none, none] ∧ Same H H1 ∧ ∀ j q, j < i → nm[j]? = some q → q.1 ∈ ns) ⟨none, rfl, Same.refl _, fun j q hj => absurd hj (Nat.not_lt_zero _)⟩ ?_ ?_ ?_
    · rintro i σ H1 _ ⟨x4, rfl, S1, _⟩
      exact Same.tupl S1 hn
    · rintro i y σ H1 hy ⟨x4, rfl, S1, hb⟩
      obtain ⟨z, d, q, u, hz, rfl, hq, du⟩ := prD_at (DtAll.mono S1 dn) hy
      refine ⟨_, rfl, q, _, _, _, rfl, rfl, hq, at0, _, rfl, pp, _, rfl, .inr (Same.tupl S1 hp), rfl, fN, _, rfl, ?_⟩
      rw [inV_str]
      refine ite3 (fun c => ?_) fun c => ?_
      · have zm : z.length ≤ 10 := (C.mo _ (List.mem_of_getElem? hz)).len
        have e : refusal ns ds as nm = "has no parameter " ++ z := by
          unfold refusal
          rw [if_neg c0, find_at (i := i) hz c fun j q hj e => by rw [hb j q hj e |> decide_eq_true]; rfl]
        refine ⟨_, rfl, q, _, _, _, rfl, rfl, hq, at0, _, _, rfl, rfl, Nat.le_trans (Nat.add_le_add_left zm _) (by decide +kernel), sz_3, fun u hu => ?_⟩
        have g := bad _ _ u S1 e (cat_ne (by decide +kernel)) hu
        rw [← str_assoc] at g
        exact g
      · refine ⟨_, rfl, S1, fun j p hj e => ?_⟩
        rcases Nat.lt_succ_iff_lt_or_eq.mp hj with hj | rfl
        · exact hb j p hj e
        · rw [hz] at e
          obtain rfl := Option.some.inj e
          have : decide (z ∈ ns) = true := by revert c; cases decide (z ∈ ns) <;> simp
          exact of_decide_eq_true this
    rintro σ H1 ⟨x4, rfl, S1, hb⟩
    have f1 : nm.find? (fun p => !decide (p.1 ∈ ns)) = none := find_no fun j q hj e => by rw [hb j q (by omega) e |> decide_eq_true]; rfl
    clear hb
    refine ⟨_, rfl, np, rfl, ⟨_, Same.tupl S1 hn⟩, ?_⟩
    refine for_tup (xs := xn) (fun i σ H2 => ∃ x4, σ = [some (.ref pp), some (.ref dp), some (.ref ap), some (.ref np), x4, none, none, none] ∧ Same H H2 ∧ ∀ j q, j < i → nm[j]? = some q → ¬ q.1 ∈ ns.take as.length) ⟨_, rfl, S1, fun j q hj => absurd hj (Nat.not_lt_zero _)⟩ ?_ ?_ ?_
    · rintro i σ H2 _ ⟨x4, rfl, S2, _⟩
      exact Same.tupl S2 hn
    · rintro i y σ H2 hy ⟨x4, rfl, S2, hb⟩
      obtain ⟨z, d, q, u, hz, rfl, hq, du⟩ := prD_at (DtAll.mono S2 dn) hy
      refine ⟨_, rfl, q, _, _, _, rfl, rfl, hq, at0, _, rfl, _, rfl, _, _, rfl, .inr ⟨_, Same.tupl S2 ha, rfl⟩, _, rfl, ?_⟩
      rw [hl]
      refine slT_take (Same.tupl S2 hp) (n := as.length) (by rw [List.length_map]; omega) fun t H3 S3 ht => ?_
      rw [← List.map_take] at ht
      refine ⟨t, _, rfl, .inr ht, rfl, by rw [List.all_map]; exact List.all_eq_true.mpr fun _ _ => rfl, _, rfl, ?_⟩
      rw [inV_str]
      have S4 := S2.trans S3
      refine ite3 (fun c => ?_) fun c => ?_
      · have zm : z.length ≤ 10 := (C.mo _ (List.mem_of_getElem? hz)).len
        have e : refusal ns ds as nm = "was given " ++ z ++ " twice" := by
          unfold refusal
          rw [if_neg c0, f1, find_at (i := i) hz c fun j q hj e => decide_eq_false (hb j q hj e)]
        refine ⟨_, rfl, q, _, _, _, rfl, rfl, Same.tupl S3 hq, at0, _, _, rfl, rfl, Nat.le_trans (Nat.add_le_add_left zm _) (by decide +kernel), _, _, rfl, rfl, ?_, sz_3, fun u hu => ?_⟩
        · rw [len_cat]
          exact Nat.le_trans (Nat.add_le_add_right (Nat.add_le_add_left zm _) _) (by decide +kernel)
        have g := bad _ _ u S4 e (by rw [str_assoc]; exact cat_ne (by decide +kernel)) hu
        rw [← str_assoc, ← str_assoc] at g
        exact g
      · refine ⟨_, rfl, S4, fun j p hj e => ?_⟩
        rcases Nat.lt_succ_iff_lt_or_eq.mp hj with hj | rfl
        · exact hb j p hj e
        · rw [hz] at e
          obtain rfl := Option.some.inj e
          exact of_decide_eq_false c
    rintro σ H2 ⟨x4, rfl, S2, hb⟩
    have h2 : ∀ p ∈ nm, ¬ p.1 ∈ ns.take as.length := fun p hp => by
      obtain ⟨j, hj, e⟩ := List.mem_iff_getElem.mp hp
      exact hb j p (by omega) (by rw [List.getElem?_eq_getElem hj, e])
    have f2 : nm.find? (fun p => decide (p.1 ∈ ns.take as.length)) = none := find_no fun j q hj e => decide_eq_false (hb j q (by omega) e)
    clear hb S1
    refine ⟨sz_0, fun rp hrp => ?_⟩
    have e3 : (upd H2 rp (.lst [])) rp = some (.lst []) := upd_same
    have S3 := S2.trans (Same.new (o := .lst []) hrp)
    have nr : H rp = none := none_same S2 hrp
    generalize upd H2 rp (.lst []) = H3 at e3 S3
    refine ⟨_, rfl, _, _, rfl, .inr ⟨_, Same.tupl S3 hp, rfl⟩, ?_⟩
    have cnl := C.nl
    have cdl := C.dl
    have cml := C.ml
    refine ⟨_, rfl, by rw [List.length_map]; omega, by rw [List.length_map]; omega, ?_⟩
    rw [show ((ns.map V.str).length : Int).toNat = ns.length by simp]
    have kn : ∀ (H' : Hp), Same H H' → H' rp = some (.lst []) ∨ True := fun _ _ => .inr trivial
    clear kn
    refine for_range (lo := 0) (n := ns.length) (fun i σ H4 => ∃ x4 x6 x7, σ = [some (.ref pp), some (.ref dp), some (.ref ap), some (.ref np), x4, some (.ref rp), x6, x7] ∧ Same H H4 ∧ ListAt K H4 rp ((ns.take i).map fun x => pairD (x, (known ns ds as nm x).getD .none)) ∧ ∀ j q, j < i → ns[j]? = some q → (known ns ds as nm q).isNone = false) ⟨_, _, _, rfl, S3, ⟨[], e3, .nil⟩, fun j q hj => absurd hj (Nat.not_lt_zero _)⟩ ?_ ?_
    · rintro i σ H4 hi ⟨x4, x6, x7, rfl, S4, L4, hb⟩
      have hx : ns[i]? = some ns[i] := List.getElem?_eq_getElem hi
      have hno := C.no _ (List.getElem_mem hi)
      generalize ns[i] = x at hx hno
      have ka := known_at (ds := ds) C.nd h2 hx
      rw [Int.zero_add]
      have hat : atI (ns.map V.str) ((i : Nat) : Int) = some (.str x) := atI_nat (by rw [List.getElem?_map, hx]; rfl)
      refine ⟨_, rfl, _, rfl, pp, _, _, _, rfl, rfl, Same.tupl S4 hp, hat, _, rfl, np, xn, nm, x, rfl, Same.tupl S4 hn, dn.mono S4, fun l1 H5 n1 S5 L5 => ?_⟩
      have S5' := S4.trans S5
      refine ⟨_, rfl, _, rfl, pp, _, _, _, rfl, rfl, Same.tupl S5' hp, hat, _, rfl, dp, xd, ds, x, rfl, Same.tupl S5' hd, dd.mono S5', fun l2 H6 n2 S6 L6 => ?_⟩
      have S6' := S5'.trans S6
      obtain ⟨v1, g1, a1⟩ := id L5
      obtain ⟨v2, g2, a2⟩ := id L6
      have gl : ∀ m : Mp, (gvL m x).length ≤ 1 := fun m => by
        unfold gvL
        cases gv m x with
        | none => exact Nat.zero_le _
        | some d => exact Nat.le_refl _
      refine ⟨l1, l2, v1, v2, rfl, rfl, S6 _ _ g1, g2, by rw [a1.length, a2.length]; exact Nat.le_trans (Nat.add_le_add (gl nm) (gl ds)) (by decide), fun l3 n3 => ?_⟩
      have S7 := S6'.trans (Same.new (o := .lst (v1 ++ v2)) n3)
      have L7 : ListAt K (upd H6 l3 (.lst (v1 ++ v2))) l3 (gvL nm x ++ gvL ds x) := ⟨_, upd_same, DtAll.app ((a1.mono S6).mono (Same.new n3)) (a2.mono (Same.new n3))⟩
      have L7r : ListAt K (upd H6 l3 (.lst (v1 ++ v2))) rp ((ns.take i).map fun x => pairD (x, (known ns ds as nm x).getD .none)) := by
        obtain ⟨zs, ez, az⟩ := L4
        exact ⟨zs, Same.new n3 _ _ (S6 _ _ (S5 _ _ ez)), ((az.mono S5).mono S6).mono (Same.new n3)⟩
      generalize upd H6 l3 (.lst (v1 ++ v2)) = H7 at S7 L7 L7r
      clear L5 L6 g1 g2 a1 a2 S5 S6 S5' S6' n1 n2 n3 L4 S4
      refine ⟨fun σ H8 => ∃ l, σ = [some (.ref pp), some (.ref dp), some (.ref ap), some (.ref np), x4, some (.ref rp), some (.int i), some (.ref l)] ∧ Same H H8 ∧ ListAt K H8 rp ((ns.take i).map fun x => pairD (x, (known ns ds as nm x).getD .none)) ∧ ListAt K H8 l (fnd ds as nm i x), ?_, ?_⟩
      · refine ⟨_, rfl, _, rfl, _, _, rfl, .inr ⟨_, Same.tupl S7 ha, rfl⟩, ?_⟩
        refine ⟨_, _, rfl, rfl, _, rfl, ?_⟩
        refine ite3 (fun c => ?_) fun c => ?_
        · have c : i < as.length := by have := of_decide_eq_true c; omega
          obtain ⟨v, hv, dv⟩ := (da.mono S7).get (List.getElem?_eq_getElem c)
          refine ⟨_, rfl, _, rfl, ap, _, _, _, rfl, rfl, Same.tupl S7 ha, atI_nat hv, sz_1, fun l hl => ?_⟩
          refine ⟨l, rfl, S7.trans (Same.new hl), ?_, ?_⟩
          · obtain ⟨zs, ez, az⟩ := L7r
            exact ⟨zs, Same.new hl _ _ ez, az.mono (Same.new hl)⟩
          · unfold fnd
            rw [if_pos c, List.getElem?_eq_getElem c]
            exact ⟨_, upd_same, .cons (dv.mono (Same.new hl)) .nil⟩
        · have c : ¬ i < as.length := by have := of_decide_eq_false c; omega
          refine ⟨l3, rfl, S7, L7r, ?_⟩
          unfold fnd
          rw [if_neg c]
          exact L7
      rintro σ H8 ⟨l, rfl, S8, L8, F8⟩
      obtain ⟨vf, ef, af⟩ := id F8
      have lf := af.length
      refine ⟨_, rfl, _, _, rfl, .inl ⟨_, SqL.of ef, rfl⟩, rfl, _, rfl, ?_⟩
      refine ite3 (fun c => ?_) fun c => ?_
      · have c : vf.length = 0 := by
          have := V.int.inj (of_decide_eq_true c)
          omega
        have en : known ns ds as nm x = none := by rw [ka, List.length_eq_zero_iff.mp (lf.symm.trans c)]; rfl
        have e : refusal ns ds as nm = "needs " ++ x := by
          unfold refusal
          rw [if_neg c0, f1, f2, find_at (i := i) hx (by rw [en]; rfl) hb]
        refine ⟨_, rfl, _, rfl, pp, _, _, _, rfl, rfl, Same.tupl S8 hp, hat, _, _, rfl, rfl, Nat.le_trans (Nat.add_le_add_left hno.len _) (by decide +kernel), sz_3, fun u hu => ?_⟩
        have g := bad _ _ u S8 e (cat_ne (by decide +kernel)) hu
        rw [← str_assoc] at g
        exact g
      · have c : vf.length ≠ 0 := fun e => of_decide_eq_false c (by rw [e]; rfl)
        obtain ⟨zs, ez, az⟩ := id L8
        have lz := az.length
        rw [List.length_map, List.length_take] at lz
        cases ef0 : fnd ds as nm i x with
        | nil => rw [ef0] at lf; exact absurd lf c
        | cons d rest =>
          rw [ef0] at af ka
          have ka : known ns ds as nm x = some d := ka
          obtain ⟨v, vs, rfl, dv, _⟩ := DtAll.cons_inv af
          refine ⟨_, rfl, .inl ⟨rfl, _, SqL.of ez⟩, _, rfl, _, rfl, pp, _, _, _, rfl, rfl, Same.tupl S8 hp, hat, _, rfl, l, _, _, _, rfl, rfl, SqL.of ef, at0, sz_2, fun u hu => ⟨rp, _, _, rfl, rfl, Same.new hu _ _ ez, Nat.lt_of_le_of_lt (show zs.length ≤ 8 by omega) (by decide), ?_⟩⟩
          have T1 := Same.new (o := .tup [.str x, v]) hu
          refine ⟨_, _, _, rfl, fun b o hb => by rw [upd_ne (ne_of_none hb nr)]; exact T1 _ _ (S8 b o hb), ?_, fun j p hj e => ?_⟩
          · have et : (ns.take (i + 1)).map (fun x => pairD (x, (known ns ds as nm x).getD .none)) = (ns.take i).map (fun x => pairD (x, (known ns ds as nm x).getD .none)) ++ [pairD (x, d)] := by
              rw [List.take_add_one, hx]
              simp [ka]
            rw [et]
            exact listAt_app (listAt_mono L8 T1) (T1 _ _ ez) (Dt.made hu (.cons (.str _) (.cons dv .nil)))
          · rcases Nat.lt_succ_iff_lt_or_eq.mp hj with hj | rfl
            · exact hb j p hj e
            · rw [hx] at e
              obtain rfl := Option.some.inj e
              rw [ka]; rfl
    rintro σ H4 ⟨x4, x6, x7, rfl, S4, ⟨zs, ez, az⟩, hb⟩
    have f3 : ns.find? (fun x => (known ns ds as nm x).isNone) = none := find_no fun j q hj e => hb j q hj e
    have e : refusal ns ds as nm = "" := by
      unfold refusal
      rw [if_neg c0, f1, f2, f3]
    have ed : due ns ds as nm = .tuple [.str "ok", .tuple (ns.map fun x => pairD (x, (known ns ds as nm x).getD .none))] := by unfold due; rw [if_pos e]
    rw [ed] at k
    rw [List.take_length] at az
    refine ⟨_, rfl, rp, zs, rfl, .inl ⟨SqL.of ez, fun l hl => ⟨sz_2, fun u hu => ?_⟩⟩⟩
    exact k _ _ ((S4.trans (Same.new hl)).trans (Same.new hu)) (Dt.made hu (.cons (.str _) (.cons (Dt.made hl az) .nil)))
--SPLIT
end
section
variable {P : Program} {w : World} {K : PySem.W.Frag} {mg : Str → Option Value} {base : Heap}
/-- what the law holds beside its lists -/
structure Ls (K : PySem.W.Frag) (H : Hp) (p dl np : Addr) (nms : List Str) (pp : Addr) (ns : List Str) : Prop where
  box : BoxAt H p dl
  nm : H np = some (.lst (nms.map V.str))
  pr : SqT K H pp (ns.map V.str)
section
variable {H H' : Hp} {p dl np pp : Addr} {nms ns : List Str}
theorem Ls.draw (X : Ls K H p dl np nms pp ns) (h : np ≠ p) (B : BoxAt H' p dl) (k : Keep p H H') : Ls K H' p dl np nms pp ns := ⟨B, k _ _ X.nm h, k.keepT X.box.at_ _ _ X.pr⟩
theorem Ls.same (X : Ls K H p dl np nms pp ns) (e : Same H H') : Ls K H' p dl np nms pp ns := ⟨X.box.same e, e _ _ X.nm, Same.tupl e X.pr⟩
theorem Ls.upd {l : Addr} {xs : List V} {o : HO} (X : Ls K H p dl np nms pp ns) (h1 : l ≠ p) (h2 : l ≠ dl) (h3 : l ≠ np) (e : H l = some (.lst xs)) : Ls K (upd H l o) p dl np nms pp ns := ⟨X.box.upd h1 h2, by rw [upd_ne (Ne.symm h3)]; exact X.nm, KeepT.upd e _ _ X.pr⟩
theorem Ls.new {l : Addr} (X : Ls K H p dl np nms pp ns) (h : H l = none) : l ≠ p ∧ l ≠ dl ∧ l ≠ np := ⟨(X.box.ne_new h).1, (X.box.ne_new h).2, fun e => by subst e; rw [X.nm] at h; cases h⟩
end
theorem strs_of {H : Hp} : ∀ {m : List Str} {acc : List V}, DtAll K H acc (m.map PyData.str) → acc = m.map V.str
  | [], acc, h => h.nil_inv
  | q :: m, acc, h => by
    obtain ⟨v, ws, rfl, dv, hw⟩ := DtAll.cons_inv h
    rw [dv.str_inv, strs_of hw]
    rfl
theorem cutV_to {xs : List V} {n : Nat} (hn : n ≤ xs.length) : cutV xs none (some (n : Int)) = xs.take n := by
  unfold cutV
  rw [HT.sIx_nat]
  show (xs.drop 0).take (min n xs.length - 0) = _
  rw [List.drop_zero, Nat.sub_zero, Nat.min_eq_left hn]
def Asc (x : Str) : Prop := ∀ c ∈ x.cps.toList, c < 128
theorem Asc.app {x y : Str} (h1 : Asc x) (h2 : Asc y) : Asc (x ++ y) := fun c hc => by
  obtain ⟨x⟩ := x; obtain ⟨y⟩ := y
  have hc : c ∈ (x ++ y).toList := hc
  rw [Array.toList_append, List.mem_append] at hc
  exact hc.elim (h1 c) (h2 c)
theorem NameOk.asc {x : Str} (h : NameOk x) : Asc x := by
  obtain ⟨a, rfl, _, h2⟩ := h.ex
  exact fun c hc => h2 c (by simpa [S] using hc)
theorem refusal_asc {ns : List Str} {ds : Mp} {as : List PyData} {nm : Mp} (C : CallIs ns ds as nm) : Asc (refusal ns ds as nm) := by
  have lit : ∀ {x : Str}, (x.cps.toList.all fun c => decide (c < 128)) = true → Asc x := fun h c hc => of_decide_eq_true (List.all_eq_true.mp h c hc)
  unfold refusal
  split
  · exact lit (by decide +kernel)
  split
  · rename_i p e
    exact (lit (by decide +kernel)).app (C.mo _ (List.mem_of_find?_eq_some e)).asc
  split
  · rename_i p e
    exact ((lit (by decide +kernel)).app (C.mo _ (List.mem_of_find?_eq_some e)).asc).app (lit (by decide +kernel))
  split
  · rename_i p e
    exact (lit (by decide +kernel)).app (C.no _ (List.mem_of_find?_eq_some e)).asc
  · exact lit (by decide +kernel)
theorem gv_mem {m : Mp} {z : Str} {d : PyData} (h : gv m z = some d) : ∃ q ∈ m, q.2 = d := by
  unfold gv at h
  cases e : m.find? fun p => decide (p.1 = z) with
  | none => rw [e] at h; cases h
  | some q => rw [e] at h; exact ⟨q, List.mem_of_find?_eq_some e, Option.some.inj h⟩
theorem due_sm {ns : List Str} {ds : Mp} {as : List PyData} {nm : Mp} (C : CallIs ns ds as nm) (h1 : ∀ q ∈ ds, VOk q.2) (h2 : ∀ q ∈ as, VOk q) (h3 : ∀ q ∈ nm, VOk q.2) : Sm (due ns ds as nm) 5 200000 := by
  unfold due
  split
  · have sv : ∀ x, Sm ((known ns ds as nm x).getD .none) 1 3000 := fun x => by
      cases e : known ns ds as nm x with
      | none => exact Sm.none.mono (by decide) (by decide)
      | some d =>
        show Sm d 1 3000
        unfold known at e
        cases e1 : gv nm x with
        | some d1 =>
          rw [e1] at e
          obtain rfl : d1 = d := Option.some.inj e
          obtain ⟨q, hq, rfl⟩ := gv_mem e1
          exact (h3 q hq).sm
        | none =>
          rw [e1] at e
          cases e2 : gv (ns.zip as) x with
          | some d1 =>
            rw [e2] at e
            obtain rfl : d1 = d := Option.some.inj e
            obtain ⟨q, hq, rfl⟩ := gv_mem e2
            exact (h2 _ (List.of_mem_zip hq).2).sm
          | none =>
            rw [e2] at e
            obtain ⟨q, hq, rfl⟩ := gv_mem (show gv ds x = some d from e)
            exact (h1 q hq).sm
    have sp : ∀ y ∈ ns.map (fun x => pairD (x, (known ns ds as nm x).getD .none)), Sm y 2 3300 := fun y hy => by
      obtain ⟨x, hx, rfl⟩ := List.mem_map.mp hy
      exact (Sm.tup (.cons (C.no x hx).sm (.cons (sv x) .nil))).mono (by decide) (by decide)
    have cnl := C.nl
    have sl := Sm.tup ((SmAll.many sp).mem (m := 8) (M := 26400) (by rw [List.length_map]; exact cnl) (by rw [List.length_map]; omega))
    exact (Sm.tup (.cons (Sm.short (n := "ok") (by decide +kernel)) (.cons sl .nil))).mono (by decide) (by decide)
  · have g1 : ("go" ++ "() " : Str).length = 5 := by decide +kernel
    have g2 : Asc ("go" ++ "() " : Str) := fun c hc => of_decide_eq_true (List.all_eq_true.mp (show (("go" ++ "() " : Str).cps.toList.all fun c => decide (c < 128)) = true by decide +kernel) c hc)
    have rl := refusal_len C
    have sw : Sm (.str ("go" ++ "() " ++ refusal ns ds as nm)) 0 (10 * 45 + 2) := Sm.str (n := 45) (by rw [len_cat, g1]; omega) fun c hc => Nat.lt_trans (g2.app (refusal_asc C) c hc) (by decide)
    exact (Sm.tup (.cons (Sm.short (n := "raise") (by decide +kernel)) (.cons (Sm.int (i := 10) (by decide +kernel)) (.cons sw .nil)))).mono (by decide) (by decide)
def spLaw (K : PySem.W.Frag) : Sp := fun vs H Q _ => ∃ (a : Addr) (ns : List Int), vs = [.ref a] ∧ SqL K H a (ns.map V.int) ∧ ns.length ≤ 63 ∧ ∀ H', Q (.bl true) H'
theorem ok_law {f : Addr} {fd : FuncData} (F : Fun K "law" "law" s_law f fd) (T : Txt K mg) (U_law_digits : Use P w K mg base CX0 "_law_digits" 2 P_law_digits (spDigits K)) (U_law_draw : Use P w K mg base CX0 "_law_draw" 1 P_law_draw (spDraw K))
    (U_law_names : Use P w K mg base CX0 "_law_names" 2 P_law_names (spNames K)) (U_law_value : Use P w K mg base CX0 "_law_value" 2 P_law_value (spValue K)) (U_law_due : Use P w K mg base CX0 "_law_due" 2 P_law_due (spDue K)) (U_bind : Use P w K mg base CX0 "bind" 2 P_bind (spBind K)) (U_law_same : Use P w K mg base CX0 "_law_same" 1 P_law_same (spSame K)) : FnG P w K mg base CX0 3 f fd P_law (spLaw K) := by
  refine okG0 F sc_law (fun vs H Q E h => ?_) fun cdv A outer s H vs Q E hr hg h => ?_
  · obtain ⟨a, ns, rfl, _⟩ := h
    rfl
  · obtain ⟨a, ns, rfl, hs, hn, k⟩ := h
    refine ⟨_, (pss_cons (ps_set (i := 1) sc_law.nd rfl (Or.inl rfl) (pe_lst (pa_cons (pe_use U_law_digits (hr.mono (by decide)) hg rfl (pa_cons (pv 0) (pa_cons pe_int (pa_cons pe_int pa_nil)))) (pa_cons pe_int pa_nil))))
  (pss_cons (ps_set (i := 2) sc_law.nd rfl (Or.inl rfl) (pe_use U_law_names (hr.mono (by decide)) hg rfl (pa_cons (pv 1) pa_nil)))
  (pss_cons (ps_set (i := 3) sc_law.nd rfl (Or.inl rfl) (pe_callTy call_tuple_of (by rfl) T.b_tuple (by decide +kernel) (pa_cons (pe_slice sl_list (pv 2) po_none (po_some (pe_use U_law_draw (hr.mono (by decide)) hg rfl (pa_cons (pv 1) (pa_cons pe_int pa_nil))))) pa_nil)))
  (pss_cons (ps_set (i := 4) sc_law.nd rfl (Or.inl rfl) (pe_lst pa_nil))
  (pss_cons (ps_for PassesOwn.never rfl (pi_range1 (by rfl) T.b_range (pa_cons (pe_use U_law_draw (hr.mono (by decide)) hg rfl (pa_cons (pv 1) (pa_cons pe_int pa_nil))) pa_nil)) (pg_name (i := 5) sc_law.nd rfl (Or.inl rfl))
   (pss_one (ps_if (pt_cmpR op_lt (pv 5) (pe_callB call_len (by rfl) T.b_len PySem.boot_len (pa_cons (pv 3) pa_nil)) (nomark _))
   (pss_one (ps_set (i := 4) sc_law.nd rfl (Or.inl rfl) (pe_op op_cat (pe_lst (pa_cons (pe_tup (pa_cons (pe_ix ix_tup (pv 3) (pe_op op_sub (pe_op op_sub (pe_callB call_len (by rfl) T.b_len PySem.boot_len (pa_cons (pv 3) pa_nil)) pe_int) (pv 5)) (fun _ _ => rfl)) (pa_cons (pe_use U_law_value (hr.mono (by decide)) hg rfl (pa_cons (pv 1) pa_nil)) pa_nil))) pa_nil)) (pv 4))))
   pss_nil)))
  (pss_cons (ps_set (i := 6) sc_law.nd rfl (Or.inl rfl) (pe_lst pa_nil))
  (pss_cons (ps_set (i := 7) sc_law.nd rfl (Or.inl rfl) (pe_use U_law_draw (hr.mono (by decide)) hg rfl (pa_cons (pv 1) (pa_cons pe_int pa_nil))))
  (C8.pss_cut (ps_if (PW.pt (pw_and (pt_cmpR op_gt (pe_use U_law_draw (hr.mono (by decide)) hg rfl (pa_cons (pv 1) (pa_cons pe_int pa_nil))) pe_int (nomark _)) (pw_and1 (pt_cmpR op_gt (pv 7) (pe_callB call_len (by rfl) T.b_len PySem.boot_len (pa_cons (pv 3) pa_nil)) (nomark _)))))
   (pss_one (ps_set (i := 7) sc_law.nd rfl (Or.inl rfl) (pe_callB call_len (by rfl) T.b_len PySem.boot_len (pa_cons (pv 3) pa_nil))))
   pss_nil)
  (pss_cons (ps_for PassesOwn.never rfl (pi_range1 (by rfl) T.b_range (pa_cons (pv 7) pa_nil)) (pg_name (i := 5) sc_law.nd rfl (Or.inl rfl))
   (pss_one (ps_expr (pe_bm PySem.F.plainAttrs_list PySem.F.slot_list_append PySem.F.type_list_append mt_append (pv 6) (pa_cons (pe_use U_law_value (hr.mono (by decide)) hg rfl (pa_cons (pv 1) pa_nil)) pa_nil)))))
  (pss_cons (ps_set (i := 8) sc_law.nd rfl (Or.inl rfl) (pe_lst pa_nil))
  (pss_cons (ps_for PassesOwn.never rfl (pi_range1 (by rfl) T.b_range (pa_cons (pe_use U_law_draw (hr.mono (by decide)) hg rfl (pa_cons (pv 1) (pa_cons pe_int pa_nil))) pa_nil)) (pg_name (i := 5) sc_law.nd rfl (Or.inl rfl))
   (pss_cons (ps_set (i := 9) sc_law.nd rfl (Or.inl rfl) (pe_ix ix_list (pv 2) (pe_use U_law_draw (hr.mono (by decide)) hg rfl (pa_cons (pv 1) (pa_cons pe_int pa_nil))) (fun _ _ => rfl)))
  (C8.pss_cut (ps_if (PW.pt (pw_and (pt_cmpR op_gt (pe_use U_law_draw (hr.mono (by decide)) hg rfl (pa_cons (pv 1) (pa_cons pe_int pa_nil))) pe_int (nomark _)) (pw_and1 (pt_cmpR op_gt (pe_callB call_len (by rfl) T.b_len PySem.boot_len (pa_cons (pv 3) pa_nil)) pe_int (nomark _)))))
   (pss_one (ps_set (i := 9) sc_law.nd rfl (Or.inl rfl) (pe_ix ix_tup (pv 3) (pe_op op_sub (pe_op op_sub (pe_callB call_len (by rfl) T.b_len PySem.boot_len (pa_cons (pv 3) pa_nil)) pe_int) (pe_op op_mod (pe_callTy call_int1 (by rfl) T.b_int (by decide +kernel) (pa_cons (pe_use U_law_draw (hr.mono (by decide)) hg rfl (pa_cons (pv 1) (pa_cons pe_int pa_nil))) pa_nil)) (pe_callB call_len (by rfl) T.b_len PySem.boot_len (pa_cons (pv 3) pa_nil)))) (fun _ _ => rfl))))
   pss_nil)
  (pss_one (ps_if (pt_cmpR op_notIn_seq (pv 9) (pe_lc (own := [("pair", 10)]) (g := (gName 10)) rfl sc_law.nd (pi_list (pv 8)) (blkOk_by (N := N_law) (sc := defScope s_law) (by decide +kernel)) (fun _ _ _ _ _ => (pg_name (i := 10) sc_law.nd rfl (Or.inl rfl))) (fun _ _ _ _ _ => pts_nil) (fun _ _ _ _ _ => (pe_ix (ix_tup : IxR _ (rIxT K)) (pv 10) pe_int (fun _ _ => rfl)))) (by rfl))
   (pss_one (ps_expr (pe_bm PySem.F.plainAttrs_list PySem.F.slot_list_append PySem.F.type_list_append mt_append (pv 8) (pa_cons (pe_tup (pa_cons (pv 9) (pa_cons (pe_use U_law_value (hr.mono (by decide)) hg rfl (pa_cons (pv 1) pa_nil)) pa_nil))) pa_nil))))
   pss_nil)))))
  (pss_cons (ps_set (i := 11) sc_law.nd rfl (Or.inl rfl) (pe_use U_law_due (hr.mono (by decide)) hg rfl (pa_cons (pv 3) (pa_cons (pe_callTy call_tupleF (by rfl) T.b_tuple (by decide +kernel) (pa_cons (pv 4) pa_nil)) (pa_cons (pe_callTy call_tuple_of (by rfl) T.b_tuple (by decide +kernel) (pa_cons (pv 6) pa_nil)) (pa_cons (pe_callTy call_tupleF (by rfl) T.b_tuple (by decide +kernel) (pa_cons (pv 8) pa_nil)) pa_nil))))))
  (pss_cons (ps_set (i := 12) sc_law.nd rfl (Or.inl rfl) (pe_callB (call_repr_data hg hr.units) (by rfl) T.b_repr (by decide +kernel) (pa_cons (pe_use U_bind (hr.mono (by decide)) hg rfl (pa_cons pe_str (pa_cons (pv 3) (pa_cons (pe_callTy call_tupleF (by rfl) T.b_tuple (by decide +kernel) (pa_cons (pv 4) pa_nil)) (pa_cons (pe_callTy call_tuple_of (by rfl) T.b_tuple (by decide +kernel) (pa_cons (pv 6) pa_nil)) (pa_cons (pe_callTy call_tupleF (by rfl) T.b_tuple (by decide +kernel) (pa_cons (pv 8) pa_nil)) pa_nil)))))) pa_nil)))
  (pss_cons (ps_set (i := 13) sc_law.nd rfl (Or.inl rfl) (pe_use U_bind (hr.mono (by decide)) hg rfl (pa_cons pe_str (pa_cons (pv 3) (pa_cons (pe_callTy call_tupleF (by rfl) T.b_tuple (by decide +kernel) (pa_cons (pv 4) pa_nil)) (pa_cons (pe_callTy call_tuple_of (by rfl) T.b_tuple (by decide +kernel) (pa_cons (pv 6) pa_nil)) (pa_cons (pe_callTy call_tupleF (by rfl) T.b_tuple (by decide +kernel) (pa_cons (pv 8) pa_nil)) pa_nil)))))))
  (pss_one (ps_ret (pe_and (pe_cmpR op_eq (pv 12) (pe_callB (call_repr_data hg hr.units) (by rfl) T.b_repr (by decide +kernel) (pa_cons (pv 11) pa_nil)) (nomark _)) (pe_one (pe_use U_law_same (hr.mono (by decide)) hg rfl (pa_cons (pv 13) (pa_cons (pv 11) pa_nil))))))))))))))))))))), ?_⟩
    refine ⟨_, rfl, a, ns, 0, 63, rfl, hs, by decide, by decide, fun dl H1 nd D => ?_⟩
    obtain ⟨ds, hd, hl, hds, S1⟩ := D
    refine ⟨sz_2, fun p hp0 => ?_⟩
    have B0 : BoxAt (upd H1 p (.lst [.ref dl, .int 0])) p dl := ⟨ds, 0, upd_same, by decide, by rw [upd_ne (ne_of_none hd hp0)]; exact hd, hl, hds⟩
    generalize upd H1 p (.lst [.ref dl, .int 0]) = H2 at B0
    refine ⟨_, rfl, p, dl, rfl, B0, fun np nms H3 hnp B3 K3 en hnl hno hnd => ?_⟩
    have hnpp : np ≠ p := fun e => by subst e; obtain ⟨xs, g⟩ := B0.at_; rw [g] at hnp; cases hnp
    refine ⟨_, rfl, _, rfl, p, dl, 9, rfl, B3, by decide, fun r H4 r0 r1 B4 K4 => ?_⟩
    obtain ⟨R, rfl⟩ := Int.eq_ofNat_of_zero_le r0
    have en4 := K4 _ _ en hnpp
    refine ⟨_, rfl, np, _, rfl, SqL.of en4, fun q hq => ?_⟩
    rw [cutV_to (by rw [List.length_map]; omega), ← List.map_take]
    refine ⟨q, _, rfl, .inl ⟨SqL.of upd_same, fun pp hpp => ?_⟩⟩
    have X5 : Ls K (upd (upd H4 q (.lst ((nms.take R).map V.str))) pp (.tup ((nms.take R).map V.str))) p dl np nms pp (nms.take R) := ⟨(B4.same (Same.new hq)).same (Same.new hpp), Same.new hpp _ _ (Same.new hq _ _ en4), SqT.of upd_same⟩
    generalize upd (upd H4 q (.lst ((nms.take R).map V.str))) pp (.tup ((nms.take R).map V.str)) = H5 at X5
    have hnsl : (nms.take R).length = R := by rw [List.length_take]; omega
    have hnsd : (nms.take R).Nodup := hnd.sublist (List.take_sublist _ _)
    have hnso : ∀ x ∈ nms.take R, NameOk x := fun x hx => hno x (List.mem_of_mem_take hx)
    generalize nms.take R = xs at X5 hnsl hnsd hnso
    have hR : R ≤ 8 := by omega
    clear hq hpp en4 B4 K4 r0 r1 B3 K3 B0 hnp en
    refine ⟨sz_0, fun lp hlp => ?_⟩
    have X6 := X5.same (Same.new (o := .lst []) hlp)
    have e6 : (upd H5 lp (.lst [])) lp = some (.lst []) := upd_same
    have nl6 := X5.new hlp
    generalize upd H5 lp (.lst []) = H6 at X6 e6
    refine ⟨_, rfl, p, dl, 9, rfl, X6.box, by decide, fun r H7 r0 r1 B7 K7 => ?_⟩
    have X7 := X6.draw hnpp B7 K7
    have e7 := K7 _ _ e6 nl6.1
    obtain ⟨T1, rfl⟩ := Int.eq_ofNat_of_zero_le r0
    refine ⟨_, rfl, by omega, by omega, ?_⟩
    rw [Int.toNat_natCast]
    refine for_range (lo := 0) (n := T1) (fun i σ H8 => ∃ x5 lp ds, σ = [some (.ref a), some (.ref p), some (.ref np), some (.ref pp), some (.ref lp), x5, none, none, none, none, none, none, none, none] ∧ Ls K H8 p dl np nms pp xs ∧ lp ≠ p ∧ lp ≠ dl ∧ lp ≠ np ∧ ListAt K H8 lp (ds.map pairD) ∧ ds.map (·.1) = xs.drop (R - i) ∧ ∀ q ∈ ds, VOk q.2) ⟨none, lp, [], rfl, X7, nl6.1, nl6.2.1, nl6.2.2, ⟨[], e7, .nil⟩, by rw [Nat.sub_zero, ← hnsl, List.drop_length]; rfl, fun q hq => nomatch hq⟩ ?_ ?_
    · rintro i σ H8 hi ⟨x5, lp, ds, rfl, X8, n1, n2, n3, ⟨zs, ez, az⟩, hk, hv⟩
      rw [Int.zero_add]
      refine ⟨_, rfl, _, rfl, _, _, rfl, .inr ⟨_, X8.pr, rfl⟩, _, _, rfl, rfl, _, rfl, ?_⟩
      rw [List.length_map, hnsl]
      refine ite3 (fun c => ?_) fun c => ?_
      · have c : i < R := by have := of_decide_eq_true c; omega
        obtain ⟨x, hx⟩ : ∃ x, xs[R - 1 - i]? = some x := ⟨xs[R - 1 - i]'(by omega), List.getElem?_eq_getElem (by omega)⟩
        have hat : atI (xs.map V.str) ((((xs.map V.str).length : Nat) : Int) - 1 - (i : Int)) = some (.str x) := by
          rw [show (((xs.map V.str).length : Nat) : Int) - 1 - (i : Int) = ((R - 1 - i : Nat) : Int) by rw [List.length_map, hnsl]; omega]
          exact atI_nat (by rw [List.getElem?_map, hx]; rfl)
        refine ⟨_, rfl, _, rfl, _, _, rfl, .inr ⟨_, X8.pr, rfl⟩, _, _, rfl, rfl, _, rfl, _, _, rfl, rfl, pp, _, _, _, rfl, rfl, X8.pr, hat, _, rfl, p, dl, rfl, X8.box, fun v d H9 B9 K9 dv vok => ⟨sz_2, fun u hu => ⟨sz_1, fun q hq => ?_⟩⟩⟩
        have X9 := X8.draw hnpp B9 K9
        have ez9 := K9 _ _ ez n1
        have az9 := az.keepT (K9.keepT X8.box.at_)
        have T1 := Same.new (o := .tup [.str x, v]) hu
        have du := Dt.made hu (.cons (.str x) (.cons dv .nil))
        have X10 := X9.same T1
        have ez10 := T1 _ _ ez9
        have az10 := az9.mono T1
        generalize upd H9 u (.tup [.str x, v]) = H10 at du X10 ez10 az10 hq ⊢
        have T2 := Same.new (o := .lst [.ref u]) hq
        have eq11 : (upd H10 q (.lst [.ref u])) q = some (.lst [.ref u]) := upd_same
        have X11 := X10.same T2
        have ez11 := T2 _ _ ez10
        have az11 := az10.mono T2
        have du11 := du.mono T2
        generalize upd H10 q (.lst [.ref u]) = H11 at X11 ez11 az11 du11 eq11 ⊢
        have lz := az.length
        have hk2 := congrArg List.length hk
        simp only [List.length_map, List.length_drop] at hk2 lz
        refine ⟨_, rfl, q, lp, _, _, rfl, rfl, eq11, ez11, Nat.le_trans (show _ ≤ 1 + 8 by simp only [List.length_singleton]; omega) (by decide), fun l2 hl2 => ?_⟩
        have nn := X11.new hl2
        refine ⟨_, l2, (x, d) :: ds, rfl, X11.same (Same.new hl2), nn.1, nn.2.1, nn.2.2, ⟨_, upd_same, .cons (du11.mono (Same.new hl2)) (az11.mono (Same.new hl2))⟩, ?_, fun y hy => ?_⟩
        · rw [List.map_cons, hk]
          obtain ⟨hlt, ex⟩ := List.getElem?_eq_some_iff.mp hx
          rw [show R - (i + 1) = R - 1 - i by omega, List.drop_eq_getElem_cons hlt, ex, show R - 1 - i + 1 = R - i by omega]
        · rcases List.mem_cons.mp hy with rfl | hy
          · exact vok
          · exact hv y hy
      · have c : ¬ i < R := by have := of_decide_eq_false c; omega
        exact ⟨_, lp, ds, rfl, X8, n1, n2, n3, ⟨zs, ez, az⟩, by rw [hk, show R - i = R - (i + 1) by omega], hv⟩
    rintro σ H8 ⟨x5, lp2, ds, rfl, X8, n1, n2, n3, L8, hk, hv⟩
    have hdl : ds.length ≤ 8 := by
      have := congrArg List.length hk
      simp only [List.length_map, List.length_drop] at this
      omega
    have hdd : (ds.map (·.1)).Nodup := by rw [hk]; exact hnsd.sublist (List.drop_sublist _ _)
    clear hk X7 e7 X6 e6 nl6 X5 hlp B7 K7
    refine ⟨sz_0, fun al hal => ?_⟩
    have X9 := X8.same (Same.new (o := .lst []) hal)
    have L9 := listAt_mono L8 (Same.new (o := .lst []) hal)
    have e9 : (upd H8 al (.lst [])) al = some (.lst []) := upd_same
    have na := X8.new hal
    have nal : al ≠ lp2 := fun e => by subst e; obtain ⟨zs, ez, _⟩ := L8; rw [ez] at hal; cases hal
    generalize upd H8 al (.lst []) = H9 at X9 L9 e9
    refine ⟨_, rfl, p, dl, 10, rfl, X9.box, by decide, fun M H10 m0 m1 B10 K10 => ?_⟩
    have X10 := X9.draw hnpp B10 K10
    have L10 := listAt_keep L9 K10 n1 X9.box.at_
    have e10 := K10 _ _ e9 na.1
    refine ⟨fun σ H11 => ∃ M : Nat, σ = [some (.ref a), some (.ref p), some (.ref np), some (.ref pp), some (.ref lp2), x5, some (.ref al), some (.int M), none, none, none, none, none, none] ∧ M ≤ 10 ∧ Ls K H11 p dl np nms pp xs ∧ ListAt K H11 lp2 (ds.map pairD) ∧ H11 al = some (.lst []), ?_, ?_⟩
    · refine ⟨_, rfl, p, dl, 3, rfl, X10.box, by decide, fun r3 H11 _ _ B11 K11 => ?_⟩
      have X11 := X10.draw hnpp B11 K11
      have L11 := listAt_keep L10 K11 n1 X10.box.at_
      have e11 := K11 _ _ e10 na.1
      obtain ⟨M0, rfl⟩ := Int.eq_ofNat_of_zero_le m0
      refine ⟨_, _, rfl, rfl, _, rfl, ?_⟩
      refine ite3 (fun c => ?_) fun c => ?_
      · refine ⟨_, rfl, _, rfl, _, _, rfl, .inr ⟨_, X11.pr, rfl⟩, _, _, rfl, rfl, _, rfl, ?_⟩
        refine ite3 (fun c => ?_) fun c => ?_
        · refine ⟨_, rfl, _, _, rfl, .inr ⟨_, X11.pr, rfl⟩, ?_⟩
          rw [List.length_map, hnsl]
          exact ⟨R, rfl, by omega, X11, L11, e11⟩
        · exact ⟨M0, rfl, by omega, X11, L11, e11⟩
      · refine iteFb rfl ?_
        exact ⟨M0, rfl, by omega, X11, L11, e11⟩
    clear X10 L10 e10 B10 K10 X9 L9 e9 L8 X8 hal m0 m1 M
    rintro σ H11 ⟨M, rfl, hM, X11, L11, e11⟩
    refine ⟨_, rfl, _, rfl, by omega, by omega, ?_⟩
    rw [Int.toNat_natCast]
    refine for_range (lo := 0) (n := M) (fun i σ H12 => ∃ x5 as, σ = [some (.ref a), some (.ref p), some (.ref np), some (.ref pp), some (.ref lp2), x5, some (.ref al), some (.int M), none, none, none, none, none, none] ∧ Ls K H12 p dl np nms pp xs ∧ ListAt K H12 lp2 (ds.map pairD) ∧ ListAt K H12 al as ∧ as.length = i ∧ ∀ q ∈ as, VOk q) ⟨_, [], rfl, X11, L11, ⟨[], e11, .nil⟩, rfl, fun q hq => nomatch hq⟩ ?_ ?_
    · rintro i σ H12 hi ⟨x5, as, rfl, X12, L12, ⟨zs, ez, az⟩, hl2, hv2⟩
      have lz := az.length
      refine ⟨_, rfl, .inl ⟨rfl, _, SqL.of ez⟩, _, rfl, p, dl, rfl, X12.box, fun v d H13 B13 K13 dv vok => ?_⟩
      have X13 := X12.draw hnpp B13 K13
      have L13 := listAt_keep L12 K13 n1 X12.box.at_
      have ez13 := K13 _ _ ez na.1
      have A13 : ListAt K H13 al as := ⟨zs, ez13, az.keepT (K13.keepT X12.box.at_)⟩
      refine ⟨al, _, _, rfl, rfl, ez13, Nat.lt_of_le_of_lt (show zs.length ≤ 10 by omega) (by decide), ?_⟩
      refine ⟨_, as ++ [d], rfl, X13.upd na.1 na.2.1 na.2.2 ez13, listAt_upd L13 (Ne.symm nal) ez13, listAt_app A13 ez13 dv, by simp; omega, fun q hq => ?_⟩
      rcases List.mem_append.mp hq with hq | hq
      · exact hv2 q hq
      · rw [List.mem_singleton.mp hq]; exact vok
    clear X11 L11 e11
    rintro σ H12 ⟨x6, as, rfl, X12, L12, A12, hl2, hv2⟩
    refine ⟨sz_0, fun nl hnl2 => ?_⟩
    have X13 := X12.same (Same.new (o := .lst []) hnl2)
    have L13 := listAt_mono L12 (Same.new (o := .lst []) hnl2)
    have A13 := listAt_mono A12 (Same.new (o := .lst []) hnl2)
    have e13 : (upd H12 nl (.lst [])) nl = some (.lst []) := upd_same
    have nn := X12.new hnl2
    have nnl : nl ≠ lp2 := fun e => by subst e; obtain ⟨zs, ez, _⟩ := L12; rw [ez] at hnl2; cases hnl2
    have nna : nl ≠ al := fun e => by subst e; obtain ⟨zs, ez, _⟩ := A12; rw [ez] at hnl2; cases hnl2
    generalize upd H12 nl (.lst []) = H13 at X13 L13 A13 e13
    clear X12 L12 A12 hnl2
    refine ⟨_, rfl, p, dl, 7, rfl, X13.box, by decide, fun r H14 r0 r1 B14 K14 => ?_⟩
    have X14 := X13.draw hnpp B14 K14
    have L14 := listAt_keep L13 K14 n1 X13.box.at_
    have A14 := listAt_keep A13 K14 na.1 X13.box.at_
    have e14 := K14 _ _ e13 nn.1
    obtain ⟨T2, rfl⟩ := Int.eq_ofNat_of_zero_le r0
    refine ⟨_, rfl, by omega, by omega, ?_⟩
    rw [Int.toNat_natCast]
    clear X13 L13 A13 e13 B14 K14
    refine for_range (lo := 0) (n := T2) (fun i σ H15 => ∃ (x5 x9 x10 : Option V) (nm : Mp), σ = [some (.ref a), some (.ref p), some (.ref np), some (.ref pp), some (.ref lp2), x5, some (.ref al), some (.int M), some (.ref nl), x9, x10, none, none, none] ∧ Ls K H15 p dl np nms pp xs ∧ ListAt K H15 lp2 (ds.map pairD) ∧ ListAt K H15 al as ∧ ListAt K H15 nl (nm.map pairD) ∧ nm.length ≤ i ∧ (nm.map (·.1)).Nodup ∧ (∀ q ∈ nm, NameOk q.1) ∧ ∀ q ∈ nm, VOk q.2) ⟨_, _, _, [], rfl, X14, L14, A14, ⟨[], e14, .nil⟩, Nat.le_refl _, List.nodup_nil, ⟨fun q hq => (by cases hq), fun q hq => (by cases hq)⟩⟩ ?_ ?_
    · rintro i σ H15 hi ⟨x5, x9, x10, nm, rfl, X15, L15, A15, N15, hl3, hd3, ho3, hv3⟩
      refine ⟨_, rfl, _, rfl, p, dl, 8, rfl, X15.box, by decide, fun r8 H16 r0 r1 B16 K16 => ?_⟩
      have X16 := X15.draw hnpp B16 K16
      have L16 := listAt_keep L15 K16 n1 X15.box.at_
      have A16 := listAt_keep A15 K16 na.1 X15.box.at_
      have N16 := listAt_keep N15 K16 nn.1 X15.box.at_
      obtain ⟨j8, rfl⟩ := Int.eq_ofNat_of_zero_le r0
      have hx8 : nms[j8]? = some (nms[j8]'(by omega)) := List.getElem?_eq_getElem (by omega)
      have ho8 := hno _ (List.getElem_mem (show j8 < nms.length by omega))
      generalize nms[j8]'(by omega) = x8 at hx8 ho8
      refine ⟨np, _, _, _, rfl, rfl, SqL.of X16.nm, atI_nat (by rw [List.getElem?_map, hx8]; rfl), ?_⟩
      refine ⟨fun σ H17 => ∃ x : Str, σ = [some (.ref a), some (.ref p), some (.ref np), some (.ref pp), some (.ref lp2), some (.int (0 + (i : Int))), some (.ref al), some (.int M), some (.ref nl), some (.str x), x10, none, none, none] ∧ NameOk x ∧ Ls K H17 p dl np nms pp xs ∧ ListAt K H17 lp2 (ds.map pairD) ∧ ListAt K H17 al as ∧ ListAt K H17 nl (nm.map pairD), ?_, ?_⟩
      · refine ⟨_, rfl, p, dl, 3, rfl, X16.box, by decide, fun r3 H17 _ _ B17 K17 => ?_⟩
        have X17 := X16.draw hnpp B17 K17
        have L17 := listAt_keep L16 K17 n1 X16.box.at_
        have A17 := listAt_keep A16 K17 na.1 X16.box.at_
        have N17 := listAt_keep N16 K17 nn.1 X16.box.at_
        refine ⟨_, _, rfl, rfl, _, rfl, ?_⟩
        refine ite3 (fun c => ?_) fun c => ?_
        · refine ⟨_, rfl, _, _, rfl, .inr ⟨_, X17.pr, rfl⟩, _, _, rfl, rfl, _, rfl, ?_⟩
          refine ite3 (fun c => ?_) fun c => ?_
          · have cR : 0 < R := by
              have := of_decide_eq_true c
              rw [List.length_map, hnsl] at this
              omega
            refine ⟨_, rfl, _, rfl, _, _, rfl, .inr ⟨_, X17.pr, rfl⟩, _, _, rfl, rfl, _, rfl, p, dl, 8, rfl, X17.box, by decide, fun r9 H18 q0 q1 B18 K18 => ?_⟩
            have X18 := X17.draw hnpp B18 K18
            have L18 := listAt_keep L17 K18 n1 X17.box.at_
            have A18 := listAt_keep A17 K18 na.1 X17.box.at_
            have N18 := listAt_keep N17 K18 nn.1 X17.box.at_
            obtain ⟨j9, rfl⟩ := Int.eq_ofNat_of_zero_le q0
            have hm9 : j9 % R < R := Nat.mod_lt _ cR
            obtain ⟨x, hx⟩ : ∃ x, xs[R - 1 - j9 % R]? = some x := ⟨xs[R - 1 - j9 % R]'(by omega), List.getElem?_eq_getElem (by omega)⟩
            have hat : atI (xs.map V.str) ((((xs.map V.str).length : Nat) : Int) - 1 - (j9 : Int) % (((xs.map V.str).length : Nat) : Int)) = some (.str x) := by
              rw [show (((xs.map V.str).length : Nat) : Int) - 1 - (j9 : Int) % (((xs.map V.str).length : Nat) : Int) = ((R - 1 - j9 % R : Nat) : Int) by rw [List.length_map, hnsl]; omega]
              exact atI_nat (by rw [List.getElem?_map, hx]; rfl)
            refine .inl ⟨_, rfl, _, rfl, _, _, rfl, .inr ⟨_, X18.pr, rfl⟩, _, _, rfl, rfl, (by rw [List.length_map, hnsl]; omega), _, _, rfl, rfl, pp, _, _, _, rfl, rfl, X18.pr, hat, ?_⟩
            exact ⟨x, rfl, hnso x (List.mem_of_getElem? hx), X18, L18, A18, N18⟩
          · exact ⟨x8, rfl, ho8, X17, L17, A17, N17⟩
        · refine iteFb rfl ?_
          exact ⟨x8, rfl, ho8, X17, L17, A17, N17⟩
      rintro σ H17 ⟨x, rfl, hox, X17, L17, A17, N17⟩
      obtain ⟨zs, ez, az⟩ := id N17
      refine ⟨_, rfl, _, rfl, nl, rfl, ?_⟩
      refine ⟨⟨_, SqL.of ez⟩, fun D hD => ?_⟩
      have lz := az.length
      rw [List.length_map] at lz
      refine lc_dt (K := K) (walk_list (xs := zs)) hD ((nm.map (·.1)).map PyData.str) (by simp [lz]) (Nat.lt_of_le_of_lt (show zs.length ≤ 7 by omega) (by decide)) (fun H' S => SqL.of (S _ _ ez)) ?_ ?_ mono_name
      · rintro i2 y2 H18 H19 d Nx hi2 hd S18 _ ⟨rfl, e2⟩ q
        obtain ⟨z, d0, q2, u, hz, rfl, hq2, du⟩ := prD_at (az.mono S18) e2
        have ed : d = .str z := by
          rw [List.getElem?_map, List.getElem?_map, hz] at hd
          exact (Option.some.inj hd).symm
        subst ed
        exact ⟨rfl, _, rfl, q2, _, _, _, rfl, rfl, hq2, at0, q _ _ (Same.refl _) (.str _)⟩
      intro H18 acc S18 eD aD
      obtain rfl := strs_of aD
      have X18 := X17.same S18
      have L18 := listAt_mono L17 S18
      have A18 := listAt_mono A17 S18
      have N18 := listAt_mono N17 S18
      have ez18 := S18 _ _ ez
      have az18 := az.mono S18
      refine ⟨D, _, rfl, .inl (SqL.of eD), rfl, by rw [List.all_map]; exact List.all_eq_true.mpr fun _ _ => rfl, _, rfl, ?_⟩
      rw [inV_str]
      refine ite3 (fun c => ?_) fun c => ?_
      · have c : ¬ x ∈ nm.map (·.1) := by
          intro h
          rw [decide_eq_true h] at c
          cases c
        refine ⟨_, rfl, .inl ⟨rfl, _, SqL.of ez18⟩, _, rfl, _, rfl, p, dl, rfl, X18.box, fun v d H19 B19 K19 dv vok => ⟨sz_2, fun u hu => ?_⟩⟩
        have X19 := X18.draw hnpp B19 K19
        have L19 := listAt_keep L18 K19 n1 X18.box.at_
        have A19 := listAt_keep A18 K19 na.1 X18.box.at_
        have ez19 := K19 _ _ ez18 nn.1
        have az19 := az18.keepT (K19.keepT X18.box.at_)
        have T1 := Same.new (o := .tup [.str x, v]) hu
        have du := Dt.made hu (.cons (.str x) (.cons dv .nil))
        have X20 := X19.same T1
        have L20 := listAt_mono L19 T1
        have A20 := listAt_mono A19 T1
        have ez20 := T1 _ _ ez19
        have az20 := az19.mono T1
        generalize upd H19 u (.tup [.str x, v]) = H20 at du X20 L20 A20 ez20 az20 ⊢
        refine ⟨nl, _, _, rfl, rfl, ez20, Nat.lt_of_le_of_lt (show zs.length ≤ 7 by omega) (by decide), ?_⟩
        have N21 : ListAt K (upd H20 nl (.lst (zs ++ [.ref u]))) nl ((nm ++ [(x, d)]).map pairD) := by
          rw [List.map_append]
          exact listAt_app ⟨zs, ez20, az20⟩ ez20 du
        refine ⟨_, _, _, nm ++ [(x, d)], rfl, X20.upd nn.1 nn.2.1 nn.2.2 ez20, listAt_upd L20 (Ne.symm nnl) ez20, listAt_upd A20 (Ne.symm nna) ez20, N21, by simp; omega, ?_, fun q hq => ?_, fun q hq => ?_⟩
        · rw [List.map_append, List.nodup_append]
          refine ⟨hd3, by simp, fun y hy z hz e => ?_⟩
          rw [List.map_singleton, List.mem_singleton] at hz
          subst hz
          subst e
          exact c hy
        · rcases List.mem_append.mp hq with hq | hq
          · exact ho3 q hq
          · rw [List.mem_singleton.mp hq]; exact hox
        · rcases List.mem_append.mp hq with hq | hq
          · exact hv3 q hq
          · rw [List.mem_singleton.mp hq]; exact vok
      · exact ⟨_, _, _, nm, rfl, X18, L18, A18, N18, by omega, hd3, ho3, hv3⟩
    rintro σ H15 ⟨x5, x9, x10, nm, rfl, X15, L15, A15, N15, hl3, hd3, ho3, hv3⟩
    clear X14 L14 A14 e14
    have C : CallIs xs ds as nm := ⟨by omega, hnsd, hnso, hdl, hdd, by omega, by omega, hd3, ho3⟩
    obtain ⟨zd, ed, ad⟩ := L15
    obtain ⟨za, ea, aa⟩ := A15
    obtain ⟨zn, en, an⟩ := N15
    refine ⟨_, rfl, _, rfl, lp2, zd, rfl, SqL.of ed, fun t1 o1 h1 od1 => ?_⟩
    have f1 : FT (upd H15 t1 (.frz o1 (.tup zd))) t1 zd := ⟨o1, upd_same, od1⟩
    have S1 := Same.new (o := .frz o1 (.tup zd)) h1
    generalize upd H15 t1 (.frz o1 (.tup zd)) = G1 at f1 S1 ⊢
    refine ⟨_, rfl, al, za, rfl, .inl ⟨SqL.of (S1 _ _ ea), fun t2 h2 => ?_⟩⟩
    have g2 : SqT K (upd G1 t2 (.tup za)) t2 za := SqT.of upd_same
    have S2 := S1.trans (Same.new (o := .tup za) h2)
    have f2 := f1.same (Same.new (o := .tup za) h2)
    generalize upd G1 t2 (.tup za) = G2 at g2 S2 f2 ⊢
    refine ⟨_, rfl, nl, zn, rfl, SqL.of (S2 _ _ en), fun t3 o3 h3 od3 => ?_⟩
    have f3 : FT (upd G2 t3 (.frz o3 (.tup zn))) t3 zn := ⟨o3, upd_same, od3⟩
    have S3 := S2.trans (Same.new (o := .frz o3 (.tup zn)) h3)
    have g3 := Same.tupl (Same.new (o := .frz o3 (.tup zn)) h3) g2
    have f23 := f2.same (Same.new (o := .frz o3 (.tup zn)) h3)
    generalize upd G2 t3 (.frz o3 (.tup zn)) = G3 at f3 S3 g3 f23 ⊢
    refine ⟨pp, t1, t2, t3, xs, za, zd, zn, ds, as, nm, rfl, Same.tupl S3 X15.pr, f23.sq, ad.mono S3, g3, aa.mono S3, f3.sq, an.mono S3, C, fun vd G4 S4 dd => ?_⟩
    have S4' := S3.trans S4
    have sh := (due_sm C hv hv2 hv3).show (by decide) (by decide)
    clear f1 S1 g2 S2 f2 f3 S3 g3 f23 h1 h2 h3 S4
    refine ⟨_, rfl, _, rfl, lp2, zd, rfl, SqL.of (S4' _ _ ed), fun t1 o1 h1 od1 => ?_⟩
    have f1 : FT (upd G4 t1 (.frz o1 (.tup zd))) t1 zd := ⟨o1, upd_same, od1⟩
    have S1 := S4'.trans (Same.new (o := .frz o1 (.tup zd)) h1)
    have R1 := Same.new (o := .frz o1 (.tup zd)) h1
    generalize upd G4 t1 (.frz o1 (.tup zd)) = G1 at f1 S1 R1 ⊢
    refine ⟨_, rfl, al, za, rfl, .inl ⟨SqL.of (S1 _ _ ea), fun t2 h2 => ?_⟩⟩
    have g2 : SqT K (upd G1 t2 (.tup za)) t2 za := SqT.of upd_same
    have S2 := S1.trans (Same.new (o := .tup za) h2)
    have f2 := f1.same (Same.new (o := .tup za) h2)
    have R2 := R1.trans (Same.new (o := .tup za) h2)
    generalize upd G1 t2 (.tup za) = G2 at g2 S2 R2 f2 ⊢
    refine ⟨_, rfl, nl, zn, rfl, SqL.of (S2 _ _ en), fun t3 o3 h3 od3 => ?_⟩
    have f3 : FT (upd G2 t3 (.frz o3 (.tup zn))) t3 zn := ⟨o3, upd_same, od3⟩
    have S3 := S2.trans (Same.new (o := .frz o3 (.tup zn)) h3)
    have g3 := Same.tupl (Same.new (o := .frz o3 (.tup zn)) h3) g2
    have f23 := f2.same (Same.new (o := .frz o3 (.tup zn)) h3)
    have R3 := R2.trans (Same.new (o := .frz o3 (.tup zn)) h3)
    generalize upd G2 t3 (.frz o3 (.tup zn)) = G3 at f3 S3 R3 g3 f23 ⊢
    refine ⟨pp, t1, t2, t3, xs, za, ds, as, nm, rfl, Same.tupl S3 X15.pr, ⟨zd, f23, ad.mono S3⟩, g3, aa.mono S3, ⟨zn, f3, an.mono S3⟩, C, fun v1 G5 S4 dd2 => ?_⟩
    have S5' := S3.trans S4
    have dd' := dd.mono (R3.trans S4)
    refine ⟨v1, _, rfl, dd2.dp, sh, ?_⟩
    clear f1 S1 g2 S2 f2 g3 f23 h1 h2 h3 R1 R2 R3 S3 S4 f3
    refine ⟨_, rfl, _, rfl, lp2, zd, rfl, SqL.of (S5' _ _ ed), fun t1 o1 h1 od1 => ?_⟩
    have f1 : FT (upd G5 t1 (.frz o1 (.tup zd))) t1 zd := ⟨o1, upd_same, od1⟩
    have S1 := S5'.trans (Same.new (o := .frz o1 (.tup zd)) h1)
    have R1 := Same.new (o := .frz o1 (.tup zd)) h1
    generalize upd G5 t1 (.frz o1 (.tup zd)) = G1 at f1 S1 R1 ⊢
    refine ⟨_, rfl, al, za, rfl, .inl ⟨SqL.of (S1 _ _ ea), fun t2 h2 => ?_⟩⟩
    have g2 : SqT K (upd G1 t2 (.tup za)) t2 za := SqT.of upd_same
    have S2 := S1.trans (Same.new (o := .tup za) h2)
    have f2 := f1.same (Same.new (o := .tup za) h2)
    have R2 := R1.trans (Same.new (o := .tup za) h2)
    generalize upd G1 t2 (.tup za) = G2 at g2 S2 R2 f2 ⊢
    refine ⟨_, rfl, nl, zn, rfl, SqL.of (S2 _ _ en), fun t3 o3 h3 od3 => ?_⟩
    have f3 : FT (upd G2 t3 (.frz o3 (.tup zn))) t3 zn := ⟨o3, upd_same, od3⟩
    have S3 := S2.trans (Same.new (o := .frz o3 (.tup zn)) h3)
    have g3 := Same.tupl (Same.new (o := .frz o3 (.tup zn)) h3) g2
    have f23 := f2.same (Same.new (o := .frz o3 (.tup zn)) h3)
    have R3 := R2.trans (Same.new (o := .frz o3 (.tup zn)) h3)
    generalize upd G2 t3 (.frz o3 (.tup zn)) = G3 at f3 S3 R3 g3 f23 ⊢
    refine ⟨pp, t1, t2, t3, xs, za, ds, as, nm, rfl, Same.tupl S3 X15.pr, ⟨zd, f23, ad.mono S3⟩, g3, aa.mono S3, ⟨zn, f3, an.mono S3⟩, C, fun v2 G6 S4 dd2 => ?_⟩
    have dd3 := dd'.mono (R3.trans S4)
    refine ⟨_, rfl, _, rfl, vd, _, rfl, dd3.dp, sh, ?_⟩
    refine ⟨rfl, _, rfl, iteTb (decide_eq_true rfl) ?_⟩
    exact ⟨_, rfl, _, rfl, v2, vd, _, rfl, dd2.dp, dd3.dp, sh, k _⟩
end
theorem walk_mk {l : PySem.W.OpenLaw} {w : World} {K : PySem.W.Frag} {h : Heap} {mg : Str → Option Value} {fa : Addr} (X : K.In h) (G : h.Ns mainGlobals mg) (hfa : mg "law" = some (.ref fa))
    (f0 : HasFn K "_law_cell" s_law_cell)
    (f1 : HasFn K "_law_digits" s_law_digits)
    (f2 : HasFn K "_law_draw" s_law_draw)
    (f3 : HasFn K "_law_names" s_law_names)
    (f4 : HasFn K "_law_value" s_law_value)
    (f5 : HasFn K "_law_given" s_law_given)
    (f6 : HasFn K "_law_due" s_law_due)
    (f7 : HasFn K "_refusal" s_refusal)
    (f8 : HasFn K "bind" s_bind)
    (f9 : HasFn K "_law_same" s_law_same)
    (f10 : HasFn K "law" s_law)
    (c0 : HasInt K "TYPE_ERROR" 10)
    (b_len : PySem.W.nsIn K mainGlobals "len" = some none)
    (b_int : PySem.W.nsIn K mainGlobals "int" = some none)
    (b_range : PySem.W.nsIn K mainGlobals "range" = some none)
    (b_list : PySem.W.nsIn K mainGlobals "list" = some none)
    (b_tuple : PySem.W.nsIn K mainGlobals "tuple" = some none)
    (b_repr : PySem.W.nsIn K mainGlobals "repr" = some none)
    (b_dict : PySem.W.nsIn K mainGlobals "dict" = some none)
    (b_zip : PySem.W.nsIn K mainGlobals "zip" = some none) :
    ∃ fd : FuncData, (∀ (s : Shared) (v : Value), BindsTo s fd ⟨[v], []⟩ [("script", v)]) ∧ ∀ base : Heap, K.In base → base.Ns mainGlobals mg → FnG l.prog w K mg base CX0 3 fa fd ["script"] (spLaw K) := by
  have T : Txt K mg := ⟨c0.g X G, PySem.W.mg_none_of X G b_len, PySem.W.mg_none_of X G b_int, PySem.W.mg_none_of X G b_range, PySem.W.mg_none_of X G b_list, PySem.W.mg_none_of X G b_tuple, PySem.W.mg_none_of X G b_repr, PySem.W.mg_none_of X G b_dict, PySem.W.mg_none_of X G b_zip⟩
  refine law_use f10 X G hfa (fun _ _ _ _ _ _ _ => rfl) fun base X' G' fd F => ?_
  have U_law_cell := mk_use (P := l.prog) (w := w) (mg := mg) (base := base) f0 X G (fun _ _ _ _ _ _ us hl => match us, hl with | [_, _], _ => rfl) fun f fd F => ok_cell F T 
  have U_law_digits := mk_use (P := l.prog) (w := w) (mg := mg) (base := base) f1 X G (fun _ _ _ _ _ _ us hl => match us, hl with | [_, _, _], _ => rfl) fun f fd F => ok_digits F T U_law_cell
  have U_law_draw := mk_use (P := l.prog) (w := w) (mg := mg) (base := base) f2 X G (fun _ _ _ _ _ _ us hl => match us, hl with | [_, _], _ => rfl) fun f fd F => ok_draw F T 
  have U_law_names := mk_use (P := l.prog) (w := w) (mg := mg) (base := base) f3 X G (fun _ _ _ _ _ _ us hl => match us, hl with | [_], _ => rfl) fun f fd F => ok_names F T U_law_draw
  have U_law_value := mk_use (P := l.prog) (w := w) (mg := mg) (base := base) f4 X G (fun _ _ _ _ _ _ us hl => match us, hl with | [_], _ => rfl) fun f fd F => ok_value F T U_law_draw
  have U_law_given := mk_use (P := l.prog) (w := w) (mg := mg) (base := base) f5 X G (fun _ _ _ _ _ _ us hl => match us, hl with | [_, _], _ => rfl) fun f fd F => ok_given F T 
  have U_law_due := mk_use (P := l.prog) (w := w) (mg := mg) (base := base) f6 X G (fun _ _ _ _ _ _ us hl => match us, hl with | [_, _, _, _], _ => rfl) fun f fd F => ok_due F T U_law_given
  have U_refusal := mk_use (P := l.prog) (w := w) (mg := mg) (base := base) f7 X G (fun _ _ _ _ _ _ us hl => match us, hl with | [_, _, _, _], _ => rfl) fun f fd F => ok_refusal F T 
  have U_bind := mk_use (P := l.prog) (w := w) (mg := mg) (base := base) f8 X G (fun _ _ _ _ _ _ us hl => match us, hl with | [_, _, _, _, _], _ => rfl) fun f fd F => ok_bind F T U_refusal
  have U_law_same := mk_use (P := l.prog) (w := w) (mg := mg) (base := base) f9 X G (fun _ _ _ _ _ _ us hl => match us, hl with | [_, _], _ => rfl) fun f fd F => ok_same F T 
  exact ok_law F T U_law_digits U_law_draw U_law_names U_law_value U_law_due U_bind U_law_same
end K30
open PySem PySem.W PyProof.Rows
set_option maxRecDepth 100000 in
set_option maxHeartbeats 0 in
theorem PySem.Challenge.cw_pyhold_k30_binds_by_the_row_holds : PySem.Challenge.rw_pyhold_k30_binds_by_the_row.Holds := by
  w_on; o_law; k_head; (case hw => w_witness2)
  k_fill
  refine LK.walkG (l := PySem.Challenge.rw_pyhold_k30_binds_by_the_row) (n := 63) (k := 3) (x := "script") (CX := L2.CX0) (sp := K30.spLaw) rfl (by decide) rfl ⟨rfl, by decide, by decide⟩ (fun w h Y => PySem.W.kIn_of Y) ?F (fun K H a ns hl _ hS => ⟨a, ns, rfl, hS, hl, fun _ => rfl⟩) (fun _ _ _ _ z => z)
  case F =>
    intro w mg fa h KX G hmg
    refine' K30.walk_mk KX G hmg ?f0 ?f1 ?f2 ?f3 ?f4 ?f5 ?f6 ?f7 ?f8 ?f9 ?f10 ?c0 ?b_len ?b_int ?b_range ?b_list ?b_tuple ?b_repr ?b_dict ?b_zip
    case f0 => refine' LK.HasFn.mk' ?a ?b ?c ?d; (case a => k_is); (case b => k_is); (case c => k_is); (case d => k_is)
    case f1 => refine' LK.HasFn.mk' ?a ?b ?c ?d; (case a => k_is); (case b => k_is); (case c => k_is); (case d => k_is)
    case f2 => refine' LK.HasFn.mk' ?a ?b ?c ?d; (case a => k_is); (case b => k_is); (case c => k_is); (case d => k_is)
    case f3 => refine' LK.HasFn.mk' ?a ?b ?c ?d; (case a => k_is); (case b => k_is); (case c => k_is); (case d => k_is)
    case f4 => refine' LK.HasFn.mk' ?a ?b ?c ?d; (case a => k_is); (case b => k_is); (case c => k_is); (case d => k_is)
    case f5 => refine' LK.HasFn.mk' ?a ?b ?c ?d; (case a => k_is); (case b => k_is); (case c => k_is); (case d => k_is)
    case f6 => refine' LK.HasFn.mk' ?a ?b ?c ?d; (case a => k_is); (case b => k_is); (case c => k_is); (case d => k_is)
    case f7 => refine' LK.HasFn.mk' ?a ?b ?c ?d; (case a => k_is); (case b => k_is); (case c => k_is); (case d => k_is)
    case f8 => refine' LK.HasFn.mk' ?a ?b ?c ?d; (case a => k_is); (case b => k_is); (case c => k_is); (case d => k_is)
    case f9 => refine' LK.HasFn.mk' ?a ?b ?c ?d; (case a => k_is); (case b => k_is); (case c => k_is); (case d => k_is)
    case f10 => refine' LK.HasFn.mk' ?a ?b ?c ?d; (case a => k_is); (case b => k_is); (case c => k_is); (case d => k_is)
    case c0 => refine' LK.HasInt.mk' ?a ?b; (case a => k_is); (case b => decide +kernel)
    case b_len => k_is
    case b_int => k_is
    case b_range => k_is
    case b_list => k_is
    case b_tuple => k_is
    case b_repr => k_is
    case b_dict => k_is
    case b_zip => k_is


