import PyProof.Rows.All
import Wide.All
import OpenK.AllK
import Wide.FinOn
import HandS.ForMost
import HandS.Wide
import HandS.WideMore
import HandS.TupAny
import HandS.TupLen
import HandS.Evl
import HandS.Codes
import PyProof.ReprLen
import PyProof.StrLawsRepr
import HandS.Walk
import HandS.Zip
import KE.GoesMore
import HandS.Style
import HandS.TupMul
import PyProof.StrOps2
import HandS.IsInst
import HandS.StrMore
import HandS.Dict
import HandS.Text
import HandS.Replace
import PyProof.Rows.RuleB_pow
import PySem.Challenge.RW_pyhold_k26_items_and_slices
set_option Elab.async false
set_option linter.all false
set_option maxRecDepth 100000
set_option maxHeartbeats 4000000
/-! A layer of one's own over the hand layer: defs by name, data, the helpers that the laws share. -/
namespace LK
open PySem PySem.Spec PyProof.Rows L2

/-! ### a def's promise where nothing is being shown (repr asks who is) -/
structure FnG (P : Program) (w : World) (K : PySem.W.Frag) (mg : Str → Option Value) (base : Heap) (CX : CXT) (k : Nat) (f : Addr) (fd : FuncData) (ps : List Str) (sp : Sp) : Prop where
  len : ∀ vs H Q E, sp vs H Q E → vs.length = ps.length
  run : ∀ (A : Around) (outer : List Env) (s : Shared) (H : Hp) (args : Args) (us : List Value) (vs : List V) (Q : VK) (E : XK), Room k A → A.guards = some [] →
    Env0 P w K mg base A outer s H → BindsTo s fd args (ps.zip us) → Vals vs us → sp vs H Q E → codeAny (model P w) A (.call (.ref f) args) (CR CX outer P w H s Q E) s
section
variable {P : Program} {w : World} {K : PySem.W.Frag} {mg : Str → Option Value} {base : Heap} {CX : CXT}
theorem FnG.imp {k : Nat} {f : Addr} {fd : FuncData} {ps : List Str} {sp sp' : Sp} (F : FnG P w K mg base CX k f fd ps sp) (h : ∀ vs H Q E, sp' vs H Q E → sp vs H Q E) : FnG P w K mg base CX k f fd ps sp' where
  len := fun vs H Q E q => F.len vs H Q E (h vs H Q E q)
  run := fun A outer s H args us vs Q E hr hg he hb hv hs => F.run A outer s H args us vs Q E hr hg he hb hv (h vs H Q E hs)
/-- the rule for a def: its body as a term of rules, and the reading of that term -/
theorem okG {x qual : Str} {st : Stmt} {f : Addr} {fd : FuncData} {N ps : List Str} {k : Nat} {sp : Sp} (F : Fun K x qual st f fd) (S : FnScope N ps (defScope st)) (len : ∀ vs H Q E, sp vs H Q E → vs.length = ps.length)
    (body : ∀ (cdv : Value) (A : Around) (outer : List Env) (s : Shared) (H : Hp) (vs : List V) (Q : VK) (E : XK), Room k (A.deeper (envOfC qual (defScope st) s.heap.objs.size f cdv)) →
      (A.deeper (envOfC qual (defScope st) s.heap.objs.size f cdv)).guards = some [] → sp vs H Q E →
      ∃ t, PSs (cxOf CX P w K mg base N qual (defScope st) f cdv A outer s H E) (defBody st) t ∧ t { nx := fun _ H' => Q .non H', rt := Q } (start N vs) H) :
    FnG P w K mg base CX (k + 1) f fd ps sp := by
  obtain ⟨oc, od, kV, doc, pm, an, cdv, ct, osl, rfl, lk, hcd⟩ := F.ex
  refine ⟨len, fun A outer s H args us vs Q E hr hgd e0 hb r hsp => ?_⟩
  have inn : K.In s.heap := e0.mod.kin.keeps fun b o e => (e0.bs b o e).1
  refine codeAny_call_function hr.depth (inn _ _ lk) rfl S.co S.gen rfl (PySem.W.codeRec_of inn hcd) (hb _ _ _ _ ?_)
  refine wpAny_newFunctionEnv_cells S.kind (fun y hy => ?_) fun env he s1 made => ?_
  · obtain ⟨n, v⟩ := y
    exact (S.par n (List.of_mem_zip hy).1).elim .inl fun q => .inr ⟨q, PySem.W.cellsFrom_some _ _ _ (.inl q)⟩
  · subst he
    have lim : s.heap.NoLimit := e0.mod.nolimit.keeps fun b o e => (e0.bs b o e).1
    refine ⟨lim.keeps made.toInCall.keep, codeAny_func ?_⟩
    obtain ⟨t, ht, hq⟩ := body cdv A outer s H vs Q E (hr.deeper _) hgd hsp
    refine wpAny_mono (ht.run [] s1 (start N vs) H _ (inv_start S hr.hd e0 (len _ _ _ _ hsp) r made) hq) (fun fl s' hs => ?_) fun e s' hs => hs
    cases fl with
    | ret u => exact let ⟨v, _, H', J, rv, q⟩ := hs; ⟨v, H', J.os, J.bare, J.base, J.hok, rv, q⟩
    | next => exact let ⟨_, H', J, q⟩ := hs; ⟨V.non, H', J.os, J.bare, J.base, J.hok, rfl, q⟩
    | brk => exact let ⟨_, _, _, q⟩ := hs; q.elim
    | cont => exact let ⟨_, _, _, q⟩ := hs; q.elim
/-- .. whose body lets no exception out -/
theorem okG0 {x qual : Str} {st : Stmt} {f : Addr} {fd : FuncData} {N ps : List Str} {k : Nat} {sp : Sp} (F : Fun K x qual st f fd) (S : FnScope N ps (defScope st)) (len : ∀ vs H Q E, sp vs H Q E → vs.length = ps.length)
    (body : ∀ (cdv : Value) (A : Around) (outer : List Env) (s : Shared) (H : Hp) (vs : List V) (Q : VK) (E : XK), Room k (A.deeper (envOfC qual (defScope st) s.heap.objs.size f cdv)) →
      (A.deeper (envOfC qual (defScope st) s.heap.objs.size f cdv)).guards = some [] → sp vs H Q E →
      ∃ t, PSs (cxOf CX0 P w K mg base N qual (defScope st) f cdv A outer s H E).nox (defBody st) t ∧ t { nx := fun _ H' => Q .non H', rt := Q } (start N vs) H) :
    FnG P w K mg base CX0 (k + 1) f fd ps sp :=
  okG F S len fun cdv A outer s H vs Q E hr hg hs => let ⟨t, ht, q⟩ := body cdv A outer s H vs Q E hr hg hs; ⟨t, ht.nox, q⟩
end
section
variable {X : Cx} {CX : CXT} {k : Nat} {f : Addr} {fd : FuncData} {ps : List Str} {sp : Sp} {E : XK} {x : Str} {p pos : Pos} {e : Expr} {es : List Expr} {t : TA}
theorem run_fnG {pins : List (Addr × Obj)} {σ : L2.St} {H : Hp} {s : Shared} {Q : VK} {us : List Value} {vs : List V} (F : FnG X.prog X.w X.K X.mg X.base CX k f fd ps sp) (hr : Room k X.A) (hg : X.A.guards = some []) (hb : Binds X.K fd ps [])
    (hx : Passes CX X E) (I : Inv X pins σ H s) (r : Vals vs us) (h : sp vs H Q E) : wpAny (model X.prog X.w) X.A (call (.ref f) us) (EP X pins σ Q) X.xe s := by
  have hl : (us ++ []).length = ps.length := by rw [List.append_nil, ← r.length, F.len _ _ _ _ h]
  have hbs := hb s us I.kIn hl
  rw [List.append_nil] at hbs
  refine wpAny_call (codeAny_mono (F.run X.A X.stack s H ⟨us, []⟩ us vs Q E hr hg I.env0 hbs r h) fun res s' hq => ?_)
  match res, hq with
  | .error e, hq => exact hx pins σ H s e s' I hq
  | .ok (.ret u), hq => exact I.after hq
  | .ok .next, hq => exact hq.elim
  | .ok .brk, hq => exact hq.elim
  | .ok .cont, hq => exact hq.elim
end

/-! ### defs of the text, by name -/
/-- what the top has left of the def x, whose statement is st -/
def HasFn (K : PySem.W.Frag) (x : Str) (st : Stmt) : Prop := ∃ (f : Addr) (oc : Value) (od an : Option Addr) (kV doc pm cdv ct : Value) (osl : Array (Option Value)),
  PySem.W.nsIn K mainGlobals x = some (some (.ref f)) ∧ K.lookup f = some ⟨oc, od, .func (PySem.W.fnOf x x (defArgs st) (defBody st) (defScope st) .none kV doc pm an cdv ct), osl⟩ ∧
  PySem.W.codeIn K cdv x = true ∧ PySem.W.keepIn K (.ref f) = true
/-- the def x may be called: its promise sp, by level k -/
structure Use (P : Program) (w : World) (K : PySem.W.Frag) (mg : Str → Option Value) (base : Heap) (CX : CXT) (x : Str) (k : Nat) (ps : List Str) (sp : Sp) : Prop where
  ex : ∃ (f : Addr) (fd : FuncData), FnG P w K mg base CX k f fd ps sp ∧ mg x = some (.ref f) ∧ PySem.W.keepIn K (.ref f) = true ∧ Binds K fd ps []
section
variable {P : Program} {w : World} {K : PySem.W.Frag} {mg : Str → Option Value} {base h : Heap} {CX : CXT}
theorem mk_use {x : Str} {st : Stmt} {k : Nat} {ps : List Str} {sp : Sp} (F : HasFn K x st) (X : K.In h) (G : h.Ns mainGlobals mg)
    (hb : ∀ (kV doc pm : Value) (an : Option Addr) (cdv ct : Value) (us : List Value), us.length = ps.length → bindArgs (PySem.W.fnOf x x (defArgs st) (defBody st) (defScope st) .none kV doc pm an cdv ct) ⟨us, []⟩ = pure (ps.zip us))
    (ok : ∀ (f : Addr) (fd : FuncData), Fun K x x st f fd → FnG P w K mg base CX k f fd ps sp) : Use P w K mg base CX x k ps sp := by
  obtain ⟨f, oc, od, an, kV, doc, pm, cdv, ct, osl, e, l, c, kp⟩ := F
  have Fn := fun_mk (st := st) l c kp
  exact ⟨f, _, ok f _ Fn, PySem.W.mg_of X G e, kp, Fn.binds hb⟩
theorem Use.imp {x : Str} {k : Nat} {ps : List Str} {sp sp' : Sp} (U : Use P w K mg base CX x k ps sp) (h : ∀ vs H Q E, sp' vs H Q E → sp vs H Q E) : Use P w K mg base CX x k ps sp' := by
  obtain ⟨f, fd, ok, r⟩ := U.ex
  exact ⟨f, fd, ok.imp h, r⟩
end
section
variable {X : Cx} {CX : CXT} {E : XK} {k : Nat} {x : Str} {ps : List Str} {sp : Sp} {p pos : Pos} {e : Expr} {es : List Expr} {t : TA}
theorem pe_useX (U : Use X.prog X.w X.K X.mg X.base CX x k ps sp) (hx : Passes CX X E) (hr : Room k X.A) (gd : X.A.guards = some []) (hg : Gl X x) (ha : PA X (e :: es) t) (hdb : (x == ("__debug__" : Str)) = false := by decide)
    (he : starEach (e :: es) X.env = (false, eval e X.env) :: starEach es X.env := by rfl) (hpl : (backTo pos (starEach es X.env)).any (·.1) = false := by rfl) : PE X (.Call (.Name x p) (e :: es) [] pos) (fun σ H Q => t σ H fun vs H1 => sp vs H1 Q E) := by
  obtain ⟨f, fd, ok, hm, kp, hb⟩ := U.ex
  refine ⟨fun pins s σ H Q I h => wpAny_Call_Name_kw (ld_glob I hg hm ?_ hdb)⟩
  exact PySem.W.callWith_K (h₀ := X.base) I.ok.mod.kin kp (thn (ha.run pos pins s σ H _ I h) fun us s1 ⟨vs, H1, I1, r, q⟩ => ⟨I1.kIn, run_fnG ok hr gd hb hx I1 r q⟩) he hpl
def tUse (sp : Sp) (E : XK) (t : TA) : TE := fun σ H Q => t σ H fun vs H1 => sp vs H1 Q E
theorem pe_use (U : Use X.prog X.w X.K X.mg X.base CX0 x k ps sp) (hr : Room k X.A) (gd : X.A.guards = some []) (hg : Gl X x) (ha : PA X (e :: es) t) (hdb : (x == ("__debug__" : Str)) = false := by decide)
    (he : starEach (e :: es) X.env = (false, eval e X.env) :: starEach es X.env := by rfl) (hpl : (backTo pos (starEach es X.env)).any (·.1) = false := by rfl) : PE X (.Call (.Name x p) (e :: es) [] pos) (tUse sp E0 t) := pe_useX U pass0 hr gd hg ha hdb he hpl
theorem pe_use0 (U : Use X.prog X.w X.K X.mg X.base CX0 x k ps sp) (hr : Room k X.A) (gd : X.A.guards = some []) (hg : Gl X x) (hdb : (x == ("__debug__" : Str)) = false := by decide) : PE X (.Call (.Name x p) [] [] pos) (tUse sp E0 tNil) := by
  obtain ⟨f, fd, ok, hm, kp, hb⟩ := U.ex
  exact ⟨fun pins s σ H Q I h => wpAny_Call_Name_kw (ld_glob I hg hm (PySem.W.callWith_K0 I.kIn kp (run_fnG (us := []) ok hr gd hb pass0 I .nil h)) hdb)⟩
end

/-! ### what stays -/
theorem Same.new {H : Hp} {p : Addr} {o : HO} (h : H p = none) : Same H (upd H p o) := fun b u e => by
  rw [upd_ne (ne_of_none e h)]; exact e
theorem Same.rd {H H' : Hp} {a : Addr} {u : HO} (e : Same H H') (h : Rd H a u) : Rd H' a u := by
  rcases h with h | ⟨o, h⟩
  · exact .inl (e _ _ h)
  · exact .inr ⟨o, e _ _ h⟩
theorem Same.tupl {K : PySem.W.Frag} {H H' : Hp} {a : Addr} {xs : List V} (e : Same H H') (h : SqT K H a xs) : SqT K H' a xs := by
  rcases h with h | h
  · exact .inl (Same.rd e h)
  · exact .inr h
theorem SqT.mono {K : PySem.W.Frag} {H H' : Hp} {a : Addr} {xs : List V} (h : SqT K H a xs) (e : Same H H') : SqT K H' a xs := Same.tupl e h
theorem SqL.mono {K : PySem.W.Frag} {H H' : Hp} {a : Addr} {xs : List V} (h : SqL K H a xs) (e : Same H H') : SqL K H' a xs := e.seq h

/-! ### data: none, bools, ints, texts, tuples (and lists that stand still) -/
mutual
theorem Dp.mono {K : PySem.W.Frag} {H H' : Hp} (e : Same H H') : ∀ {v : V} {d : PyData}, Dp K H v d → Dp K H' v d
  | _, _, .non => .non
  | _, _, .bl b => .bl b
  | _, _, .int i => .int i
  | _, _, .str x => .str x
  | _, _, .lst h a => .lst (e.seq h) (DpAll.mono e a)
  | _, _, .tup h a => .tup (Same.tupl e h) (DpAll.mono e a)
theorem DpAll.mono {K : PySem.W.Frag} {H H' : Hp} (e : Same H H') : ∀ {vs : List V} {ds : List PyData}, DpAll K H vs ds → DpAll K H' vs ds
  | _, _, .nil => .nil
  | _, _, .cons h a => .cons (Dp.mono e h) (DpAll.mono e a)
end
/-- a tuple just made -/
theorem Dp.made {K : PySem.W.Frag} {H : Hp} {p : Addr} {xs : List V} {ds : List PyData} (hp : H p = none) (h : DpAll K H xs ds) : Dp K (upd H p (.tup xs)) (.ref p) (.tuple ds) :=
  .tup (SqT.of upd_same) (DpAll.mono (Same.new hp) h)
theorem DpAll.length {K : PySem.W.Frag} {H : Hp} : ∀ {vs : List V} {ds : List PyData}, DpAll K H vs ds → vs.length = ds.length
  | _, _, .nil => rfl
  | _, _, .cons _ t => by simp [DpAll.length t]
theorem DpAll.app {K : PySem.W.Frag} {H : Hp} : ∀ {vs ws : List V} {ds es : List PyData}, DpAll K H vs ds → DpAll K H ws es → DpAll K H (vs ++ ws) (ds ++ es)
  | _, _, _, _, .nil, t => t
  | _, _, _, _, .cons h a, t => .cons h (DpAll.app a t)

/-! ### repr of data -/
mutual
theorem Dp.noDict {K : PySem.W.Frag} {H : Hp} : ∀ {v : V} {d : PyData}, Dp K H v d → d.hasDict = false
  | _, _, .non => rfl
  | _, _, .bl _ => rfl
  | _, _, .int _ => rfl
  | _, _, .str _ => rfl
  | _, _, .lst _ a => by simp only [PyData.hasDict]; exact DpAll.noDict a
  | _, _, .tup _ a => by simp only [PyData.hasDict]; exact DpAll.noDict a
theorem DpAll.noDict {K : PySem.W.Frag} {H : Hp} : ∀ {vs : List V} {ds : List PyData}, DpAll K H vs ds → PyData.hasDictAll ds = false
  | _, _, .nil => rfl
  | _, _, .cons h a => by simp only [PyData.hasDictAll, Dp.noDict h, DpAll.noDict a, Bool.or_self]
end
/-- what repr asks of data -/
structure ShowOk (d : PyData) : Prop where
  ok : d.showable = true
  dp : d.depth ≤ 60
  sz : d.shown.length ≤ sizeLine
def rRepr (K : PySem.W.Frag) : List V → Hp → VK → Prop := fun xs H Q => ∃ v d, xs = [v] ∧ Dp K H v d ∧ ShowOk d ∧ Q (.str d.shown) H
section
variable {X : Cx}
theorem call_repr_data (hg : X.A.guards = some []) (hu : X.A.units + 64 < cLine) : CallR X (.builtin "repr") (rRepr X.K) := by
  intro pins s σ H xs us Q I r h
  obtain ⟨v, d, rfl, hd, ⟨hs, hdp, hsz⟩, q⟩ := h
  obtain ⟨u, rfl, rv⟩ := vals1 r
  obtain ⟨as, rr⟩ := Dp.reads I d v u hd rv
  have nd := Dp.noDict hd
  cases d with
  | none => cases rr; exact PySem.P.repr_of_none ⟨.str _, H, I.tok _, ⟨_, rfl⟩, q⟩
  | bool b => cases rr; exact PySem.P.repr_of_bool ⟨.str _, H, I.tok _, ⟨_, rfl⟩, by simpa [PyData.shown] using q⟩
  | int i => cases rr; exact PySem.P.repr_of_int (of_decide_eq_true (by simpa [PyData.showable] using hs)) ⟨.str _, H, I.tok _, ⟨_, rfl⟩, by simpa [PyData.shown] using q⟩
  | str x => cases rr; exact PySem.P.repr_of_str (hsz := by simpa [PyData.shown] using hsz) ⟨.str _, H, I.tok _, ⟨_, rfl⟩, by simpa [PyData.shown] using q⟩
  | list ds =>
    obtain ⟨a, rfl⟩ := PyProof.Rows.isRef_of_reads rr rfl
    exact repr_of_reads' rr hs (PyData.noDict_hsm nd) hg (by omega) (fun _ _ e => e) (fun h' u tk hk => ⟨.str _, H, I.kept hk, ⟨_, rfl⟩, q⟩) hsz
  | tuple ds =>
    obtain ⟨a, rfl⟩ := PyProof.Rows.isRef_of_reads rr rfl
    exact repr_of_reads' rr hs (PyData.noDict_hsm nd) hg (by omega) (fun _ _ e => e) (fun h' u tk hk => ⟨.str _, H, I.kept hk, ⟨_, rfl⟩, q⟩) hsz
  | dict kv => cases hd
end

/-! ### the law's own call -/
/-- the heap behind the top, seen with the script at a locked, or with nothing tracked -/
theorem law_callG {P : Program} {w : World} {K : PySem.W.Frag} {mg mb : Str → Option Value} {CX : CXT} {k : Nat} {fa a : Addr} {fd : FuncData} {x : Str} {sp : Sp} {s₁ : Shared} {vs : List Value} {ns : List Int}
    (inn : K.In s₁.heap) (hns : s₁.heap.Ns mainGlobals mg) (hb : s₁.heap.Ns builtinsNs mb) (hbb : ∀ x : Str, x ≠ "__name__" → mb x = bootBuiltins x) (hlim : s₁.heap.NoLimit) (hgens : s₁.gens = #[])
    (ha : s₁.heap.get? a = some { cls := .type "list", data := .seq vs.toArray }) (hi : IntsAre vs ns) (hl : ns.length ≤ sizeLine) (hr : Room k callerA)
    (F : ∀ base : Heap, K.In base → base.Ns mainGlobals mg → FnG P w K mg base CX k fa fd [x] sp) (hbind : ∀ (s : Shared) (u : Value), BindsTo s fd ⟨[u], []⟩ [(x, u)])
    (hsp : ∀ H : Hp, Only H → SqL K H a (ns.map V.int) → sp [.ref a] H (fun v _ => v = .bl true) fun _ _ _ => False)
    (hCX : ∀ H e s', CX [] H s₁ (fun _ _ _ => False) e s' → False) :
    codeAny (model P w) callerA (.call (.ref fa) ⟨[.ref a], []⟩) (fun r s' => r = .ok (.ret (.bool true)) ∧ OldK s₁.heap s'.heap ∧ s'.os = s₁.os ∧ AllBare s'.gens) s₁ := by
  have rv := vals_ints hi
  have run : ∀ H : Hp, Only H → SqL K H a (ns.map V.int) → HOk P w H s₁.heap → (∀ b u, H b = some u → b = a ∧ K.lookup a = none) →
      codeAny (model P w) callerA (.call (.ref fa) ⟨[.ref a], []⟩) (fun r s' => r = .ok (.ret (.bool true)) ∧ OldK s₁.heap s'.heap ∧ s'.os = s₁.os ∧ AllBare s'.gens) s₁ := by
    intro H only hS hok at_a
    -- what is no list stays in the base
    have free : ∀ {b : Addr} {o : Obj}, s₁.heap.get? b = some o → (∀ its n, o.data ≠ .seq its n) → H b = none := fun {b o} e hd => by
      cases q : H b with
      | none => rfl
      | some u =>
        obtain ⟨rfl, _⟩ := at_a b u q
        rw [ha] at e; cases e
        exact absurd rfl (hd _ _)
    have names : ∀ {b : Addr} {m : Str → Option Value}, s₁.heap.Ns b m → (hidT s₁.heap H).Ns b m := fun {b m} hn => by
      obtain ⟨o, es, ep, e, d, r⟩ := hn
      exact ⟨o, es, ep, hidT_get e (free e fun its n z => by rw [d] at z; cases z), d, r⟩
    have inb : K.In (hidT s₁.heap H) := fun b o e => by
      refine hidT_get (inn b o e) ?_
      cases q : H b with
      | none => rfl
      | some u =>
        obtain ⟨rfl, hk⟩ := at_a b u q
        rw [e] at hk; cases hk
    have md : Mod K mg (hidT s₁.heap H) := by
      obtain ⟨mc, h1, h2⟩ := hlim
      exact ⟨inb, names hns, ⟨mb, names hb, hbb⟩, ⟨mc, names h1, h2⟩⟩
    have none_in : ∀ b : Addr, b ∉ ([] : List Addr) := fun b z => nomatch z
    have e0 : Env0 P w K mg (hidT s₁.heap H) callerA [] s₁ H := ⟨rfl, md, fun b o e => of_hidT e, Nat.le_of_eq (hidT_size _ _), trivial, fun b z => absurd z (none_in b), hok, .of_eq hgens⟩
    refine codeAny_mono ((F _ inb (names hns)).run callerA [] s₁ H ⟨[.ref a], []⟩ [.ref a] [.ref a] _ _ hr rfl e0 (hbind s₁ (.ref a)) (.cons rfl .nil) (hsp H only hS)) fun r s' h => ?_
    match r, h with
    | .error e, h => exact (hCX H e s' h).elim
    | .ok .next, h => exact False.elim h
    | .ok .brk, h => exact False.elim h
    | .ok .cont, h => exact False.elim h
    | .ok (.ret u), h =>
      obtain ⟨v, H', os, bare, un, hok', r', q⟩ := h
      obtain rfl : v = V.bl true := q
      obtain rfl : u = Value.bool true := r'
      refine ⟨rfl, OldK.of_keep fun b o e => ?_, os, bare⟩
      cases q : H b with
      | none => exact un.keep b o e q (none_in b) (none_in b)
      | some u =>
        rcases only b with z | ⟨ob, xs, z⟩
        · rw [q] at z; cases z
        · have e1 : s₁.heap.get? b = some ob := (hok b _ z).1
          rw [e] at e1; cases e1
          exact (hok' b _ (un.frzs b o _ z)).1
  cases hk : K.lookup a with
  | some o =>
    have e := inn a o hk
    rw [ha] at e; cases e
    have sz : vs.toArray.size ≤ sizeLine := by rw [List.size_toArray, hi.length]; exact hl
    exact run (fun _ => none) (fun _ => .inl rfl) (.inr ⟨_, vs.toArray, _, hk, rfl, rfl, rfl, sz, by simpa using rv⟩) (fun b u z => nomatch (show (none : Option HO) = some u from z)) fun b u z => nomatch (show (none : Option HO) = some u from z)
  | none =>
    let u0 : HO := .frz { cls := .type "list", data := .seq vs.toArray } (.lst (ns.map V.int))
    have at1 : ∀ b u, upd (fun _ => none) a u0 b = some u → b = a ∧ u = u0 := fun b u z => by
      by_cases hb : b = a
      · subst hb; rw [upd_same] at z; exact ⟨rfl, (Option.some.inj z).symm⟩
      · rw [upd_ne hb] at z; cases z
    refine run (upd (fun _ => none) a u0) (fun b => ?_) (.inl (.inr ⟨_, upd_same⟩)) (fun b u z => ?_) fun b u z => ⟨(at1 b u z).1, hk⟩
    · by_cases hb : b = a
      · subst hb; exact .inr ⟨_, _, upd_same⟩
      · exact .inl (by rw [upd_ne hb])
    · obtain ⟨rfl, rfl⟩ := at1 b u z
      exact ⟨ha, by rw [List.length_map]; exact hl, vs, _, rv, ha⟩
theorem walkG {l : PySem.W.OpenLaw} {n k : Nat} {q : Program} {loose : List Str} {XP : (Str → Option Value) → Heap → Prop} {YP : World → Heap → Prop} {d : DefRec} {K : Params → PySem.W.Frag} {CX : CXT} {sp : PySem.W.Frag → Sp} {x : Str}
    (hn : l.most = some n) (hn2 : n ≤ sizeLine) (hdf : d.params.defaults = []) (hr : Room k callerA)
    (hY : ∀ (w : World) (h : Heap), YP w h → (K w.params).In h)
    (F : ∀ (w : World) (mg : Str → Option Value) (fa : Addr) (h : Heap), (K w.params).In h → h.Ns mainGlobals mg → mg d.name = some (.ref fa) →
      ∃ fd : FuncData, (∀ (s : Shared) (u : Value), BindsTo s fd ⟨[u], []⟩ [(x, u)]) ∧
        ∀ base : Heap, (K w.params).In base → base.Ns mainGlobals mg → FnG l.prog w (K w.params) mg base CX k fa fd [x] (sp (K w.params)))
    (hsp : ∀ (K : PySem.W.Frag) (H : Hp) (a : Addr) (ns : List Int), ns.length ≤ n → Only H → SqL K H a (ns.map V.int) → sp K [.ref a] H (fun v _ => v = .bl true) fun _ _ _ => False)
    (hCX : ∀ (H : Hp) (s : Shared) (e : Value) (s' : Shared), CX [] H s (fun _ _ _ => False) e s' → False) :
    PySem.W.WalkO q loose XP YP l.row.toRowW d [] (fun f vs => PySem.call f vs) :=
  Att.attach_call hn hdf fun w s₀ s₁ mg mb fa o pm cd doc a vs ns G Y ho hd hcd hmg hobj hints hlen hg =>
    let ⟨fd, hb, hF⟩ := F w mg fa _ (hY w _ Y) G.T.g hmg
    law_callG (hY w _ Y) G.T.g G.T.b G.T.builtins G.T.nolimit hg hobj hints (Nat.le_trans hlen hn2) hr hF hb (fun H hO hS => hsp (K w.params) H a ns hlen hO hS) fun H e s' => hCX H s₁ e s'
/-- from the top's facts: the law's def and its arguments -/
theorem law_use {P : Program} {w : World} {K : PySem.W.Frag} {mg : Str → Option Value} {h : Heap} {CX : CXT} {k : Nat} {fa : Addr} {st : Stmt} {x : Str} {sp : Sp} (L : HasFn K "law" st) (X : K.In h) (G : h.Ns mainGlobals mg) (hfa : mg "law" = some (.ref fa))
    (hb : ∀ (kV doc pm : Value) (an : Option Addr) (cdv ct v : Value), bindArgs (PySem.W.fnOf "law" "law" (defArgs st) (defBody st) (defScope st) .none kV doc pm an cdv ct) ⟨[v], []⟩ = pure [(x, v)])
    (ok : ∀ base : Heap, K.In base → base.Ns mainGlobals mg → ∀ fd, Fun K "law" "law" st fa fd → FnG P w K mg base CX k fa fd [x] sp) :
    ∃ fd : FuncData, (∀ (s : Shared) (v : Value), BindsTo s fd ⟨[v], []⟩ [(x, v)]) ∧ ∀ base : Heap, K.In base → base.Ns mainGlobals mg → FnG P w K mg base CX k fa fd [x] sp := by
  obtain ⟨f, oc, od, an, kV, doc, pm, cdv, ct, osl, e, l, c, kp⟩ := L
  have z := hfa.symm.trans (PySem.W.mg_of X G e)
  cases z
  have Fn := fun_mk (st := st) l c kp
  exact ⟨_, fun s v => .of_eq (hb ..), fun base h1 h2 => ok base h1 h2 _ Fn⟩

/-! ### tests whose answer is known -/
theorem iteFb {c : Bool} {A B : Prop} (h : c = false) (b : B) : if c = true then A else B := by rw [h]; exact iteF b
theorem iteTb {c : Bool} {A B : Prop} (h : c = true) (a : A) : if c = true then A else B := by rw [h]; exact iteT a
theorem ite3 {c : Bool} {A B : Prop} (h1 : c = true → A) (h2 : c = false → B) : if c = true then A else B := by
  cases c with
  | true => exact iteT (h1 rfl)
  | false => exact iteF (h2 rfl)

/-! ### constants of the top -/
def HasInt (K : PySem.W.Frag) (x : Str) (n : Int) : Prop := ∃ (t : Tok) (m : Int), PySem.W.nsIn K mainGlobals x = some (some (.int m t)) ∧ m = n
def KTup (K : PySem.W.Frag) (a : Addr) (xs : List V) : Prop := ∃ (od : Option Addr) (its : Array Value) (n : Nat) (sl : Array (Option Value)), K.lookup a = some ⟨.type "tuple", od, .seq its n, sl⟩ ∧ its.size ≤ sizeLine ∧ Vals xs its.toList
def HasTup (K : PySem.W.Frag) (x : Str) (xs : List V) : Prop := ∃ a, PySem.W.nsIn K mainGlobals x = some (some (.ref a)) ∧ KTup K a xs
theorem KTup.sq {K : PySem.W.Frag} {a : Addr} {xs : List V} (h : KTup K a xs) (H : Hp) : SqT K H a xs := by
  obtain ⟨od, its, n, sl, e, z, v⟩ := h
  exact .inr ⟨_, its, n, e, rfl, rfl, z, v⟩
/-- the module's names, as the defs see them -/
def GInt (mg : Str → Option Value) (x : Str) (n : Int) : Prop := ∃ t, mg x = some (.int n t)
def GTup (K : PySem.W.Frag) (mg : Str → Option Value) (x : Str) (xs : List V) : Prop := ∃ a, mg x = some (.ref a) ∧ KTup K a xs
theorem HasInt.g {K : PySem.W.Frag} {mg : Str → Option Value} {h : Heap} {x : Str} {n : Int} (i : HasInt K x n) (X : K.In h) (G : h.Ns mainGlobals mg) : GInt mg x n := by
  obtain ⟨t, m, e, rfl⟩ := i
  exact ⟨t, PySem.W.mg_of X G e⟩
theorem HasTup.g {K : PySem.W.Frag} {mg : Str → Option Value} {h : Heap} {x : Str} {xs : List V} (i : HasTup K x xs) (X : K.In h) (G : h.Ns mainGlobals mg) : GTup K mg x xs := by
  obtain ⟨a, e, k⟩ := i
  exact ⟨a, PySem.W.mg_of X G e, k⟩
section
variable {X : Cx} {x : Str} {pos : Pos}
theorem pe_globI {n : Int} (h : GInt X.mg x n) (hg : Gl X x) (hd : (x == ("__debug__" : Str)) = false := by decide) : PE X (.Name x pos) (tC (.int n)) := by
  obtain ⟨t, e⟩ := h
  exact pe_glob hg e ⟨t, rfl⟩ hd
/-- a tuple of the top: it is read as xs, wherever it stands -/
def tGT (K : PySem.W.Frag) (xs : List V) : TE := fun _ H Q => ∀ a, KTup K a xs → Q (.ref a) H
theorem pe_globT {xs : List V} (h : GTup X.K X.mg x xs) (hg : Gl X x) (hd : (x == ("__debug__" : Str)) = false := by decide) : PE X (.Name x pos) (tGT X.K xs) := by
  obtain ⟨a, e, k⟩ := h
  exact ⟨fun pins s σ H Q I q => (pe_glob (v := .ref a) hg e rfl hd).run pins s σ H Q I (q a k)⟩
end

/-! ### // by any divisor but 0 -/
def CDivX (_ j : Int) : Prop := j ≠ 0 ∧ j.natAbs.log2 < 9000
theorem op_fdivX {X : Cx} : OpR X (binaryOp .FloorDiv) (rI CDivX fun i j => .int (i.fdiv j)) := opI fun _ _ _ _ _ _ _ hc q => floordiv_int hc.1 q (.inl (PyProof.noPylong_of_log2 hc.2))
theorem fdiv_le_pos (i : Int) {j : Int} (hj : 0 < j) : (i.fdiv j).natAbs ≤ i.natAbs + 1 := by
  have e := Int.mul_fdiv_add_fmod i j
  have h0 := Int.fmod_nonneg_of_pos i hj
  have h1 := Int.fmod_lt_of_pos i hj
  have a : (i.fdiv j).natAbs ≤ (j * i.fdiv j).natAbs := by
    rw [Int.natAbs_mul]; exact Nat.le_mul_of_pos_left _ (by omega)
  by_cases hi : 0 ≤ i
  · have : 0 ≤ i.fdiv j := Int.fdiv_nonneg hi (by omega)
    have : 0 ≤ j * i.fdiv j := Int.mul_nonneg (by omega) this
    omega
  · have q : i.fdiv j ≤ -1 := by
      by_cases z : 0 ≤ i.fdiv j
      · have := Int.mul_nonneg (show 0 ≤ j by omega) z
        omega
      · omega
    have r : -1 + i ≤ i.fdiv j := by
      have : i.fdiv j * (j - 1) ≤ (-1) * (j - 1) := Int.mul_le_mul_of_nonneg_right q (by omega)
      have e2 : j * i.fdiv j = i.fdiv j * (j - 1) + i.fdiv j := by rw [Int.mul_sub, Int.mul_one, Int.mul_comm]; omega
      omega
    omega
theorem fdiv_le (i j : Int) : (i.fdiv j).natAbs ≤ i.natAbs + 1 := by
  by_cases h : 0 < j
  · exact fdiv_le_pos i h
  · by_cases h2 : j = 0
    · subst h2; rw [Int.fdiv_zero]; omega
    · have e : i.fdiv j = (-i).fdiv (-j) := by rw [Int.neg_fdiv_neg]
      have := fdiv_le_pos (-i) (show 0 < -j by omega)
      rw [e]; omega

/-! ### how long a shown thing is at most -/
structure Sm (d : PyData) (dp N : Nat) : Prop where
  ok : d.showable = true
  dp : d.depth ≤ dp
  sz : d.shown.length ≤ N
structure SmAll (ds : List PyData) (dp n N : Nat) : Prop where
  ok : PyData.showableAll ds = true
  dp : PyData.depthAll ds ≤ dp
  len : ds.length ≤ n
  sz : ((PyData.shownAll ds).map (·.length)).sum ≤ N
theorem Sm.show {d : PyData} {dp N : Nat} (h : Sm d dp N) (h1 : dp ≤ 60) (h2 : N ≤ sizeLine) : ShowOk d := ⟨h.ok, Nat.le_trans h.dp h1, Nat.le_trans h.sz h2⟩
theorem Sm.mono {d : PyData} {dp N dp' N' : Nat} (h : Sm d dp N) (h1 : dp ≤ dp') (h2 : N ≤ N') : Sm d dp' N' := ⟨h.ok, Nat.le_trans h.dp h1, Nat.le_trans h.sz h2⟩
theorem shownAll_length : ∀ ds : List PyData, (PyData.shownAll ds).length = ds.length
  | [] => rfl
  | d :: ds => by simp [PyData.shownAll, shownAll_length ds]
theorem Sm.int {i : Int} (h : i.natAbs < 2 ^ 1900) : Sm (.int i) 0 2000 := by
  have hl : i.natAbs.log2 < 1900 := PySem.Flt.log2_lt_of (by decide) h
  refine ⟨?_, Nat.le_refl 0, ?_⟩
  · simp only [PyData.showable, decide_eq_true_eq]; omega
  · have e := int_text_length_le (k := 1900) (by decide) hl
    show (Str.ofString (toString i)).length ≤ 2000
    rw [PySem.ofString_length]; omega
theorem Sm.bool (b : Bool) : Sm (.bool b) 0 10 := ⟨rfl, Nat.le_refl 0, by cases b <;> decide +kernel⟩
theorem Sm.none : Sm .none 0 10 := ⟨rfl, Nat.le_refl 0, by decide +kernel⟩
theorem Sm.str {x : Str} {n : Nat} (h : x.length ≤ n) (hc : ∀ c ∈ x.cps.toList, c < 16 ^ 8) : Sm (.str x) 0 (10 * n + 2) := ⟨rfl, Nat.le_refl 0, by
  have e := PySem.StrLaws.reprText_len x hc
  show (reprText x).length ≤ _
  omega⟩
theorem SmAll.nil : SmAll [] 0 0 0 := ⟨rfl, Nat.le_refl 0, Nat.le_refl 0, Nat.le_refl 0⟩
theorem SmAll.cons {d : PyData} {ds : List PyData} {dp dp' n N M : Nat} (h : Sm d dp N) (t : SmAll ds dp' n M) : SmAll (d :: ds) (max dp dp') (n + 1) (N + M) := by
  have h1 := h.dp
  have h2 := t.dp
  refine ⟨by simp [PyData.showableAll, h.ok, t.ok], ?_, by have := t.len; simp; omega, ?_⟩
  · simp only [PyData.depthAll]; omega
  · have := h.sz
    have := t.sz
    simp only [PyData.shownAll, List.map_cons, List.sum_cons]; omega
theorem Sm.tup {ds : List PyData} {dp n N : Nat} (h : SmAll ds dp n N) : Sm (.tuple ds) (dp + 1) (N + 2 * n + 3) := by
  refine ⟨by simpa [PyData.showable] using h.ok, by simp only [PyData.depth]; have := h.dp; omega, ?_⟩
  have e := tupleText_len_le (PyData.shownAll ds)
  have := h.sz
  have := h.len
  rw [shownAll_length] at e
  show (tupleText (PyData.shownAll ds)).length ≤ _
  omega
theorem Sm.lst {ds : List PyData} {dp n N : Nat} (h : SmAll ds dp n N) : Sm (.list ds) (dp + 1) (N + 2 * n + 3) := by
  refine ⟨by simpa [PyData.showable] using h.ok, by simp only [PyData.depth]; have := h.dp; omega, ?_⟩
  have e := listText_len_le (PyData.shownAll ds)
  have := h.sz
  have := h.len
  rw [shownAll_length] at e
  show (listText (PyData.shownAll ds)).length ≤ _
  omega
theorem SmAll.many {dp N : Nat} : ∀ {ds : List PyData}, (∀ d ∈ ds, Sm d dp N) → SmAll ds dp ds.length (N * ds.length)
  | [], _ => ⟨rfl, Nat.zero_le _, Nat.le_refl 0, Nat.zero_le _⟩
  | d :: ds, h => by
    have t := SmAll.cons (h d (by simp)) (SmAll.many (fun e he => h e (List.mem_cons_of_mem _ he)))
    rw [Nat.max_self] at t
    refine ⟨t.ok, t.dp, t.len, Nat.le_trans t.sz ?_⟩
    rw [List.length_cons, Nat.mul_succ]; omega
theorem sz_0 : (0 : Nat) ≤ sizeLine := by decide
theorem sz_1 : (1 : Nat) ≤ sizeLine := by decide
theorem sz_2 : (2 : Nat) ≤ sizeLine := by decide
theorem sz_3 : (3 : Nat) ≤ sizeLine := by decide
theorem sz_4 : (4 : Nat) ≤ sizeLine := by decide
theorem sz_5 : (5 : Nat) ≤ sizeLine := by decide
/-! ### the ends: each premise a fact that k_is finds -/
theorem HasFn.mk' {K : PySem.W.Frag} {x : Str} {st : Stmt} {f : Addr} {oc : Value} {od an : Option Addr} {kV doc pm cdv ct : Value} {osl : Array (Option Value)} (a : PySem.W.nsIn K mainGlobals x = some (some (.ref f)))
    (b : K.lookup f = some ⟨oc, od, .func (PySem.W.fnOf x x (defArgs st) (defBody st) (defScope st) .none kV doc pm an cdv ct), osl⟩) (c : PySem.W.codeIn K cdv x = true) (d : PySem.W.keepIn K (.ref f) = true) : HasFn K x st :=
  ⟨f, oc, od, an, kV, doc, pm, cdv, ct, osl, a, b, c, d⟩
theorem HasInt.mk' {K : PySem.W.Frag} {x : Str} {n m : Int} {t : Tok} (a : PySem.W.nsIn K mainGlobals x = some (some (.int m t))) (e : m = n) : HasInt K x n := ⟨t, m, a, e⟩
theorem HasTup.mk' {K : PySem.W.Frag} {x : Str} {xs : List V} {a : Addr} {od : Option Addr} {its : Array Value} {n : Nat} {sl : Array (Option Value)} (h : PySem.W.nsIn K mainGlobals x = some (some (.ref a)))
    (b : K.lookup a = some ⟨.type "tuple", od, .seq its n, sl⟩) (z : its.size ≤ sizeLine) (v : Vals xs its.toList) : HasTup K x xs := ⟨a, h, od, its, n, sl, b, z, v⟩
/-! ### what the laws' helpers promise -/
/-! the digits and the place -/
def BoxAt (H : Hp) (p dl : Addr) : Prop := ∃ (ds : List Int) (k : Int), H p = some (.lst [.ref dl, .int k]) ∧ 0 ≤ k ∧ H dl = some (.lst (ds.map V.int)) ∧ ds.length ≤ 4000 ∧ ∀ d ∈ ds, 0 ≤ d ∧ d < 1000
theorem BoxAt.at_ {H : Hp} {p dl : Addr} (h : BoxAt H p dl) : ∃ xs, H p = some (.lst xs) := let ⟨_, _, a, _⟩ := h; ⟨_, a⟩
theorem BoxAt.dg {H : Hp} {p dl : Addr} (h : BoxAt H p dl) : ∃ xs, H dl = some (.lst xs) := let ⟨_, _, _, _, c, _⟩ := h; ⟨_, c⟩
def Keep (p : Addr) (H H' : Hp) : Prop := ∀ b o, H b = some o → b ≠ p → H' b = some o
def spDraw (K : PySem.W.Frag) : Sp := fun vs H Q _ => ∃ (p dl : Addr) (m : Int), vs = [.ref p, .int m] ∧ BoxAt H p dl ∧ 0 < m ∧ ∀ r H', 0 ≤ r → r < m → BoxAt H' p dl → Keep p H H' → Q (.int r) H'
def spCell (K : PySem.W.Frag) : Sp := fun vs H Q _ => ∃ (a : Addr) (ns : List Int) (i : Int), vs = [.ref a, .int i] ∧ SqL K H a (ns.map V.int) ∧ 0 ≤ i ∧ ∀ r, Q (.int r) H
def DigAt (H0 H : Hp) (dl : Addr) (n : Nat) : Prop := ∃ ds : List Int, H dl = some (.lst (ds.map V.int)) ∧ ds.length ≤ n ∧ (∀ d ∈ ds, 0 ≤ d ∧ d < 1000) ∧ Same H0 H
theorem DigAt.mono {H0 H : Hp} {dl : Addr} {n m : Nat} (h : DigAt H0 H dl n) (l : n ≤ m) : DigAt H0 H dl m := let ⟨ds, a, b, c, d⟩ := h; ⟨ds, a, by omega, c, d⟩
theorem DigAt.add {H0 H : Hp} {dl : Addr} {n : Nat} {r : Int} {xs : List V} (h : DigAt H0 H dl n) (hx : H dl = some (.lst xs)) (nd : H0 dl = none) (h0 : 0 ≤ r) (h1 : r < 1000) : DigAt H0 (upd H dl (.lst (xs ++ [.int r]))) dl (n + 1) := by
  obtain ⟨ds, a, b, c, d⟩ := h
  rw [hx] at a
  obtain rfl := HO.lst.inj (Option.some.inj a)
  refine ⟨ds ++ [r], by rw [upd_same, List.map_append]; rfl, by simp; omega, fun z hz => ?_, fun q o e => by rw [upd_ne (ne_of_none e nd)]; exact d q o e⟩
  rcases List.mem_append.mp hz with hz | hz
  · exact c z hz
  · have : z = r := by simpa using hz
    omega
def spDigits (K : PySem.W.Frag) : Sp := fun vs H Q _ => ∃ (a : Addr) (ns : List Int) (lo hi : Nat), vs = [.ref a, .int lo, .int hi] ∧ SqL K H a (ns.map V.int) ∧ lo ≤ hi ∧ hi ≤ 64 ∧
  ∀ (p : Addr) (H' : Hp), H p = none → DigAt H H' p 4000 → Q (.ref p) H'
def spBound : Sp := fun vs H Q _ => vs = [] ∧ Q (.int (2 ^ 256)) H
theorem Keep.trans {p : Addr} {H H1 H2 : Hp} (a : Keep p H H1) (b : Keep p H1 H2) : Keep p H H2 := fun c o h ne => b c o (a c o h ne) ne
theorem Keep.refl (p : Addr) (H : Hp) : Keep p H H := fun _ _ h _ => h
def Sgn (z : Int) : Prop := z = 1 ∨ z = -1
theorem Sgn.mul {z n : Int} (h : Sgn z) : (z * n).natAbs = n.natAbs := by
  rcases h with rfl | rfl <;> omega
theorem Sgn.wide {z n : Int} (h : Sgn z) (hn : n.natAbs < 2 ^ 300) : CMulW z n := wide_mul (a := 2) (b := 300) (by rcases h with rfl | rfl <;> decide) hn (by decide) (by decide) (by decide)
def spNumber (K : PySem.W.Frag) : Sp := fun vs H Q _ => ∃ (p dl : Addr), vs = [.ref p] ∧ BoxAt H p dl ∧ ∀ (n : Int) H', n.natAbs < 2 ^ 260 → BoxAt H' p dl → Keep p H H' → Q (.int n) H'
def spSame (K : PySem.W.Frag) : Sp := fun vs H Q _ => ∃ (x y : V) (d : PyData), vs = [x, y] ∧ Dp K H x d ∧ Dp K H y d ∧ ShowOk d ∧ Q (.bl true) H
theorem Same.keep {p : Addr} {H H' : Hp} (e : Same H H') : Keep p H H' := fun b o h _ => e b o h
theorem BoxAt.same {p dl : Addr} {H H' : Hp} (h : BoxAt H p dl) (e : Same H H') : BoxAt H' p dl := by
  obtain ⟨ds, k, a, b, c, d⟩ := h
  exact ⟨ds, k, e _ _ a, b, e _ _ c, d⟩
theorem BoxAt.upd {p dl l : Addr} {H : Hp} {o : HO} (h : BoxAt H p dl) (h1 : l ≠ p) (h2 : l ≠ dl) : BoxAt (L2.upd H l o) p dl := by
  obtain ⟨ds, k, a, b, c, d⟩ := h
  exact ⟨ds, k, by rw [upd_ne (Ne.symm h1)]; exact a, b, by rw [upd_ne (Ne.symm h2)]; exact c, d⟩
theorem strOk (s : Str) (h : s.cps.toList.all (fun c => decide (c < 16 ^ 8)) = true) : ∀ c ∈ s.cps.toList, c < 16 ^ 8 := fun c hc => of_decide_eq_true (List.all_eq_true.mp h c hc)

/-! ### data without lists: what no change of a list can reach -/
mutual
inductive Dt (K : PySem.W.Frag) (H : Hp) : V → PyData → Prop
  | non : Dt K H .non .none
  | bl (b : Bool) : Dt K H (.bl b) (.bool b)
  | int (i : Int) : Dt K H (.int i) (.int i)
  | str (x : Str) : Dt K H (.str x) (.str x)
  | tup {a : Addr} {xs : List V} {ds : List PyData} : SqT K H a xs → DtAll K H xs ds → Dt K H (.ref a) (.tuple ds)
inductive DtAll (K : PySem.W.Frag) (H : Hp) : List V → List PyData → Prop
  | nil : DtAll K H [] []
  | cons {v : V} {vs : List V} {d : PyData} {ds : List PyData} : Dt K H v d → DtAll K H vs ds → DtAll K H (v :: vs) (d :: ds)
end
mutual
theorem Dt.dp {K : PySem.W.Frag} {H : Hp} : ∀ {v : V} {d : PyData}, Dt K H v d → Dp K H v d
  | _, _, .non => .non
  | _, _, .bl b => .bl b
  | _, _, .int i => .int i
  | _, _, .str x => .str x
  | _, _, .tup h a => .tup h (DtAll.dp a)
theorem DtAll.dp {K : PySem.W.Frag} {H : Hp} : ∀ {vs : List V} {ds : List PyData}, DtAll K H vs ds → DpAll K H vs ds
  | _, _, .nil => .nil
  | _, _, .cons h a => .cons (Dt.dp h) (DtAll.dp a)
end
/-- every tuple that H reads H' reads as well -/
def KeepT (K : PySem.W.Frag) (H H' : Hp) : Prop := ∀ a xs, SqT K H a xs → SqT K H' a xs
mutual
theorem Dt.keepT {K : PySem.W.Frag} {H H' : Hp} (e : KeepT K H H') : ∀ {v : V} {d : PyData}, Dt K H v d → Dt K H' v d
  | _, _, .non => .non
  | _, _, .bl b => .bl b
  | _, _, .int i => .int i
  | _, _, .str x => .str x
  | _, _, .tup h a => .tup (e _ _ h) (DtAll.keepT e a)
theorem DtAll.keepT {K : PySem.W.Frag} {H H' : Hp} (e : KeepT K H H') : ∀ {vs : List V} {ds : List PyData}, DtAll K H vs ds → DtAll K H' vs ds
  | _, _, .nil => .nil
  | _, _, .cons h a => .cons (Dt.keepT e h) (DtAll.keepT e a)
end
theorem KeepT.refl (K : PySem.W.Frag) (H : Hp) : KeepT K H H := fun _ _ h => h
theorem KeepT.trans {K : PySem.W.Frag} {H H1 H2 : Hp} (a : KeepT K H H1) (b : KeepT K H1 H2) : KeepT K H H2 := fun c xs h => b c xs (a c xs h)
theorem Same.keepT {K : PySem.W.Frag} {H H' : Hp} (e : Same H H') : KeepT K H H' := fun _ _ h => Same.tupl e h
theorem Keep.keepT {K : PySem.W.Frag} {p : Addr} {H H' : Hp} (e : Keep p H H') (hp : ∃ xs, H p = some (.lst xs)) : KeepT K H H' := fun a xs h => by
  obtain ⟨ys, hp⟩ := hp
  rcases h with (h | ⟨o, h⟩) | h
  · exact .inl (.inl (e _ _ h (ne_of h hp (by intro z; cases z))))
  · exact .inl (.inr ⟨o, e _ _ h (ne_of h hp (by intro z; cases z))⟩)
  · exact .inr h
theorem KeepT.upd {K : PySem.W.Frag} {p : Addr} {H : Hp} {o : HO} {xs : List V} (hp : H p = some (.lst xs)) : KeepT K H (upd H p o) :=
  Keep.keepT (p := p) (fun b u e hb => by rw [upd_ne hb]; exact e) ⟨xs, hp⟩
theorem Dt.mono {K : PySem.W.Frag} {H H' : Hp} {v : V} {d : PyData} (e : Same H H') (h : Dt K H v d) : Dt K H' v d := h.keepT (Same.keepT e)
theorem DtAll.mono {K : PySem.W.Frag} {H H' : Hp} {v : List V} {d : List PyData} (e : Same H H') (h : DtAll K H v d) : DtAll K H' v d := h.keepT (Same.keepT e)
theorem Dt.made {K : PySem.W.Frag} {H : Hp} {p : Addr} {xs : List V} {ds : List PyData} (hp : H p = none) (h : DtAll K H xs ds) : Dt K (L2.upd H p (.tup xs)) (.ref p) (.tuple ds) := .tup (SqT.of upd_same) (DtAll.mono (Same.new hp) h)
theorem DtAll.length {K : PySem.W.Frag} {H : Hp} {vs : List V} {ds : List PyData} (h : DtAll K H vs ds) : vs.length = ds.length := LK.DpAll.length h.dp
theorem DtAll.app {K : PySem.W.Frag} {H : Hp} : ∀ {vs ws : List V} {ds es : List PyData}, DtAll K H vs ds → DtAll K H ws es → DtAll K H (vs ++ ws) (ds ++ es)
  | _, _, _, _, .nil, t => t
  | _, _, _, _, .cons h a, t => .cons h (DtAll.app a t)
theorem DtAll.get {K : PySem.W.Frag} {H : Hp} : ∀ {vs : List V} {ds : List PyData} {i : Nat} {d : PyData}, DtAll K H vs ds → ds[i]? = some d → ∃ v, vs[i]? = some v ∧ Dt K H v d
  | _, _, 0, _, .cons h _, e => ⟨_, rfl, Option.some.inj e ▸ h⟩
  | _, _, i + 1, _, .cons _ a, e => DtAll.get (i := i) a e
theorem DtAll.getV {K : PySem.W.Frag} {H : Hp} : ∀ {vs : List V} {ds : List PyData} {i : Nat} {v : V}, DtAll K H vs ds → vs[i]? = some v → ∃ d, ds[i]? = some d ∧ Dt K H v d
  | _, _, 0, _, .cons h _, e => ⟨_, rfl, Option.some.inj e ▸ h⟩
  | _, _, i + 1, _, .cons _ a, e => DtAll.getV (i := i) a e
theorem Dt.tuple_inv {K : PySem.W.Frag} {H : Hp} {v : V} {ds : List PyData} (h : Dt K H v (.tuple ds)) : ∃ a xs, v = .ref a ∧ SqT K H a xs ∧ DtAll K H xs ds := by
  cases h with
  | tup h a => exact ⟨_, _, rfl, h, a⟩
theorem DtAll.cons_inv {K : PySem.W.Frag} {H : Hp} {vs : List V} {d : PyData} {ds : List PyData} (h : DtAll K H vs (d :: ds)) : ∃ v ws, vs = v :: ws ∧ Dt K H v d ∧ DtAll K H ws ds := by
  cases h with
  | cons h a => exact ⟨_, _, rfl, h, a⟩
theorem DtAll.nil_inv {K : PySem.W.Frag} {H : Hp} {vs : List V} (h : DtAll K H vs []) : vs = [] := by cases h; rfl
theorem Dt.int_inv {K : PySem.W.Frag} {H : Hp} {v : V} {i : Int} (h : Dt K H v (.int i)) : v = .int i := by cases h; rfl
theorem Dt.str_inv {K : PySem.W.Frag} {H : Hp} {v : V} {x : Str} (h : Dt K H v (.str x)) : v = .str x := by cases h; rfl
theorem Dt.bool_inv {K : PySem.W.Frag} {H : Hp} {v : V} {b : Bool} (h : Dt K H v (.bool b)) : v = .bl b := by cases h; rfl
theorem dtStrs {K : PySem.W.Frag} {H : Hp} : ∀ xs : List Str, DtAll K H (xs.map V.str) (xs.map PyData.str)
  | [] => .nil
  | x :: xs => .cons (.str x) (dtStrs xs)
end LK

set_option Elab.async false
set_option linter.all false
set_option maxRecDepth 100000
set_option maxHeartbeats 4000000
/-! enumerate of a tuple. -/
namespace LK
open PySem PySem.Spec PyProof.Rows L2
open AutoSeq1 (wpAny_loadPart')
open Sem (wp)
def enumObj (it : Addr) : Obj := { cls := .type "enumerate", data := .fields #[.none, .bool false, .ref it, rawInt 0, .none, .none] }
def tupIt (t : Addr) : Obj := { cls := .type "tuple_iterator", data := .fields #[.ref t, .int 0 0] }
theorem meets_enumT (t : Addr) (items : Array Value) (n : Nat) (dct : Option Addr) (sl : Array (Option Value)) :
    Meets (Builtin.«enumerate.__new__» ⟨[.type "enumerate", .ref t], []⟩) (fun _ R s => s.heap.get? t = some { cls := .type "tuple", dict := dct, data := .seq items n, slots := sl } ∧
      R (.ok (.ret (.ref (s.heap.push (tupIt t)).objs.size))) { s with heap := (s.heap.push (tupIt t)).push (enumObj s.heap.objs.size) }) :=
  .of_wp fun prog w A R s h => by
    obtain ⟨hp, g, d, tk, os⟩ := s
    obtain ⟨hl, h⟩ := h
    have hsub := sub_enumerate
    have hT : Heap.IsTuple (Shared.heap ⟨hp, g, d, tk, os⟩) t items := ⟨_, hl, rfl, n, rfl⟩
    wp_walk using wpAny_loadPart' hl
    refine wpAny_stack_any fun st => wpAny_pure ?_
    split
    · rename_i c _ _ _ _ _
      cases (c == Value.type "enumerate") <;> (wp_walk using wpAny_loadPart' hl, wpAny_pyIter_tuple hT; exact ⟨_, rfl, h⟩)
    · wp_walk using wpAny_loadPart' hl, wpAny_pyIter_tuple hT
      exact ⟨_, rfl, h⟩
section
variable {prog : Program} {w : World} {A : Around} {E : Value → Shared → Prop} {s : Shared}
theorem call_enumT {t : Addr} {items : Array Value} {Q : Value → Shared → Prop} (hT : s.heap.IsTuple t items)
    (h : ∀ h', IsEnum h' (s.heap.objs.size + 1) s.heap.objs.size 0 .none → h'.IsTupleIter s.heap.objs.size t 0 → (∀ b o, s.heap.get? b = some o → h'.get? b = some o) → Q (.ref (s.heap.objs.size + 1)) { s with heap := h' }) :
    wpAny (model prog w) A (call (.type "enumerate") [.ref t]) Q E s := by
  obtain ⟨⟨c, dct, dt, sl⟩, hl, hc, n, hd⟩ := hT
  obtain rfl : c = .type "tuple" := hc
  obtain rfl : dt = .seq items n := hd
  refine callType_new F.called_enumerate (by decide) (F.typeCall_enumerate_1 _) (F.newCall_enumerate_1 _) (fun obj => F.args_object_init_2 obj _) F.entry_enumerate_new (meets_enumT t items n dct sl) ⟨hl, ?_⟩
  have hz : (s.heap.push (tupIt t)).objs.size = s.heap.objs.size + 1 := Heap.size_push ..
  have he : IsEnum ((s.heap.push (tupIt t)).push (enumObj s.heap.objs.size)) (s.heap.objs.size + 1) s.heap.objs.size 0 .none := by
    have q := Heap.get?_push_size (s.heap.push (tupIt t)) (o := enumObj s.heap.objs.size) rfl
    rw [hz] at q
    exact q
  show _ ∧ _
  rw [hz]
  exact ⟨⟨_, he, rfl⟩, h _ he (Heap.get?_push_of_some _ (Heap.get?_push_size _ rfl) |> fun q => ⟨_, q, rfl, rfl⟩) fun b o x => Heap.get?_push_of_some _ (Heap.get?_push_of_some _ x)⟩
end
/-- the tuple at a, each item in a new pair with its place -/
def IteT (K : PySem.W.Frag) (a : Addr) : It where
  go := fun i H => ∃ (xs : List V) (x : V), SqT K H a xs ∧ xs[i]? = some x
  yld := fun i H v H' => ∃ T x, v = .ref T ∧ H T = none ∧ H' = upd H T (.tup [.int (i : Nat), x]) ∧ ∀ xs, SqT K H a xs → xs[i]? = some x
  stop := fun i H => ∃ xs : List V, SqT K H a xs ∧ xs.length = i
theorem turn_enumT {P : Program} {w : World} {K : PySem.W.Frag} {elts : List Expr} {kk : Nat} {tpos : Pos} (a e it : Addr) :
    Turn P w K (.Tuple elts kk tpos) (IteT K a) [e, it] e (fun i h => (∃ old, IsEnum h e it ((i : Nat) : Int) old) ∧ h.IsTupleIter it a i ∧ e ≠ it) where
  mem := List.mem_cons_self
  obj := fun i h st b hb => by
    obtain ⟨⟨old, he⟩, ⟨o, ho, hc, hd⟩, _⟩ := st
    have hb : b = e ∨ b = it := by simpa using hb
    rcases hb with rfl | rfl
    · exact ⟨_, he, fun v q => nomatch q⟩
    · exact ⟨o, ho, fun v q => by rw [hd] at q; cases q⟩
  keep := fun i h h' st k => by
    obtain ⟨⟨old, he⟩, hi, hne⟩ := st
    exact ⟨⟨old, k e (by simp) _ he⟩, hi.at fun o q => k it (by simp) o q, hne⟩
  item := by
    intro X hP hw hK hc i pins s σ H E I hf st hg
    subst hP hw hK
    obtain ⟨⟨old, he⟩, hit, hne⟩ := st
    obtain ⟨xs, x, hq, hx⟩ := hg
    obtain ⟨its, rv, p, hz⟩ := I.tuple hq
    obtain ⟨u, hu, ru⟩ := rv.get hx
    have hel : e < s.heap.objs.size := Heap.lt_size he
    have hil : it < s.heap.objs.size := by obtain ⟨_, q, _⟩ := hit; exact Heap.lt_size q
    have hat : a ≠ it := by
      intro z
      subst z
      obtain ⟨o, q1, c1, _⟩ := hit
      obtain ⟨o', q2, c2, _⟩ := p
      rw [q1] at q2; cases q2
      exact absurd (Value.type.inj (c1.symm.trans c2)) (by decide)
    have D := Draws.tuple (prog := X.prog) (w := X.w) (A := X.A.in1) (I.ok.hd hc) it a hat its.toArray
    have Dst : (fun i (h : Heap) => h.IsTupleIter it a i ∧ h.IsTuple a its.toArray) i s.heap := ⟨hit, p⟩
    have eat : e ≠ a := by
      intro z
      subst z
      obtain ⟨o', q2, c2, _⟩ := p
      rw [he] at q2; cases q2
      exact absurd (Value.type.inj c2) (by decide)
    have hi : i < its.toArray.size := by
      have := (List.getElem?_eq_some_iff.mp hu).1
      simpa using this
    refine wpAny_pyNext_enum_itemD D he Dst hi hne (by simp [hne, eat]) fun v h' tk hv ho hst hT hsz hk => ?_
    obtain rfl : v = u := by
      have hv : its.toArray[i]? = some v := hv
      rw [show its.toArray[i]? = some u by simpa using hu] at hv
      exact (Option.some.inj hv).symm
    refine ⟨_, rfl, wpAny_letOwnedTupleGo_enum (s := { s with heap := h', toks := tk + 1 }) ho fun h'' he' sb => ?_⟩
    have hT2 := (sb.2 _ (Nat.ne_of_gt hel)).trans hT
    have new : ObjOk X.prog X.w (upd H s.heap.objs.size (.tup [.int (i : Nat), x])) h'' s.heap.objs.size (.tup [.int (i : Nat), x]) :=
      ⟨by show 2 ≤ sizeLine; decide, [.int i tk, v], .cons ⟨_, rfl⟩ (.cons ru .nil), ⟨_, hT2, rfl, _, rfl⟩⟩
    have I1 : Inv X pins σ (upd H s.heap.objs.size (.tup [.int (i : Nat), x])) { s with heap := h'', toks := tk + 1 } :=
      I.turnedNew (ch := [e, it]) (fun b ob hb q => (sb.2 b (fun z => hb (by simp [z]))).trans (hk b ob (fun z => hb (by simp [z])) (fun z => hb (by simp [z])) q)) hf (Nat.le_refl _) new
    refine ⟨.ref s.heap.objs.size, _, I1, rfl, ⟨_, x, rfl, I.hok.fresh (Nat.le_refl _), rfl, fun ys hy => by rw [I.tuple_inj hy hq]; exact hx⟩, ⟨⟨v, ?_⟩, hst.1.at fun o q => (sb.2 it (Ne.symm hne)).trans q, hne⟩, fun b hb => ?_⟩
    · rw [show ((i + 1 : Nat) : Int) = (i : Int) + 1 by omega]
      exact he'
    · have hb' : b < s.heap.objs.size := by
        have z : b = e ∨ b = it := by simpa using hb
        rcases z with rfl | rfl <;> assumption
      rw [upd_ne (Nat.ne_of_lt hb')]
      exact (hf b hb).1
  done := by
    intro X hP hw hK hc i pins s σ H E I hf st hg
    subst hP hw hK
    obtain ⟨⟨old, he⟩, hit, hne⟩ := st
    obtain ⟨xs, hq, hx⟩ := hg
    obtain ⟨its, rv, p, hz⟩ := I.tuple hq
    obtain ⟨f0, f1, f2, f3, f4, f5⟩ := hf it (by simp)
    have hl := rv.length
    have hat : a ≠ it := by
      intro z
      subst z
      obtain ⟨o, q1, c1, _⟩ := hit
      obtain ⟨o', q2, c2, _⟩ := p
      rw [q1] at q2; cases q2
      exact absurd (Value.type.inj (c1.symm.trans c2)) (by decide)
    have D := Draws.tuple (prog := X.prog) (w := X.w) (A := X.A.in1) (I.ok.hd hc) it a hat its.toArray
    have hn : i = its.toArray.size := by simp; omega
    subst hn
    exact wpAny_pyNext_enum_endD D he ⟨hit, p⟩ fun h' eb => ⟨rfl, I.turned (t' := s.toks) (fun b o hb q => eb b o hb q) f0 f1 f3 f4 f5⟩
  self := fun A i s Q E st h => let ⟨⟨_, he⟩, _⟩ := st; wpAny_pyIter_enum he h
def iEnumT (K : PySem.W.Frag) (ta : TA) : TI := fun σ H R => ta σ H fun vs H1 => ∃ a xs, vs = [.ref a] ∧ SqT K H1 a xs ∧ R (IteT K a) H1
theorem pi_enumT {X : Cx} {e : Expr} {ta : TA} {p pos tpos : Pos} {elts : List Expr} {kk : Nat} (hg : Gl X "enumerate") (hm : X.mg "enumerate" = none) (ha : PA X [e] ta) (hs : starEach [e] X.env = [(false, eval e X.env)] := by rfl) :
    PI X (.Tuple elts kk tpos) (.Call (.Name "enumerate" p) [e] [] pos) (iEnumT X.K ta) := by
  refine ⟨fun pins s σ H R I h => ?_⟩
  refine Call_ (ld_blt I hg hm boot_enumerate (PyProof.Rows.callWith_type1 (thn (ha.run pos pins s σ H _ I h) fun us s1 ⟨vs, H1, I1, r1, q1⟩ => ?_) hs rfl))
  obtain ⟨a, xs, rfl, hq, q⟩ := q1
  cases r1 with
  | cons r rr =>
    cases rr
    cases r
    obtain ⟨its, rv, p', hz⟩ := I1.tuple hq
    refine call_enumT (show s1.heap.IsTuple a its.toArray from p') fun h' he hit hk => wpAny_pyIter_enum he ?_
    refine ⟨s1.heap.objs.size + 1, [s1.heap.objs.size + 1, s1.heap.objs.size], _, _, H1, rfl, I1.kept (t' := s1.toks) hk, turn_enumT a (s1.heap.objs.size + 1) s1.heap.objs.size, ⟨⟨.none, he⟩, hit, Nat.succ_ne_self _⟩, fun b hb => ?_, q⟩
    have hle : s1.heap.objs.size ≤ b := by
      have z : b = s1.heap.objs.size + 1 ∨ b = s1.heap.objs.size := by simpa using hb
      rcases z with rfl | rfl <;> omega
    exact I1.fpOk hle (I1.hok.fresh hle)
theorem walk_enumT {K : PySem.W.Frag} {a : Addr} {xs : List V} : Walk (IteT K a) xs.length (fun H => SqT K H a xs) (YPair (fun i => some (.int (i : Nat))) (fun i => xs[i]?)) := by
  refine ⟨fun i _ hi q => ⟨xs, xs[i], q, by simp [hi]⟩, fun _ q => ⟨xs, q, rfl⟩, fun i H v H' _ q y => ?_⟩
  obtain ⟨T, x, h1, h2, h3, h4⟩ := y
  exact ⟨T, .int (i : Nat), x, h1, h2, h3, rfl, h4 xs q⟩

/-! ### comprehensions whose items are data -/
theorem tYes_of {σ : L2.St} {H : Hp} {P R : Hp → Prop} (h : P H) : tYes σ H fun b H3 => if b = true then P H3 else R H3 := by
  show (if true = true then P H else R H)
  rw [if_pos rfl]
  exact h
/-- each turn gives data and leaves what stood; no test -/
theorem lc_dt {K : PySem.W.Frag} {J : It} {n : Nat} {G : Hp → Prop} {Y : Nat → Hp → V → Hp → Prop} (w : Walk J n G Y) {g : TG} {te : TE} {vs : List Nat} {σ : L2.St} {H : Hp} {D : Addr} {Qd : Hp → Prop} (hD : H D = none) (ds : List PyData) (hn : ds.length = n) (hz : n < sizeLine)
    (hG : ∀ H', Same H H' → G H')
    (hs : ∀ i x H1 H2 d (Nx : V → Hp → Prop), i < n → ds[i]? = some d → Same H H1 → (∃ acc, H1 D = some (.lst acc)) → Y i H1 x H2 → (∀ y H5, Same H1 H5 → Dt K H5 y d → Nx y H5) →
      g x (wipe σ vs) H2 fun σ2 H3 => wipe σ2 vs = wipe σ vs ∧ te σ2 H3 Nx)
    (hd : ∀ H' acc, Same H H' → H' D = some (.lst acc) → DtAll K H' acc ds → Qd H')
    (mono : ∀ x σ H Q Q', (∀ σ' H', Q σ' H' → Q' σ' H') → g x σ H Q → g x σ H Q') :
    ∃ W : Nat → Nat → Hp → Prop, (∃ m, W 0 m (upd H D (.lst []))) ∧ ∀ i m H, W i m H →
      (J.stop i H ∧ Qd H) ∨ (J.go i H ∧ ∃ Nx : Hp → Prop, (∀ H', Nx H' → ∃ m', m' < m ∧ W (i + 1) m' H') ∧ ∀ x H', J.yld i H x H' → g x (wipe σ vs) H' fun σ2 H2 => wipe σ2 vs = wipe σ vs ∧ tYes σ2 H2 fun b H3 =>
        if b = true then te σ2 H3 fun y H4 => ∃ acc, H4 D = some (.lst acc) ∧ acc.length < sizeLine ∧ Nx (upd H4 D (.lst (acc ++ [y]))) else Nx H3) := by
  refine lc_it w (fun i H' => ∃ acc, H' D = some (.lst acc) ∧ DtAll K H' acc (ds.take i) ∧ Same H H') ⟨[], upd_same, .nil, Same.new hD⟩ (fun i H' _ h => let ⟨_, _, _, s⟩ := h; hG H' s) (fun i x H1 H2 hi h y => ?_) fun H' h => ?_
  · obtain ⟨acc, a1, a2, a3⟩ := h
    have hi' : i < ds.length := by omega
    have hg := hs i x H1 H2 ds[i] (fun y H4 => ∃ acc, H4 D = some (.lst acc) ∧ acc.length < sizeLine ∧ ∃ acc', upd H4 D (.lst (acc ++ [y])) D = some (.lst acc') ∧ DtAll K (upd H4 D (.lst (acc ++ [y]))) acc' (ds.take (i + 1)) ∧ Same H (upd H4 D (.lst (acc ++ [y]))))
      hi (List.getElem?_eq_getElem hi') a3 ⟨acc, a1⟩ y fun y H5 s hy => ?_
    · exact mono _ _ _ _ _ (fun σ2 H3 q => ⟨q.1, tYes_of q.2⟩) hg
    · have b1 := s _ _ a1
      have kt : KeepT K H5 (upd H5 D (.lst (acc ++ [y]))) := KeepT.upd b1
      refine ⟨acc, b1, ?_, _, upd_same, ?_, fun b o e => ?_⟩
      · rw [a2.length, List.length_take]; omega
      · rw [List.take_succ, List.getElem?_eq_getElem hi']
        exact DtAll.app (DtAll.keepT (KeepT.trans (Same.keepT s) kt) a2) (.cons (Dt.keepT kt hy) .nil)
      · rw [upd_ne (ne_of_none e hD)]
        exact s _ _ (a3 _ _ e)
  · obtain ⟨acc, a1, a2, a3⟩ := h
    rw [← hn, List.take_length] at a2
    exact hd H' acc a3 a1 a2
theorem mono_name {i : Nat} : ∀ x (σ : L2.St) (H : Hp) (Q Q' : L2.St → Hp → Prop), (∀ σ' H', Q σ' H' → Q' σ' H') → gName i x σ H Q → gName i x σ H Q' := fun _ _ _ _ _ h q => h _ _ q
theorem mono_tup2 {K : PySem.W.Frag} {i j n : Nat} : ∀ x (σ : L2.St) (H : Hp) (Q Q' : L2.St → Hp → Prop), (∀ σ' H', Q σ' H' → Q' σ' H') → gTup K n (gCons (gName i) (gCons (gName j) gNil)) x σ H Q → gTup K n (gCons (gName i) (gCons (gName j) gNil)) x σ H Q' := by
  rintro x σ H Q Q' h ⟨a, xs, e1, e2, e3, v, r, e4, v', r', e5, e6, q⟩
  exact ⟨a, xs, e1, e2, e3, v, r, e4, v', r', e5, e6, h _ _ q⟩
end LK

set_option Elab.async false
set_option linter.all false
set_option maxRecDepth 100000
set_option maxHeartbeats 4000000
set_option exponentiation.threshold 3000
/-! More rules: text * int, two rules at one place, what == says of data. -/
namespace LK
open PySem PySem.Spec PyProof.Rows L2
theorem at_of' {α : Type} {xs : List α} {z : Int} {j : Nat} {v : α} (e : z = (j : Int)) (h : xs[j]? = some v) : atI xs z = some v := by
  rw [e]
  exact atI_nat h
/-- z repeated k times, by its codes -/
def repC (z : List Nat) (k : Int) : List Nat := (List.replicate k.toNat z).flatten
def repS (z : Str) (k : Int) : Str := ⟨(repC z.cps.toList k).toArray⟩
theorem repC_length (z : List Nat) (k : Int) : (repC z k).length = k.toNat * z.length := by simp [repC]
theorem foldl_arr (z : Array Nat) : ∀ (n : Nat) (acc : Array Nat), (List.replicate n z).foldl (· ++ ·) acc = acc ++ (List.replicate n z.toList).flatten.toArray
  | 0, acc => by simp
  | n + 1, acc => by
    rw [List.replicate_succ, List.foldl_cons, foldl_arr z n, List.replicate_succ, List.flatten_cons]
    apply Array.ext'
    simp
def rRepS : R2 := fun x y H Q => ∃ (z : Str) (k : Int), x = .str z ∧ y = .int k ∧ -1000000000000 ≤ k ∧ k < 1000000000000 ∧ z.length * k.toNat ≤ 1000000 ∧ Q (.str (repS z k)) H
theorem repS_arr (z : Str) (k : Int) : (⟨(List.replicate k.toNat z.cps).foldl (· ++ ·) #[]⟩ : Str) = repS z k := by
  rw [foldl_arr]
  simp [repS, repC]
theorem op_rep_str {X : Cx} : OpR X (binaryOp .Mult) rRepS := by
  intro pins s σ H x y v u Q I rx ry h
  obtain ⟨z, k, rfl, rfl, h1, h2, h3, q⟩ := h
  obtain ⟨t, rfl⟩ := rx
  obtain ⟨t', rfl⟩ := ry
  have szl : (1000000 : Nat) ≤ sizeLine := by decide
  have e1 : ¬ k < 1 → k = (k.toNat : Int) := fun h => by omega
  refine PySem.P.mul_str ?_ (fun hk hz => ?_) (fun hk hz => ?_) ?_
  · rw [decide_eq_false (by omega), decide_eq_false (by omega)]; rfl
  · have e0 : z.length ≠ 0 := fun e => by rw [e] at hz; simp at hz
    have hd : (9223372036854775807 : Int) / k ≥ 1000000 := by
      apply Int.le_ediv_of_mul_le (by omega)
      have hlen : k.toNat ≤ 1000000 := Nat.le_trans (Nat.le_mul_of_pos_left _ (by omega)) h3
      omega
    have hl : z.length ≤ 1000000 := Nat.le_trans (Nat.le_mul_of_pos_right _ (by omega)) h3
    show ¬ ((z.length : Int) > 9223372036854775807 / k)
    omega
  · unfold Builtin.Str.tooLong
    simp
    omega
  · split
    · rename_i hk
      have e : repS z k = Str.empty := by
        have : k.toNat = 0 := by omega
        simp [repS, repC, this]; rfl
      refine ⟨by decide, .str _, H, I.tok _, ⟨_, rfl⟩, ?_⟩
      rw [← e]; exact q
    · rename_i hk
      split
      · rename_i hz
        have e : repS z k = z := by
          rcases Bool.or_eq_true_iff.mp hz with h | h
          · have : k = 1 := by simpa using h
            subst this
            simp [repS, repC]
          · have : z.cps.toList = [] := by
              have : z.cps.size = 0 := by simpa [Str.length] using h
              exact List.eq_nil_of_length_eq_zero (by simpa using this)
            have e2 : (List.replicate k.toNat ([] : List Nat)).flatten = [] := by simp
            unfold repS repC
            rw [this, e2]
            cases z with
            | mk c =>
              have : c = #[] := Array.toList_inj.mp (by simpa using this)
              subst this; rfl
        refine ⟨.str _, H, I, ⟨t, rfl⟩, ?_⟩
        rw [← e]; exact q
      · rw [repS_arr]
        refine ⟨?_, .str _, H, I.tok _, ⟨_, rfl⟩, q⟩
        show (repC z.cps.toList k).toArray.size ≤ sizeLine
        rw [List.size_toArray, repC_length]
        have : z.cps.toList.length = z.length := by simp [Str.length]
        rw [this, Nat.mul_comm]; omega
/-! ### the objects at the beginning -/
def clsNames : List Str := ["Exception", "ArithmeticError", "ZeroDivisionError", "OverflowError", "LookupError", "IndexError", "KeyError", "NameError", "AttributeError", "TypeError", "ValueError", "StopIteration", "RuntimeError", "RecursionError", "MemoryError", "HostError"]
def clsBases : List Int := [-1, 1, 2, 2, 1, 5, 5, 1, 1, 1, 1, 1, 1, 13, 1, 1]
def builtNames : List Str := ["print", "len", "range", "repr", "str", "int", "list", "tuple", "dict", "iter", "next", "isinstance", "abs"]
def clsVar (i : Nat) (n : Str) : PyData := .tuple [.str n, .tuple [.str "ref", .int ((i : Int) + 1)]]
def nameVar (k n : Str) : PyData := .tuple [.str n, .tuple [.str k, .str n]]
def clsObj (n : Str) (b : Int) : PyData := .tuple [.str "class", .str n, .int b, .tuple []]
def clsVars : List PyData := clsNames.mapIdx clsVar
def startVars (hs : List Str) : List PyData := clsVars ++ builtNames.map (nameVar "built") ++ hs.map (nameVar "host")
def startD (hs : List Str) : List PyData := .tuple [.str "scope", .tuple (startVars hs), .tuple [], .tuple [], .int (-1), .bool false] :: List.zipWith clsObj clsNames clsBases
/-- a list at p, of the data ds -/
def ListAt (K : PySem.W.Frag) (H : Hp) (p : Addr) (ds : List PyData) : Prop := ∃ xs, H p = some (.lst xs) ∧ DtAll K H xs ds
def spStart (K : PySem.W.Frag) : Sp := fun vs H Q _ => ∃ (t : Addr) (hs : List Str), vs = [.ref t] ∧ SqT K H t (hs.map V.str) ∧ hs.length ≤ 1000 ∧
  ∀ (p : Addr) (H' : Hp), H p = none → Same H H' → ListAt K H' p (startD hs) → Q (.ref p) H'
theorem at0 {α : Type} {x : α} {ws : List α} : atI (x :: ws) 0 = some x := at_of' (j := 0) rfl rfl
theorem at1 {α : Type} {x y : α} {ws : List α} : atI (x :: y :: ws) 1 = some y := at_of' (j := 1) rfl rfl
theorem at2 {α : Type} {x y z : α} {ws : List α} : atI (x :: y :: z :: ws) 2 = some z := at_of' (j := 2) rfl rfl
/-- a written pair, triple as it is read -/
theorem Dt.head {K : PySem.W.Frag} {H : Hp} {v : V} {z : Str} {rest : List PyData} (h : Dt K H v (.tuple (.str z :: rest))) : ∃ a ws, v = .ref a ∧ SqT K H a (.str z :: ws) ∧ DtAll K H ws rest := by
  obtain ⟨q, xs, rfl, hs, ha⟩ := h.tuple_inv
  obtain ⟨x, ws, rfl, h1, hw⟩ := ha.cons_inv
  cases h1.str_inv
  exact ⟨q, ws, rfl, hs, hw⟩
theorem Dt.pair {K : PySem.W.Frag} {H : Hp} {v : V} {z : Str} {d : PyData} (h : Dt K H v (.tuple [.str z, d])) : ∃ a x, v = .ref a ∧ SqT K H a [.str z, x] ∧ Dt K H x d := by
  obtain ⟨a, ws, rfl, hs, hw⟩ := h.head
  obtain ⟨x, ws', rfl, h1, hn⟩ := hw.cons_inv
  cases hn.nil_inv
  exact ⟨a, x, rfl, hs, h1⟩
theorem Dt.triple {K : PySem.W.Frag} {H : Hp} {v : V} {z : Str} {d e : PyData} (h : Dt K H v (.tuple [.str z, d, e])) : ∃ a x y, v = .ref a ∧ SqT K H a [.str z, x, y] ∧ Dt K H x d ∧ Dt K H y e := by
  obtain ⟨a, ws, rfl, hs, hw⟩ := h.head
  obtain ⟨x, ws', rfl, h1, hn⟩ := hw.cons_inv
  obtain ⟨y, ws'', rfl, h2, hn2⟩ := hn.cons_inv
  cases hn2.nil_inv
  exact ⟨a, x, y, rfl, hs, h1, h2⟩
theorem listAt_mono {K : PySem.W.Frag} {H H' : Hp} {p : Addr} {ds : List PyData} (h : ListAt K H p ds) (e : Same H H') : ListAt K H' p ds := by
  obtain ⟨xs, hx, ax⟩ := h
  exact ⟨xs, e _ _ hx, DtAll.mono e ax⟩
theorem eqv_nil (ds : List PyData) : PyData.eqv (.tuple ds) (.tuple []) = ds.isEmpty := by
  cases ds <;> simp [PyData.eqv, PyData.eqvAll]
theorem listAt_upd {K : PySem.W.Frag} {H : Hp} {l l' : Addr} {ds : List PyData} {xs : List V} {o : HO} (h : ListAt K H l ds) (ne : l ≠ l') (hl : H l' = some (.lst xs)) : ListAt K (upd H l' o) l ds := by
  obtain ⟨ys, hy, ay⟩ := h
  exact ⟨ys, by rw [upd_ne ne]; exact hy, DtAll.keepT (KeepT.upd hl) ay⟩
theorem listAt_app {K : PySem.W.Frag} {H : Hp} {l : Addr} {ds : List PyData} {xs : List V} {v : V} {d : PyData} (h : ListAt K H l ds) (hl : H l = some (.lst xs)) (hd : Dt K H v d) : ListAt K (upd H l (.lst (xs ++ [v]))) l (ds ++ [d]) := by
  obtain ⟨ys, hy, ay⟩ := h
  rw [hl] at hy
  obtain rfl := HO.lst.inj (Option.some.inj hy)
  exact ⟨_, upd_same, DtAll.app (DtAll.keepT (KeepT.upd hl) ay) (.cons (Dt.keepT (KeepT.upd hl) hd) .nil)⟩
theorem listAt_keep {K : PySem.W.Frag} {H H' : Hp} {l p : Addr} {ds : List PyData} (h : ListAt K H l ds) (e : Keep p H H') (ne : l ≠ p) (hp : ∃ xs, H p = some (.lst xs)) : ListAt K H' l ds := by
  obtain ⟨ys, hy, ay⟩ := h
  exact ⟨ys, e _ _ hy ne, DtAll.keepT (Keep.keepT e hp) ay⟩
theorem listAt_made {K : PySem.W.Frag} {H : Hp} {l : Addr} {xs : List V} {ds : List PyData} (hl : H l = none) (h : DtAll K H xs ds) : ListAt K (upd H l (.lst xs)) l ds := ⟨xs, upd_same, DtAll.mono (Same.new hl) h⟩
/-! how long the objects at the beginning are, shown -/
def shortS (n : Str) : Bool := decide (n.length ≤ 40) && n.cps.toList.all (fun c => decide (c < 16 ^ 8))
theorem Sm.short {n : Str} (h : shortS n = true) : Sm (.str n) 0 500 := by
  obtain ⟨h1, h2⟩ := Bool.and_eq_true_iff.mp h
  exact (Sm.str (of_decide_eq_true h1) (strOk n h2)).mono (by decide) (by decide)
theorem cls_short : ∀ n ∈ clsNames, shortS n = true := by decide +kernel
theorem built_short : ∀ n ∈ builtNames, shortS n = true := by decide +kernel
theorem Sm.nm {k n : Str} (hk : shortS k = true) (hn : shortS n = true) : Sm (nameVar k n) 3 4000 :=
  (Sm.tup (.cons (Sm.short hn) (.cons (Sm.tup (.cons (Sm.short hk) (.cons (Sm.short hn) .nil))) .nil))).mono (by decide) (by decide)
theorem Sm.cv {i : Nat} {n : Str} (hi : i < 1000) (hn : shortS n = true) : Sm (clsVar i n) 3 4000 :=
  (Sm.tup (.cons (Sm.short hn) (.cons (Sm.tup (.cons (Sm.short (n := "ref") (by decide +kernel)) (.cons (Sm.int (Nat.lt_of_lt_of_le (show ((i : Int) + 1).natAbs < 2 ^ 20 by omega) (Nat.pow_le_pow_right (by decide) (by decide)))) .nil))) .nil))).mono (by decide) (by decide)
theorem Sm.co {b : Int} {n : Str} (hb : b.natAbs < 1000) (hn : shortS n = true) : Sm (clsObj n b) 3 4000 :=
  (Sm.tup (.cons (Sm.short (n := "class") (by decide +kernel)) (.cons (Sm.short hn) (.cons (Sm.int (Nat.lt_of_lt_of_le (show b.natAbs < 2 ^ 20 by omega) (Nat.pow_le_pow_right (by decide) (by decide)))) (.cons (Sm.tup .nil) .nil))))).mono (by decide) (by decide)
theorem SmAll.mem {ds : List PyData} {dp n N m M : Nat} (h : SmAll ds dp n N) (h1 : n ≤ m) (h2 : N ≤ M) : SmAll ds dp m M := ⟨h.ok, h.dp, Nat.le_trans h.len h1, Nat.le_trans h.sz h2⟩
theorem sm_vars {hs : List Str} {L : Nat} (h : ∀ n ∈ hs, shortS n = true) (hl : hs.length ≤ L) : SmAll (startVars hs) 3 (29 + L) (4000 * (29 + L)) := by
  have h1 : ∀ d ∈ startVars hs, Sm d 3 4000 := fun d hd => by
    rcases List.mem_append.mp hd with hd | hd
    · rcases List.mem_append.mp hd with hd | hd
      · obtain ⟨i, hi, rfl⟩ := List.mem_mapIdx.mp hd
        exact Sm.cv (Nat.lt_trans hi (by decide)) (cls_short _ (List.getElem_mem hi))
      · obtain ⟨n, hn, rfl⟩ := List.mem_map.mp hd
        exact Sm.nm (by decide +kernel) (built_short n hn)
    · obtain ⟨n, hn, rfl⟩ := List.mem_map.mp hd
      exact Sm.nm (by decide +kernel) (h n hn)
  have hlen : (startVars hs).length = 29 + hs.length := by
    simp only [startVars, List.length_append, List.length_map]
    have : clsVars.length = 16 := by decide
    have : builtNames.length = 13 := by decide
    omega
  exact (SmAll.many h1).mem (by omega) (by omega)
theorem sm_start {hs : List Str} {L : Nat} (h : ∀ n ∈ hs, shortS n = true) (hl : hs.length ≤ L) : ∀ d ∈ startD hs, Sm d 5 (5000 * (30 + L)) := fun d hd => by
  rcases List.mem_cons.mp hd with rfl | hd
  · exact (Sm.tup (.cons (Sm.short (n := "scope") (by decide +kernel)) (.cons (Sm.tup (sm_vars h hl)) (.cons (Sm.tup .nil) (.cons (Sm.tup .nil) (.cons (Sm.int (by decide)) (.cons (Sm.bool false) .nil))))))).mono (by decide) (by omega)
  · have : ∃ n b, d = clsObj n b ∧ n ∈ clsNames ∧ b.natAbs < 1000 := by
      have key : ∀ q ∈ List.zip clsNames clsBases, q.1 ∈ clsNames ∧ q.2.natAbs < 1000 := by decide +kernel
      rw [← List.map_uncurry_zip_eq_zipWith] at hd
      obtain ⟨q, hq, rfl⟩ := List.mem_map.mp hd
      exact ⟨q.1, q.2, rfl, key q hq⟩
    obtain ⟨n, b, rfl, hn, hb⟩ := this
    exact (Sm.co hb (cls_short n hn)).mono (by decide) (by omega)
theorem start_cls {hs : List Str} {k : Nat} (h1 : 1 ≤ k) (h2 : k ≤ 16) : ∃ rest, (startD hs)[k]? = some (.tuple (.str "class" :: rest)) := by
  obtain ⟨j, rfl⟩ : ∃ j, k = j + 1 := ⟨k - 1, by omega⟩
  have l1 : clsNames.length = 16 := by decide
  have l2 : clsBases.length = 16 := by decide
  refine ⟨[.str clsNames[j]!, .int clsBases[j]!, .tuple []], ?_⟩
  have e1 : clsNames[j]? = some clsNames[j]! := by rw [List.getElem!_eq_getElem?_getD]; rw [List.getElem?_eq_getElem (by omega)]; rfl
  have e2 : clsBases[j]? = some clsBases[j]! := by rw [List.getElem!_eq_getElem?_getD]; rw [List.getElem?_eq_getElem (by omega)]; rfl
  show (List.zipWith clsObj clsNames clsBases)[j]? = _
  rw [List.getElem?_zipWith, e1, e2]
  rfl
end LK

set_option Elab.async false
set_option linter.all false
set_option maxRecDepth 100000
set_option maxHeartbeats 4000000
set_option exponentiation.threshold 3000
/-! tuple * 1; rows: texts or tuples at one place; the type of what is read as a tuple; data equal to itself. -/
namespace LK
open PySem PySem.Spec PyProof.Rows L2
theorem tuple_mul1 (l : Addr) (items : Array Value) (n : Nat) (dd : Option Addr) (sl : Array (Option Value)) (u : Tok) :
    Meets (Builtin.«tuple.__mul__» ⟨[.ref l, .int 1 u], []⟩) (fun _ R s => s.heap.get? l = some { cls := .type "tuple", dict := dd, data := .seq items n, slots := sl } ∧ R (.ok (.ret (Value.ref l))) s) :=
  .of_wp fun prog w A R s h => by
    obtain ⟨hp, g, d, tk, os⟩ := s
    obtain ⟨hl, h⟩ := h
    have f1 := AutoSeq1.idx_int
    have c0 : (decide ((1 : Int) < -(2 ^ 63)) || decide ((1 : Int) ≥ 2 ^ 63)) = false := by decide
    have c1 : (items.isEmpty || (1 : Int) == 1) = true := by simp
    wp_walk using wpAny_loadPart' hl
    exact ⟨_, rfl, h⟩
/-- a tuple times an int from 1 to 1000 -/
def rRepTA (K : PySem.W.Frag) : R2 := fun x y H Q => ∃ l k xs, x = .ref l ∧ y = .int k ∧ SqT K H l xs ∧ xs ≠ [] ∧ 1 ≤ k ∧ k ≤ 1000 ∧ xs.length ≤ 1000 ∧ (k = 1 → Q (.ref l) H) ∧ (k ≠ 1 → ∀ p, H p = none → Q (.ref p) (upd H p (.tup (List.replicate k.toNat xs).flatten)))
section
variable {X : Cx}
theorem op_repTA : OpR X (binaryOp .Mult) (rRepTA X.K) := by
  intro pins s σ H x y v u Q I rx ry h
  obtain ⟨l, k, xs, rfl, rfl, hT, hne, h1, h2, hz, q1, q2⟩ := h
  by_cases hk : k = 1
  · subst hk
    cases rx
    obtain ⟨t, rfl⟩ := ry
    obtain ⟨its, r, ⟨⟨cls, dd, data, sl⟩, ho, hc, n, hd⟩, hs⟩ := I.tuple hT
    simp only at hc hd
    subst hc hd
    refine wpAny_binaryOp_repeat_ref (T := "tuple") (U := "int") (by decide) ⟨_, ho, rfl⟩ (fun s' => typeIs_int s' 1 t) noFill_tuple_mul F.fills_int_mul F.slot_int_rmul repeat_tuple F.slot_int_index.lookup
      (call_meets F.slot_int_rmul (typeIs_int s 1 t) F.entry_int_rmul (F.args_int_rmul_2 _ _) (int_rmul_tuple 1 t l its.toArray n dd sl)
        ⟨ho, rfl, ⟨_, ho, rfl⟩, call_meets F.slot_tuple_mul ⟨_, ho, rfl⟩ F.entry_tuple_mul (F.args_tuple_mul_2 _ _) (tuple_mul1 l its.toArray n dd sl t) ⟨ho, ?_⟩⟩)
    exact ⟨.ref l, H, I, rfl, q1 rfl⟩
  · exact op_repT pins s σ H _ _ v u Q I rx ry ⟨l, k, xs, rfl, rfl, hT, hne, by omega, h2, hz, q2 hk⟩
end
theorem SqT.tyX {K : PySem.W.Frag} {H : Hp} {a : Addr} {xs : List V} (h : SqT K H a xs) : TyX K H (.ref a) (.type "tuple") := by
  rcases h with (h | ⟨o, h⟩) | ⟨o, its, n, e, c, _⟩
  · exact .base (.tup h)
  · exact .fTuple h
  · exact .kTuple e c
/-! ### data equal to itself -/
mutual
theorem eqv_self : ∀ {d : PyData}, d.canLay0 = true → PyData.eqv d d = true
  | .none, _ => by simp [PyData.eqv]
  | .bool _, _ => by simp [PyData.eqv]
  | .int _, _ => by simp [PyData.eqv]
  | .str _, _ => by simp [PyData.eqv]
  | .list xs, h => by rw [PyData.eqv]; exact eqvAll_self (by simpa [PyData.canLay0] using h)
  | .tuple xs, h => by rw [PyData.eqv]; exact eqvAll_self (by simpa [PyData.canLay0] using h)
  | .dict _, h => absurd h (by simp [PyData.canLay0])
theorem eqvAll_self : ∀ {xs : List PyData}, PyData.canLayAll0 xs = true → PyData.eqvAll xs xs = true
  | [], _ => by simp [PyData.eqvAll]
  | x :: xs, h => by
    rw [PyData.canLayAll0, Bool.and_eq_true] at h
    rw [PyData.eqvAll, eqv_self h.1, eqvAll_self h.2]; rfl
end
theorem canLayAll0_of {ds : List PyData} (h : ∀ d ∈ ds, d.canLay0 = true) : PyData.canLayAll0 ds = true := by
  induction ds with
  | nil => rfl
  | cons d ds ih => rw [PyData.canLayAll0, h d (by simp), ih fun e he => h e (List.mem_cons_of_mem _ he)]; rfl
theorem depthAll_of {ds : List PyData} {n : Nat} (h : ∀ d ∈ ds, d.depth ≤ n) : PyData.depthAll ds ≤ n := by
  induction ds with
  | nil => exact Nat.zero_le _
  | cons d ds ih => rw [PyData.depthAll]; exact Nat.max_le.mpr ⟨h d (by simp), ih fun e he => h e (List.mem_cons_of_mem _ he)⟩
/-! ### rows: a text, or a tuple of small ints -/
def Item (d : PyData) : Prop := ∃ i : Int, d = .tuple [.str "int", .int i] ∧ 0 ≤ i ∧ i < 11
def Low (z : Str) : Prop := ∀ c ∈ z.cps.toList, c < 128
inductive Row : Bool → PyData → Nat → Prop
  | txt {z : Str} {n : Nat} : z.length = n → Low z → Row true (.str z) n
  | tup {ds : List PyData} {n : Nat} : ds.length = n → (∀ d ∈ ds, Item d) → Row false (.tuple ds) n
def catD : PyData → PyData → PyData
  | .str a, .str b => .str (a ++ b)
  | .tuple a, .tuple b => .tuple (a ++ b)
  | a, _ => a
def repD (d : PyData) (k : Int) : PyData := match d with
  | .str a => .str (repS a k)
  | .tuple a => .tuple (List.replicate k.toNat a).flatten
  | a => a
def noneD : PyData → PyData
  | .str a => .str (cutS a none (some 0))
  | .tuple _ => .tuple []
  | a => a
theorem len_app (a b : Str) : (a ++ b).length = a.length + b.length := strLen_append a b
theorem len_rep (z : Str) (k : Int) : (repS z k).length = z.length * k.toNat := by
  show (repC z.cps.toList k).toArray.size = _
  rw [List.size_toArray, repC_length, Nat.mul_comm]
  simp [Str.length]
theorem Low.app {a b : Str} (h : Low a) (g : Low b) : Low (a ++ b) := by
  intro c hc
  have e : (a ++ b).cps.toList = a.cps.toList ++ b.cps.toList := by
    show (a.cps ++ b.cps).toList = _
    simp
  rw [e] at hc
  rcases List.mem_append.mp hc with hc | hc
  · exact h c hc
  · exact g c hc
theorem Low.rep {a : Str} (h : Low a) (k : Int) : Low (repS a k) := by
  intro c hc
  have hc : c ∈ (List.replicate k.toNat a.cps.toList).flatten := by simpa [repS, repC] using hc
  obtain ⟨l, hl, hcl⟩ := List.mem_flatten.mp hc
  exact h c (List.eq_of_mem_replicate hl ▸ hcl)
theorem Low.cut {a : Str} (h : Low a) (lo hi : Option Int) : Low (cutS a lo hi) := by
  intro c hc
  have hc : c ∈ (a.cps.toList.drop (HT.sIx a.length 0 lo)).take (HT.sIx a.length a.length hi - HT.sIx a.length 0 lo) := hc
  exact h c (List.mem_of_mem_drop (List.mem_of_mem_take hc))
theorem cut_to (a : Str) (m : Nat) : (cutS a none (some (m : Int))).length ≤ m := by
  show ((a.cps.toList.drop (HT.sIx a.length 0 none)).take (HT.sIx a.length a.length (some (m : Int)) - HT.sIx a.length 0 none)).toArray.size ≤ m
  rw [List.size_toArray, List.length_take, HT.sIx_nat]
  omega
theorem Row.cat {t : Bool} {a b : PyData} {n m : Nat} (h : Row t a n) (g : Row t b m) : Row t (catD a b) (n + m) := by
  cases h with
  | txt e l =>
    cases g with
    | txt e2 l2 => exact .txt (by rw [len_app, e, e2]) (l.app l2)
  | tup e l =>
    cases g with
    | tup e2 l2 => exact .tup (by rw [List.length_append, e, e2]) fun d hd => (List.mem_append.mp hd).elim (l d) (l2 d)
theorem Row.rep {t : Bool} {a : PyData} {n : Nat} (h : Row t a n) (k : Int) : Row t (repD a k) (n * k.toNat) := by
  cases h with
  | txt e l => exact .txt (by rw [len_rep, e]) (l.rep k)
  | tup e l =>
    refine .tup (by rw [PyProof.Rows.lm_len_rep_flat, e, Nat.mul_comm]) fun d hd => ?_
    obtain ⟨x, hx, hdx⟩ := List.mem_flatten.mp hd
    exact l d (List.eq_of_mem_replicate hx ▸ hdx)
theorem Row.none {t : Bool} {a : PyData} {n : Nat} (h : Row t a n) : Row t (noneD a) 0 := by
  cases h with
  | @txt z _ e l => exact .txt (Nat.le_zero.mp (cut_to z 0)) (l.cut _ _)
  | tup e l => exact .tup rfl fun d hd => by cases hd
theorem Item.sm {d : PyData} (h : Item d) : Sm d 1 3000 := by
  obtain ⟨i, rfl, h0, h1⟩ := h
  exact (Sm.tup (.cons (Sm.short (n := "int") (by decide +kernel)) (.cons (Sm.int (Nat.lt_of_lt_of_le (show i.natAbs < 2 ^ 20 by omega) (Nat.pow_le_pow_right (by decide) (by decide)))) .nil))).mono (by decide) (by decide)
theorem Row.sm {t : Bool} {d : PyData} {n : Nat} (h : Row t d n) (hn : n ≤ 1000) : Sm d 2 3100000 := by
  cases h with
  | txt e l => exact (Sm.str (n := 1000) (by omega) fun c hc => Nat.lt_of_lt_of_le (l c hc) (by decide)).mono (by decide) (by decide)
  | tup e l => exact (Sm.tup ((SmAll.many fun d hd => (l d hd).sm).mem (m := 1000) (M := 3000000) (by omega) (by omega))).mono (by decide) (by decide)
theorem Row.lay {t : Bool} {d : PyData} {n : Nat} (h : Row t d n) : d.canLay0 = true := by
  cases h with
  | @txt z _ e l =>
    rw [PyData.canLay0]
    exact Array.all_eq_true_iff_forall_mem.mpr fun c hc => by
      have := l c (Array.mem_toList_iff.mpr hc)
      exact decide_eq_true (by omega)
  | tup e l =>
    rw [PyData.canLay0]
    exact canLayAll0_of fun d hd => by obtain ⟨i, rfl, _⟩ := l d hd; simp only [PyData.canLay0, PyData.canLayAll0, Bool.and_true]; decide +kernel
section
variable {X : Cx}
/-- a + b, two rows -/
def rCatD (K : PySem.W.Frag) : R2 := fun x y H Q => ∃ (t : Bool) (a b : PyData) (n m : Nat), Row t a n ∧ Row t b m ∧ Dt K H x a ∧ Dt K H y b ∧ n + m ≤ 2000 ∧ ∀ v H', Same H H' → Dt K H' v (catD a b) → Q v H'
theorem op_catD : OpR X (binaryOp .Add) (rCatD X.K) := by
  intro pins s σ H x y v u Q I rx ry h
  obtain ⟨t, a, b, n, m, ha, hb, da, db, hz, q⟩ := h
  cases ha with
  | txt e l =>
    cases hb with
    | txt e2 l2 =>
      cases da.str_inv; cases db.str_inv
      exact op_add_str pins s σ H _ _ v u Q I rx ry ⟨_, _, rfl, rfl, by rw [e, e2]; exact Nat.le_trans hz (by decide), q _ _ (Same.refl _) (.str _)⟩
  | @tup ds _ e l =>
    cases hb with
    | @tup es _ e2 l2 =>
      obtain ⟨p, xs, rfl, hs, ax⟩ := da.tuple_inv
      obtain ⟨p2, ys, rfl, hs2, ay⟩ := db.tuple_inv
      have lx := ax.length
      have ly := ay.length
      refine op_catA pins s σ H _ _ v u Q I rx ry ⟨p, p2, xs, ys, rfl, rfl, hs, hs2, by rw [lx, ly, e, e2]; exact Nat.le_trans hz (by decide), fun h0 => ?_, fun _ h0 => ?_, fun _ _ z hz => ?_⟩
      · subst h0
        have : ds = [] := List.eq_nil_of_length_eq_zero (by rw [← lx]; rfl)
        subst this
        exact q _ _ (Same.refl _) db
      · subst h0
        have : es = [] := List.eq_nil_of_length_eq_zero (by rw [← ly]; rfl)
        subst this
        refine q _ _ (Same.refl _) ?_
        show Dt X.K H (.ref p) (.tuple (ds ++ []))
        rw [List.append_nil]; exact da
      · exact q _ _ (Same.new hz) (Dt.made hz (DtAll.app ax ay))
/-- a * k, a row and an int -/
def rRepD (K : PySem.W.Frag) : R2 := fun x y H Q => ∃ (t : Bool) (a : PyData) (n : Nat) (k : Int), Row t a n ∧ Dt K H x a ∧ y = .int k ∧ 1 ≤ n ∧ 1 ≤ k ∧ n * k ≤ 1000 ∧ ∀ v H', Same H H' → Dt K H' v (repD a k) → Q v H'
theorem dtRep {K : PySem.W.Frag} {H : Hp} {xs : List V} {ds : List PyData} (h : DtAll K H xs ds) : ∀ m : Nat, DtAll K H (List.replicate m xs).flatten (List.replicate m ds).flatten
  | 0 => .nil
  | m + 1 => by
    rw [List.replicate_succ, List.flatten_cons, List.replicate_succ, List.flatten_cons]
    exact DtAll.app h (dtRep h m)
theorem op_repD : OpR X (binaryOp .Mult) (rRepD X.K) := by
  intro pins s σ H x y v u Q I rx ry h
  obtain ⟨t, a, n, k, ha, da, rfl, hn, hk, hz, q⟩ := h
  have k1 : k ≤ 1000 := by
    have : 1 * k ≤ n * k := Int.mul_le_mul_of_nonneg_right (by omega) (by omega)
    omega
  have n1 : n ≤ 1000 := by
    have : (n : Int) * 1 ≤ n * k := Int.mul_le_mul_of_nonneg_left hk (by omega)
    omega
  cases ha with
  | txt e l =>
    cases da.str_inv
    refine op_rep_str pins s σ H _ _ v u Q I rx ry ⟨_, k, rfl, rfl, by omega, by omega, ?_, q _ _ (Same.refl _) (.str _)⟩
    rw [e]
    exact Nat.le_trans (Nat.mul_le_mul n1 (show k.toNat ≤ 1000 by omega)) (by decide)
  | @tup ds _ e l =>
    obtain ⟨p, xs, rfl, hs, ax⟩ := da.tuple_inv
    have lx := ax.length
    refine op_repTA pins s σ H _ _ v u Q I rx ry ⟨p, k, xs, rfl, rfl, hs, fun z => ?_, hk, k1, by omega, fun h1 => ?_, fun h1 z hz => ?_⟩
    · subst z
      rw [List.length_nil] at lx
      omega
    · subst h1
      refine q _ _ (Same.refl _) ?_
      show Dt X.K H (.ref p) (.tuple (List.replicate 1 ds).flatten)
      rw [show (List.replicate 1 ds).flatten = ds by simp]
      exact da
    · exact q _ _ (Same.new hz) (Dt.made hz (dtRep ax _))
/-- a[:0], a row -/
def rNoneD (K : PySem.W.Frag) : V → Option Int → Option Int → Hp → VK → Prop := fun x lo hi H Q => ∃ (t : Bool) (a : PyData) (n : Nat), Row t a n ∧ Dt K H x a ∧ n ≤ 2000 ∧ lo = none ∧ hi = some 0 ∧ ∀ v H', Same H H' → Dt K H' v (noneD a) → Q v H'
theorem sl_noneD : SlR X (rNoneD X.K) := by
  intro pins s σ H x v vl vu lo hi sl Q I rx hs pl pu h
  obtain ⟨t, a, n, ha, da, hn, rfl, rfl, q⟩ := h
  cases ha with
  | txt e l =>
    cases da.str_inv
    exact sl_str pins s σ H _ v vl vu _ _ sl Q I rx hs pl pu ⟨_, rfl, by rw [e]; exact Nat.le_trans hn (by decide), q _ _ (Same.refl _) (.str _)⟩
  | @tup ds _ e l =>
    obtain ⟨p, xs, rfl, hq, ax⟩ := da.tuple_inv
    have lx := ax.length
    refine sl_tupA pins s σ H _ v vl vu _ _ sl Q I rx hs pl pu ⟨p, xs, rfl, hq, fun hw => ?_, fun _ z hz => ?_⟩
    · have h0 : ds.length = 0 := by
        have := hw.2
        rw [show (some (0 : Int)) = some ((0 : Nat) : Int) from rfl, HT.sIx_nat] at this
        omega
      have := List.eq_nil_of_length_eq_zero h0
      subst this
      exact q _ _ (Same.refl _) da
    · refine q _ _ (Same.new hz) (Dt.made hz ?_)
      have : cutV xs none (some 0) = [] := by
        apply List.eq_nil_of_length_eq_zero
        unfold cutV
        rw [List.length_take, show (some (0 : Int)) = some ((0 : Nat) : Int) from rfl, HT.sIx_nat]
        omega
      rw [this]
      exact .nil
/-- len(a), a row -/
def rLenD (K : PySem.W.Frag) : List V → Hp → VK → Prop := fun vs H Q => ∃ (v : V) (t : Bool) (a : PyData) (n : Nat), vs = [v] ∧ Row t a n ∧ Dt K H v a ∧ n ≤ 2000 ∧ Q (.int (n : Int)) H
theorem call_lenD' : CallR X (.builtin "len") (rLenD X.K) := by
  intro pins s σ H xs us Q I r h
  obtain ⟨v, t, a, n, rfl, ha, da, hn, q⟩ := h
  cases ha with
  | txt e l =>
    cases da.str_inv
    exact call_len pins s σ H _ us Q I r ⟨_, n, rfl, ⟨by rw [e]; exact Nat.le_trans hn (by decide), e.symm⟩, q⟩
  | @tup ds _ e l =>
    obtain ⟨p, ys, rfl, hq, ax⟩ := da.tuple_inv
    exact call_len pins s σ H _ us Q I r ⟨_, n, rfl, .inr ⟨_, hq, by rw [ax.length, e]⟩, q⟩
end
end LK

set_option Elab.async false
set_option linter.all false
set_option maxRecDepth 100000
set_option maxHeartbeats 4000000
set_option exponentiation.threshold 3000
/-! Letters, digits, underscores; texts of the top. -/
namespace LK
open PySem PySem.Spec PyProof.Rows L2 SX
def isD (c : Nat) : Bool := decide (48 ≤ c) && decide (c ≤ 57)
def isL (c : Nat) : Bool := (decide (65 ≤ c) && decide (c ≤ 90)) || (decide (97 ≤ c) && decide (c ≤ 122)) || c == 95
def isW (c : Nat) : Bool := isD c || isL c
theorem isW_lt {c : Nat} (h : isW c = true) : c < 128 := by
  simp [isW, isD, isL] at h; omega
theorem uni_alpha : ∀ c < 128, Unicode.isAlpha c = (isL c && c != 95) := by decide +kernel
theorem uni_digit : ∀ c < 128, Unicode.isDigit c = isD c := by decide +kernel
theorem uni_alnum : ∀ c < 128, Unicode.isAlnum c = (isW c && c != 95) := by decide +kernel
theorem alpha1 {c : Nat} (h : c < 128) : Txt.isalpha (S [c]) = (isL c && c != 95) := by
  show (decide ((S [c]).length > 0) && (S [c]).cps.all Unicode.isAlpha) = _
  rw [S_len]; simp [S, uni_alpha c h]
theorem digit1 {c : Nat} (h : c < 128) : Txt.isdigit (S [c]) = isD c := by
  show (decide ((S [c]).length > 0) && (S [c]).cps.all Unicode.isDigit) = _
  rw [S_len]; simp [S, uni_digit c h]
theorem alnum1 {c : Nat} (h : c < 128) : Txt.isalnum (S [c]) = (isW c && c != 95) := by
  show (decide ((S [c]).length > 0) && (S [c]).cps.all Unicode.isAlnum) = _
  rw [S_len]; simp [S, uni_alnum c h]
theorem digitS {a : List Nat} (h : ∀ c ∈ a, c < 128) (hne : a ≠ []) : Txt.isdigit (S a) = a.all isD := by
  show (decide ((S a).length > 0) && (S a).cps.all Unicode.isDigit) = _
  have : 0 < a.length := List.length_pos_iff.mpr hne
  rw [S_len, decide_eq_true this, Bool.true_and]
  show a.toArray.all Unicode.isDigit = _
  rw [List.all_toArray]
  apply Bool.eq_iff_iff.mpr
  rw [List.all_eq_true, List.all_eq_true]
  exact ⟨fun g c hc => uni_digit c (h c hc) ▸ g c hc, fun g c hc => (uni_digit c (h c hc)).symm ▸ g c hc⟩
/-! texts of the top -/
def GStr (mg : Str → Option Value) (x : Str) (z : Str) : Prop := ∃ t, mg x = some (.str z t)
def HasStr (K : PySem.W.Frag) (x : Str) (p : Str → Prop) : Prop := ∃ (z : Str) (t : Tok), PySem.W.nsIn K mainGlobals x = some (some (.str z t)) ∧ p z
theorem HasStr.mk' {K : PySem.W.Frag} {x : Str} {p : Str → Prop} {z : Str} {t : Tok} (a : PySem.W.nsIn K mainGlobals x = some (some (.str z t))) (b : p z) : HasStr K x p := ⟨z, t, a, b⟩
theorem HasStr.g {K : PySem.W.Frag} {mg : Str → Option Value} {h : Heap} {x : Str} {p : Str → Prop} (i : HasStr K x p) (X : K.In h) (G : h.Ns mainGlobals mg) : ∃ z, GStr mg x z ∧ p z := by
  obtain ⟨z, t, e, hp⟩ := i
  exact ⟨z, ⟨t, PySem.W.mg_of X G e⟩, hp⟩
theorem pe_globS {X : Cx} {x z : Str} {pos : Pos} (h : GStr X.mg x z) (hg : Gl X x) (hd : (x == ("__debug__" : Str)) = false := by decide) : PE X (.Name x pos) (tC (.str z)) := by
  obtain ⟨t, e⟩ := h
  exact pe_glob hg e ⟨t, rfl⟩ hd
theorem split1 {a : List Nat} {c : Nat} (h : c ∉ a) (hc : c < 256) : Txt.split (S a) (S [c]) = [S a] := by
  rw [split_S (by simp) (by simpa using hc)]
  have := SX.spl_join (c := c) (sep := []) (parts := [a]) (by simp) (by simpa using h)
  have e : TL.joinL [c] [a] = a := by simp [TL.joinL]
  rw [e] at this
  rw [this]; rfl
theorem lstrip1 {a : List Nat} {b : List Nat} (h : ∀ c, a.head? = some c → c ∉ b) : Txt.lstripChars (S a) (S b) = S a := by
  have e1 : (S a).cps.toList.takeWhile (S b).cps.contains = [] := tw0 a fun c hc => by
    have := h c hc
    show b.toArray.contains c = false
    rw [List.contains_toArray]
    simpa using this
  have e0 : stripLo (S b).cps.contains true (S a) = 0 := by
    unfold stripLo
    rw [if_pos rfl, e1] <;> rfl
  have e3 : stripHi (S b).cps.contains false (S a) 0 = (S a).length := by
    unfold stripHi
    rw [if_neg Bool.false_ne_true]
  unfold Txt.lstripChars Txt.stripBy stripSame
  rw [e0, e3]
  exact if_pos (by simp)
/-! while, its test's reading made monotone -/
def tUp (c : TT) : TT := fun σ H Q => ∃ P : Bool → Hp → Prop, c σ H P ∧ ∀ b H1, P b H1 → Q b H1
theorem pt_up {X : Cx} {e : Expr} {c : TT} (h : PT X e c) : PT X e (tUp c) :=
  ⟨fun pins s σ H Q I ⟨P, hP, k⟩ => thn (h.run pins s σ H P I hP) fun b s1 ⟨H1, I1, q⟩ => ⟨H1, I1, k _ _ q⟩⟩
theorem while_up {c : TT} {tb : TS} {D : Ends} {σ : L2.St} {H : Hp} (Pv : L2.St → Hp → Prop) (μ : L2.St → Hp → Nat) (h0 : Pv σ H)
    (hs : ∀ σ H, Pv σ H → c σ H fun b H1 => if b = true then tb { D with nx := fun σ' H' => Pv σ' H' ∧ μ σ' H' < μ σ H, ct := fun σ' H' => Pv σ' H' ∧ μ σ' H' < μ σ H, bk := D.nx } σ H1 else D.nx σ H1) : tWhile (tUp c) tb D σ H :=
  while_by Pv μ h0 (fun σ H p => ⟨_, hs σ H p, fun _ _ h => h⟩) (fun σ H Q Q' hq ⟨P, hP, k⟩ => ⟨P, hP, fun b H1 h => hq b H1 (k b H1 h)⟩)
theorem nl_S : ("\n" : Str) = S [10] := by decide +kernel
theorem us_S : ("_" : Str) = S [95] := by decide +kernel
theorem sp_S : (" " : Str) = S [32] := by decide +kernel
theorem hash_S : ("#" : Str) = S [35] := by decide +kernel
theorem sign_eq {c d : Nat} : decide (V.str ⟨#[c]⟩ = V.str (S [d])) = decide (c = d) := by
  by_cases h : c = d
  · subst h; rw [decide_eq_true rfl, decide_eq_true rfl]
  · rw [decide_eq_false h, decide_eq_false]
    intro e
    have := S_inj (a := [c]) (b := [d]) (V.str.inj e)
    exact h (by simpa using this)
theorem str_eq {a b : List Nat} : decide (V.str (S a) = V.str (S b)) = decide (a = b) := by
  by_cases h : a = b
  · subst h; rw [decide_eq_true rfl, decide_eq_true rfl]
  · rw [decide_eq_false h, decide_eq_false]
    intro e
    exact h (S_inj (V.str.inj e))
theorem starts1 {c d : Nat} {r : List Nat} : Txt.startswith (S (c :: r)) (S [d]) = decide (c = d) := by
  show (decide (0 + (S [d]).length ≤ (S (c :: r)).length) && ((c :: r).toArray.extract 0 (0 + (S [d]).length) == [d].toArray)) = _
  rw [S_len, S_len]
  have e : (c :: r).toArray.extract 0 (0 + [d].length) = #[c] := by simp
  rw [e]
  by_cases h : c = d
  · subst h; simp
  · simp [h]
theorem at_S {a : List Nat} {j c : Nat} (h : a[j]? = some c) : atI (S a).cps.toList (j : Int) = some c := atI_nat h
theorem cut_all {a : List Nat} : cutS (S a) (some 0) (some ((a.length : Nat) : Int)) = S a := by
  unfold cutS
  rw [S_len, show (some (0 : Int)) = some ((0 : Nat) : Int) from rfl, HT.sIx_nat, HT.sIx_nat]
  show (⟨((a.drop (min 0 a.length)).take (min a.length a.length - min 0 a.length)).toArray⟩ : Str) = ⟨a.toArray⟩
  rw [Nat.zero_min, List.drop_zero, Nat.min_self, Nat.sub_zero, List.take_length]
/-! a promise at a higher level -/
theorem FnG.mono {P : Program} {w : World} {K : PySem.W.Frag} {mg : Str → Option Value} {base : Heap} {CX : CXT} {j k : Nat} {f : Addr} {fd : FuncData} {ps : List Str} {sp : Sp} (F : FnG P w K mg base CX j f fd ps sp) (h : j ≤ k) : FnG P w K mg base CX k f fd ps sp :=
  ⟨F.len, fun A outer s H args us vs Q E hr => F.run A outer s H args us vs Q E (hr.mono h)⟩
theorem Use.mono {P : Program} {w : World} {K : PySem.W.Frag} {mg : Str → Option Value} {base : Heap} {CX : CXT} {x : Str} {j k : Nat} {ps : List Str} {sp : Sp} (U : Use P w K mg base CX x j ps sp) (h : j ≤ k) : Use P w K mg base CX x k ps sp := by
  obtain ⟨f, fd, ok, r⟩ := U.ex
  exact ⟨f, fd, ok.mono h, r⟩
/-! the signs that a program may hold -/
def okC (c : Nat) : Bool := c == 10 || (decide (32 ≤ c) && decide (c ≤ 126) && c != 37)
theorem okC_lt {c : Nat} (h : okC c = true) : c < 128 := by
  simp [okC] at h; omega
theorem lstrip_sp (a : List Nat) : Txt.lstripChars (S a) (S [32]) = S (a.dropWhile (· == 32)) := by
  have e1 : (S a).cps.toList.takeWhile (S [32]).cps.contains = a.takeWhile (· == 32) := by
    show a.takeWhile _ = _
    congr 1
    funext c
    show #[32].contains c = _
    simp [Array.contains, BEq.comm]
  have el : (a.takeWhile (· == 32)).length ≤ a.length := (List.takeWhile_prefix _).length_le
  have ed : a.drop (a.takeWhile (· == 32)).length = a.dropWhile (· == 32) := by
    have h := List.takeWhile_append_dropWhile (p := (· == 32)) (l := a)
    have : (a.takeWhile (· == 32) ++ a.dropWhile (· == 32)).drop (a.takeWhile (· == 32)).length = a.dropWhile (· == 32) := List.drop_left
    rwa [h] at this
  have e0 : stripLo (S [32]).cps.contains true (S a) = (a.takeWhile (· == 32)).length := by
    unfold stripLo
    rw [if_pos rfl, e1] <;> rfl
  have e3 : stripHi (S [32]).cps.contains false (S a) (a.takeWhile (· == 32)).length = (S a).length := by
    unfold stripHi
    rw [if_neg Bool.false_ne_true]
  unfold Txt.lstripChars Txt.stripBy stripSame stripped
  rw [e0, e3]
  split
  · rename_i h
    simp at h
    have : (a.takeWhile (· == 32)).length = 0 := by simpa using h
    rw [this, List.drop_zero] at ed
    rw [← ed]
  · show (⟨a.toArray.extract (a.takeWhile (· == 32)).length (S a).length⟩ : Str) = _
    rw [S_len, ← ed]
    congr 1
    apply Array.toList_inj.mp
    simp only [Array.toList_extract, List.extract_eq_drop_take]
    exact List.take_of_length_le (by rw [List.length_drop]; omega)
/-- z[i:j] by codes -/
theorem cut_S {a : List Nat} {i j : Nat} (hi : i ≤ a.length) (hj : j ≤ a.length) : cutS (S a) (some ((i : Nat) : Int)) (some ((j : Nat) : Int)) = S ((a.drop i).take (j - i)) := by
  unfold cutS
  rw [S_len, HT.sIx_nat, HT.sIx_nat, Nat.min_eq_left hi, Nat.min_eq_left hj]
/-- a line: so many spaces, and perhaps a word -/
def lnT (s : Nat) (w : List Nat) : List Nat := List.replicate s 32 ++ w
theorem lnT_len (s : Nat) (w : List Nat) : (lnT s w).length = s + w.length := by simp [lnT]
theorem lnT_sp {s : Nat} {w : List Nat} {i : Nat} (h : i < s) : (lnT s w)[i]? = some 32 := by
  unfold lnT
  rw [List.getElem?_append_left (by simpa using h), List.getElem?_replicate, if_pos h]
theorem lnT_w {s : Nat} {w : List Nat} {i : Nat} : (lnT s w)[s + i]? = w[i]? := by
  unfold lnT
  rw [List.getElem?_append_right (by simp), List.length_replicate, Nat.add_sub_cancel_left]
theorem lnT_drop (s : Nat) (w : List Nat) : (lnT s w).drop s = w := by
  unfold lnT
  rw [List.drop_append_of_le_length (by simp)]
  simp
end LK

set_option Elab.async false
set_option linter.all false
set_option maxRecDepth 100000
set_option maxHeartbeats 4000000
set_option exponentiation.threshold 3000
/-! What several laws share: boxes and lists beside changes of other objects. -/
namespace LK
open PySem PySem.Spec PyProof.Rows L2
section
variable {K : PySem.W.Frag}
theorem BoxAt.ne_new {H : Hp} {p dl b : Addr} (B : BoxAt H p dl) (h : H b = none) : b ≠ p ∧ b ≠ dl := by
  obtain ⟨xs, g⟩ := B.at_
  obtain ⟨ys, g2⟩ := B.dg
  exact ⟨fun e => (by subst e; rw [h] at g; cases g), fun e => (by subst e; rw [h] at g2; cases g2)⟩
theorem BoxAt.kp {H H' : Hp} {p dl : Addr} (B : BoxAt H p dl) (h : ∀ b o, b = p ∨ b = dl → H b = some o → H' b = some o) : BoxAt H' p dl := by
  obtain ⟨ds, k, a, b, c, d⟩ := B
  exact ⟨ds, k, h _ _ (.inl rfl) a, b, h _ _ (.inr rfl) c, d⟩
theorem BoxAt.keep' {H H' : Hp} {p dl l : Addr} (B : BoxAt H p dl) (k : Keep l H H') (h1 : l ≠ p) (h2 : l ≠ dl) : BoxAt H' p dl :=
  B.kp fun b o hb e => k b o e (by
    rcases hb with rfl | rfl
    · exact Ne.symm h1
    · exact Ne.symm h2)
theorem BoxAt.keep2 {H H' : Hp} {p dl l m : Addr} (B : BoxAt H p dl) (k : ∀ b o, H b = some o → b ≠ l → b ≠ m → H' b = some o) (h1 : l ≠ p) (h2 : l ≠ dl) (h3 : m ≠ p) (h4 : m ≠ dl) : BoxAt H' p dl :=
  B.kp fun b o hb e => by
    rcases hb with rfl | rfl
    · exact k _ _ e (Ne.symm h1) (Ne.symm h3)
    · exact k _ _ e (Ne.symm h2) (Ne.symm h4)
theorem KeepT.ins {p C dx : Addr} {H : Hp} {o : HO} {fs : List (Str × V)} (hp : H p = some (.ins C dx fs)) : KeepT K H (L2.upd H p o) := fun a xs h => by
  rcases h with (h | ⟨o', h⟩) | h
  · exact .inl (.inl (by rw [upd_ne (ne_of h hp (by intro z; cases z))]; exact h))
  · exact .inl (.inr ⟨o', by rw [upd_ne (ne_of h hp (by intro z; cases z))]; exact h⟩)
  · exact .inr h
theorem listAt_ins {p C dx l : Addr} {H : Hp} {o : HO} {fs : List (Str × V)} {ds : List PyData} (h : ListAt K H l ds) (hp : H p = some (.ins C dx fs)) : ListAt K (upd H p o) l ds := by
  obtain ⟨xs, e, a⟩ := h
  exact ⟨xs, by rw [upd_ne (ne_of e hp (by intro z; cases z))]; exact e, DtAll.keepT (KeepT.ins hp) a⟩
theorem Low.zero : Low "" := fun c hc => by
  have e : ("" : Str).cps.toList = [] := by decide +kernel
  rw [e] at hc; cases hc
theorem DtAll.take {H : Hp} : ∀ (n : Nat) {vs : List V} {ds : List PyData}, DtAll K H vs ds → DtAll K H (vs.take n) (ds.take n)
  | 0, _, _, _ => .nil
  | _ + 1, _, _, .nil => .nil
  | n + 1, _, _, .cons h a => .cons h (DtAll.take n a)
theorem len_start0 : (startD []).length = 17 := by decide
theorem sm_start0 : ∀ d ∈ startD [], Sm d 5 150000 := fun d hd => sm_start (hs := []) (L := 0) (by simp) (by simp) d hd
theorem sm_heap {ds : List PyData} (h : ds.length ≤ 30) (sm : ∀ d ∈ ds, Sm d 5 150000) : ShowOk (.list ds) := (Sm.lst ((SmAll.many sm).mem (m := 30) (M := 4500000) h (by omega))).show (by decide) (by decide)
theorem ListAt.dp {H : Hp} {l : Addr} {ds : List PyData} (h : ListAt K H l ds) : Dp K H (.ref l) (.list ds) := let ⟨_, e, a⟩ := h; .lst (SqL.of e) a.dp
end
theorem FnG.or {P : Program} {w : World} {K : PySem.W.Frag} {mg : Str → Option Value} {base : Heap} {CX : CXT} {k : Nat} {f : Addr} {fd : FuncData} {ps : List Str} {sp sp' : Sp} (A : FnG P w K mg base CX k f fd ps sp) (B : FnG P w K mg base CX k f fd ps sp') :
    FnG P w K mg base CX k f fd ps (fun vs H Q E => sp vs H Q E ∨ sp' vs H Q E) where
  len := fun vs H Q E h => h.elim (A.len vs H Q E) (B.len vs H Q E)
  run := fun A' outer s H args us vs Q E hr hg he hb hv h => h.elim (A.run A' outer s H args us vs Q E hr hg he hb hv) (B.run A' outer s H args us vs Q E hr hg he hb hv)
/-- start_heap of a list of names -/
def spStartL (K : PySem.W.Frag) : Sp := fun vs H Q _ => ∃ (t : Addr) (hs : List Str), vs = [.ref t] ∧ SqL K H t (hs.map V.str) ∧ hs.length ≤ 1000 ∧
  ∀ (p : Addr) (H' : Hp), H p = none → Same H H' → ListAt K H' p (startD hs) → Q (.ref p) H'
def spStart2 (K : PySem.W.Frag) : Sp := fun vs H Q E => spStart K vs H Q E ∨ spStartL K vs H Q E
theorem ip_fdiv {X : Cx} : PIp X .FloorDiv (rI CDiv fun i j => .int (i / j)) := fun pins s σ H x y v u Q I r1 r2 h => iop_fdiv pins s σ H x y v u Q I r1 r2 h
theorem none_back0 {p np : Addr} {H H' : Hp} (K1 : Keep p H H') (B : ∃ xs, H' p = some (.lst xs)) (h : H' np = none) : H np = none := by
  cases e : H np with
  | none => rfl
  | some o =>
    by_cases ep : np = p
    · subst ep
      obtain ⟨xs, g⟩ := B
      rw [g] at h; cases h
    · rw [K1 _ _ e ep] at h; cases h
end LK

set_option Elab.async false
set_option linter.all false
set_option maxRecDepth 100000
set_option maxHeartbeats 4000000
/-! dicts of the top: what a literal dict of the program gives, read where it stands. -/
namespace LK
open PySem PySem.Spec PyProof.Rows L2
/-- at a lies a dict of the top with these entries -/
def KDct (P : Program) (w : World) (K : PySem.W.Frag) (a : Addr) (kvs : List (Key × V)) : Prop := (a == sysModules) = false ∧ ∃ vs, KV kvs vs ∧ ∀ h : Heap, K.In h → h.DictOf (mixKind P w) a vs
def tDGetK (P : Program) (w : World) (K : PySem.W.Frag) (td ty : TE) : TE := fun σ H Q => td σ H fun x H1 => ty σ H1 fun y H2 => ∃ a kvs k v, x = .ref a ∧ KDct P w K a kvs ∧ y = kV k ∧ valV kvs k = some v ∧ Q v H2
def tDInK (P : Program) (w : World) (K : PySem.W.Frag) (ty td : TE) : TE := fun σ H Q => ty σ H fun y H1 => td σ H1 fun x H2 => ∃ a kvs k, x = .ref a ∧ KDct P w K a kvs ∧ y = kV k ∧ Q (.bl (valV kvs k).isSome) H2
section
variable {X : Cx} {o i : Expr} {pos : Pos} {td ty : TE}
theorem pe_dgetK (ho : PE X o td) (hi : PE X i ty) (hs : NoSl i) : PE X (.Subscript o i pos) (tDGetK X.prog X.w X.K td ty) := by
  refine ⟨fun pins s σ H Q I h => ?_⟩
  refine subD_of PySem.F.slot_dict_getitem.lookup hs (thn (ho.run pins s σ H _ I h) fun u s1 ⟨x, H1, I1, rx, q1⟩ => thn (hi.run pins s1 σ H1 _ I1 q1) fun iv s2 ⟨y, H2, I2, ry, a, kvs, k, v, ex, ⟨hsys, vs, rel, dd⟩, ey, l, q2⟩ => ?_)
  subst ex ey
  obtain rfl : u = Value.ref a := rx
  have dd := dd _ I2.kIn
  refine ⟨dd.typeIs, ?_⟩
  obtain ⟨w', hw, rw'⟩ := RelO.some_of (v := v) (o := valueAt vs k) (by rw [← l]; exact rel.val k)
  exact wpAny_getItem_of (kV_is ry) dd.mapOf hw ⟨v, H2, I2.tok _, rw', q2⟩
theorem pc_dinK (hi : PE X i ty) (ho : PE X o td) : PC X .In i o (tDInK X.prog X.w X.K ty td) := by
  refine ⟨fun pins s σ H Q I h => ?_⟩
  refine thn (hi.run pins s σ H _ I h) fun iv s1 ⟨y, H1, I1, ry, q1⟩ => thn (ho.run pins s1 σ H1 _ I1 q1) fun u s2 ⟨x, H2, I2, rx, a, kvs, k, ex, ⟨hsys, vs, rel, dd⟩, ey, q2⟩ => ?_
  subst ex ey
  obtain rfl : u = Value.ref a := rx
  have dd := dd _ I2.kIn
  refine wpAny_in_of (kV_is ry) hsys dd.mapOf ?_
  rw [← (rel.val k).isSome_eq]
  exact ⟨.bl _, H2, I2.tok _, rfl, q2⟩
end
/-! its fact from the top -/
def HasDct (P : Program) (w : World) (K : PySem.W.Frag) (x : Str) (kvs : List (Key × V)) : Prop := ∃ a, PySem.W.nsIn K mainGlobals x = some (some (.ref a)) ∧ KDct P w K a kvs
structure UseD (P : Program) (w : World) (K : PySem.W.Frag) (mg : Str → Option Value) (x : Str) (kvs : List (Key × V)) : Prop where
  ex : ∃ a, mg x = some (.ref a) ∧ KDct P w K a kvs
/-- entries whose keys and values are texts -/
inductive DEnt (w : World) : List DictEntry → List (Str × Str) → Prop
  | nil : DEnt w [] []
  | cons {e : DictEntry} {es : List DictEntry} {k v : Str} {ps : List (Str × Str)} {t t' : Tok} : e.key = .str k t → e.hash = hashStr w k → e.val = .str v t' → DEnt w es ps → DEnt w (e :: es) ((k, v) :: ps)
def txtKV (ps : List (Str × Str)) : List (Key × V) := ps.map fun p => (.inr p.1, .str p.2)
theorem DEnt.pairs {P : Program} {w : World} : ∀ {es : List DictEntry} {ps : List (Str × Str)}, DEnt w es ps → ∃ vs : List (Key × Value), KV (txtKV ps) vs ∧ PySem.Pairs (mixKind P w) es vs ∧ vs.map (·.1) = ps.map (fun p => (Sum.inr p.1 : Key)) ∧ ∀ e ∈ es, ∃ k, (mixKind P w).is k e.key = true ∧ e.hash = (mixKind P w).hash k
  | _, _, .nil => ⟨[], .nil, .nil, rfl, fun _ h => by cases h⟩
  | _, _, .cons (k := k) (v := v) (t := t) (t' := t') hk hh hv r => by
    obtain ⟨vs, a, b, c, d⟩ := DEnt.pairs (P := P) r
    refine ⟨(.inr k, .str v t') :: vs, .cons ⟨rfl, ⟨_, rfl⟩⟩ a, .cons (by rw [hk]; exact mixKind_str P w k t) hv b, by rw [List.map_cons, c]; rfl, fun e he => ?_⟩
    rcases List.mem_cons.mp he with rfl | he
    · exact ⟨.inr k, by rw [hk]; exact mixKind_str P w k t, hh⟩
    · exact d e he
theorem nodup_inr : ∀ {xs : List Str}, xs.Nodup → (xs.map (Sum.inr : Str → Key)).Nodup
  | [], _ => .nil
  | x :: r, h => by
    obtain ⟨h1, h2⟩ := List.nodup_cons.mp h
    refine List.nodup_cons.mpr ⟨fun hm => ?_, nodup_inr h2⟩
    obtain ⟨y, hy, e⟩ := List.mem_map.mp hm
    exact h1 (Sum.inr.inj e ▸ hy)
theorem HasDct.mk' {P : Program} {w : World} {K : PySem.W.Frag} {x : Str} {ps : List (Str × Str)} {a : Addr} {es : Array DictEntry} {ep : Nat} (h : PySem.W.nsIn K mainGlobals x = some (some (.ref a)))
    (b : K.lookup a = some { cls := .type "dict", data := .dict es ep }) (hs : (a == sysModules) = false) (c : DEnt w es.toList ps) (nd : (ps.map (·.1)).Nodup) : HasDct P w K x (txtKV ps) := by
  obtain ⟨vs, v1, v2, v3, v4⟩ := DEnt.pairs (P := P) c
  refine ⟨a, h, hs, vs, v1, fun hh hK => ⟨_, es, ep, hK a _ b, ⟨rfl, rfl, rfl⟩, rfl, fun e he => v4 e (Array.mem_toList_iff.mpr he), v2, ?_⟩⟩
  rw [v3]
  have : ps.map (fun p => (Sum.inr p.1 : Key)) = (ps.map (·.1)).map Sum.inr := by rw [List.map_map]; rfl
  rw [this]
  exact nodup_inr nd
theorem HasDct.g {P : Program} {w : World} {K : PySem.W.Frag} {mg : Str → Option Value} {h : Heap} {x : Str} {kvs : List (Key × V)} (D : HasDct P w K x kvs) (X : K.In h) (G : h.Ns mainGlobals mg) : UseD P w K mg x kvs := by
  obtain ⟨a, e, k⟩ := D
  exact ⟨a, PySem.W.mg_of X G e, k⟩
end LK

set_option Elab.async false
set_option linter.all false
set_option maxRecDepth 100000
set_option maxHeartbeats 4000000
set_option exponentiation.threshold 3000
/-! Numbers, texts over the 95 characters, dicts of the top with any plain values. -/
namespace LK
open PySem PySem.Spec PyProof.Rows L2 SX
def CPowW (i j : Int) : Prop := 0 ≤ j ∧ (Builtin.Int.intBits i : Int) * j ≤ 2 ^ 27
theorem op_powW {X : Cx} : OpR X (binaryOp .Pow) (rI CPowW fun i j => .int (i ^ j.toNat)) := opI fun _ _ _ _ _ _ _ hc q => pow_int hc.1 hc.2 q
/-- the 95 characters by their codes -/
def chStr : Str := "\n !\"#$&'()*+,-./0123456789:;<=>?@ABCDEFGHIJKLMNOPQRSTUVWXYZ[\\]^_`abcdefghijklmnopqrstuvwxyz{|}~"
def chC : List Nat := chStr.cps.toList
theorem chC_len : chC.length = 95 := by decide +kernel
theorem chStr_S : chStr = S chC := by unfold chC S; rfl
def ch (j : Nat) : Nat := chC.getD j 0
/-- the text of a row of indices -/
def tx (js : List Nat) : Str := S (js.map ch)
theorem ch_at {j : Nat} (h : j < 95) : chC[j]? = some (ch j) := by
  have h' : j < chC.length := by rw [chC_len]; exact h
  rw [List.getElem?_eq_getElem h', ch, List.getD_eq_getElem?_getD, List.getElem?_eq_getElem h']; rfl
theorem ch_low (j : Nat) : ch j < 128 := by
  by_cases h : j < 95
  · exact (show ∀ c ∈ chC, c < 128 by decide +kernel) _ (List.mem_of_getElem? (ch_at h))
  · rw [ch, List.getD_eq_getElem?_getD, List.getElem?_eq_none (by rw [chC_len]; omega)]; decide
theorem ch_inj {i j : Nat} (hi : i < 95) (hj : j < 95) (h : ch i = ch j) : i = j := by
  have key : ∀ i < 95, ∀ j < 95, ch i = ch j → i = j := by decide +kernel
  exact key i hi j hj h
theorem tx_len (js : List Nat) : (tx js).length = js.length := by rw [tx, S_len, List.length_map]
theorem tx_app (a b : List Nat) : tx (a ++ b) = tx a ++ tx b := by rw [tx, List.map_append, ← S_cat]; rfl
theorem occ_ch : ∀ j < 95, (Builtin.Str.occurrences chStr ⟨#[ch j]⟩ 0 95 1).head? = some j := by decide +kernel
theorem occ_at {j : Nat} (h : j < 95) : ∃ rest, Builtin.Str.occurrences chStr ⟨#[ch j]⟩ 0 chStr.length 1 = j :: rest := by
  have e := occ_ch j h
  rw [show chStr.length = 95 by decide +kernel]
  cases q : Builtin.Str.occurrences chStr ⟨#[ch j]⟩ 0 95 1 with
  | nil => rw [q] at e; cases e
  | cons a r => rw [q] at e; exact ⟨r, by rw [Option.some.inj e]⟩
theorem joinL_one : ∀ cs : List Nat, TL.joinL [] (cs.map fun c => [c]) = cs
  | [] => rfl
  | [c] => rfl
  | c :: d :: r => by
    have := joinL_one (d :: r)
    show [c] ++ ([] ++ TL.joinL [] ((d :: r).map fun c => [c])) = _
    rw [this]; rfl
theorem join_chars (cs : List Nat) : Txt.join "" (cs.map fun c => (⟨#[c]⟩ : Str)) = S cs := by
  rw [TL.join_eq]
  have e := TL.tl_join "" (cs.map fun c => (⟨#[c]⟩ : Str))
  rw [show TL.tl ("" : Str) = [] by decide +kernel, List.map_map, show (TL.tl ∘ fun c => (⟨#[c]⟩ : Str)) = fun c => [c] from rfl, joinL_one] at e
  cases h : Str.join "" (cs.map fun c => (⟨#[c]⟩ : Str)) with
  | mk a =>
    rw [h] at e
    have e : a.toList = cs := e
    subst e
    rfl
section
variable {X : Cx} {K : PySem.W.Frag} {T id : String} {name : Str} {r : V → List V → Hp → VK → Prop} {o e : Expr} {es : List Expr} {to : TE} {t : TA} {apos cpos : Pos}
/-- a built-in method, where the written part is told (in a comprehension) -/
theorem pe_bmK (hK : X.K = K) (pa : PlainAttrs T) (slot : Slot T name id) (hty : typeOf (.builtin id) = pure (.type "method_descriptor")) (hm : MtR X id r) (ho : PE X o to) (ha : PA X (e :: es) t)
    (hbase : attributeBase o name X.env (eval o X.env) = eval o X.env := by rfl)
    (hfew : ((backTo cpos (starEach (e :: es) X.env)).all (fun x => !x.1) && (backToKw cpos (keywordEach [] X.env)).all (fun x => x.1.isSome)
      && decide ((e :: es).length + ([] : List Keyword).length + (if ([] : List Keyword).isEmpty then 0 else 1) < 30)) = true := by rfl)
    (hline : (apos.endLine == cpos.line) = true := by rfl) (hs : starEach (e :: es) X.env = (false, eval e X.env) :: starEach es X.env := by rfl) (hplain : (backTo cpos (starEach es X.env)).any (·.1) = false := by rfl) :
    PE X (.Call (.Attribute o name apos) (e :: es) [] cpos) (tBM K T r to t) := by
  subst hK; exact pe_bm pa slot hty hm ho ha hbase hfew hline hs hplain
end
/-! dicts of the top whose keys are texts and whose values are plain -/
inductive DEntV (w : World) : List DictEntry → List (Str × V) → Prop
  | nil : DEntV w [] []
  | cons {e : DictEntry} {es : List DictEntry} {k : Str} {v : V} {ps : List (Str × V)} {t : Tok} : e.key = .str k t → e.hash = hashStr w k → RelV v e.val → DEntV w es ps → DEntV w (e :: es) ((k, v) :: ps)
def valKV (ps : List (Str × V)) : List (Key × V) := ps.map fun p => (.inr p.1, p.2)
theorem DEntV.pairs {P : Program} {w : World} : ∀ {es : List DictEntry} {ps : List (Str × V)}, DEntV w es ps → ∃ vs : List (Key × Value), KV (valKV ps) vs ∧ PySem.Pairs (mixKind P w) es vs ∧ vs.map (·.1) = ps.map (fun p => (Sum.inr p.1 : Key)) ∧ ∀ e ∈ es, ∃ k : Key, (mixKind P w).is k e.key = true ∧ e.hash = (mixKind P w).hash k
  | _, _, .nil => ⟨[], .nil, .nil, rfl, fun _ h => by cases h⟩
  | _, _, .cons (e := e0) (k := k) (v := v) (t := t) hk hh hv r => by
    obtain ⟨vs, a, b, c, d⟩ := DEntV.pairs (P := P) r
    refine ⟨(.inr k, e0.val) :: vs, .cons ⟨rfl, hv⟩ a, .cons (by rw [hk]; exact mixKind_str P w k t) rfl b, by rw [List.map_cons, c]; rfl, fun e he => ?_⟩
    rcases List.mem_cons.mp he with rfl | he
    · exact ⟨.inr k, by rw [hk]; exact mixKind_str P w k t, hh⟩
    · exact d e he
theorem HasDct.mkV {P : Program} {w : World} {K : PySem.W.Frag} {x : Str} {ps : List (Str × V)} {a : Addr} {es : Array DictEntry} {ep : Nat} (h : PySem.W.nsIn K mainGlobals x = some (some (.ref a)))
    (b : K.lookup a = some { cls := .type "dict", data := .dict es ep }) (hs : (a == sysModules) = false) (c : DEntV w es.toList ps) (nd : (ps.map (·.1)).Nodup) : HasDct P w K x (valKV ps) := by
  obtain ⟨vs, v1, v2, v3, v4⟩ := DEntV.pairs (P := P) c
  refine ⟨a, h, hs, vs, v1, fun hh hK => ⟨_, es, ep, hK a _ b, ⟨rfl, rfl, rfl⟩, rfl, fun e he => v4 e (Array.mem_toList_iff.mpr he), v2, ?_⟩⟩
  rw [v3]
  have : ps.map (fun p => (Sum.inr p.1 : Key)) = (ps.map (·.1)).map Sum.inr := by rw [List.map_map]; rfl
  rw [this]
  exact nodup_inr nd
theorem dtAll_int {K : PySem.W.Frag} {H : Hp} : ∀ {is : List Int} {ws : List V}, DtAll K H ws (is.map PyData.int) → ws = is.map V.int
  | [], _, h => by cases h.nil_inv; rfl
  | i :: r, _, h => by
    obtain ⟨y, ws, rfl, h1, h2⟩ := h.cons_inv
    cases h1.int_inv
    rw [dtAll_int h2]; rfl
theorem cut_one (x : V) (xs : List V) : cutV (x :: xs) (some 1) none = xs := by
  unfold cutV
  rw [show (some (1 : Int)) = some ((1 : Nat) : Int) from rfl, HT.sIx_nat, HT.sIx_none, Nat.min_eq_left (by simp)]
  simp
theorem tx_take (js : List Nat) (n : Nat) : cutS (tx js) none (some (n : Int)) = tx (js.take n) := by
  unfold cutS
  rw [tx_len, HT.sIx_nat, HT.sIx_none]
  show (⟨(((js.map ch).drop 0).take (min n js.length - 0)).toArray⟩ : Str) = ⟨((js.take n).map ch).toArray⟩
  rw [List.drop_zero, Nat.sub_zero, List.map_take]
  congr 2
  by_cases h : n ≤ js.length
  · rw [Nat.min_eq_left h]
  · rw [Nat.min_eq_right (by omega), List.take_of_length_le (by simp), List.take_of_length_le (by simp; omega)]
theorem tx_drop (js : List Nat) (n : Nat) : cutS (tx js) (some (n : Int)) none = tx (js.drop n) := by
  unfold cutS
  rw [tx_len, HT.sIx_nat, HT.sIx_none]
  show (⟨(((js.map ch).drop (min n js.length)).take (js.length - min n js.length)).toArray⟩ : Str) = ⟨((js.drop n).map ch).toArray⟩
  rw [List.map_drop]
  congr 2
  by_cases h : n ≤ js.length
  · rw [Nat.min_eq_left h, List.take_of_length_le (by simp)]
  · rw [Nat.min_eq_right (by omega), List.drop_of_length_le (by simp), List.drop_of_length_le (by simp; omega)]; simp
def rLenK (K : PySem.W.Frag) : List V → Hp → VK → Prop := fun xs H Q => ∃ x n, xs = [x] ∧ LenV K x H n ∧ Q (.int (n : Nat)) H
theorem call_lenK {X : Cx} {K : PySem.W.Frag} (hK : X.K = K) : CallR X (.builtin "len") (rLenK K) := by subst hK; exact call_len
end LK

set_option Elab.async false
set_option linter.all false
set_option maxRecDepth 100000
set_option maxHeartbeats 4000000
/-! rows: texts by their codes, tuples of data; cut, joined, their length -/
namespace LK
open PySem PySem.Spec PyProof.Rows L2 SX
inductive RowD where
  | txt (cs : List Nat)
  | tup (ds : List PyData)
namespace RowD
def d : RowD → PyData
  | txt cs => .str (S cs)
  | tup ds => .tuple ds
def len : RowD → Nat
  | txt cs => cs.length
  | tup ds => ds.length
end RowD
/-- xs[lo:hi] -/
def cutG {α : Type} (xs : List α) (lo hi : Option Int) : List α := (xs.drop (HT.sIx xs.length 0 lo)).take (HT.sIx xs.length xs.length hi - HT.sIx xs.length 0 lo)
def RowD.cut (r : RowD) (lo hi : Option Int) : RowD := match r with
  | .txt cs => .txt (cutG cs lo hi)
  | .tup ds => .tup (cutG ds lo hi)
theorem cutG_nat {α : Type} (xs : List α) {i j : Nat} (hi : i ≤ xs.length) (hj : j ≤ xs.length) : cutG xs (some (i : Int)) (some (j : Int)) = (xs.drop i).take (j - i) := by
  unfold cutG
  rw [HT.sIx_nat, HT.sIx_nat, Nat.min_eq_left hi, Nat.min_eq_left hj]
theorem cutG_to {α : Type} (xs : List α) {j : Nat} (hj : j ≤ xs.length) : cutG xs none (some (j : Int)) = xs.take j := by
  unfold cutG
  rw [HT.sIx_none, HT.sIx_nat, Nat.min_eq_left hj, List.drop_zero, Nat.sub_zero]
theorem cutG_from {α : Type} (xs : List α) {j : Nat} (hj : j ≤ xs.length) : cutG xs (some (j : Int)) none = xs.drop j := by
  unfold cutG
  rw [HT.sIx_none, HT.sIx_nat, Nat.min_eq_left hj]
  exact List.take_of_length_le (by rw [List.length_drop]; omega)
theorem DtAll.drop {K : PySem.W.Frag} {H : Hp} : ∀ {vs : List V} {ds : List PyData} (n : Nat), DtAll K H vs ds → DtAll K H (vs.drop n) (ds.drop n)
  | _, _, 0, h => h
  | _, _, _ + 1, .nil => .nil
  | _, _, n + 1, .cons _ t => t.drop n
theorem DtAll.takeN {K : PySem.W.Frag} {H : Hp} : ∀ {vs : List V} {ds : List PyData} (n : Nat), DtAll K H vs ds → DtAll K H (vs.take n) (ds.take n)
  | _, _, 0, _ => by rw [List.take_zero, List.take_zero]; exact .nil
  | _, _, _ + 1, .nil => .nil
  | _, _, n + 1, .cons h t => .cons h (t.takeN n)
theorem DtAll.cutG {K : PySem.W.Frag} {H : Hp} {vs : List V} {ds : List PyData} (h : DtAll K H vs ds) (lo hi : Option Int) : DtAll K H (cutV vs lo hi) (cutG ds lo hi) := by
  unfold cutV LK.cutG
  rw [h.length]
  exact DtAll.takeN _ (h.drop _)
theorem cutS_G (cs : List Nat) (lo hi : Option Int) : cutS (S cs) lo hi = S (cutG cs lo hi) := by
  unfold cutS cutG
  rw [S_len]
section
variable {X : Cx}
def rSlR (K : PySem.W.Frag) : V → Option Int → Option Int → Hp → VK → Prop := fun x lo hi H Q => ∃ r : RowD, Dt K H x r.d ∧ r.len ≤ 2000 ∧ ∀ v H', Same H H' → Dt K H' v (r.cut lo hi).d → Q v H'
theorem sl_row : SlR X (rSlR X.K) := by
  intro pins s σ H x v vl vu lo hi sl Q I rx hs pl pu h
  obtain ⟨r, dr, hn, q⟩ := h
  cases r with
  | txt cs =>
    cases dr.str_inv
    refine sl_str pins s σ H _ v vl vu _ _ sl Q I rx hs pl pu ⟨_, rfl, by rw [S_len]; exact Nat.le_trans hn (by decide), q _ _ (Same.refl _) ?_⟩
    rw [cutS_G]
    exact .str _
  | tup ds =>
    obtain ⟨p, xs, rfl, hq, ax⟩ := dr.tuple_inv
    have lx := ax.length
    refine sl_tupA pins s σ H _ v vl vu _ _ sl Q I rx hs pl pu ⟨p, xs, rfl, hq, fun hw => ?_, fun _ z hz => ?_⟩
    · refine q _ _ (Same.refl _) ?_
      rw [lx] at hw
      show Dt _ _ _ (PyData.tuple (cutG ds lo hi))
      unfold cutG
      rw [hw.1, hw.2, List.drop_zero, Nat.sub_zero, List.take_length]
      exact dr
    · exact q _ _ (Same.new hz) (Dt.made hz (ax.cutG lo hi))
/-- len(a), a row -/
def rLenR (K : PySem.W.Frag) : List V → Hp → VK → Prop := fun vs H Q => ∃ (v : V) (r : RowD), vs = [v] ∧ Dt K H v r.d ∧ r.len ≤ 2000 ∧ Q (.int (r.len : Int)) H
theorem call_lenR : CallR X (.builtin "len") (rLenR X.K) := by
  intro pins s σ H xs us Q I r h
  obtain ⟨v, rw', rfl, da, hn, q⟩ := h
  cases rw' with
  | txt cs =>
    cases da.str_inv
    exact call_len pins s σ H _ us Q I r ⟨_, cs.length, rfl, ⟨by rw [S_len]; exact Nat.le_trans hn (by decide), (S_len _).symm⟩, q⟩
  | tup ds =>
    obtain ⟨p, ys, rfl, hq, ax⟩ := da.tuple_inv
    exact call_len pins s σ H _ us Q I r ⟨_, ds.length, rfl, .inr ⟨_, hq, ax.length.symm⟩, q⟩
/-- x + y, tuples of data -/
def rCatTD (K : PySem.W.Frag) : R2 := fun x y H Q => ∃ ds es : List PyData, Dt K H x (.tuple ds) ∧ Dt K H y (.tuple es) ∧ ds.length + es.length ≤ 2000 ∧ ∀ v H', Same H H' → Dt K H' v (.tuple (ds ++ es)) → Q v H'
theorem op_catTD : OpR X (binaryOp .Add) (rCatTD X.K) := by
  intro pins s σ H x y v u Q I rx ry h
  obtain ⟨ds, es, dx, dy, hz, q⟩ := h
  obtain ⟨a, xs, rfl, ha, ax⟩ := dx.tuple_inv
  obtain ⟨b, ys, rfl, hb, ay⟩ := dy.tuple_inv
  have lx := ax.length
  have ly := ay.length
  refine op_catA pins s σ H _ _ v u Q I rx ry ⟨a, b, xs, ys, rfl, rfl, ha, hb, by rw [lx, ly]; exact Nat.le_trans hz (by decide), fun e => ?_, fun _ e => ?_, fun _ _ p hp => ?_⟩
  · subst e
    cases ax
    exact q _ _ (Same.refl _) dy
  · subst e
    cases ay
    rw [List.append_nil] at q
    exact q _ _ (Same.refl _) dx
  · exact q _ _ (Same.new hp) (Dt.made hp (DtAll.app ax ay))
end
end LK

set_option Elab.async false
set_option linter.all false
set_option maxRecDepth 100000
set_option maxHeartbeats 4000000
set_option exponentiation.threshold 3000
namespace K26
open PySem PySem.Spec PyProof.Rows L2 LK SX
def HasDone (K : PySem.W.Frag) : Prop := ∃ a b, PySem.W.nsIn K mainGlobals "DONE" = some (some (.ref a)) ∧ KTup K a [.str "ok", .ref b] ∧ KTup K b [.str "none"]
theorem HasDone.mk' {K : PySem.W.Frag} {a b : Addr} {od od2 : Option Addr} {its its2 : Array Value} {n n2 : Nat} {sl sl2 : Array (Option Value)} (h : PySem.W.nsIn K mainGlobals "DONE" = some (some (.ref a)))
    (e1 : K.lookup a = some ⟨.type "tuple", od, .seq its n, sl⟩) (z1 : its.size ≤ sizeLine) (v1 : Vals [.str "ok", .ref b] its.toList) (e2 : K.lookup b = some ⟨.type "tuple", od2, .seq its2 n2, sl2⟩) (z2 : its2.size ≤ sizeLine) (v2 : Vals [.str "none"] its2.toList) : HasDone K :=
  ⟨a, b, h, ⟨od, its, n, sl, e1, z1, v1⟩, ⟨od2, its2, n2, sl2, e2, z2, v2⟩⟩
theorem HasDone.g {K : PySem.W.Frag} {mg : Str → Option Value} {h : Heap} (D : HasDone K) (X : K.In h) (G : h.Ns mainGlobals mg) : ∃ a b, mg "DONE" = some (.ref a) ∧ KTup K a [.str "ok", .ref b] ∧ KTup K b [.str "none"] := by
  obtain ⟨a, b, e, k⟩ := D
  exact ⟨a, b, PySem.W.mg_of X G e, k⟩
def top (i : Nat) : Stmt := PySem.Challenge.pw_pyhold_k26_items_and_slices.main.body.getD i (.Pass ⟨0, 0, 0, 0⟩)
structure Txt (K : PySem.W.Frag) (mg : Str → Option Value) : Prop where
  c_INDEX_ERROR : GInt mg "INDEX_ERROR" 6
  c_KEY_ERROR : GInt mg "KEY_ERROR" 7
  c_TYPE_ERROR : GInt mg "TYPE_ERROR" 10
  c_DONE : ∃ a b, mg "DONE" = some (.ref a) ∧ KTup K a [.str "ok", .ref b] ∧ KTup K b [.str "none"]
  b_len : mg "len" = none
  b_int : mg "int" = none
  b_repr : mg "repr" = none
  b_range : mg "range" = none
  b_list : mg "list" = none
  b_tuple : mg "tuple" = none
  b_max : mg "max" = none
  b_min : mg "min" = none
abbrev s_law_cell : Stmt := top 44
abbrev N_law_cell : List Str := ["script", "k"]
abbrev P_law_cell : List Str := ["script", "k"]
theorem sc_law_cell : FnScope N_law_cell P_law_cell (defScope s_law_cell) := ⟨rfl, rfl, rfl, by decide +kernel, rfl, by decide +kernel, by decide +kernel⟩
abbrev s_law_digits : Stmt := top 45
abbrev N_law_digits : List Str := ["script", "first", "last", "digits", "k", "cell", "turn", "seed"]
abbrev P_law_digits : List Str := ["script", "first", "last"]
theorem sc_law_digits : FnScope N_law_digits P_law_digits (defScope s_law_digits) := ⟨rfl, rfl, rfl, by decide +kernel, rfl, by decide +kernel, by decide +kernel⟩
abbrev s_law_draw : Stmt := top 46
abbrev N_law_draw : List Str := ["box", "many", "at"]
abbrev P_law_draw : List Str := ["box", "many"]
theorem sc_law_draw : FnScope N_law_draw P_law_draw (defScope s_law_draw) := ⟨rfl, rfl, rfl, by decide +kernel, rfl, by decide +kernel, by decide +kernel⟩
section
variable {P : Program} {w : World} {K : PySem.W.Frag} {mg : Str → Option Value} {base : Heap}
theorem ok_draw {f : Addr} {fd : FuncData} (F : Fun K "_law_draw" "_law_draw" s_law_draw f fd) (T : Txt K mg) : FnG P w K mg base CX0 1 f fd P_law_draw (spDraw K) := by
  refine okG0 F sc_law_draw (fun vs H Q E h => ?_) fun cdv A outer s H vs Q E hr hg h => ?_
  · obtain ⟨p, dl, m, rfl, _⟩ := h
    rfl
  · obtain ⟨p, dl, m, rfl, B, hm, k⟩ := h
    obtain ⟨ds, n, hp, hn, hd, hl, hds⟩ := id B
    refine ⟨_, (pss_cons (ps_set (i := 2) sc_law_draw.nd rfl (Or.inl rfl) (pe_ix ix_list (pv 0) pe_int (fun _ _ => rfl)))
  (pss_cons (ps_asg (pe_op op_add (pv 2) pe_int) (pg_sub (pv 0) pe_int set_list))
  (pss_cons (ps_if (pt_cmpR op_lt (pv 2) (pe_callB call_len (by rfl) T.b_len PySem.boot_len (pa_cons (pe_ix ix_list (pv 0) pe_int (fun _ _ => rfl)) pa_nil)) (nomark _))
   (pss_one (ps_ret (pe_op op_mod (pe_callTy call_int1 (by rfl) T.b_int (by decide +kernel) (pa_cons (pe_ix ix_list (pe_ix ix_list (pv 0) pe_int (fun _ _ => rfl)) (pv 2) (fun _ _ => rfl)) pa_nil)) (pv 1))))
   pss_nil)
  (pss_one (ps_ret pe_int))))), ?_⟩
    -- at = box[1]; box[1] = at + 1
    refine ⟨_, rfl, p, _, _, _, rfl, rfl, SqL.of hp, rfl, ?_⟩
    refine ⟨_, rfl, _, _, rfl, rfl, _, rfl, p, _, _, _, rfl, rfl, hp, rfl, ?_⟩
    have npd : dl ≠ p := by
      intro e
      subst e
      rw [hp] at hd
      have e := HO.lst.inj (Option.some.inj hd)
      cases ds with
      | nil => cases e
      | cons d ds => cases (List.cons.inj e).1
    have B' : BoxAt (upd H p (.lst [.ref dl, .int (n + 1)])) p dl := ⟨ds, n + 1, upd_same, by omega, by rw [upd_ne npd]; exact hd, hl, hds⟩
    have kp : Keep p H (upd H p (.lst [.ref dl, .int (n + 1)])) := fun b o e hb => by rw [upd_ne hb]; exact e
    have hd' : upd H p (.lst [.ref dl, .int (n + 1)]) dl = some (.lst (ds.map V.int)) := by rw [upd_ne npd]; exact hd
    -- if at < len(box[0])
    refine ⟨_, rfl, _, rfl, p, _, _, _, rfl, rfl, SqL.of upd_same, rfl, _, _, rfl, .inl ⟨_, SqL.of hd', rfl⟩, ?_⟩
    refine ⟨_, _, rfl, rfl, _, rfl, ?_⟩
    refine ite2 (fun c => ?_) fun c => ?_
    · have c1 : n < (ds.length : Int) := by simpa using c
      have c2 : n.toNat < ds.length := by omega
      have mem := hds _ (List.getElem_mem c2)
      refine ⟨_, rfl, p, _, _, _, rfl, rfl, SqL.of upd_same, rfl, _, rfl, dl, _, _, .int ds[n.toNat], rfl, rfl, SqL.of hd', ?_, .inl ⟨_, rfl, ?_⟩⟩
      · have e : n = ((n.toNat : Nat) : Int) := by omega
        exact at_of e (by simp [c2])
      · refine ⟨_, rfl, _, _, rfl, rfl, hm, ?_⟩
        exact k _ _ (Int.emod_nonneg _ (by omega)) (Int.emod_lt_of_pos _ hm) B' kp
    · exact k 0 _ (Int.le_refl 0) hm B' kp
theorem ok_cell {f : Addr} {fd : FuncData} (F : Fun K "_law_cell" "_law_cell" s_law_cell f fd) (T : Txt K mg) : FnG P w K mg base CX0 1 f fd P_law_cell (spCell K) := by
  refine okG0 F sc_law_cell (fun vs H Q E h => ?_) fun cdv A outer s H vs Q E hr hg h => ?_
  · obtain ⟨a, ns, i, rfl, _⟩ := h
    rfl
  · obtain ⟨a, ns, i, rfl, hs, hi, k⟩ := h
    refine ⟨_, (pss_cons (ps_if (pt_cmpR op_lt (pv 1) (pe_callB call_len (by rfl) T.b_len PySem.boot_len (pa_cons (pv 0) pa_nil)) (nomark _))
   (pss_one (ps_ret (pe_ix ix_list (pv 0) (pv 1) (fun _ _ => rfl))))
   pss_nil)
  (pss_one (ps_ret pe_int))), ?_⟩
    refine ⟨_, rfl, _, rfl, _, _, rfl, .inl ⟨_, hs, rfl⟩, _, _, rfl, rfl, _, rfl, ?_⟩
    refine ite3 (fun c => ?_) fun _ => k 0
    have c1 : i < (ns.length : Int) := by simpa using c
    have c2 : i.toNat < ns.length := by omega
    exact ⟨_, rfl, _, rfl, a, _, _, .int ns[i.toNat], rfl, rfl, hs, at_of (show i = ((i.toNat : Nat) : Int) by omega) (by simp [c2]), k _⟩
theorem ok_digits {f : Addr} {fd : FuncData} (F : Fun K "_law_digits" "_law_digits" s_law_digits f fd) (T : Txt K mg) (U_law_cell : Use P w K mg base CX0 "_law_cell" 1 P_law_cell (spCell K)) : FnG P w K mg base CX0 2 f fd P_law_digits (spDigits K) := by
  refine okG0 F sc_law_digits (fun vs H Q E h => ?_) fun cdv A outer s H vs Q E hr hg h => ?_
  · obtain ⟨a, ns, lo, hi, rfl, _⟩ := h
    rfl
  · obtain ⟨a, ns, lo, hi, rfl, hs, hlo, hhi, k⟩ := h
    refine ⟨_, (pss_cons (ps_set (i := 3) sc_law_digits.nd rfl (Or.inl rfl) (pe_lst pa_nil))
  (pss_cons (ps_for PassesOwn.never rfl (pi_range2 (by rfl) T.b_range (pa_cons (pv 1) (pa_cons (pv 2) pa_nil))) (pg_name (i := 4) sc_law_digits.nd rfl (Or.inl rfl))
   (pss_cons (ps_set (i := 5) sc_law_digits.nd rfl (Or.inl rfl) (pe_use U_law_cell (hr.mono (by decide)) hg rfl (pa_cons (pv 0) (pa_cons (pv 4) pa_nil))))
  (C8.pss_cut (ps_if (pt_cmpR op_lt (pv 5) pe_int (nomark _))
   (pss_one (ps_set (i := 5) sc_law_digits.nd rfl (Or.inl rfl) (pe_op op_sub pe_int (pe_op op_mul pe_int (pv 5)))))
   pss_nil)
  (pss_one (ps_if (pt_cmpR op_ge (pv 5) (pe_op op_pow pe_int pe_int) (nomark _))
   (pss_one (ps_for PassesOwn.never rfl (pi_range1 (by rfl) T.b_range (pa_cons pe_int pa_nil)) (pg_name (i := 6) sc_law_digits.nd rfl (Or.inl rfl))
   (pss_one (ps_if (pt_cmpR op_gt (pv 5) pe_int (nomark _))
   (pss_cons (ps_expr (pe_bm PySem.F.plainAttrs_list PySem.F.slot_list_append PySem.F.type_list_append mt_append (pv 3) (pa_cons (pe_op op_mod (pe_callTy call_int1 (by rfl) T.b_int (by decide +kernel) (pa_cons (pv 5) pa_nil)) pe_int) pa_nil)))
  (pss_one (ps_set (i := 5) sc_law_digits.nd rfl (Or.inl rfl) (pe_op op_fdiv (pv 5) pe_int))))
   pss_nil))))
   (pss_cons (ps_set (i := 7) sc_law_digits.nd rfl (Or.inl rfl) (pe_op op_mod (pe_callTy call_int1 (by rfl) T.b_int (by decide +kernel) (pa_cons (pe_op op_add (pe_op op_add (pe_op op_mul (pv 5) pe_int) (pe_op op_mul (pv 4) pe_int)) pe_int) pa_nil)) pe_int))
  (pss_one (ps_for PassesOwn.never rfl (pi_range1 (by rfl) T.b_range (pa_cons pe_int pa_nil)) (pg_name (i := 6) sc_law_digits.nd rfl (Or.inl rfl))
   (pss_cons (ps_set (i := 7) sc_law_digits.nd rfl (Or.inl rfl) (pe_op op_mod (pe_callTy call_int1 (by rfl) T.b_int (by decide +kernel) (pa_cons (pe_op op_add (pe_op op_add (pe_op op_mul (pv 7) pe_int) (pe_op op_mul pe_int (pv 6))) pe_int) pa_nil)) pe_int))
  (pss_one (ps_expr (pe_bm PySem.F.plainAttrs_list PySem.F.slot_list_append PySem.F.type_list_append mt_append (pv 3) (pa_cons (pe_op op_mod (pe_callTy call_int1 (by rfl) T.b_int (by decide +kernel) (pa_cons (pe_op op_fdiv (pv 7) pe_int) pa_nil)) pe_int) pa_nil)))))))))))))
  (pss_one (ps_ret (pv 3))))), ?_⟩
    refine ⟨by decide, fun dl nd => ?_⟩
    have sz : (4000 : Nat) < sizeLine := by decide
    -- for k in range(first, last)
    refine ⟨_, rfl, _, rfl, _, _, rfl, ⟨by omega, by omega, by omega, by omega⟩, ?_⟩
    refine for_range (lo := (lo : Int)) (n := ((hi : Int) - (lo : Int)).toNat) (fun i σ H1 => ∃ x5 x6 x7 x4, σ = [some (.ref a), some (.int lo), some (.int hi), some (.ref dl), x4, x5, x6, x7] ∧ DigAt H H1 dl (60 * i)) ?_ ?_ ?_
    · exact ⟨none, none, none, none, rfl, [], upd_same, by simp, by simp, Same.new nd⟩
    · rintro i σ H1 hi' ⟨x5, x6, x7, x4, rfl, D⟩
      have S1 : Same H H1 := let ⟨_, _, _, _, z⟩ := D; z
      -- cell = _law_cell(script, k)
      refine ⟨_, rfl, _, rfl, a, ns, _, rfl, S1.seq hs, by omega, fun cell => ?_⟩
      -- if cell < 0: cell = 1 - 2 * cell
      refine ⟨fun σ H2 => ∃ c : Int, σ = [some (.ref a), some (.int lo), some (.int hi), some (.ref dl), some (.int ((lo : Int) + i)), some (.int c), x6, x7] ∧ H2 = H1, ?_, ?_⟩
      · refine ⟨_, rfl, _, _, rfl, rfl, _, rfl, ?_⟩
        refine ite3 (fun _ => ?_) fun _ => ⟨cell, rfl, rfl⟩
        exact ⟨_, rfl, _, _, rfl, rfl, .inl ⟨by decide, by decide⟩, _, _, rfl, rfl, _, rfl, rfl⟩
      · rintro _ _ ⟨c, rfl, rfl⟩
        -- if cell >= 10 ** 18
        refine ⟨_, rfl, _, _, rfl, rfl, ⟨by decide, by decide, by decide⟩, _, _, rfl, rfl, _, rfl, ?_⟩
        refine ite3 (fun hc => ?_) fun hc => ?_
        · refine ⟨_, rfl, by decide, by decide, ?_⟩
          refine for_range (lo := 0) (n := 60) (fun j σ H1 => ∃ (c : Int) (y6 : Option V), σ = [some (.ref a), some (.int lo), some (.int hi), some (.ref dl), some (.int ((lo : Int) + i)), some (.int c), y6, x7] ∧ DigAt H H1 dl (60 * i + j)) ⟨c, x6, rfl, D⟩ ?_ ?_
          · rintro j σ H2 hj ⟨c, y6, rfl, D2⟩
            obtain ⟨ds, hd, hl, _⟩ := id D2
            refine ⟨_, rfl, _, _, rfl, rfl, _, rfl, ?_⟩
            refine ite3 (fun hp => ?_) fun _ => ⟨c, _, rfl, D2.mono (by omega)⟩
            have hp : 0 < c := by simpa using hp
            refine ⟨_, rfl, .inl ⟨rfl, _, SqL.of hd⟩, _, rfl, .inl ⟨_, rfl, _, _, rfl, rfl, (by show (0 : Int) < 1000; decide), dl, _, _, rfl, rfl, hd, (by simp; omega), ?_⟩⟩
            refine ⟨_, rfl, _, _, rfl, rfl, ⟨by decide, by decide⟩, ?_⟩
            exact ⟨_, _, rfl, D2.add hd nd (Int.emod_nonneg _ (by decide)) (Int.emod_lt_of_pos _ (by decide))⟩
          · rintro σ H2 ⟨c, y6, rfl, D2⟩
            exact ⟨_, _, _, _, rfl, D2.mono (by omega)⟩
        · refine ⟨_, rfl, _, _, rfl, rfl, .inr ⟨by decide, by decide⟩, _, rfl, _, _, rfl, rfl, .inr ⟨by decide, by decide⟩, _, _, rfl, rfl, _, _, rfl, rfl, .inl ⟨_, rfl, _, _, rfl, rfl, (by show (0 : Int) < 2147483647; decide), ?_⟩⟩
          refine ⟨_, rfl, by decide, by decide, ?_⟩
          refine for_range (lo := 0) (n := 12) (fun j σ H1 => ∃ (sd : Int) (y6 : Option V), σ = [some (.ref a), some (.int lo), some (.int hi), some (.ref dl), some (.int ((lo : Int) + i)), some (.int c), y6, some (.int sd)] ∧ DigAt H H1 dl (60 * i + j)) ⟨_, x6, rfl, D⟩ ?_ ?_
          · rintro j σ H2 hj ⟨sd, y6, rfl, D2⟩
            obtain ⟨ds, hd, hl, _⟩ := id D2
            refine ⟨_, rfl, _, _, rfl, rfl, .inr ⟨by decide, by decide⟩, _, rfl, _, _, rfl, rfl, .inl ⟨by decide, by decide⟩, _, _, rfl, rfl, _, _, rfl, rfl, .inl ⟨_, rfl, _, _, rfl, rfl, (by show (0 : Int) < 2147483647; decide), ?_⟩⟩
            refine ⟨_, rfl, .inl ⟨rfl, _, SqL.of hd⟩, _, rfl, _, _, rfl, rfl, ⟨by decide, by decide⟩, .inl ⟨_, rfl, _, _, rfl, rfl, (by show (0 : Int) < 1000; decide), dl, _, _, rfl, rfl, hd, (by simp; omega), ?_⟩⟩
            exact ⟨_, _, rfl, D2.add hd nd (Int.emod_nonneg _ (by decide)) (Int.emod_lt_of_pos _ (by decide))⟩
          · rintro σ H2 ⟨sd, y6, rfl, D2⟩
            exact ⟨_, _, _, _, rfl, D2.mono (by omega)⟩
    · rintro σ H1 ⟨x5, x6, x7, x4, rfl, D⟩
      exact ⟨_, rfl, k dl H1 nd (D.mono (by omega))⟩
end

abbrev s_law_same : Stmt := top 49
abbrev N_law_same : List Str := ["actual", "due"]
abbrev P_law_same : List Str := ["actual", "due"]
theorem sc_law_same : FnScope N_law_same P_law_same (defScope s_law_same) := ⟨rfl, rfl, rfl, by decide +kernel, rfl, by decide +kernel, by decide +kernel⟩
section
variable {P : Program} {w : World} {K : PySem.W.Frag} {mg : Str → Option Value} {base : Heap}
theorem ok_same {f : Addr} {fd : FuncData} (F : Fun K "_law_same" "_law_same" s_law_same f fd) (T : Txt K mg) : FnG P w K mg base CX0 1 f fd P_law_same (spSame K) := by
  refine okG0 F sc_law_same (fun vs H Q E h => ?_) fun cdv A outer s H vs Q E hr hg h => ?_
  · obtain ⟨x, y, d, rfl, _⟩ := h
    rfl
  · obtain ⟨x, y, d, rfl, hx, hy, hs, k⟩ := h
    refine ⟨_, (pss_one (ps_ret (pe_cmpR op_eq (pe_callB (call_repr_data hg hr.units) (by rfl) T.b_repr (by decide +kernel) (pa_cons (pv 0) pa_nil)) (pe_callB (call_repr_data hg hr.units) (by rfl) T.b_repr (by decide +kernel) (pa_cons (pv 1) pa_nil)) (nomark _)))), ?_⟩
    refine ⟨_, rfl, _, d, rfl, hx, hs, _, rfl, _, d, rfl, hy, hs, rfl, ?_⟩
    rw [decide_eq_true rfl]
    exact k
end

abbrev s_is_number : Stmt := top 10
abbrev N_is_number : List Str := ["value"]
abbrev P_is_number : List Str := ["value"]
theorem sc_is_number : FnScope N_is_number P_is_number (defScope s_is_number) := ⟨rfl, rfl, rfl, by decide +kernel, rfl, by decide +kernel, by decide +kernel⟩
abbrev s_object_kind : Stmt := top 11
abbrev N_object_kind : List Str := ["heap", "value"]
abbrev P_object_kind : List Str := ["heap", "value"]
theorem sc_object_kind : FnScope N_object_kind P_object_kind (defScope s_object_kind) := ⟨rfl, rfl, rfl, by decide +kernel, rfl, by decide +kernel, by decide +kernel⟩
abbrev s_row_kind : Stmt := top 12
abbrev N_row_kind : List Str := ["heap", "value", "kind"]
abbrev P_row_kind : List Str := ["heap", "value"]
theorem sc_row_kind : FnScope N_row_kind P_row_kind (defScope s_row_kind) := ⟨rfl, rfl, rfl, by decide +kernel, rfl, by decide +kernel, by decide +kernel⟩
abbrev s_row_of : Stmt := top 13
abbrev N_row_of : List Str := ["heap", "value"]
abbrev P_row_of : List Str := ["heap", "value"]
theorem sc_row_of : FnScope N_row_of P_row_of (defScope s_row_of) := ⟨rfl, rfl, rfl, by decide +kernel, rfl, by decide +kernel, by decide +kernel⟩
abbrev s_made_row : Stmt := top 14
abbrev N_made_row : List Str := ["heap", "kind", "row"]
abbrev P_made_row : List Str := ["heap", "kind", "row"]
theorem sc_made_row : FnScope N_made_row P_made_row (defScope s_made_row) := ⟨rfl, rfl, rfl, by decide +kernel, rfl, by decide +kernel, by decide +kernel⟩
section
variable {P : Program} {w : World} {K : PySem.W.Frag} {mg : Str → Option Value} {base : Heap}
/-! kinds -/
def spIsNum (K : PySem.W.Frag) : Sp := fun vs H Q _ => ∃ (v : V) (z : Str) (rest : List PyData), vs = [v] ∧ Dt K H v (.tuple (.str z :: rest)) ∧ ∀ H', Same H H' → Q (.bl (inV (V.str z) [V.str "int", V.str "bool"])) H'
theorem ok_isnum {f : Addr} {fd : FuncData} (F : Fun K "is_number" "is_number" s_is_number f fd) (T : Txt K mg) : FnG P w K mg base CX0 1 f fd P_is_number (spIsNum K) := by
  refine okG0 F sc_is_number (fun vs H Q E h => ?_) fun cdv A outer s H vs Q E hr hg h => ?_
  · obtain ⟨v, z, r, rfl, _⟩ := h
    rfl
  · obtain ⟨v, z, r, rfl, hd, k⟩ := h
    obtain ⟨q, ws, rfl, hs, _⟩ := hd.head
    refine ⟨_, (pss_one (ps_ret (pe_cmpR op_in_seq (pe_ix ix_tup (pv 0) pe_int (fun _ _ => rfl)) (pe_tup (pa_cons pe_str (pa_cons pe_str pa_nil))) (by rfl)))), ?_⟩
    exact ⟨_, rfl, q, _, _, .str z, rfl, rfl, hs, at0, sz_2, fun u hu => ⟨u, _, rfl, .inr (SqT.of upd_same), rfl, rfl, k _ (Same.new hu)⟩⟩
inductive KindIs (hds : List PyData) : PyData → Str → Prop
  | plain {z : Str} {rest : List PyData} : V.str z ≠ V.str "ref" → KindIs hds (.tuple (.str z :: rest)) ""
  | obj {k : Nat} {kd : Str} {rest : List PyData} : hds[k]? = some (.tuple (.str kd :: rest)) → KindIs hds (.tuple [.str "ref", .int (k : Nat)]) kd
def spKind (K : PySem.W.Frag) : Sp := fun vs H Q _ => ∃ (hp : Addr) (hds : List PyData) (v : V) (d : PyData) (kd : Str), vs = [.ref hp, v] ∧ ListAt K H hp hds ∧ Dt K H v d ∧ KindIs hds d kd ∧ Q (.str kd) H
theorem ok_kind {f : Addr} {fd : FuncData} (F : Fun K "object_kind" "object_kind" s_object_kind f fd) (T : Txt K mg) : FnG P w K mg base CX0 1 f fd P_object_kind (spKind K) := by
  refine okG0 F sc_object_kind (fun vs H Q E h => ?_) fun cdv A outer s H vs Q E hr hg h => ?_
  · obtain ⟨hp, hds, v, d, kd, rfl, _⟩ := h
    rfl
  · obtain ⟨hp, hds, v, d, kd, rfl, ⟨xs, hx, ax⟩, hd, hk, k⟩ := h
    refine ⟨_, (pss_cons (ps_if (pt_cmpR op_ne (pe_ix ix_tup (pv 1) pe_int (fun _ _ => rfl)) pe_str (nomark _))
   (pss_one (ps_ret pe_str))
   pss_nil)
  (pss_one (ps_ret (pe_ix ix_tup (pe_ix ix_list (pv 0) (pe_ix ix_tup (pv 1) pe_int (fun _ _ => rfl)) (fun _ _ => rfl)) pe_int (fun _ _ => rfl))))), ?_⟩
    cases hk with
    | plain hz =>
      obtain ⟨q, ws, rfl, hs, _⟩ := hd.head
      exact ⟨_, rfl, q, _, _, _, rfl, rfl, hs, at0, rfl, _, rfl, iteTb (by rw [decide_eq_false hz]; rfl) k⟩
    | @obj i _ rest hh =>
      obtain ⟨q, y, rfl, hs, h2⟩ := hd.pair
      cases h2.int_inv
      obtain ⟨o, ho, dO⟩ := ax.get hh
      obtain ⟨qo, zs, rfl, hso, _⟩ := dO.head
      refine ⟨_, rfl, q, _, _, _, rfl, rfl, hs, at0, rfl, _, rfl, iteFb (by decide +kernel) ?_⟩
      exact ⟨_, rfl, _, rfl, q, _, _, _, rfl, rfl, hs, at1, hp, _, _, _, rfl, rfl, SqL.of hx, atI_nat ho, qo, _, _, _, rfl, rfl, hso, at0, k⟩
/-! rows -/
def KdIs (t : Bool) (kd : Str) : Prop := (t = true ∧ kd = "text") ∨ (t = false ∧ (kd = "tuple" ∨ kd = "list"))
inductive ValIs (hds : List PyData) : Bool → Str → PyData → PyData → Prop
  | txt {z : Str} : ValIs hds true "text" (.str z) (.tuple [.str "text", .str z])
  | obj {k : Nat} {kd : Str} {rd : PyData} : kd = "tuple" ∨ kd = "list" → hds[k]? = some (.tuple [.str kd, rd]) → ValIs hds false kd rd (.tuple [.str "ref", .int (k : Nat)])
theorem ValIs.kd {hds : List PyData} {t : Bool} {kd : Str} {rd d : PyData} (h : ValIs hds t kd rd d) : KdIs t kd := by
  cases h with
  | txt => exact .inl ⟨rfl, rfl⟩
  | obj e _ => exact .inr ⟨rfl, e⟩
inductive RkIs (hds : List PyData) : PyData → Str → Prop
  | val {t : Bool} {kd : Str} {rd d : PyData} : ValIs hds t kd rd d → RkIs hds d kd
  | oth {z : Str} {rest : List PyData} : V.str z ≠ V.str "text" → V.str z ≠ V.str "ref" → RkIs hds (.tuple (.str z :: rest)) ""
def spRowKind (K : PySem.W.Frag) : Sp := fun vs H Q _ => ∃ (hp : Addr) (hds : List PyData) (v : V) (d : PyData) (kd : Str), vs = [.ref hp, v] ∧ ListAt K H hp hds ∧ Dt K H v d ∧ RkIs hds d kd ∧ ∀ H', Same H H' → Q (.str kd) H'
theorem ok_rowkind {f : Addr} {fd : FuncData} (F : Fun K "row_kind" "row_kind" s_row_kind f fd) (T : Txt K mg) (U_object_kind : Use P w K mg base CX0 "object_kind" 1 P_object_kind (spKind K)) :
    FnG P w K mg base CX0 2 f fd P_row_kind (spRowKind K) := by
  refine okG0 F sc_row_kind (fun vs H Q E h => ?_) fun cdv A outer s H vs Q E hr hg h => ?_
  · obtain ⟨hp, hds, v, d, kd, rfl, _⟩ := h
    rfl
  · obtain ⟨hp, hds, v, d, kd, rfl, L, hd, hk, k⟩ := h
    refine ⟨_, (pss_cons (ps_if (pt_cmpR op_eq (pe_ix ix_tup (pv 1) pe_int (fun _ _ => rfl)) pe_str (nomark _))
   (pss_one (ps_ret pe_str))
   pss_nil)
  (pss_cons (ps_set (i := 2) sc_row_kind.nd rfl (Or.inl rfl) (pe_use U_object_kind (hr.mono (by decide)) hg rfl (pa_cons (pv 0) (pa_cons (pv 1) pa_nil))))
  (pss_cons (ps_if (pt_cmpR op_in_seq (pv 2) (pe_tup (pa_cons pe_str (pa_cons pe_str pa_nil))) (by rfl))
   (pss_one (ps_ret (pv 2)))
   pss_nil)
  (pss_one (ps_ret pe_str))))), ?_⟩
    cases hk with
    | val hv =>
      cases hv with
      | txt =>
        obtain ⟨q, ws, rfl, hs, _⟩ := hd.head
        exact ⟨_, rfl, q, _, _, _, rfl, rfl, hs, at0, rfl, _, rfl, iteTb (by decide +kernel) (k _ (Same.refl _))⟩
      | @obj i _ rd he hh =>
        obtain ⟨q, y, rfl, hs, h2⟩ := hd.pair
        refine ⟨_, rfl, q, _, _, _, rfl, rfl, hs, at0, rfl, _, rfl, iteFb (by decide +kernel) ?_⟩
        refine ⟨_, rfl, _, rfl, hp, hds, _, _, kd, rfl, L, hd, .obj hh, ?_⟩
        refine ⟨_, rfl, sz_2, fun u hu => ⟨u, _, rfl, .inr (SqT.of upd_same), rfl, rfl, _, rfl, ?_⟩⟩
        exact iteTb (by rcases he with rfl | rfl <;> decide +kernel) ⟨_, rfl, k _ (Same.new hu)⟩
    | @oth z rest h1 h2 =>
      obtain ⟨q, ws, rfl, hs, _⟩ := hd.head
      refine ⟨_, rfl, q, _, _, _, rfl, rfl, hs, at0, rfl, _, rfl, iteFb (decide_eq_false h1) ?_⟩
      refine ⟨_, rfl, _, rfl, hp, hds, _, _, _, rfl, L, hd, .plain h2, ?_⟩
      refine ⟨_, rfl, sz_2, fun u hu => ⟨u, _, rfl, .inr (SqT.of upd_same), rfl, rfl, _, rfl, ?_⟩⟩
      exact iteFb (by decide +kernel) (k _ (Same.new hu))
def spRowOf (K : PySem.W.Frag) : Sp := fun vs H Q _ => ∃ (hp : Addr) (hds : List PyData) (v : V) (t : Bool) (kd : Str) (rd d : PyData), vs = [.ref hp, v] ∧ ListAt K H hp hds ∧ Dt K H v d ∧ ValIs hds t kd rd d ∧ ∀ v, Dt K H v rd → Q v H
theorem ok_rowof {f : Addr} {fd : FuncData} (F : Fun K "row_of" "row_of" s_row_of f fd) (T : Txt K mg) : FnG P w K mg base CX0 1 f fd P_row_of (spRowOf K) := by
  refine okG0 F sc_row_of (fun vs H Q E h => ?_) fun cdv A outer s H vs Q E hr hg h => ?_
  · obtain ⟨hp, hds, v, t, kd, rd, d, rfl, _⟩ := h
    rfl
  · obtain ⟨hp, hds, v, t, kd, rd, d, rfl, ⟨xs, hx, ax⟩, hd, hv, k⟩ := h
    refine ⟨_, (pss_cons (ps_if (pt_cmpR op_eq (pe_ix ix_tup (pv 1) pe_int (fun _ _ => rfl)) pe_str (nomark _))
   (pss_one (ps_ret (pe_ix ix_tup (pv 1) pe_int (fun _ _ => rfl))))
   pss_nil)
  (pss_one (ps_ret (pe_ix ix_tup (pe_ix ix_list (pv 0) (pe_ix ix_tup (pv 1) pe_int (fun _ _ => rfl)) (fun _ _ => rfl)) pe_int (fun _ _ => rfl))))), ?_⟩
    cases hv with
    | txt =>
      obtain ⟨q, y, rfl, hs, h1⟩ := hd.pair
      exact ⟨_, rfl, q, _, _, _, rfl, rfl, hs, at0, rfl, _, rfl, iteTb (by decide +kernel) ⟨_, rfl, q, _, _, _, rfl, rfl, hs, at1, k _ h1⟩⟩
    | @obj i _ _ he hh =>
      obtain ⟨q, y, rfl, hs, h2⟩ := hd.pair
      cases h2.int_inv
      obtain ⟨o, ho, dO⟩ := ax.get hh
      obtain ⟨qo, zs, rfl, hso, h3⟩ := dO.pair
      refine ⟨_, rfl, q, _, _, _, rfl, rfl, hs, at0, rfl, _, rfl, iteFb (by decide +kernel) ?_⟩
      exact ⟨_, rfl, _, rfl, q, _, _, _, rfl, rfl, hs, at1, hp, _, _, _, rfl, rfl, SqL.of hx, atI_nat ho, qo, _, _, _, rfl, rfl, hso, at1, k _ h3⟩
def okD (d : PyData) : PyData := .tuple [.str "ok", d]
def bigD : PyData := .tuple [.str "raise", .int 15, .str "too large"]
def resL (t : Bool) (kd : Str) : Option PyData → List PyData
  | some rd => if t = true then [] else [.tuple [.str kd, rd]]
  | none => []
def resR (n : Nat) (t : Bool) : Option PyData → PyData
  | some rd => if t = true then okD (.tuple [.str "text", rd]) else okD (.tuple [.str "ref", .int (n : Nat)])
  | none => bigD
def Out (K : PySem.W.Frag) (H : Hp) (hp : Addr) (hds : List PyData) (t : Bool) (kd : Str) (o : Option PyData) (Q : VK) : Prop :=
  ∀ r H', Keep hp H H' → ListAt K H' hp (hds ++ resL t kd o) → Dt K H' r (resR hds.length t o) → Q r H'
theorem Out.same {H H1 : Hp} {hp : Addr} {hds : List PyData} {t : Bool} {kd : Str} {o : Option PyData} {Q : VK} (h : Out K H hp hds t kd o Q) (e : Same H H1) : Out K H1 hp hds t kd o Q := fun r H' k l d => h r H' ((Same.keep e).trans k) l d
def spMade (K : PySem.W.Frag) : Sp := fun vs H Q _ => ∃ (hp : Addr) (hds : List PyData) (v : V) (t : Bool) (kd : Str) (rd : PyData), vs = [.ref hp, .str kd, v] ∧ ListAt K H hp hds ∧ hds.length ≤ 100 ∧ Dt K H v rd ∧ KdIs t kd ∧ Out K H hp hds t kd (some rd) Q
theorem ok_made {f : Addr} {fd : FuncData} (F : Fun K "made_row" "made_row" s_made_row f fd) (T : Txt K mg) : FnG P w K mg base CX0 1 f fd P_made_row (spMade K) := by
  refine okG0 F sc_made_row (fun vs H Q E h => ?_) fun cdv A outer s H vs Q E hr hg h => ?_
  · obtain ⟨hp, hds, v, t, kd, rd, rfl, _⟩ := h
    rfl
  · obtain ⟨hp, hds, v, t, kd, rd, rfl, L, hl, hd, hk, k⟩ := h
    refine ⟨_, (pss_cons (ps_if (pt_cmpR op_eq (pv 1) pe_str (nomark _))
   (pss_one (ps_ret (pe_tup (pa_cons pe_str (pa_cons (pe_tup (pa_cons pe_str (pa_cons (pv 2) pa_nil))) pa_nil)))))
   pss_nil)
  (pss_cons (ps_expr (pe_bm PySem.F.plainAttrs_list PySem.F.slot_list_append PySem.F.type_list_append mt_append (pv 0) (pa_cons (pe_tup (pa_cons (pv 1) (pa_cons (pv 2) pa_nil))) pa_nil)))
  (pss_one (ps_ret (pe_tup (pa_cons pe_str (pa_cons (pe_tup (pa_cons pe_str (pa_cons (pe_op op_sub (pe_callB call_len (by rfl) T.b_len PySem.boot_len (pa_cons (pv 0) pa_nil)) pe_int) pa_nil))) pa_nil))))))), ?_⟩
    rcases hk with ⟨rfl, rfl⟩ | ⟨rfl, he⟩
    · refine ⟨_, rfl, rfl, _, rfl, iteTb (by decide +kernel) ?_⟩
      refine ⟨_, rfl, sz_2, fun u hu => ⟨sz_2, fun z hz => ?_⟩⟩
      have S := (Same.new (o := .tup [.str "text", v]) hu).trans (Same.new (o := .tup [.str "ok", .ref u]) hz)
      refine k _ _ (Same.keep S) ?_ ?_
      · show ListAt K _ hp (hds ++ [])
        rw [List.append_nil]
        exact listAt_mono L S
      · exact Dt.made hz (.cons (.str _) (.cons (Dt.made hu (.cons (.str _) (.cons hd .nil))) .nil))
    · refine ⟨_, rfl, rfl, _, rfl, iteFb (by rcases he with rfl | rfl <;> decide +kernel) ?_⟩
      obtain ⟨xs, hx, ax⟩ := L
      have lx := ax.length
      refine ⟨_, rfl, .inl ⟨rfl, _, SqL.of hx⟩, _, rfl, _, rfl, sz_2, fun u hu => ⟨hp, _, _, rfl, rfl, (Same.new hu) _ _ hx, Nat.lt_of_le_of_lt (show xs.length ≤ 100 by omega) (by decide), ?_⟩⟩
      have Su := Same.new (o := .tup [.str kd, v]) hu
      have Lu : ListAt K _ hp hds := ⟨xs, Su _ _ hx, DtAll.mono Su ax⟩
      have Ku : Keep hp (upd H u (.tup [.str kd, v])) (upd (upd H u (.tup [.str kd, v])) hp (.lst (xs ++ [.ref u]))) := fun b o hb ne => by rw [upd_ne ne]; exact hb
      have Da : Dt K (upd H u (.tup [.str kd, v])) (.ref u) (.tuple [.str kd, rd]) := Dt.made hu (.cons (.str _) (.cons hd .nil))
      have L2 := listAt_app Lu (Su _ _ hx) Da
      generalize upd (upd H u (.tup [.str kd, v])) hp (.lst (xs ++ [.ref u])) = H2 at Ku L2
      have K2 := (Same.keep (p := hp) Su).trans Ku
      obtain ⟨ys, hy, ay⟩ := id L2
      have ly := ay.length
      rw [List.length_append, List.length_singleton] at ly
      refine ⟨_, rfl, _, _, rfl, .inl ⟨_, SqL.of hy, rfl⟩, _, _, rfl, rfl, sz_2, fun a ha => ⟨sz_2, fun b hb => ?_⟩⟩
      have e : ((ys.length : Nat) : Int) - 1 = ((hds.length : Nat) : Int) := by omega
      dsimp only at hb ⊢
      rw [e] at hb ⊢
      have S3 := (Same.new (o := .tup [.str "ref", .int (hds.length : Nat)]) ha).trans (Same.new (o := .tup [.str "ok", .ref a]) hb)
      refine k _ _ (K2.trans (Same.keep S3)) (listAt_mono L2 S3) ?_
      exact Dt.made hb (.cons (.str _) (.cons (Dt.made ha (.cons (.str _) (.cons (.int _) .nil))) .nil))
--SPLIT
end

abbrev s_kind_name : Stmt := top 9
abbrev N_kind_name : List Str := ["heap", "value", "found"]
abbrev P_kind_name : List Str := ["heap", "value"]
theorem sc_kind_name : FnScope N_kind_name P_kind_name (defScope s_kind_name) := ⟨rfl, rfl, rfl, by decide +kernel, rfl, by decide +kernel, by decide +kernel⟩
abbrev s_refusal : Stmt := top 42
abbrev N_refusal : List Str := ["heap", "words", "value"]
abbrev P_refusal : List Str := ["heap", "words", "value"]
theorem sc_refusal : FnScope N_refusal P_refusal (defScope s_refusal) := ⟨rfl, rfl, rfl, by decide +kernel, rfl, by decide +kernel, by decide +kernel⟩
abbrev s_row_place : Stmt := top 34
abbrev N_row_place : List Str := ["heap", "size", "index", "place"]
abbrev P_row_place : List Str := ["heap", "size", "index"]
theorem sc_row_place : FnScope N_row_place P_row_place (defScope s_row_place) := ⟨rfl, rfl, rfl, by decide +kernel, rfl, by decide +kernel, by decide +kernel⟩
abbrev s_slice_place : Stmt := top 35
abbrev N_slice_place : List Str := ["size", "bound", "place"]
abbrev P_slice_place : List Str := ["size", "bound"]
theorem sc_slice_place : FnScope N_slice_place P_slice_place (defScope s_slice_place) := ⟨rfl, rfl, rfl, by decide +kernel, rfl, by decide +kernel, by decide +kernel⟩
abbrev s_element : Stmt := top 39
abbrev N_element : List Str := ["heap", "a", "place"]
abbrev P_element : List Str := ["heap", "a", "place"]
theorem sc_element : FnScope N_element P_element (defScope s_element) := ⟨rfl, rfl, rfl, by decide +kernel, rfl, by decide +kernel, by decide +kernel⟩
abbrev s_size : Stmt := top 40
abbrev N_size : List Str := ["heap", "a"]
abbrev P_size : List Str := ["heap", "a"]
theorem sc_size : FnScope N_size P_size (defScope s_size) := ⟨rfl, rfl, rfl, by decide +kernel, rfl, by decide +kernel, by decide +kernel⟩
abbrev s_item : Stmt := top 30
abbrev N_item : List Str := ["heap", "a", "index", "entries", "outcome"]
abbrev P_item : List Str := ["heap", "a", "index"]
theorem sc_item : FnScope N_item P_item (defScope s_item) := ⟨rfl, rfl, rfl, by decide +kernel, rfl, by decide +kernel, by decide +kernel⟩
abbrev s_part : Stmt := top 31
abbrev N_part : List Str := ["heap", "a", "low", "high", "kind", "row", "bound", "first", "last"]
abbrev P_part : List Str := ["heap", "a", "low", "high"]
theorem sc_part : FnScope N_part P_part (defScope s_part) := ⟨rfl, rfl, rfl, by decide +kernel, rfl, by decide +kernel, by decide +kernel⟩
abbrev s_put_item : Stmt := top 32
abbrev N_put_item : List Str := ["heap", "a", "index", "value", "kind", "items", "outcome", "at"]
abbrev P_put_item : List Str := ["heap", "a", "index", "value"]
theorem sc_put_item : FnScope N_put_item P_put_item (defScope s_put_item) := ⟨rfl, rfl, rfl, by decide +kernel, rfl, by decide +kernel, by decide +kernel⟩
abbrev s_drop_item : Stmt := top 33
abbrev N_drop_item : List Str := ["heap", "a", "index", "kind", "rows", "outcome", "at"]
abbrev P_drop_item : List Str := ["heap", "a", "index"]
theorem sc_drop_item : FnScope N_drop_item P_drop_item (defScope s_drop_item) := ⟨rfl, rfl, rfl, by decide +kernel, rfl, by decide +kernel, by decide +kernel⟩
section
variable {P : Program} {w : World} {K : PySem.W.Frag} {mg : Str → Option Value} {base : Heap}
def vkL : List (Str × Str) := [("none", "NoneType"), ("bool", "bool"), ("int", "int"), ("text", "str"), ("span", "range"), ("built", "builtin"), ("host", "host")]
def spKName (K : PySem.W.Frag) : Sp := fun vs H Q _ => ∃ (h v : V) (z nm : Str) (rest : List PyData), vs = [h, v] ∧ Dt K H v (.tuple (.str z :: rest)) ∧ V.str z ≠ V.str "ref" ∧ valV (txtKV vkL) (.inr z) = some (.str nm) ∧ Q (.str nm) H
theorem ok_kname {f : Addr} {fd : FuncData} (F : Fun K "kind_name" "kind_name" s_kind_name f fd) (T : Txt K mg) (U_VALUE_KINDS : UseD P w K mg "VALUE_KINDS" (txtKV vkL)) : FnG P w K mg base CX0 1 f fd P_kind_name (spKName K) := by
  refine okG0 F sc_kind_name (fun vs H Q E h => ?_) fun cdv A outer s H vs Q E hr hg h => ?_
  · obtain ⟨h, v, z, nm, rest, rfl, _⟩ := h
    rfl
  · obtain ⟨h, v, z, nm, rest, rfl, dv, hz, hv, k⟩ := h
    obtain ⟨aD_VALUE_KINDS, gD_VALUE_KINDS, kD⟩ := U_VALUE_KINDS.ex
    refine ⟨_, (pss_cons (ps_if (pt_cmpR op_ne (pe_ix ix_tup (pv 1) pe_int (fun _ _ => rfl)) pe_str (nomark _))
   (pss_one (ps_ret (pe_dgetK (pe_glob (v := .ref aD_VALUE_KINDS) (by rfl) gD_VALUE_KINDS rfl) (pe_ix ix_tup (pv 1) pe_int (fun _ _ => rfl)) (fun _ _ => rfl))))
   pss_nil)
  pss_never), ?_⟩
    obtain ⟨q, ws, rfl, hq, ha⟩ := dv.head
    refine ⟨_, rfl, q, _, _, _, rfl, rfl, hq, at0, rfl, _, rfl, iteTb (by rw [decide_eq_false hz]; rfl) ?_⟩
    exact ⟨_, rfl, q, _, _, _, rfl, rfl, hq, at0, aD_VALUE_KINDS, _, .inr z, _, rfl, kD, rfl, hv, k⟩
def raiseD (n : Int) (z : Str) : PyData := .tuple [.str "raise", .int n, .str z]
def spRefuse (K : PySem.W.Frag) : Sp := fun vs H Q _ => ∃ (h v : V) (ws z nm : Str) (rest : List PyData), vs = [h, .str ws, v] ∧ Dt K H v (.tuple (.str z :: rest)) ∧ V.str z ≠ V.str "ref" ∧ valV (txtKV vkL) (.inr z) = some (.str nm) ∧ ws.length ≤ 100 ∧ nm.length ≤ 100 ∧
  ∀ r H', Same H H' → Dt K H' r (raiseD 10 ((ws ++ ": ") ++ nm)) → Q r H'
theorem ok_refusal {f : Addr} {fd : FuncData} (F : Fun K "_refusal" "_refusal" s_refusal f fd) (T : Txt K mg) (U_kind_name : Use P w K mg base CX0 "kind_name" 1 P_kind_name (spKName K)) : FnG P w K mg base CX0 2 f fd P_refusal (spRefuse K) := by
  refine okG0 F sc_refusal (fun vs H Q E h => ?_) fun cdv A outer s H vs Q E hr hg h => ?_
  · obtain ⟨h, v, ws, z, nm, rest, rfl, _⟩ := h
    rfl
  · obtain ⟨h, v, ws, z, nm, rest, rfl, dv, hz, hv, hl1, hl2, k⟩ := h
    refine ⟨_, (pss_one (ps_ret (pe_tup (pa_cons pe_str (pa_cons (pe_globI T.c_TYPE_ERROR (by rfl)) (pa_cons (pe_op op_add_str (pe_op op_add_str (pv 1) pe_str) (pe_use U_kind_name (hr.mono (by decide)) hg rfl (pa_cons (pv 0) (pa_cons (pv 2) pa_nil)))) pa_nil)))))), ?_⟩
    have h2 : (": " : Str).length = 2 := by decide +kernel
    exact ⟨_, rfl, _, _, rfl, rfl, by rw [h2]; exact Nat.le_trans (show _ ≤ 1000 by omega) (by decide), _, rfl, _, rfl, h, v, z, nm, rest, rfl, dv, hz, hv, _, _, rfl, rfl, by rw [len_app, h2]; exact Nat.le_trans (show _ ≤ 1000 by omega) (by decide), sz_3, fun u hu => k _ _ (Same.new hu) (Dt.made hu (.cons (.str _) (.cons (.int _) (.cons (.str _) .nil))))⟩
/-! indices -/
inductive Ix where
  | bool (b : Bool)
  | int (n : Int)
  | non
  | txt
  | span
def Ix.kd : Ix → Str
  | .bool _ => "bool"
  | .int _ => "int"
  | .non => "none"
  | .txt => "text"
  | .span => "span"
def Ix.rest : Ix → List PyData
  | .bool b => [.bool b]
  | .int n => [.int n]
  | .non => []
  | .txt => [.str "1"]
  | .span => [.int 0, .int 1]
def Ix.d (i : Ix) : PyData := .tuple (.str i.kd :: i.rest)
def Ix.num : Ix → Option Int
  | .bool b => some (if b = true then 1 else 0)
  | .int n => some n
  | _ => none
def Ix.nm : Ix → Str
  | .bool _ => "bool"
  | .int _ => "int"
  | .non => "NoneType"
  | .txt => "str"
  | .span => "range"
theorem Ix.isnum (i : Ix) : inV (V.str i.kd) [V.str "int", V.str "bool"] = i.num.isSome := by
  cases i with
  | bool b => exact (show inV (V.str "bool") [V.str "int", V.str "bool"] = true by decide +kernel)
  | int n => exact (show inV (V.str "int") [V.str "int", V.str "bool"] = true by decide +kernel)
  | non => exact (show inV (V.str "none") [V.str "int", V.str "bool"] = false by decide +kernel)
  | txt => exact (show inV (V.str "text") [V.str "int", V.str "bool"] = false by decide +kernel)
  | span => exact (show inV (V.str "span") [V.str "int", V.str "bool"] = false by decide +kernel)
theorem Ix.notref (i : Ix) : V.str i.kd ≠ V.str "ref" := by cases i <;> simp only [Ix.kd] <;> decide +kernel
theorem Ix.named (i : Ix) : valV (txtKV vkL) (.inr i.kd) = some (.str i.nm) := by cases i <;> simp only [Ix.kd, Ix.nm] <;> decide +kernel
theorem Ix.nml (i : Ix) : i.nm.length ≤ 100 := by cases i <;> simp only [Ix.nm] <;> decide +kernel
def back (x : Int) (n : Nat) : Int := if x < 0 then x + n else x
def placeR (i : Ix) (n : Nat) : PyData ⊕ Nat :=
  match i.num with
  | none => .inl (raiseD 10 (("index is no integer" ++ ": ") ++ i.nm))
  | some x => if back x n < 0 ∨ (n : Int) ≤ back x n then .inl (raiseD 6 "index out of range") else .inr (back x n).toNat
def resD : PyData ⊕ Nat → PyData
  | .inl d => d
  | .inr k => okD (.int (k : Nat))
/-- int(index[1]) -/
theorem Ix.int_of {i : Ix} {x : Int} (h : i.num = some x) {H : Hp} {v : V} (dv : Dt K H v i.d) : ∃ q ws y, v = .ref q ∧ SqT K H q (.str i.kd :: y :: ws) ∧ (y = .int x ∨ ∃ b, y = .bl b ∧ x = if b = true then 1 else 0) := by
  obtain ⟨q, ws, rfl, hq, ha⟩ := dv.head
  cases i with
  | bool b =>
    obtain ⟨y, w1, rfl, d1, _⟩ := ha.cons_inv
    cases d1.bool_inv
    cases h
    exact ⟨q, _, _, rfl, hq, .inr ⟨b, rfl, rfl⟩⟩
  | int n =>
    obtain ⟨y, w1, rfl, d1, _⟩ := ha.cons_inv
    cases d1.int_inv
    cases h
    exact ⟨q, _, _, rfl, hq, .inl rfl⟩
  | _ => cases h
def spRPlace (K : PySem.W.Frag) : Sp := fun vs H Q _ => ∃ (h v : V) (n : Nat) (i : Ix), vs = [h, .int (n : Int), v] ∧ Dt K H v i.d ∧ n ≤ 1000 ∧ ∀ r H', Same H H' → Dt K H' r (resD (placeR i n)) → Q r H'
theorem ok_rplace {f : Addr} {fd : FuncData} (F : Fun K "row_place" "row_place" s_row_place f fd) (T : Txt K mg) (U_is_number : Use P w K mg base CX0 "is_number" 1 P_is_number (spIsNum K)) (U_refusal : Use P w K mg base CX0 "_refusal" 2 P_refusal (spRefuse K)) : FnG P w K mg base CX0 3 f fd P_row_place (spRPlace K) := by
  refine okG0 F sc_row_place (fun vs H Q E h => ?_) fun cdv A outer s H vs Q E hr hg h => ?_
  · obtain ⟨h, v, n, i, rfl, _⟩ := h
    rfl
  · obtain ⟨h, v, n, i, rfl, dv, hn, k⟩ := h
    refine ⟨_, (pss_cons (ps_if (pt_not (pt_val (pe_use U_is_number (hr.mono (by decide)) hg rfl (pa_cons (pv 2) pa_nil))))
   (pss_one (ps_ret (pe_use U_refusal (hr.mono (by decide)) hg rfl (pa_cons (pv 0) (pa_cons pe_str (pa_cons (pv 2) pa_nil))))))
   pss_nil)
  (C8.pss_cut (ps_set (i := 3) sc_row_place.nd rfl (Or.inl rfl) (pe_callTy call_int1 (by rfl) T.b_int (by decide +kernel) (pa_cons (pe_ix ix_tup (pv 2) pe_int (fun _ _ => rfl)) pa_nil)))
  (C8.pss_cut (ps_if (pt_cmpR op_lt (pv 3) pe_int (nomark _))
   (pss_one (ps_aug (i := 3) sc_row_place.nd rfl (Or.inl rfl) (pv 1) ip_add))
   pss_nil)
  (pss_cons (ps_if (PW.pt (pw_or (pt_cmpR op_lt (pv 3) pe_int (nomark _)) (pw_or1 (pt_cmpR op_ge (pv 3) (pv 1) (nomark _)))))
   (pss_one (ps_ret (pe_tup (pa_cons pe_str (pa_cons (pe_globI T.c_INDEX_ERROR (by rfl)) (pa_cons pe_str pa_nil))))))
   pss_nil)
  (pss_one (ps_ret (pe_tup (pa_cons pe_str (pa_cons (pv 3) pa_nil))))))))), ?_⟩
    refine ⟨_, rfl, v, _, _, rfl, dv, fun H1 S1 => ?_⟩
    rw [i.isnum]
    cases hi : i.num with
    | none =>
      refine ⟨_, rfl, iteTb rfl ?_⟩
      refine ⟨_, rfl, _, rfl, h, v, _, _, _, _, rfl, dv.mono S1, i.notref, i.named, by decide +kernel, i.nml, fun r H' S2 dr => k r H' (S1.trans S2) ?_⟩
      unfold placeR
      rw [hi]
      exact dr
    | some x =>
      refine ⟨_, rfl, iteFb rfl ?_⟩
      have k : ∀ r H', Same H1 H' → Dt K H' r (resD (if back x n < 0 ∨ (n : Int) ≤ back x n then .inl (raiseD 6 "index out of range") else .inr (back x n).toNat)) → Q r H' := fun r H' S2 dr => k r H' (S1.trans S2) (by unfold placeR; rw [hi]; exact dr)
      obtain ⟨q, ws, y, rfl, hq, hy⟩ := Ix.int_of hi (dv.mono S1)
      refine ⟨fun σ H' => σ = [some h, some (.int n), some (.ref q), some (.int x)] ∧ H' = H1, ?_, ?_⟩
      · refine ⟨_, rfl, q, _, _, _, rfl, rfl, hq, at1, ?_⟩
        rcases hy with rfl | ⟨b, rfl, rfl⟩
        · exact .inl ⟨_, rfl, rfl, rfl⟩
        · exact .inr ⟨b, rfl, rfl, rfl⟩
      rintro _ H1 ⟨rfl, rfl⟩
      refine ⟨fun σ H' => σ = [some h, some (.int n), some (.ref q), some (.int (back x n))] ∧ H' = H1, ?_, ?_⟩
      · refine ⟨_, rfl, _, _, rfl, rfl, _, rfl, ite3 (fun c => ?_) fun c => ?_⟩
        · have c := of_decide_eq_true c
          refine ⟨_, rfl, _, rfl, _, _, rfl, rfl, ?_, rfl⟩
          unfold back
          rw [if_pos c]
          rfl
        · have c := of_decide_eq_false c
          refine ⟨?_, rfl⟩
          unfold back
          rw [if_neg c]
      rintro _ H1 ⟨rfl, rfl⟩
      have h6 : ∀ r H', Same H1 H' → Dt K H' r (raiseD 6 "index out of range") → back x n < 0 ∨ (n : Int) ≤ back x n → Q r H' := fun r H' S2 dr hc => k r H' S2 (by rw [if_pos hc]; exact dr)
      refine ⟨_, rfl, _, _, rfl, rfl, _, rfl, ?_⟩
      refine ite3 (fun c => ?_) fun c => ?_
      · have c := of_decide_eq_true c
        exact ⟨sz_3, fun u hu => h6 _ _ (Same.new hu) (Dt.made hu (.cons (.str _) (.cons (.int _) (.cons (.str _) .nil)))) (.inl c)⟩
      · have c := of_decide_eq_false c
        refine ⟨_, rfl, _, rfl, _, _, rfl, rfl, _, rfl, ?_⟩
        refine ite3 (fun c2 => ?_) fun c2 => ?_
        · have c2 := of_decide_eq_true c2
          exact ⟨sz_3, fun u hu => h6 _ _ (Same.new hu) (Dt.made hu (.cons (.str _) (.cons (.int _) (.cons (.str _) .nil)))) (.inr c2)⟩
        · have c2 := of_decide_eq_false c2
          refine ⟨_, rfl, sz_2, fun u hu => k _ _ (Same.new hu) ?_⟩
          rw [if_neg (by omega)]
          have : back x n = (((back x n).toNat : Nat) : Int) := by omega
          show Dt K _ _ (okD (.int ((back x n).toNat : Nat)))
          rw [← this]
          exact Dt.made hu (.cons (.str _) (.cons (.int _) .nil))
def clipN (x : Int) (n : Nat) : Nat := if back x n ≤ 0 then 0 else if (n : Int) ≤ back x n then n else (back x n).toNat
theorem clipN_le (x : Int) (n : Nat) : clipN x n ≤ n := by
  unfold clipN
  split
  · omega
  · split <;> omega
theorem clip_p (x : Int) (n : Nat) : (if (if back x n < (n : Int) then back x n else (n : Int)) > 0 then (if back x n < (n : Int) then back x n else (n : Int)) else 0) = ((clipN x n : Nat) : Int) := by
  unfold clipN
  repeat' split
  all_goals omega
theorem clip_l (x : Int) (n : Nat) : (if (if (n : Int) < back x n then (n : Int) else back x n) > 0 then (if (n : Int) < back x n then (n : Int) else back x n) else 0) = ((clipN x n : Nat) : Int) := by
  unfold clipN
  repeat' split
  all_goals omega
def spSPlace (K : PySem.W.Frag) : Sp := fun vs H Q _ => ∃ (v : V) (n : Nat) (i : Ix) (x : Int), vs = [.int (n : Int), v] ∧ Dt K H v i.d ∧ i.num = some x ∧ Q (.int (clipN x n : Nat)) H
theorem ok_splace {f : Addr} {fd : FuncData} (F : Fun K "slice_place" "slice_place" s_slice_place f fd) (T : Txt K mg) : FnG P w K mg base CX0 1 f fd P_slice_place (spSPlace K) := by
  refine okG0 F sc_slice_place (fun vs H Q E h => ?_) fun cdv A outer s H vs Q E hr hg h => ?_
  · obtain ⟨v, n, i, x, rfl, _⟩ := h
    rfl
  · obtain ⟨v, n, i, x, rfl, dv, hi, k⟩ := h
    refine ⟨_, (C8.pss_cut (ps_set (i := 2) sc_slice_place.nd rfl (Or.inl rfl) (pe_callTy call_int1 (by rfl) T.b_int (by decide +kernel) (pa_cons (pe_ix ix_tup (pv 1) pe_int (fun _ _ => rfl)) pa_nil)))
  (C8.pss_cut (ps_if (pt_cmpR op_lt (pv 2) pe_int (nomark _))
   (pss_one (ps_aug (i := 2) sc_slice_place.nd rfl (Or.inl rfl) (pv 0) ip_add))
   pss_nil)
  (pss_one (ps_ret (pe_callB (call_max2 rfl) (by rfl) T.b_max (by decide +kernel) (pa_cons pe_int (pa_cons (pe_callB (call_min2 rfl) (by rfl) T.b_min (by decide +kernel) (pa_cons (pv 0) (pa_cons (pv 2) pa_nil))) pa_nil))))))), ?_⟩
    obtain ⟨q, ws, y, rfl, hq, hy⟩ := Ix.int_of hi dv
    refine ⟨fun σ H' => σ = [some (.int n), some (.ref q), some (.int x)] ∧ H' = H, ?_, ?_⟩
    · refine ⟨_, rfl, q, _, _, _, rfl, rfl, hq, at1, ?_⟩
      rcases hy with rfl | ⟨b, rfl, rfl⟩
      · exact .inl ⟨_, rfl, rfl, rfl⟩
      · exact .inr ⟨b, rfl, rfl, rfl⟩
    rintro _ H ⟨rfl, rfl⟩
    refine ⟨fun σ H' => σ = [some (.int n), some (.ref q), some (.int (back x n))] ∧ H' = H, ?_, ?_⟩
    · refine ⟨_, rfl, _, _, rfl, rfl, _, rfl, ite3 (fun c => ?_) fun c => ?_⟩
      · have c := of_decide_eq_true c
        refine ⟨_, rfl, _, rfl, _, _, rfl, rfl, ?_, rfl⟩
        unfold back
        rw [if_pos c]
        rfl
      · have c := of_decide_eq_false c
        refine ⟨?_, rfl⟩
        unfold back
        rw [if_neg c]
    rintro _ H ⟨rfl, rfl⟩
    rw [← clip_p] at k
    exact ⟨_, rfl, _, rfl, _, _, rfl, _, _, rfl, k⟩
--SPLIT
/-! what has items -/
inductive Av where
  | txt (cs : List Nat)
  | obj (kd : Str) (ds : List PyData)
  | span (lo : Int) (n : Nat)
def Av.len : Av → Nat
  | .txt cs => cs.length
  | .obj _ ds => ds.length
  | .span _ n => n
def Av.its : Av → List PyData
  | .txt cs => cs.map fun c => .tuple [.str "text", .str (S [c])]
  | .obj _ ds => ds
  | .span lo n => (List.range n).map fun (j : Nat) => .tuple [.str "int", .int (lo + ((j : Nat) : Int))]
inductive AvIs (hds : List PyData) : Av → PyData → Prop
  | txt (cs : List Nat) : AvIs hds (.txt cs) (.tuple [.str "text", .str (S cs)])
  | obj {k : Nat} {kd : Str} {ds : List PyData} : kd = "tuple" ∨ kd = "list" → hds[k]? = some (.tuple [.str kd, .tuple ds]) → AvIs hds (.obj kd ds) (.tuple [.str "ref", .int (k : Nat)])
  | span (lo : Int) (n : Nat) : AvIs hds (.span lo n) (.tuple [.str "span", .int lo, .int (lo + n)])
theorem Av.its_len (a : Av) : a.its.length = a.len := by cases a <;> simp [Av.its, Av.len]
def spSize (K : PySem.W.Frag) : Sp := fun vs H Q _ => ∃ (hp : Addr) (hds : List PyData) (v : V) (a : Av) (d : PyData), vs = [.ref hp, v] ∧ ListAt K H hp hds ∧ Dt K H v d ∧ AvIs hds a d ∧ a.len ≤ 1000 ∧ Q (.int (a.len : Nat)) H
theorem ok_size {f : Addr} {fd : FuncData} (F : Fun K "_size" "_size" s_size f fd) (T : Txt K mg) (U_row_of : Use P w K mg base CX0 "row_of" 1 P_row_of (spRowOf K)) : FnG P w K mg base CX0 2 f fd P_size (spSize K) := by
  refine okG0 F sc_size (fun vs H Q E h => ?_) fun cdv A outer s H vs Q E hr hg h => ?_
  · obtain ⟨hp, hds, v, a, d, rfl, _⟩ := h
    rfl
  · obtain ⟨hp, hds, v, a, d, rfl, L, dv, hv, hl, k⟩ := h
    refine ⟨_, (pss_cons (ps_if (pt_cmpR op_eq (pe_ix ix_tup (pv 1) pe_int (fun _ _ => rfl)) pe_str (nomark _))
   (pss_one (ps_ret (pe_op op_sub (pe_ix ix_tup (pv 1) pe_int (fun _ _ => rfl)) (pe_ix ix_tup (pv 1) pe_int (fun _ _ => rfl)))))
   pss_nil)
  (pss_one (ps_ret (pe_callB call_lenR (by rfl) T.b_len PySem.boot_len (pa_cons (pe_use U_row_of (hr.mono (by decide)) hg rfl (pa_cons (pv 0) (pa_cons (pv 1) pa_nil))) pa_nil))))), ?_⟩
    cases hv with
    | txt cs =>
      obtain ⟨q, ws, rfl, hq, ha⟩ := (id dv).head
      refine ⟨_, rfl, q, _, _, _, rfl, rfl, hq, at0, rfl, _, rfl, iteFb (by decide +kernel) ?_⟩
      exact ⟨_, rfl, _, rfl, hp, hds, _, true, "text", _, _, rfl, L, dv, .txt, fun v dr => ⟨v, .txt cs, rfl, dr, Nat.le_trans hl (by decide), k⟩⟩
    | @obj i kd ds he hh =>
      obtain ⟨q, ws, rfl, hq, ha⟩ := (id dv).head
      refine ⟨_, rfl, q, _, _, _, rfl, rfl, hq, at0, rfl, _, rfl, iteFb (by decide +kernel) ?_⟩
      exact ⟨_, rfl, _, rfl, hp, hds, _, false, kd, _, _, rfl, L, dv, .obj he hh, fun v dr => ⟨v, .tup ds, rfl, dr, Nat.le_trans hl (by decide), k⟩⟩
    | span lo n =>
      obtain ⟨q, ws, rfl, hq, ha⟩ := (id dv).head
      obtain ⟨y1, w1, rfl, d1, hw1⟩ := ha.cons_inv
      obtain ⟨y2, w2, rfl, d2, hw2⟩ := hw1.cons_inv
      cases d1.int_inv
      cases d2.int_inv
      refine ⟨_, rfl, q, _, _, _, rfl, rfl, hq, at0, rfl, _, rfl, iteTb (by decide +kernel) ?_⟩
      refine ⟨_, rfl, q, _, _, _, rfl, rfl, hq, at2, _, rfl, q, _, _, _, rfl, rfl, hq, at1, _, _, rfl, rfl, ?_⟩
      have e : lo + (n : Int) - lo = (n : Int) := by omega
      exact (congrArg (fun z => Q (V.int z) H) e).mpr k
def spElem (K : PySem.W.Frag) : Sp := fun vs H Q _ => ∃ (hp : Addr) (hds : List PyData) (v : V) (a : Av) (d x : PyData) (j : Nat), vs = [.ref hp, v, .int (j : Nat)] ∧ ListAt K H hp hds ∧ Dt K H v d ∧ AvIs hds a d ∧ a.its[j]? = some x ∧ a.len ≤ 1000 ∧ ∀ r H', Same H H' → Dt K H' r x → Q r H'
theorem ok_elem {f : Addr} {fd : FuncData} (F : Fun K "element" "element" s_element f fd) (T : Txt K mg) : FnG P w K mg base CX0 1 f fd P_element (spElem K) := by
  refine okG0 F sc_element (fun vs H Q E h => ?_) fun cdv A outer s H vs Q E hr hg h => ?_
  · obtain ⟨hp, hds, v, a, d, x, j, rfl, _⟩ := h
    rfl
  · obtain ⟨hp, hds, v, a, d, x, j, rfl, L, dv, hv, hx, hl, k⟩ := h
    refine ⟨_, (pss_cons (ps_if (pt_cmpR op_eq (pe_ix ix_tup (pv 1) pe_int (fun _ _ => rfl)) pe_str (nomark _))
   (pss_one (ps_ret (pe_tup (pa_cons pe_str (pa_cons (pe_op op_add (pe_ix ix_tup (pv 1) pe_int (fun _ _ => rfl)) (pv 2)) pa_nil)))))
   pss_nil)
  (pss_cons (ps_if (pt_cmpR op_eq (pe_ix ix_tup (pv 1) pe_int (fun _ _ => rfl)) pe_str (nomark _))
   (pss_one (ps_ret (pe_tup (pa_cons pe_str (pa_cons (pe_ix ix_str (pe_ix ix_tup (pv 1) pe_int (fun _ _ => rfl)) (pv 2) (fun _ _ => rfl)) pa_nil)))))
   pss_nil)
  (pss_one (ps_ret (pe_ix ix_tup (pe_ix ix_tup (pe_ix ix_list (pv 0) (pe_ix ix_tup (pv 1) pe_int (fun _ _ => rfl)) (fun _ _ => rfl)) pe_int (fun _ _ => rfl)) (pv 2) (fun _ _ => rfl)))))), ?_⟩
    cases hv with
    | txt cs =>
      obtain ⟨q, ws, rfl, hq, ha⟩ := (id dv).head
      obtain ⟨y1, w1, rfl, d1, hw1⟩ := ha.cons_inv
      cases d1.str_inv
      have hx : (cs.map fun c => PyData.tuple [.str "text", .str (S [c])])[j]? = some x := hx
      rw [List.getElem?_map] at hx
      obtain ⟨c, hc, rfl⟩ := Option.map_eq_some_iff.mp hx
      refine ⟨_, rfl, q, _, _, _, rfl, rfl, hq, at0, rfl, _, rfl, iteFb (by decide +kernel) ?_⟩
      refine ⟨_, rfl, q, _, _, _, rfl, rfl, hq, at0, rfl, _, rfl, iteTb (by decide +kernel) ?_⟩
      refine ⟨_, rfl, q, _, _, _, rfl, rfl, hq, at1, _, rfl, _, _, c, rfl, rfl, by rw [S_len]; exact Nat.le_trans hl (by decide), at_S hc, sz_2, fun u hu => k _ _ (Same.new hu) (Dt.made hu (.cons (.str _) (.cons (.str _) .nil)))⟩
    | @obj i kd ds he hh =>
      obtain ⟨q, y, rfl, hq, d2⟩ := dv.pair
      cases d2.int_inv
      obtain ⟨xs, hxs, ax⟩ := L
      obtain ⟨o, ho, dO⟩ := ax.get hh
      obtain ⟨qo, z, rfl, hso, dz⟩ := dO.pair
      obtain ⟨qz, zs, rfl, hz, az⟩ := dz.tuple_inv
      obtain ⟨r, hr2, dr⟩ := az.get (show ds[j]? = some x from hx)
      refine ⟨_, rfl, q, _, _, _, rfl, rfl, hq, at0, rfl, _, rfl, iteFb (by decide +kernel) ?_⟩
      refine ⟨_, rfl, q, _, _, _, rfl, rfl, hq, at0, rfl, _, rfl, iteFb (by decide +kernel) ?_⟩
      exact ⟨_, rfl, _, rfl, q, _, _, _, rfl, rfl, hq, at1, hp, _, _, _, rfl, rfl, SqL.of hxs, atI_nat ho, qo, _, _, _, rfl, rfl, hso, at1, _, rfl, qz, _, _, _, rfl, rfl, hz, atI_nat hr2, k _ _ (Same.refl _) dr⟩
    | span lo n =>
      obtain ⟨q, ws, rfl, hq, ha⟩ := (id dv).head
      obtain ⟨y1, w1, rfl, d1, hw1⟩ := ha.cons_inv
      cases d1.int_inv
      have hx : ((List.range n).map fun (j : Nat) => PyData.tuple [.str "int", .int (lo + ((j : Nat) : Int))])[j]? = some x := hx
      rw [List.getElem?_map] at hx
      obtain ⟨c, hc, rfl⟩ := Option.map_eq_some_iff.mp hx
      obtain ⟨hc1, rfl⟩ := List.getElem?_eq_some_iff.mp hc
      rw [List.getElem_range] at *
      refine ⟨_, rfl, q, _, _, _, rfl, rfl, hq, at0, rfl, _, rfl, iteTb (by decide +kernel) ?_⟩
      exact ⟨_, rfl, q, _, _, _, rfl, rfl, hq, at1, _, rfl, _, _, rfl, rfl, sz_2, fun u hu => k _ _ (Same.new hu) (Dt.made hu (.cons (.str _) (.cons (.int _) .nil)))⟩
--SPLIT
theorem placeR_inl {i : Ix} {n : Nat} {d : PyData} (h : placeR i n = .inl d) : ∃ m z, d = raiseD m z := by
  unfold placeR at h
  split at h
  · cases h; exact ⟨_, _, rfl⟩
  · split at h
    · cases h; exact ⟨_, _, rfl⟩
    · cases h
theorem placeR_inr {i : Ix} {n j : Nat} (h : placeR i n = .inr j) : j < n := by
  unfold placeR at h
  split at h
  · cases h
  · split at h
    · cases h
    · cases h; omega
def Av.kd : Av → Str
  | .txt _ => "text"
  | .obj kd _ => kd
  | .span _ _ => ""
theorem AvIs.okind {hds : List PyData} {a : Av} {d : PyData} (h : AvIs hds a d) : ∃ kd, KindIs hds d kd ∧ (kd = "" ∨ kd = "tuple" ∨ kd = "list") := by
  cases h with
  | txt cs => exact ⟨"", .plain (by decide +kernel), .inl rfl⟩
  | obj he hh => exact ⟨_, .obj hh, .inr he⟩
  | span lo n => exact ⟨"", .plain (by decide +kernel), .inl rfl⟩
theorem AvIs.hd {hds : List PyData} {a : Av} {d : PyData} (h : AvIs hds a d) : ∃ z rest, d = .tuple (.str z :: rest) ∧ ((z = "span" ∧ ∃ lo n, a = .span lo n) ∨ (V.str z ≠ V.str "span" ∧ RkIs hds d a.kd ∧ (a.kd = "text" ∨ a.kd = "tuple" ∨ a.kd = "list"))) := by
  cases h with
  | txt cs => exact ⟨_, _, rfl, .inr ⟨by decide +kernel, .val .txt, .inl rfl⟩⟩
  | obj he hh => exact ⟨_, _, rfl, .inr ⟨by decide +kernel, .val (.obj he hh), .inr he⟩⟩
  | span lo n => exact ⟨_, _, rfl, .inl ⟨rfl, lo, n, rfl⟩⟩
def itemD (a : Av) (i : Ix) : PyData :=
  match placeR i a.len with
  | .inl d => d
  | .inr j => okD (a.its.getD j .none)
def spItem (K : PySem.W.Frag) : Sp := fun vs H Q _ => ∃ (hp : Addr) (hds : List PyData) (v vi : V) (a : Av) (d : PyData) (i : Ix), vs = [.ref hp, v, vi] ∧ ListAt K H hp hds ∧ Dt K H v d ∧ AvIs hds a d ∧ a.len ≤ 1000 ∧ Dt K H vi i.d ∧ ∀ r H', Same H H' → Dt K H' r (itemD a i) → Q r H'
theorem ok_item {f : Addr} {fd : FuncData} (F : Fun K "item" "item" s_item f fd) (T : Txt K mg) (U_object_kind : Use P w K mg base CX0 "object_kind" 1 P_object_kind (spKind K)) (U_row_kind : Use P w K mg base CX0 "row_kind" 2 P_row_kind (spRowKind K)) (U_size : Use P w K mg base CX0 "_size" 2 P_size (spSize K))
    (U_row_place : Use P w K mg base CX0 "row_place" 3 P_row_place (spRPlace K)) (U_element : Use P w K mg base CX0 "element" 1 P_element (spElem K)) : FnG P w K mg base CX0 4 f fd P_item (spItem K) := by
  refine okG0 F sc_item (fun vs H Q E h => ?_) fun cdv A outer s H vs Q E hr hg h => ?_
  · obtain ⟨hp, hds, v, vi, a, d, i, rfl, _⟩ := h
    rfl
  · obtain ⟨hp, hds, v, vi, a, d, i, rfl, L, dv, hv, hl, di, k⟩ := h
    refine ⟨_, (pss_cons (ps_if (pt_cmpR op_eq (pe_use U_object_kind (hr.mono (by decide)) hg rfl (pa_cons (pv 0) (pa_cons (pv 1) pa_nil))) pe_str (nomark _))
   pss_never
   pss_nil)
  (C8.pss_cut (ps_if (PW.pt (pw_and (pt_cmpR op_ne (pe_ix ix_tup (pv 1) pe_int (fun _ _ => rfl)) pe_str (nomark _)) (pw_and1 (pt_cmpR op_eq (pe_use U_row_kind (hr.mono (by decide)) hg rfl (pa_cons (pv 0) (pa_cons (pv 1) pa_nil))) pe_str (nomark _)))))
   pss_never
   pss_nil)
  (pss_cons (ps_set (i := 4) sc_item.nd rfl (Or.inl rfl) (pe_use U_row_place (hr.mono (by decide)) hg rfl (pa_cons (pv 0) (pa_cons (pe_use U_size (hr.mono (by decide)) hg rfl (pa_cons (pv 0) (pa_cons (pv 1) pa_nil))) (pa_cons (pv 2) pa_nil)))))
  (pss_cons (ps_if (pt_cmpR op_eq (pe_ix ix_tup (pv 4) pe_int (fun _ _ => rfl)) pe_str (nomark _))
   (pss_one (ps_ret (pv 4)))
   pss_nil)
  (pss_one (ps_ret (pe_tup (pa_cons pe_str (pa_cons (pe_use U_element (hr.mono (by decide)) hg rfl (pa_cons (pv 0) (pa_cons (pv 1) (pa_cons (pe_ix ix_tup (pv 4) pe_int (fun _ _ => rfl)) pa_nil)))) pa_nil))))))))), ?_⟩
    obtain ⟨kd0, hk0, hkd⟩ := hv.okind
    refine ⟨_, rfl, _, rfl, hp, hds, v, d, kd0, rfl, L, dv, hk0, rfl, _, rfl, iteFb (by rcases hkd with rfl | rfl | rfl <;> decide +kernel) ?_⟩
    refine ⟨fun σ H' => σ = [some (.ref hp), some v, some vi, none, none] ∧ Same H H', ?_, ?_⟩
    · obtain ⟨z, rest, rfl, hz⟩ := hv.hd
      have dv' := dv
      obtain ⟨q, ws, rfl, hq, ha⟩ := dv.head
      refine ⟨_, rfl, q, _, _, _, rfl, rfl, hq, at0, rfl, _, rfl, ?_⟩
      rcases hz with ⟨rfl, _⟩ | ⟨hz, hrk, hkk⟩
      · exact iteFb (by decide +kernel) ⟨rfl, Same.refl _⟩
      · refine iteTb (by rw [decide_eq_false hz]; rfl) ?_
        refine ⟨_, rfl, _, rfl, hp, hds, _, _, _, rfl, L, dv', hrk, fun H1 S1 => ?_⟩
        exact ⟨rfl, _, rfl, iteFb (by rcases hkk with h | h | h <;> rw [h] <;> decide +kernel) ⟨rfl, S1⟩⟩
    rintro _ H1 ⟨rfl, S1⟩
    have L1 := listAt_mono L S1
    refine ⟨_, rfl, _, rfl, _, rfl, hp, hds, v, a, d, rfl, L1, dv.mono S1, hv, hl, _, rfl, _, vi, a.len, i, rfl, di.mono S1, hl, fun r H2 S2 dr => ?_⟩
    have S12 := S1.trans S2
    unfold itemD at k
    cases hp2 : placeR i a.len with
    | inl e =>
      rw [hp2] at dr k
      obtain ⟨m, z, rfl⟩ := placeR_inl hp2
      obtain ⟨q, ws, rfl, hq, ha⟩ := (show Dt K H2 r (.tuple [.str "raise", .int m, .str z]) from dr).head
      exact ⟨_, rfl, q, _, _, _, rfl, rfl, hq, at0, rfl, _, rfl, iteTb (by decide +kernel) ⟨_, rfl, k _ _ S12 dr⟩⟩
    | inr j =>
      rw [hp2] at dr k
      obtain ⟨q, y, rfl, hq, d2⟩ := (show Dt K H2 r (.tuple [.str "ok", .int (j : Nat)]) from dr).pair
      cases d2.int_inv
      have hj : j < a.its.length := by rw [a.its_len]; exact placeR_inr hp2
      have hx : a.its[j]? = some a.its[j] := List.getElem?_eq_getElem hj
      have hgd : a.its.getD j .none = a.its[j] := by rw [List.getD_eq_getElem?_getD, hx]; rfl
      have k : ∀ r H', Same H H' → Dt K H' r (okD a.its[j]) → Q r H' := fun r H' S dr => k r H' S (by show Dt K H' r (okD (a.its.getD j .none)); rw [hgd]; exact dr)
      refine ⟨_, rfl, q, _, _, _, rfl, rfl, hq, at0, rfl, _, rfl, iteFb (by decide +kernel) ?_⟩
      refine ⟨_, rfl, _, rfl, _, rfl, q, _, _, _, rfl, rfl, hq, at1, hp, hds, v, a, d, _, j, rfl, listAt_mono L1 S2, dv.mono S12, hv, hx, hl, fun r3 H3 S3 d3 => ⟨sz_2, fun u hu => ?_⟩⟩
      exact k _ _ ((S12.trans S3).trans (Same.new hu)) (Dt.made hu (.cons (.str _) (.cons d3 .nil)))
--SPLIT
def Ix.bad (i : Ix) : Bool := match i with
  | .txt => true
  | .span => true
  | _ => false
def Ix.at (i : Ix) (o n : Nat) : Nat := match i.num with
  | none => o
  | some x => clipN x n
theorem Ix.good {i : Ix} (h : i.bad = false) : i = .non ∨ (V.str i.kd ≠ V.str "none" ∧ ∃ x, i.num = some x) := by
  cases i with
  | non => exact .inl rfl
  | bool b => exact .inr ⟨(show V.str "bool" ≠ V.str "none" by decide +kernel), _, rfl⟩
  | int n => exact .inr ⟨(show V.str "int" ≠ V.str "none" by decide +kernel), _, rfl⟩
  | txt => cases h
  | span => cases h
def sbD (i : Ix) : PyData := raiseD 10 (("slice bound is no integer" ++ ": ") ++ i.nm)
def spPart (K : PySem.W.Frag) : Sp := fun vs H Q _ => ∃ (hp : Addr) (hds : List PyData) (v vl vh : V) (t : Bool) (kd : Str) (r : RowD) (d : PyData) (il ih : Ix), vs = [.ref hp, v, vl, vh] ∧ ListAt K H hp hds ∧ hds.length ≤ 100 ∧ Dt K H v d ∧ ValIs hds t kd r.d d ∧ r.len ≤ 1000 ∧ Dt K H vl il.d ∧ Dt K H vh ih.d ∧
  (il.bad = true → ∀ x H', Same H H' → Dt K H' x (sbD il) → Q x H') ∧ (il.bad = false → ih.bad = true → ∀ x H', Same H H' → Dt K H' x (sbD ih) → Q x H') ∧
  (il.bad = false → ih.bad = false → Out K H hp hds t kd (some (r.cut (some (il.at 0 r.len : Nat)) (some (ih.at r.len r.len : Nat))).d) Q)
theorem ok_part {f : Addr} {fd : FuncData} (F : Fun K "part" "part" s_part f fd) (T : Txt K mg) (U_row_kind : Use P w K mg base CX0 "row_kind" 2 P_row_kind (spRowKind K)) (U_row_of : Use P w K mg base CX0 "row_of" 1 P_row_of (spRowOf K)) (U_is_number : Use P w K mg base CX0 "is_number" 1 P_is_number (spIsNum K))
    (U_refusal : Use P w K mg base CX0 "_refusal" 2 P_refusal (spRefuse K)) (U_slice_place : Use P w K mg base CX0 "slice_place" 1 P_slice_place (spSPlace K)) (U_made_row : Use P w K mg base CX0 "made_row" 1 P_made_row (spMade K)) : FnG P w K mg base CX0 3 f fd P_part (spPart K) := by
  refine okG0 F sc_part (fun vs H Q E h => ?_) fun cdv A outer s H vs Q E hr hg h => ?_
  · obtain ⟨hp, hds, v, vl, vh, t, kd, r, d, il, ih, rfl, _⟩ := h
    rfl
  · obtain ⟨hp, hds, v, vl, vh, t, kd, r, d, il, ih, rfl, L, hl, dv, hv, hrl, dl, dh, k1, k2, k3⟩ := h
    refine ⟨_, (pss_cons (ps_set (i := 4) sc_part.nd rfl (Or.inl rfl) (pe_use U_row_kind (hr.mono (by decide)) hg rfl (pa_cons (pv 0) (pa_cons (pv 1) pa_nil))))
  (pss_cons (ps_if (pt_cmpR op_eq (pv 4) pe_str (nomark _))
   pss_never
   pss_nil)
  (pss_cons (ps_set (i := 5) sc_part.nd rfl (Or.inl rfl) (pe_use U_row_of (hr.mono (by decide)) hg rfl (pa_cons (pv 0) (pa_cons (pv 1) pa_nil))))
  (pss_cons (ps_for PassesOwn.never rfl (pi_tup (pe_tup (pa_cons (pv 2) (pa_cons (pv 3) pa_nil)))) (pg_name (i := 6) sc_part.nd rfl (Or.inl rfl))
   (pss_one (ps_if (PW.pt (pw_and (pt_cmpR op_ne (pe_ix ix_tup (pv 6) pe_int (fun _ _ => rfl)) pe_str (nomark _)) (pw_and1 (pt_not (pt_val (pe_use U_is_number (hr.mono (by decide)) hg rfl (pa_cons (pv 6) pa_nil)))))))
   (pss_one (ps_ret (pe_use U_refusal (hr.mono (by decide)) hg rfl (pa_cons (pv 0) (pa_cons pe_str (pa_cons (pv 6) pa_nil))))))
   pss_nil)))
  (pss_cons (ps_set (i := 7) sc_part.nd rfl (Or.inl rfl) pe_int)
  (C8.pss_cut (ps_if (pt_cmpR op_ne (pe_ix ix_tup (pv 2) pe_int (fun _ _ => rfl)) pe_str (nomark _))
   (pss_one (ps_set (i := 7) sc_part.nd rfl (Or.inl rfl) (pe_use U_slice_place (hr.mono (by decide)) hg rfl (pa_cons (pe_callB call_lenR (by rfl) T.b_len PySem.boot_len (pa_cons (pv 5) pa_nil)) (pa_cons (pv 2) pa_nil)))))
   pss_nil)
  (pss_cons (ps_set (i := 8) sc_part.nd rfl (Or.inl rfl) (pe_callB call_lenR (by rfl) T.b_len PySem.boot_len (pa_cons (pv 5) pa_nil)))
  (C8.pss_cut (ps_if (pt_cmpR op_ne (pe_ix ix_tup (pv 3) pe_int (fun _ _ => rfl)) pe_str (nomark _))
   (pss_one (ps_set (i := 8) sc_part.nd rfl (Or.inl rfl) (pe_use U_slice_place (hr.mono (by decide)) hg rfl (pa_cons (pe_callB call_lenR (by rfl) T.b_len PySem.boot_len (pa_cons (pv 5) pa_nil)) (pa_cons (pv 3) pa_nil)))))
   pss_nil)
  (pss_one (ps_ret (pe_use U_made_row (hr.mono (by decide)) hg rfl (pa_cons (pv 0) (pa_cons (pv 4) (pa_cons (pe_slice sl_row (pv 5) (po_some (pv 7)) (po_some (pv 8))) pa_nil)))))))))))))), ?_⟩
    have hkk := hv.kd
    refine ⟨_, rfl, _, rfl, hp, hds, v, d, kd, rfl, L, dv, .val hv, fun H1 S1 => ?_⟩
    refine ⟨_, rfl, rfl, _, rfl, iteFb (by rcases hkk with ⟨_, rfl⟩ | ⟨_, rfl | rfl⟩ <;> decide +kernel) ?_⟩
    refine ⟨_, rfl, _, rfl, hp, hds, v, t, kd, _, _, rfl, listAt_mono L S1, dv.mono S1, hv, fun rv dr => ?_⟩
    refine ⟨_, rfl, _, rfl, sz_2, fun u hu => ⟨u, rfl, ⟨_, SqT.of upd_same⟩, ?_⟩⟩
    have S2 := S1.trans (Same.new (o := .tup [vl, vh]) hu)
    have drH : ∀ {H'}, Same (upd H1 u (.tup [vl, vh])) H' → Dt K H' rv r.d := fun S => dr.mono ((Same.new hu).trans S)
    have hu0 : SqT K (upd H1 u (.tup [vl, vh])) u [vl, vh] := SqT.of upd_same
    generalize upd H1 u (.tup [vl, vh]) = H2 at S2 drH hu0
    refine for_tup (xs := [vl, vh]) (fun j σ H' => ∃ x6, σ = [some (.ref hp), some v, some vl, some vh, some (.str kd), some rv, x6, none, none] ∧ Same H2 H' ∧ (0 < j → il.bad = false) ∧ (1 < j → ih.bad = false)) ⟨none, rfl, Same.refl _, (fun h => by omega), fun h => by omega⟩ ?_ ?_ ?_
    · rintro j σ H' hj ⟨x6, rfl, S', _⟩
      exact Same.tupl S' hu0
    · rintro j y σ H3 hy ⟨x6, rfl, S3, b1, b2⟩
      have S23 := S2.trans S3
      obtain ⟨i, di, hbad, hok⟩ : ∃ i : Ix, Dt K H3 y i.d ∧ (i.bad = true → ∀ x H', Same H3 H' → Dt K H' x (sbD i) → Q x H') ∧ (i.bad = false → (0 < j + 1 → il.bad = false) ∧ (1 < j + 1 → ih.bad = false)) := by
        match j, hy with
        | 0, hy => cases hy; exact ⟨il, dl.mono S23, fun hb x H' S dx => k1 hb x H' (S23.trans S) dx, fun hb => ⟨fun _ => hb, fun h => by omega⟩⟩
        | 1, hy => cases hy; exact ⟨ih, dh.mono S23, fun hb x H' S dx => k2 (b1 (by omega)) hb x H' (S23.trans S) dx, fun hb => ⟨fun _ => b1 (by omega), fun _ => hb⟩⟩
        | (n + 2), hy => simp at hy
      have di' := di
      obtain ⟨q, ws, rfl, hq, _⟩ := di'.head
      refine ⟨_, rfl, q, _, _, _, rfl, rfl, hq, at0, rfl, _, rfl, ?_⟩
      cases i with
      | non => exact iteFb (by decide +kernel) ⟨_, rfl, S3, hok rfl⟩
      | bool b =>
        refine iteTb (show (!decide (V.str "bool" = V.str "none")) = true by decide +kernel) ⟨_, rfl, _, _, _, rfl, di, fun H4 S4 => ?_⟩
        rw [Ix.isnum (.bool b)]
        exact ⟨_, rfl, iteFb rfl ⟨_, rfl, S3.trans S4, hok rfl⟩⟩
      | int n =>
        refine iteTb (show (!decide (V.str "int" = V.str "none")) = true by decide +kernel) ⟨_, rfl, _, _, _, rfl, di, fun H4 S4 => ?_⟩
        rw [Ix.isnum (.int n)]
        exact ⟨_, rfl, iteFb rfl ⟨_, rfl, S3.trans S4, hok rfl⟩⟩
      | txt =>
        refine iteTb (by decide +kernel) ⟨_, rfl, _, _, _, rfl, di, fun H4 S4 => ?_⟩
        rw [Ix.isnum .txt]
        refine ⟨_, rfl, iteTb rfl ?_⟩
        exact ⟨_, rfl, _, rfl, _, _, _, _, _, _, rfl, di.mono S4, Ix.notref .txt, Ix.named .txt, by decide +kernel, Ix.nml .txt, fun x H' S dx => hbad rfl x H' (S4.trans S) dx⟩
      | span =>
        refine iteTb (by decide +kernel) ⟨_, rfl, _, _, _, rfl, di, fun H4 S4 => ?_⟩
        rw [Ix.isnum .span]
        refine ⟨_, rfl, iteTb rfl ?_⟩
        exact ⟨_, rfl, _, rfl, _, _, _, _, _, _, rfl, di.mono S4, Ix.notref .span, Ix.named .span, by decide +kernel, Ix.nml .span, fun x H' S dx => hbad rfl x H' (S4.trans S) dx⟩
    · rintro σ H3 ⟨x6, rfl, S3, b1, b2⟩
      have c1 : il.bad = false := b1 (by simp)
      have c2 : ih.bad = false := b2 (by simp)
      clear b1 b2
      have k := (k3 c1 c2).same (S2.trans S3)
      have S23 := S2.trans S3
      have S23' := S23
      have dl3 := dl.mono S23
      have dh3 := dh.mono S23
      have dr3 := drH S3
      refine ⟨fun σ H' => σ = [some (.ref hp), some v, some vl, some vh, some (.str kd), some rv, x6, some (.int (il.at 0 r.len : Nat)), none] ∧ H' = H3, ?_, ?_⟩
      · obtain ⟨q, ws, rfl, hq, _⟩ := (id dl3).head
        refine ⟨_, rfl, q, _, _, _, rfl, rfl, hq, at0, rfl, _, rfl, ?_⟩
        rcases Ix.good c1 with rfl | ⟨hn, x, hx⟩
        · exact iteFb (by decide +kernel) ⟨rfl, rfl⟩
        · refine iteTb (by rw [decide_eq_false hn]; rfl) ?_
          refine ⟨_, rfl, rv, r, rfl, dr3, Nat.le_trans hrl (by decide), _, rfl, _, r.len, il, x, rfl, dl3, hx, ?_, rfl⟩
          unfold Ix.at
          rw [hx]
          rfl
      rintro _ H3 ⟨rfl, rfl⟩
      refine ⟨_, rfl, rv, r, rfl, dr3, Nat.le_trans hrl (by decide), ?_⟩
      refine ⟨fun σ H' => σ = [some (.ref hp), some v, some vl, some vh, some (.str kd), some rv, x6, some (.int (il.at 0 r.len : Nat)), some (.int (ih.at r.len r.len : Nat))] ∧ H' = H3, ?_, ?_⟩
      · obtain ⟨q, ws, rfl, hq, _⟩ := (id dh3).head
        refine ⟨_, rfl, q, _, _, _, rfl, rfl, hq, at0, rfl, _, rfl, ?_⟩
        rcases Ix.good c2 with rfl | ⟨hn, x, hx⟩
        · exact iteFb (by decide +kernel) ⟨rfl, rfl⟩
        · refine iteTb (by rw [decide_eq_false hn]; rfl) ?_
          refine ⟨_, rfl, rv, r, rfl, dr3, Nat.le_trans hrl (by decide), _, rfl, _, r.len, ih, x, rfl, dh3, hx, ?_, rfl⟩
          unfold Ix.at
          rw [hx]
          rfl
      rintro _ H3 ⟨rfl, rfl⟩
      refine ⟨_, rfl, _, rfl, _, rfl, _, rfl, _, rfl, _, rfl, _, rfl, r, dr3, Nat.le_trans hrl (by decide), fun x H4 S4 dx => ?_⟩
      exact ⟨hp, hds, x, t, kd, _, rfl, listAt_mono L (S23'.trans S4), hl, dx, hkk, k.same S4⟩
--SPLIT
theorem ixN_nat {n k : Nat} (h : k < n) : ixN n ((k : Nat) : Int) = some k := by
  unfold ixN
  rw [if_pos (by omega), if_pos (by omega), Int.toNat_natCast]
/-- refused, or the heap as g tells -/
def Pick (K : PySem.W.Frag) (H : Hp) (hp : Addr) (Q : VK) (d : PyData) (g : Nat → List PyData) (o : PyData ⊕ Nat) : Prop := match o with
  | .inl e => ∀ r H', Same H H' → Dt K H' r e → Q r H'
  | .inr j => ∀ r H', Keep hp H H' → ListAt K H' hp (g j) → Dt K H' r d → Q r H'
theorem Pick.mono {H H1 : Hp} {hp : Addr} {Q : VK} {d : PyData} {g : Nat → List PyData} : ∀ {o : PyData ⊕ Nat}, Pick K H hp Q d g o → Same H H1 → Pick K H1 hp Q d g o
  | .inl _, h, S1 => fun r H' S d => h r H' (S1.trans S) d
  | .inr _, h, S1 => fun r H' k l d => h r H' ((Same.keep S1).trans k) l d
def doneD : PyData := .tuple [.str "ok", .tuple [.str "none"]]
def lstD (ds : List PyData) : PyData := .tuple [.str "list", .tuple ds]
theorem dtAll_set {H : Hp} : ∀ {vs : List V} {ds : List PyData} {j : Nat} {v : V} {d : PyData}, DtAll K H vs ds → Dt K H v d → DtAll K H (vs.set j v) (ds.set j d)
  | _, _, _, _, _, .nil, _ => .nil
  | _, _, 0, _, _, .cons _ t, h => .cons h t
  | _, _, _ + 1, _, _, .cons a t, h => .cons a (dtAll_set t h)
def spPutI (K : PySem.W.Frag) : Sp := fun vs H Q _ => ∃ (hp : Addr) (hds ds : List PyData) (va vi vv : V) (k : Nat) (i : Ix) (x : PyData), vs = [.ref hp, va, vi, vv] ∧ ListAt K H hp hds ∧ hds[k]? = some (lstD ds) ∧ Dt K H va (.tuple [.str "ref", .int (k : Nat)]) ∧ Dt K H vi i.d ∧ Dt K H vv x ∧ ds.length ≤ 900 ∧ Pick K H hp Q doneD (fun j => hds.set k (lstD (ds.set j x))) (placeR i ds.length)
theorem ok_put {f : Addr} {fd : FuncData} (F : Fun K "put_item" "put_item" s_put_item f fd) (T : Txt K mg) (U_object_kind : Use P w K mg base CX0 "object_kind" 1 P_object_kind (spKind K)) (U_row_place : Use P w K mg base CX0 "row_place" 3 P_row_place (spRPlace K)) : FnG P w K mg base CX0 4 f fd P_put_item (spPutI K) := by
  refine okG0 F sc_put_item (fun vs H Q E h => ?_) fun cdv A outer s H vs Q E hr hg h => ?_
  · obtain ⟨hp, hds, ds, va, vi, vv, k, i, x, rfl, _⟩ := h
    rfl
  · obtain ⟨hp, hds, ds, va, vi, vv, k, i, x, rfl, L, hk, da, di, dx, hl, kk⟩ := h
    obtain ⟨aDN, bDN, gDN, t1, t2⟩ := T.c_DONE
    refine ⟨_, (pss_cons (ps_set (i := 4) sc_put_item.nd rfl (Or.inl rfl) (pe_use U_object_kind (hr.mono (by decide)) hg rfl (pa_cons (pv 0) (pa_cons (pv 1) pa_nil))))
  (pss_cons (ps_if (pt_cmpR op_eq (pv 4) pe_str (nomark _))
   (pss_cons (ps_set (i := 5) sc_put_item.nd rfl (Or.inl rfl) (pe_ix ix_tup (pe_ix ix_list (pv 0) (pe_ix ix_tup (pv 1) pe_int (fun _ _ => rfl)) (fun _ _ => rfl)) pe_int (fun _ _ => rfl)))
  (pss_cons (ps_set (i := 6) sc_put_item.nd rfl (Or.inl rfl) (pe_use U_row_place (hr.mono (by decide)) hg rfl (pa_cons (pv 0) (pa_cons (pe_callB call_len (by rfl) T.b_len PySem.boot_len (pa_cons (pv 5) pa_nil)) (pa_cons (pv 2) pa_nil)))))
  (pss_cons (ps_if (pt_cmpR op_eq (pe_ix ix_tup (pv 6) pe_int (fun _ _ => rfl)) pe_str (nomark _))
   (pss_one (ps_ret (pv 6)))
   pss_nil)
  (pss_cons (ps_set (i := 7) sc_put_item.nd rfl (Or.inl rfl) (pe_ix ix_tup (pv 6) pe_int (fun _ _ => rfl)))
  (pss_cons (ps_asg (pe_tup (pa_cons pe_str (pa_cons (pe_op op_catTD (pe_op op_catTD (pe_slice sl_row (pv 5) po_none (po_some (pv 7))) (pe_tup (pa_cons (pv 3) pa_nil))) (pe_slice sl_row (pv 5) (po_some (pe_op op_add (pv 7) pe_int)) po_none)) pa_nil))) (pg_sub (pv 0) (pe_ix ix_tup (pv 1) pe_int (fun _ _ => rfl)) set_list))
  (pss_one (ps_ret (pe_glob (v := .ref aDN) (by rfl) gDN rfl))))))))
   pss_nil)
  (pss_cons (ps_if (pt_cmpR op_eq (pv 4) pe_str (nomark _))
   pss_never
   pss_nil)
  pss_never))), ?_⟩
    have dDone : ∀ H', Dt K H' (.ref aDN) doneD := fun H' => .tup (t1.sq _) (.cons (.str _) (.cons (.tup (t2.sq _) (.cons (.str _) .nil)) .nil))
    obtain ⟨q, y, rfl, hq, hx⟩ := Dt.pair (id da)
    cases hx.int_inv
    obtain ⟨zs, ez, az⟩ := id L
    obtain ⟨y, hy, dy⟩ := az.get hk
    obtain ⟨q2, m, rfl, hq2, dm⟩ := (show Dt K H y (.tuple [.str "list", .tuple ds]) from dy).pair
    refine ⟨_, rfl, _, rfl, hp, hds, _, _, _, rfl, L, da, .obj hk, ?_⟩
    refine ⟨_, rfl, rfl, _, rfl, iteTb (by decide +kernel) ?_⟩
    refine ⟨_, rfl, _, rfl, q, _, _, _, rfl, rfl, hq, at1, hp, _, _, _, rfl, rfl, SqL.of ez, atI_nat hy, q2, _, _, _, rfl, rfl, hq2, at1, ?_⟩
    have hml : m = m := rfl
    obtain ⟨qm, ms, rfl, hms, am⟩ := (id dm).tuple_inv
    refine ⟨_, rfl, _, rfl, _, _, rfl, .inr ⟨_, hms, rfl⟩, _, rfl, _, vi, ds.length, i, by rw [am.length], di, Nat.le_trans hl (by decide), fun r H2 S2 dr => ?_⟩
    cases hp2 : placeR i ds.length with
    | inl e =>
      rw [hp2] at dr kk
      obtain ⟨mm, z, rfl⟩ := placeR_inl hp2
      obtain ⟨q3, ws, rfl, hq3, ha3⟩ := (show Dt K H2 r (.tuple [.str "raise", .int mm, .str z]) from dr).head
      exact ⟨_, rfl, q3, _, _, _, rfl, rfl, hq3, at0, rfl, _, rfl, iteTb (by decide +kernel) ⟨_, rfl, kk _ _ S2 dr⟩⟩
    | inr j =>
      rw [hp2] at dr kk
      have kk : ∀ r H', Keep hp H H' → ListAt K H' hp (hds.set k (lstD (ds.set j x))) → Dt K H' r doneD → Q r H' := kk
      obtain ⟨q3, y3, rfl, hq3, d3⟩ := (show Dt K H2 r (.tuple [.str "ok", .int (j : Nat)]) from dr).pair
      cases d3.int_inv
      have hj := placeR_inr hp2
      refine ⟨_, rfl, q3, _, _, _, rfl, rfl, hq3, at0, rfl, _, rfl, iteFb (by decide +kernel) ?_⟩
      refine ⟨_, rfl, q3, _, _, _, rfl, rfl, hq3, at1, ?_⟩
      refine ⟨_, rfl, _, rfl, _, rfl, .tup ds, dm.mono S2, Nat.le_trans hl (by decide), fun v4 H4 S4 d4 => ?_⟩
      rw [show (RowD.tup ds).cut none (some ((j : Nat) : Int)) = .tup (ds.take j) from congrArg RowD.tup (cutG_to ds (by omega))] at d4
      refine ⟨_, rfl, sz_1, fun u5 hu5 => ?_⟩
      have S5 := Same.new (o := .tup [vv]) hu5
      refine ⟨ds.take j, [x], d4.mono S5, Dt.made hu5 (.cons (dx.mono (S2.trans S4)) .nil), by rw [List.length_take]; simp; omega, fun v6 H6 S6 d6 => ?_⟩
      have S26 := ((S2.trans S4).trans S5).trans S6
      refine ⟨_, rfl, _, rfl, _, _, rfl, rfl, _, rfl, .tup ds, dm.mono S26, Nat.le_trans hl (by decide), fun v7 H7 S7 d7 => ?_⟩
      rw [show (RowD.tup ds).cut (some ((j : Int) + 1)) none = .tup (ds.drop (j + 1)) from congrArg RowD.tup (cutG_from (j := j + 1) ds (by omega))] at d7
      refine ⟨_, _, d6.mono S7, d7, by rw [List.length_append, List.length_take, List.length_drop]; simp; omega, fun v8 H8 S8 d8 => ⟨sz_2, fun u9 hu9 => ?_⟩⟩
      have e8 : ds.take j ++ [x] ++ ds.drop (j + 1) = ds.set j x := by
        rw [List.set_eq_take_append_cons_drop, if_pos hj, List.append_assoc]
        rfl
      rw [e8] at d8
      have S9 := Same.new (o := .tup [.str "list", v8]) hu9
      have S29 := ((S26.trans S7).trans S8).trans S9
      have dn : Dt K _ (.ref u9) (lstD (ds.set j x)) := Dt.made hu9 (.cons (.str _) (.cons d8 .nil))
      have ez1 := S29 _ _ ez
      have lz := az.length
      have hix : ixN zs.length ((k : Nat) : Int) = some k := ixN_nat (by rw [lz]; exact (List.getElem?_eq_some_iff.mp hk).1)
      refine ⟨_, rfl, _, rfl, q, _, _, _, rfl, rfl, Same.tupl S29 hq, at1, hp, _, _, k, rfl, rfl, ez1, hix, ?_⟩
      refine kk _ _ (fun b o hb ne => by rw [upd_ne ne]; exact S29 _ _ hb) ⟨_, upd_same, ?_⟩ (dDone _)
      exact dtAll_set (DtAll.keepT (KeepT.upd ez1) (DtAll.mono S29 az)) (Dt.keepT (KeepT.upd ez1) dn)
def spDropI (K : PySem.W.Frag) : Sp := fun vs H Q _ => ∃ (hp : Addr) (hds ds : List PyData) (va vi : V) (k : Nat) (i : Ix), vs = [.ref hp, va, vi] ∧ ListAt K H hp hds ∧ hds[k]? = some (lstD ds) ∧ Dt K H va (.tuple [.str "ref", .int (k : Nat)]) ∧ Dt K H vi i.d ∧ ds.length ≤ 900 ∧ Pick K H hp Q doneD (fun j => hds.set k (lstD (ds.eraseIdx j))) (placeR i ds.length)
theorem ok_drop {f : Addr} {fd : FuncData} (F : Fun K "drop_item" "drop_item" s_drop_item f fd) (T : Txt K mg) (U_object_kind : Use P w K mg base CX0 "object_kind" 1 P_object_kind (spKind K)) (U_row_place : Use P w K mg base CX0 "row_place" 3 P_row_place (spRPlace K)) : FnG P w K mg base CX0 4 f fd P_drop_item (spDropI K) := by
  refine okG0 F sc_drop_item (fun vs H Q E h => ?_) fun cdv A outer s H vs Q E hr hg h => ?_
  · obtain ⟨hp, hds, ds, va, vi, k, i, rfl, _⟩ := h
    rfl
  · obtain ⟨hp, hds, ds, va, vi, k, i, rfl, L, hk, da, di, hl, kk⟩ := h
    obtain ⟨aDN, bDN, gDN, t1, t2⟩ := T.c_DONE
    refine ⟨_, (pss_cons (ps_set (i := 3) sc_drop_item.nd rfl (Or.inl rfl) (pe_use U_object_kind (hr.mono (by decide)) hg rfl (pa_cons (pv 0) (pa_cons (pv 1) pa_nil))))
  (pss_cons (ps_if (pt_cmpR op_notIn_seq (pv 3) (pe_tup (pa_cons pe_str (pa_cons pe_str pa_nil))) (by rfl))
   pss_never
   pss_nil)
  (pss_cons (ps_set (i := 4) sc_drop_item.nd rfl (Or.inl rfl) (pe_ix ix_tup (pe_ix ix_list (pv 0) (pe_ix ix_tup (pv 1) pe_int (fun _ _ => rfl)) (fun _ _ => rfl)) pe_int (fun _ _ => rfl)))
  (pss_cons (ps_if (pt_cmpR op_eq (pv 3) pe_str (nomark _))
   (pss_one (ps_set (i := 5) sc_drop_item.nd rfl (Or.inl rfl) (pe_use U_row_place (hr.mono (by decide)) hg rfl (pa_cons (pv 0) (pa_cons (pe_callB call_len (by rfl) T.b_len PySem.boot_len (pa_cons (pv 4) pa_nil)) (pa_cons (pv 2) pa_nil))))))
   pss_never)
  (pss_cons (ps_if (pt_cmpR op_eq (pe_ix ix_tup (pv 5) pe_int (fun _ _ => rfl)) pe_str (nomark _))
   (pss_one (ps_ret (pv 5)))
   pss_nil)
  (pss_cons (ps_set (i := 6) sc_drop_item.nd rfl (Or.inl rfl) (pe_ix ix_tup (pv 5) pe_int (fun _ _ => rfl)))
  (pss_cons (ps_asg (pe_tup (pa_cons (pv 3) (pa_cons (pe_op op_catTD (pe_slice sl_row (pv 4) po_none (po_some (pv 6))) (pe_slice sl_row (pv 4) (po_some (pe_op op_add (pv 6) pe_int)) po_none)) pa_nil))) (pg_sub (pv 0) (pe_ix ix_tup (pv 1) pe_int (fun _ _ => rfl)) set_list))
  (pss_one (ps_ret (pe_glob (v := .ref aDN) (by rfl) gDN rfl)))))))))), ?_⟩
    have dDone : ∀ H', Dt K H' (.ref aDN) doneD := fun H' => .tup (t1.sq _) (.cons (.str _) (.cons (.tup (t2.sq _) (.cons (.str _) .nil)) .nil))
    obtain ⟨q, y, rfl, hq, hx⟩ := Dt.pair (id da)
    cases hx.int_inv
    obtain ⟨zs, ez, az⟩ := id L
    obtain ⟨y, hy, dy⟩ := az.get hk
    obtain ⟨q2, m, rfl, hq2, dm⟩ := (show Dt K H y (.tuple [.str "list", .tuple ds]) from dy).pair
    refine ⟨_, rfl, _, rfl, hp, hds, _, _, _, rfl, L, da, .obj hk, ?_⟩
    refine ⟨_, rfl, sz_2, fun uk huk => ⟨uk, _, rfl, .inr (SqT.of upd_same), rfl, rfl, _, rfl, iteFb (by decide +kernel) ?_⟩⟩
    have Sk := Same.new (o := .tup [.str "list", .str "dict"]) huk
    have L := listAt_mono L Sk
    have da := da.mono Sk
    have di := di.mono Sk
    have ez := Sk _ _ ez
    have az := az.mono Sk
    have dy := dy.mono Sk
    have dm := dm.mono Sk
    have hq := Same.tupl Sk hq
    have hq2 := Same.tupl Sk hq2
    have kk := kk.mono Sk
    clear Sk
    generalize upd H uk (.tup [.str "list", .str "dict"]) = H at L da di ez az dy dm hq hq2 kk
    refine ⟨_, rfl, _, rfl, q, _, _, _, rfl, rfl, hq, at1, hp, _, _, _, rfl, rfl, SqL.of ez, atI_nat hy, q2, _, _, _, rfl, rfl, hq2, at1, ?_⟩
    have hml : m = m := rfl
    obtain ⟨qm, ms, rfl, hms, am⟩ := (id dm).tuple_inv
    refine ⟨_, rfl, rfl, _, rfl, iteTb (by decide +kernel) ?_⟩
    refine ⟨_, rfl, _, rfl, _, _, rfl, .inr ⟨_, hms, rfl⟩, _, rfl, _, vi, ds.length, i, by rw [am.length], di, Nat.le_trans hl (by decide), fun r H2 S2 dr => ?_⟩
    cases hp2 : placeR i ds.length with
    | inl e =>
      rw [hp2] at dr kk
      obtain ⟨mm, z, rfl⟩ := placeR_inl hp2
      obtain ⟨q3, ws, rfl, hq3, ha3⟩ := (show Dt K H2 r (.tuple [.str "raise", .int mm, .str z]) from dr).head
      exact ⟨_, rfl, q3, _, _, _, rfl, rfl, hq3, at0, rfl, _, rfl, iteTb (by decide +kernel) ⟨_, rfl, kk _ _ S2 dr⟩⟩
    | inr j =>
      rw [hp2] at dr kk
      have kk : ∀ r H', Keep hp H H' → ListAt K H' hp (hds.set k (lstD (ds.eraseIdx j))) → Dt K H' r doneD → Q r H' := kk
      obtain ⟨q3, y3, rfl, hq3, d3⟩ := (show Dt K H2 r (.tuple [.str "ok", .int (j : Nat)]) from dr).pair
      cases d3.int_inv
      have hj := placeR_inr hp2
      refine ⟨_, rfl, q3, _, _, _, rfl, rfl, hq3, at0, rfl, _, rfl, iteFb (by decide +kernel) ?_⟩
      refine ⟨_, rfl, q3, _, _, _, rfl, rfl, hq3, at1, ?_⟩
      refine ⟨_, rfl, _, rfl, _, rfl, _, rfl, .tup ds, dm.mono S2, Nat.le_trans hl (by decide), fun v4 H4 S4 d4 => ?_⟩
      rw [show (RowD.tup ds).cut none (some ((j : Nat) : Int)) = .tup (ds.take j) from congrArg RowD.tup (cutG_to ds (by omega))] at d4
      have S26 := S2.trans S4
      refine ⟨_, rfl, _, rfl, _, _, rfl, rfl, _, rfl, .tup ds, dm.mono S26, Nat.le_trans hl (by decide), fun v7 H7 S7 d7 => ?_⟩
      rw [show (RowD.tup ds).cut (some ((j : Int) + 1)) none = .tup (ds.drop (j + 1)) from congrArg RowD.tup (cutG_from (j := j + 1) ds (by omega))] at d7
      refine ⟨_, _, d4.mono S7, d7, by rw [List.length_take, List.length_drop]; omega, fun v8 H8 S8 d8 => ⟨sz_2, fun u9 hu9 => ?_⟩⟩
      have e8 : ds.take j ++ ds.drop (j + 1) = ds.eraseIdx j := (List.eraseIdx_eq_take_drop_succ ..).symm
      rw [e8] at d8
      have S9 := Same.new (o := .tup [.str "list", v8]) hu9
      have S29 := ((S26.trans S7).trans S8).trans S9
      have dn : Dt K _ (.ref u9) (lstD (ds.eraseIdx j)) := Dt.made hu9 (.cons (.str _) (.cons d8 .nil))
      have ez1 := S29 _ _ ez
      have lz := az.length
      have hix : ixN zs.length ((k : Nat) : Int) = some k := ixN_nat (by rw [lz]; exact (List.getElem?_eq_some_iff.mp hk).1)
      refine ⟨_, rfl, _, rfl, q, _, _, _, rfl, rfl, Same.tupl S29 hq, at1, hp, _, _, k, rfl, rfl, ez1, hix, ?_⟩
      refine kk _ _ (fun b o hb ne => by rw [upd_ne ne]; exact S29 _ _ hb) ⟨_, upd_same, ?_⟩ (dDone _)
      exact dtAll_set (DtAll.keepT (KeepT.upd ez1) (DtAll.mono S29 az)) (Dt.keepT (KeepT.upd ez1) dn)
--SPLIT
end

abbrev s_law_index : Stmt := top 50
abbrev N_law_index : List Str := ["box", "kind"]
abbrev P_law_index : List Str := ["box"]
theorem sc_law_index : FnScope N_law_index P_law_index (defScope s_law_index) := ⟨rfl, rfl, rfl, by decide +kernel, rfl, by decide +kernel, by decide +kernel⟩
abbrev s_law_kind : Stmt := top 51
abbrev N_law_kind : List Str := ["value"]
abbrev P_law_kind : List Str := ["value"]
theorem sc_law_kind : FnScope N_law_kind P_law_kind (defScope s_law_kind) := ⟨rfl, rfl, rfl, by decide +kernel, rfl, by decide +kernel, by decide +kernel⟩
abbrev s_law_place : Stmt := top 52
abbrev N_law_place : List Str := ["index", "many", "at"]
abbrev P_law_place : List Str := ["index", "many"]
theorem sc_law_place : FnScope N_law_place P_law_place (defScope s_law_place) := ⟨rfl, rfl, rfl, by decide +kernel, rfl, by decide +kernel, by decide +kernel⟩
abbrev s_law_clip : Stmt := top 53
abbrev N_law_clip : List Str := ["value", "otherwise", "many", "at"]
abbrev P_law_clip : List Str := ["value", "otherwise", "many"]
theorem sc_law_clip : FnScope N_law_clip P_law_clip (defScope s_law_clip) := ⟨rfl, rfl, rfl, by decide +kernel, rfl, by decide +kernel, by decide +kernel⟩
abbrev s_law_parts : Stmt := top 54
abbrev N_law_parts : List Str := ["heap", "a", "kind", "items", "low", "high", "first", "last", "kept", "actual", "chosen", "k"]
abbrev P_law_parts : List Str := ["heap", "a", "kind", "items", "low", "high"]
theorem sc_law_parts : FnScope N_law_parts P_law_parts (defScope s_law_parts) := ⟨rfl, rfl, rfl, by decide +kernel, rfl, by decide +kernel, by decide +kernel⟩
section
variable {P : Program} {w : World} {K : PySem.W.Frag} {mg : Str → Option Value} {base : Heap}
def spLIndex (K : PySem.W.Frag) : Sp := fun vs H Q _ => ∃ (p dl : Addr), vs = [.ref p] ∧ BoxAt H p dl ∧ ∀ v (i : Ix) H', Dt K H' v i.d → BoxAt H' p dl → Keep p H H' → Q v H'
theorem ok_lindex {f : Addr} {fd : FuncData} (F : Fun K "_law_index" "_law_index" s_law_index f fd) (T : Txt K mg) (U_law_draw : Use P w K mg base CX0 "_law_draw" 1 P_law_draw (spDraw K)) : FnG P w K mg base CX0 2 f fd P_law_index (spLIndex K) := by
  refine okG0 F sc_law_index (fun vs H Q E h => ?_) fun cdv A outer s H vs Q E hr hg h => ?_
  · obtain ⟨p, dl, rfl, _⟩ := h
    rfl
  · obtain ⟨p, dl, rfl, B, k⟩ := h
    refine ⟨_, (pss_cons (ps_set (i := 1) sc_law_index.nd rfl (Or.inl rfl) (pe_use U_law_draw (hr.mono (by decide)) hg rfl (pa_cons (pv 0) (pa_cons pe_int pa_nil))))
  (pss_cons (ps_if (pt_cmpR op_eq (pv 1) pe_int (nomark _))
   (pss_one (ps_ret (pe_tup (pa_cons pe_str (pa_cons (pe_cmpR op_eq (pe_use U_law_draw (hr.mono (by decide)) hg rfl (pa_cons (pv 0) (pa_cons pe_int pa_nil))) pe_int (nomark _)) pa_nil)))))
   pss_nil)
  (pss_cons (ps_if (pt_cmpR op_eq (pv 1) pe_int (nomark _))
   (pss_one (ps_ret (pe_tup (pa_cons pe_str (pa_cons (pe_op op_mul (pe_op op_pow pe_int pe_int) (pe_op op_sub pe_int (pe_op op_mul pe_int (pe_use U_law_draw (hr.mono (by decide)) hg rfl (pa_cons (pv 0) (pa_cons pe_int pa_nil)))))) pa_nil)))))
   pss_nil)
  (pss_cons (ps_if (pt_cmpR op_eq (pv 1) pe_int (nomark _))
   (pss_one (ps_ret (pe_ix ix_list (pe_lst (pa_cons (pe_tup (pa_cons pe_str pa_nil)) (pa_cons (pe_tup (pa_cons pe_str (pa_cons pe_str pa_nil))) (pa_cons (pe_tup (pa_cons pe_str (pa_cons pe_int (pa_cons pe_int pa_nil)))) pa_nil)))) (pe_use U_law_draw (hr.mono (by decide)) hg rfl (pa_cons (pv 0) (pa_cons pe_int pa_nil))) (fun _ _ => rfl))))
   pss_nil)
  (pss_one (ps_ret (pe_tup (pa_cons pe_str (pa_cons (pe_op op_sub (pe_use U_law_draw (hr.mono (by decide)) hg rfl (pa_cons (pv 0) (pa_cons pe_int pa_nil))) pe_int) pa_nil))))))))), ?_⟩
    refine ⟨_, rfl, p, dl, 12, rfl, B, by decide, fun kd H1 _ _ B1 K1 => ?_⟩
    refine ⟨_, rfl, rfl, _, rfl, ite3 (fun c => ?_) fun c => ?_⟩
    · refine ⟨_, rfl, p, dl, 2, rfl, B1, by decide, fun r H2 _ _ B2 K2 => ⟨rfl, sz_2, fun u hu => ?_⟩⟩
      have S := Same.new (o := .tup [.str "bool", .bl (decide (V.int r = V.int 0))]) hu
      exact k _ (.bool _) _ (Dt.made hu (.cons (.str _) (.cons (.bl _) .nil))) (B2.same S) ((K1.trans K2).trans (Same.keep S))
    refine ⟨_, rfl, rfl, _, rfl, ite3 (fun c => ?_) fun c => ?_⟩
    · refine ⟨_, _, rfl, rfl, ⟨by decide, by decide, by decide⟩, _, rfl, p, dl, 2, rfl, B1, by decide, fun r H2 r0 r1 B2 K2 => ?_⟩
      refine ⟨_, _, rfl, rfl, .inl ⟨by decide, by decide⟩, _, _, rfl, rfl, _, _, rfl, rfl, .inr ⟨by omega, by omega⟩, sz_2, fun u hu => ?_⟩
      exact k _ (.int _) _ (Dt.made hu (.cons (.str _) (.cons (.int _) .nil))) (B2.same (Same.new hu)) ((K1.trans K2).trans (Same.keep (Same.new hu)))
    refine ⟨_, rfl, rfl, _, rfl, ite3 (fun c => ?_) fun c => ?_⟩
    · refine ⟨sz_1, fun u1 h1 => ⟨sz_2, fun u2 h2 => ⟨sz_3, fun u3 h3 => ⟨sz_3, fun ul hl => ?_⟩⟩⟩⟩
      have S1 := Same.new (o := .tup [.str "none"]) h1
      have d1 := Dt.made (K := K) h1 (.cons (.str "none") .nil)
      have S2 := Same.new (o := .tup [.str "text", .str "1"]) h2
      have d2 := Dt.made (K := K) h2 (.cons (.str "text") (.cons (.str "1") .nil))
      have S3 := Same.new (o := .tup [.str "span", .int 0, .int 1]) h3
      have d3 := Dt.made (K := K) h3 (.cons (.str "span") (.cons (.int 0) (.cons (.int 1) .nil)))
      have S4 := Same.new (o := .lst [.ref u1, .ref u2, .ref u3]) hl
      have BL := (((B1.same S1).same S2).same S3).same S4
      refine ⟨_, rfl, p, dl, 3, rfl, BL, by decide, fun r H2 r0 r1 B2 K2 => ?_⟩
      have hlp : ul ≠ p := fun e => by
        subst e
        obtain ⟨xs, g⟩ := (((B1.same S1).same S2).same S3).at_
        rw [g] at hl
        cases hl
      have kT := K2.keepT (K := K) BL.at_
      have K12 := (K1.trans (Same.keep (((S1.trans S2).trans S3).trans S4))).trans K2
      have el := K2 ul _ upd_same hlp
      obtain rfl | rfl | rfl : r = 0 ∨ r = 1 ∨ r = 2 := by omega
      · exact ⟨ul, _, _, _, rfl, rfl, SqL.of el, at0, k _ .non _ ((d1.mono ((S2.trans S3).trans S4)).keepT kT) B2 K12⟩
      · exact ⟨ul, _, _, _, rfl, rfl, SqL.of el, at1, k _ .txt _ ((d2.mono (S3.trans S4)).keepT kT) B2 K12⟩
      · exact ⟨ul, _, _, _, rfl, rfl, SqL.of el, at2, k _ .span _ ((d3.mono S4).keepT kT) B2 K12⟩
    · refine ⟨_, rfl, p, dl, 25, rfl, B1, by decide, fun r H2 _ _ B2 K2 => ⟨_, _, rfl, rfl, sz_2, fun u hu => ?_⟩⟩
      have S := Same.new (o := .tup [.str "int", .int (r - 12)]) hu
      exact k _ (.int _) _ (Dt.made hu (.cons (.str _) (.cons (.int _) .nil))) (B2.same S) ((K1.trans K2).trans (Same.keep S))
def spLKind (K : PySem.W.Frag) : Sp := fun vs H Q _ => ∃ (v : V) (i : Ix), vs = [v] ∧ Dt K H v i.d ∧ i.num = none ∧ ∀ H', Same H H' → Q (.str i.nm) H'
theorem ok_lkind {f : Addr} {fd : FuncData} (F : Fun K "_law_kind" "_law_kind" s_law_kind f fd) (T : Txt K mg) : FnG P w K mg base CX0 1 f fd P_law_kind (spLKind K) := by
  refine okG0 F sc_law_kind (fun vs H Q E h => ?_) fun cdv A outer s H vs Q E hr hg h => ?_
  · obtain ⟨v, i, rfl, _⟩ := h
    rfl
  · obtain ⟨v, i, rfl, di, hi, k⟩ := h
    have hu : (A.deeper (envOfC "_law_kind" (defScope s_law_kind) s.heap.objs.size f cdv)).units + 1 < cLine := Nat.lt_of_le_of_lt (by omega) hr.units
    refine ⟨_, (pss_one (ps_ret (pe_dget hu (pe_disp (pps_cons pe_str pe_str (pps_cons pe_str pe_str (pps_cons pe_str pe_str pps_nil))) rfl rfl (by intro z; cases z) (by decide)) (pe_ix ix_tup (pv 0) pe_int (fun _ _ => rfl)) (fun _ _ => rfl)))), ?_⟩
    obtain ⟨q, ws, rfl, hq, _⟩ := di.head
    have hv : valV (mergeK [] [((.inr "none" : Key), V.str "NoneType"), (.inr "text", .str "str"), (.inr "span", .str "range")]) (.inr i.kd) = some (.str i.nm) := by
      cases i with
      | non => exact (show valV (mergeK [] [((.inr "none" : Key), V.str "NoneType"), (.inr "text", .str "str"), (.inr "span", .str "range")]) (.inr "none") = some (.str "NoneType") by decide +kernel)
      | txt => exact (show valV (mergeK [] [((.inr "none" : Key), V.str "NoneType"), (.inr "text", .str "str"), (.inr "span", .str "range")]) (.inr "text") = some (.str "str") by decide +kernel)
      | span => exact (show valV (mergeK [] [((.inr "none" : Key), V.str "NoneType"), (.inr "text", .str "str"), (.inr "span", .str "range")]) (.inr "span") = some (.str "range") by decide +kernel)
      | _ => cases hi
    refine fun pd hpd => ⟨upd_same, [((.inr "none" : Key), V.str "NoneType"), (.inr "text", .str "str"), (.inr "span", .str "range")], rfl, by decide, ?_⟩
    have hup : ∀ {o o' : HO}, upd (upd H pd o) pd o' = upd H pd o' := fun {o o'} => by
      funext b
      by_cases e : b = pd
      · subst e; rw [upd_same, upd_same]
      · rw [upd_ne e, upd_ne e, upd_ne e]
    have S1 := Same.new (o := .dK (mergeK [] [((.inr "none" : Key), V.str "NoneType"), (.inr "text", .str "str"), (.inr "span", .str "range")])) hpd
    rw [hup]
    refine ⟨_, rfl, q, _, _, _, rfl, rfl, Same.tupl S1 hq, at0, pd, .str i.nm, rfl, ?_, k _ S1⟩
    rw [← hv]
    exact DGet.k (k := .inr i.kd) upd_same
def spLPlace (K : PySem.W.Frag) : Sp := fun vs H Q _ => ∃ (v : V) (n : Nat) (i : Ix), vs = [v, .int (n : Int)] ∧ Dt K H v i.d ∧ ∀ r H', Same H H' → Dt K H' r (resD (placeR i n)) → Q r H'
theorem lit_ix : ("index is no integer" : Str) ++ ": " = "index is no integer: " := by decide +kernel
theorem lit_sb : ("slice bound is no integer" : Str) ++ ": " = "slice bound is no integer: " := by decide +kernel
theorem ok_lplace {f : Addr} {fd : FuncData} (F : Fun K "_law_place" "_law_place" s_law_place f fd) (T : Txt K mg) (U_law_kind : Use P w K mg base CX0 "_law_kind" 1 P_law_kind (spLKind K)) : FnG P w K mg base CX0 2 f fd P_law_place (spLPlace K) := by
  refine okG0 F sc_law_place (fun vs H Q E h => ?_) fun cdv A outer s H vs Q E hr hg h => ?_
  · obtain ⟨v, n, i, rfl, _⟩ := h
    rfl
  · obtain ⟨v, n, i, rfl, dv, k⟩ := h
    refine ⟨_, (pss_cons (ps_if (pt_cmpR op_notIn_seq (pe_ix ix_tup (pv 0) pe_int (fun _ _ => rfl)) (pe_tup (pa_cons pe_str (pa_cons pe_str pa_nil))) (by rfl))
   (pss_one (ps_ret (pe_tup (pa_cons pe_str (pa_cons pe_int (pa_cons (pe_op op_add_str pe_str (pe_use U_law_kind (hr.mono (by decide)) hg rfl (pa_cons (pv 0) pa_nil))) pa_nil))))))
   pss_nil)
  (C8.pss_cut (ps_set (i := 2) sc_law_place.nd rfl (Or.inl rfl) (pe_callTy call_int1 (by rfl) T.b_int (by decide +kernel) (pa_cons (pe_ix ix_tup (pv 0) pe_int (fun _ _ => rfl)) pa_nil)))
  (C8.pss_cut (ps_if (pt_cmpR op_lt (pv 2) pe_int (nomark _))
   (pss_one (ps_set (i := 2) sc_law_place.nd rfl (Or.inl rfl) (pe_op op_add (pv 2) (pv 1))))
   pss_nil)
  (pss_cons (ps_if (PW.pt (pw_or (pt_cmpR op_lt (pv 2) pe_int (nomark _)) (pw_or1 (pt_cmpR op_ge (pv 2) (pv 1) (nomark _)))))
   (pss_one (ps_ret (pe_tup (pa_cons pe_str (pa_cons pe_int (pa_cons pe_str pa_nil))))))
   pss_nil)
  (pss_one (ps_ret (pe_tup (pa_cons pe_str (pa_cons (pv 2) pa_nil))))))))), ?_⟩
    obtain ⟨q0, ws, rfl, hq0, _⟩ := (id dv).head
    refine ⟨_, rfl, q0, _, _, _, rfl, rfl, hq0, at0, sz_2, fun u hu => ⟨u, _, rfl, .inr (SqT.of upd_same), rfl, rfl, _, rfl, ?_⟩⟩
    have S1 := Same.new (o := .tup [.str "int", .str "bool"]) hu
    have dv := dv.mono S1
    have k := fun r H' (S : Same (upd H u (.tup [.str "int", .str "bool"])) H') d => k r H' (S1.trans S) d
    generalize upd H u (.tup [.str "int", .str "bool"]) = H1 at dv k
    rw [i.isnum]
    cases hi : i.num with
    | none =>
      refine iteTb rfl ?_
      have hle : ("index is no integer: " : Str).length + i.nm.length ≤ sizeLine := by
        have := i.nml
        have h22 : ("index is no integer: " : Str).length = 21 := by decide +kernel
        rw [h22]
        exact Nat.le_trans (show _ ≤ 1000 by omega) (by decide)
      refine ⟨_, rfl, _, i, rfl, dv, hi, fun H2 S2 => ⟨_, _, rfl, rfl, hle, sz_3, fun u3 hu3 => ?_⟩⟩
      refine k _ _ (S2.trans (Same.new hu3)) ?_
      unfold placeR
      rw [hi, lit_ix]
      exact Dt.made hu3 (.cons (.str _) (.cons (.int _) (.cons (.str _) .nil)))
    | some x =>
      refine iteFb rfl ?_
      have k : ∀ r H', Same H1 H' → Dt K H' r (resD (if back x n < 0 ∨ (n : Int) ≤ back x n then .inl (raiseD 6 "index out of range") else .inr (back x n).toNat)) → Q r H' := fun r H' S2 dr => k r H' S2 (by unfold placeR; rw [hi]; exact dr)
      obtain ⟨q, ws, y, e, hq, hy⟩ := Ix.int_of hi dv
      obtain rfl : q0 = q := V.ref.inj e
      refine ⟨fun σ H' => σ = [some (.ref q0), some (.int n), some (.int x)] ∧ H' = H1, ?_, ?_⟩
      · refine ⟨_, rfl, q0, _, _, _, rfl, rfl, hq, at1, ?_⟩
        rcases hy with rfl | ⟨b, rfl, rfl⟩
        · exact .inl ⟨_, rfl, rfl, rfl⟩
        · exact .inr ⟨b, rfl, rfl, rfl⟩
      rintro _ H1 ⟨rfl, rfl⟩
      refine ⟨fun σ H' => σ = [some (.ref q0), some (.int n), some (.int (back x n))] ∧ H' = H1, ?_, ?_⟩
      · refine ⟨_, rfl, _, _, rfl, rfl, _, rfl, ite3 (fun c => ?_) fun c => ?_⟩
        · have c := of_decide_eq_true c
          refine ⟨_, rfl, _, rfl, _, _, rfl, rfl, ?_, rfl⟩
          unfold back
          rw [if_pos c]
          rfl
        · have c := of_decide_eq_false c
          refine ⟨?_, rfl⟩
          unfold back
          rw [if_neg c]
      rintro _ H1 ⟨rfl, rfl⟩
      have h6 : ∀ r H', Same H1 H' → Dt K H' r (raiseD 6 "index out of range") → back x n < 0 ∨ (n : Int) ≤ back x n → Q r H' := fun r H' S2 dr hc => k r H' S2 (by rw [if_pos hc]; exact dr)
      refine ⟨_, rfl, _, _, rfl, rfl, _, rfl, ?_⟩
      refine ite3 (fun c => ?_) fun c => ?_
      · have c := of_decide_eq_true c
        exact ⟨sz_3, fun u hu => h6 _ _ (Same.new hu) (Dt.made hu (.cons (.str _) (.cons (.int _) (.cons (.str _) .nil)))) (.inl c)⟩
      · have c := of_decide_eq_false c
        refine ⟨_, rfl, _, rfl, _, _, rfl, rfl, _, rfl, ?_⟩
        refine ite3 (fun c2 => ?_) fun c2 => ?_
        · have c2 := of_decide_eq_true c2
          exact ⟨sz_3, fun u hu => h6 _ _ (Same.new hu) (Dt.made hu (.cons (.str _) (.cons (.int _) (.cons (.str _) .nil)))) (.inr c2)⟩
        · have c2 := of_decide_eq_false c2
          refine ⟨_, rfl, sz_2, fun u hu => k _ _ (Same.new hu) ?_⟩
          rw [if_neg (by omega)]
          have : back x n = (((back x n).toNat : Nat) : Int) := by omega
          show Dt K _ _ (okD (.int ((back x n).toNat : Nat)))
          rw [← this]
          exact Dt.made hu (.cons (.str _) (.cons (.int _) .nil))
--SPLIT
def clipD (i : Ix) (o n : Nat) : PyData := if i.bad = true then sbD i else okD (.int (i.at o n : Nat))
def spLClip (K : PySem.W.Frag) : Sp := fun vs H Q _ => ∃ (v : V) (o n : Nat) (i : Ix), vs = [v, .int (o : Int), .int (n : Int)] ∧ Dt K H v i.d ∧ ∀ r H', Same H H' → Dt K H' r (clipD i o n) → Q r H'
theorem ok_lclip {f : Addr} {fd : FuncData} (F : Fun K "_law_clip" "_law_clip" s_law_clip f fd) (T : Txt K mg) (U_law_kind : Use P w K mg base CX0 "_law_kind" 1 P_law_kind (spLKind K)) : FnG P w K mg base CX0 2 f fd P_law_clip (spLClip K) := by
  refine okG0 F sc_law_clip (fun vs H Q E h => ?_) fun cdv A outer s H vs Q E hr hg h => ?_
  · obtain ⟨v, o, n, i, rfl, _⟩ := h
    rfl
  · obtain ⟨v, o, n, i, rfl, dv, k⟩ := h
    refine ⟨_, (pss_cons (ps_if (pt_cmpR op_eq (pe_ix ix_tup (pv 0) pe_int (fun _ _ => rfl)) pe_str (nomark _))
   (pss_one (ps_ret (pe_tup (pa_cons pe_str (pa_cons (pv 1) pa_nil)))))
   pss_nil)
  (pss_cons (ps_if (pt_cmpR op_notIn_seq (pe_ix ix_tup (pv 0) pe_int (fun _ _ => rfl)) (pe_tup (pa_cons pe_str (pa_cons pe_str pa_nil))) (by rfl))
   (pss_one (ps_ret (pe_tup (pa_cons pe_str (pa_cons pe_int (pa_cons (pe_op op_add_str pe_str (pe_use U_law_kind (hr.mono (by decide)) hg rfl (pa_cons (pv 0) pa_nil))) pa_nil))))))
   pss_nil)
  (C8.pss_cut (ps_set (i := 3) sc_law_clip.nd rfl (Or.inl rfl) (pe_callTy call_int1 (by rfl) T.b_int (by decide +kernel) (pa_cons (pe_ix ix_tup (pv 0) pe_int (fun _ _ => rfl)) pa_nil)))
  (C8.pss_cut (ps_if (pt_cmpR op_lt (pv 3) pe_int (nomark _))
   (pss_one (ps_set (i := 3) sc_law_clip.nd rfl (Or.inl rfl) (pe_op op_add (pv 3) (pv 2))))
   pss_nil)
  (pss_one (ps_ret (pe_tup (pa_cons pe_str (pa_cons (pe_callB (call_max2 rfl) (by rfl) T.b_max (by decide +kernel) (pa_cons pe_int (pa_cons (pe_callB (call_min2 rfl) (by rfl) T.b_min (by decide +kernel) (pa_cons (pv 3) (pa_cons (pv 2) pa_nil))) pa_nil))) pa_nil))))))))), ?_⟩
    obtain ⟨q0, ws, rfl, hq0, _⟩ := (id dv).head
    refine ⟨_, rfl, q0, _, _, _, rfl, rfl, hq0, at0, rfl, _, rfl, ?_⟩
    by_cases hn : i = .non
    · subst hn
      refine iteTb (by decide +kernel) ⟨_, rfl, sz_2, fun u hu => k _ _ (Same.new hu) (Dt.made hu (.cons (.str _) (.cons (.int _) .nil)))⟩
    have hkn : V.str i.kd ≠ V.str "none" := by
      cases i with
      | non => exact absurd rfl hn
      | bool b => exact (show V.str "bool" ≠ V.str "none" by decide +kernel)
      | int m => exact (show V.str "int" ≠ V.str "none" by decide +kernel)
      | txt => exact (show V.str "text" ≠ V.str "none" by decide +kernel)
      | span => exact (show V.str "span" ≠ V.str "none" by decide +kernel)
    refine iteFb (decide_eq_false hkn) ?_
    refine ⟨_, rfl, q0, _, _, _, rfl, rfl, hq0, at0, sz_2, fun u hu => ⟨u, _, rfl, .inr (SqT.of upd_same), rfl, rfl, _, rfl, ?_⟩⟩
    have S1 := Same.new (o := .tup [.str "int", .str "bool"]) hu
    have dv := dv.mono S1
    have k := fun r H' (S : Same (upd H u (.tup [.str "int", .str "bool"])) H') d => k r H' (S1.trans S) d
    generalize upd H u (.tup [.str "int", .str "bool"]) = H1 at dv k
    rw [i.isnum]
    cases hi : i.num with
    | none =>
      refine iteTb rfl ?_
      have hbad : i.bad = true := by cases i <;> first | rfl | (cases hi; done) | exact absurd rfl hn
      have hle : ("slice bound is no integer: " : Str).length + i.nm.length ≤ sizeLine := by
        have := i.nml
        have h22 : ("slice bound is no integer: " : Str).length = 27 := by decide +kernel
        rw [h22]
        exact Nat.le_trans (show _ ≤ 1000 by omega) (by decide)
      refine ⟨_, rfl, _, i, rfl, dv, hi, fun H2 S2 => ⟨_, _, rfl, rfl, hle, sz_3, fun u3 hu3 => ?_⟩⟩
      refine k _ _ (S2.trans (Same.new hu3)) ?_
      unfold clipD sbD
      rw [if_pos hbad, lit_sb]
      exact Dt.made hu3 (.cons (.str _) (.cons (.int _) (.cons (.str _) .nil)))
    | some x =>
      refine iteFb rfl ?_
      have hgood : i.bad = false := by cases i <;> first | rfl | (cases hi; done)
      have k : ∀ r H', Same H1 H' → Dt K H' r (okD (.int (clipN x n : Nat))) → Q r H' := fun r H' S2 dr => k r H' S2 (by unfold clipD Ix.at; rw [hgood, hi]; exact dr)
      obtain ⟨q, ws, y, e, hq, hy⟩ := Ix.int_of hi dv
      obtain rfl : q0 = q := V.ref.inj e
      refine ⟨fun σ H' => σ = [some (.ref q0), some (.int o), some (.int n), some (.int x)] ∧ H' = H1, ?_, ?_⟩
      · refine ⟨_, rfl, q0, _, _, _, rfl, rfl, hq, at1, ?_⟩
        rcases hy with rfl | ⟨b, rfl, rfl⟩
        · exact .inl ⟨_, rfl, rfl, rfl⟩
        · exact .inr ⟨b, rfl, rfl, rfl⟩
      rintro _ H1 ⟨rfl, rfl⟩
      refine ⟨fun σ H' => σ = [some (.ref q0), some (.int o), some (.int n), some (.int (back x n))] ∧ H' = H1, ?_, ?_⟩
      · refine ⟨_, rfl, _, _, rfl, rfl, _, rfl, ite3 (fun c => ?_) fun c => ?_⟩
        · have c := of_decide_eq_true c
          refine ⟨_, rfl, _, rfl, _, _, rfl, rfl, ?_, rfl⟩
          unfold back
          rw [if_pos c]
          rfl
        · have c := of_decide_eq_false c
          refine ⟨?_, rfl⟩
          unfold back
          rw [if_neg c]
      rintro _ H1 ⟨rfl, rfl⟩
      refine ⟨_, rfl, _, rfl, _, _, rfl, _, _, rfl, sz_2, fun u hu => k _ _ (Same.new hu) ?_⟩
      rw [← clip_l]
      exact Dt.made hu (.cons (.str _) (.cons (.int _) .nil))
--SPLIT
theorem show_ok {d : PyData} {k M : Nat} (h : Sm d k M) (hk : k ≤ 5) (hM : M ≤ 100000) : ShowOk d := (h.mono hk hM).show (by decide) (by decide)
theorem sm_int {b : Int} (hb : b.natAbs < 2 ^ 20) : Sm (.int b) 0 2000 := Sm.int (Nat.lt_of_lt_of_le hb (Nat.pow_le_pow_right (by decide) (by decide)))
def itsR : RowD → List PyData
  | .txt cs => cs.map fun c => .str (S [c])
  | .tup ds => ds
theorem strs_of {H : Hp} : ∀ {cs : List Nat} {acc : List V}, DtAll K H acc (cs.map fun c => PyData.str (S [c])) → acc = (cs.map fun c => (⟨#[c]⟩ : Str)).map V.str
  | [], _, h => by
    rw [List.map_nil] at h
    cases h
    rfl
  | c :: r, _, h => by
    rw [List.map_cons] at h
    cases h with
    | cons a t =>
      cases a.str_inv
      rw [List.map_cons, List.map_cons, ← strs_of t]
theorem ones_len : ∀ cs : List Nat, ((cs.map fun c => (⟨#[c]⟩ : Str)).map (·.length)).sum = cs.length
  | [] => rfl
  | c :: r => by rw [List.map_cons, List.map_cons, List.sum_cons, ones_len r]; simp [Str.length]; omega
def isT : RowD → Bool
  | .txt _ => true
  | .tup _ => false
def spLParts (K : PySem.W.Frag) : Sp := fun vs H Q _ => ∃ (hp ip : Addr) (hds : List PyData) (v vl vh : V) (t : Bool) (kd : Str) (r : RowD) (d : PyData) (il ih : Ix), vs = [.ref hp, v, .str kd, .ref ip, vl, vh] ∧ ListAt K H hp hds ∧ hds.length ≤ 90 ∧ Dt K H v d ∧ ValIs hds t kd r.d d ∧ t = isT r ∧ r.len ≤ 10 ∧ hp ≠ ip ∧ ListAt K H ip (itsR r) ∧ Dt K H vl il.d ∧ Dt K H vh ih.d ∧
  (∀ x ∈ hds, Sm x 4 40000) ∧ (∀ x ∈ (itsR r), Sm x 2 3000) ∧ (∀ cs, r = .txt cs → ∀ c ∈ cs, c < 128) ∧
  ∀ H' more, Keep hp H H' → ListAt K H' hp (hds ++ more) → more.length ≤ 1 → (∀ x ∈ more, Sm x 4 40000) → Q (.bl true) H'
theorem ok_lparts {f : Addr} {fd : FuncData} (F : Fun K "_law_parts" "_law_parts" s_law_parts f fd) (T : Txt K mg) (U_law_clip : Use P w K mg base CX0 "_law_clip" 2 P_law_clip (spLClip K)) (U_part : Use P w K mg base CX0 "part" 3 P_part (spPart K)) (U_law_same : Use P w K mg base CX0 "_law_same" 1 P_law_same (spSame K)) : FnG P w K mg base CX0 4 f fd P_law_parts (spLParts K) := by
  refine okG0 F sc_law_parts (fun vs H Q E h => ?_) fun cdv A outer s H vs Q E hr hg h => ?_
  · obtain ⟨hp, ip, hds, v, vl, vh, t, kd, r, d, il, ih, rfl, _⟩ := h
    rfl
  · obtain ⟨hp, ip, hds, v, vl, vh, t, kd, r, d, il, ih, rfl, L, hl, dv, hv, htr, hrl, hne, LI, dl, dh, hsm, hsi, hlow, k⟩ := h
    refine ⟨_, (pss_cons (ps_set (i := 6) sc_law_parts.nd rfl (Or.inl rfl) (pe_use U_law_clip (hr.mono (by decide)) hg rfl (pa_cons (pv 4) (pa_cons pe_int (pa_cons (pe_callB call_len (by rfl) T.b_len PySem.boot_len (pa_cons (pv 3) pa_nil)) pa_nil)))))
  (pss_cons (ps_set (i := 7) sc_law_parts.nd rfl (Or.inl rfl) (pe_use U_law_clip (hr.mono (by decide)) hg rfl (pa_cons (pv 5) (pa_cons (pe_callB call_len (by rfl) T.b_len PySem.boot_len (pa_cons (pv 3) pa_nil)) (pa_cons (pe_callB call_len (by rfl) T.b_len PySem.boot_len (pa_cons (pv 3) pa_nil)) pa_nil)))))
  (pss_cons (ps_set (i := 8) sc_law_parts.nd rfl (Or.inl rfl) (pe_callTy call_list_of (by rfl) T.b_list (by decide +kernel) (pa_cons (pv 0) pa_nil)))
  (pss_cons (ps_set (i := 9) sc_law_parts.nd rfl (Or.inl rfl) (pe_use U_part (hr.mono (by decide)) hg rfl (pa_cons (pv 0) (pa_cons (pv 1) (pa_cons (pv 4) (pa_cons (pv 5) pa_nil))))))
  (pss_cons (ps_if (pt_cmpR op_eq (pe_ix ix_tup (pv 6) pe_int (fun _ _ => rfl)) pe_str (nomark _))
   (pss_one (ps_ret (pe_use U_law_same (hr.mono (by decide)) hg rfl (pa_cons (pv 9) (pa_cons (pv 6) pa_nil)))))
   pss_nil)
  (pss_cons (ps_if (pt_cmpR op_eq (pe_ix ix_tup (pv 7) pe_int (fun _ _ => rfl)) pe_str (nomark _))
   (pss_one (ps_ret (pe_use U_law_same (hr.mono (by decide)) hg rfl (pa_cons (pv 9) (pa_cons (pv 7) pa_nil)))))
   pss_nil)
  (pss_cons (ps_set (i := 10) sc_law_parts.nd rfl (Or.inl rfl) (pe_lst pa_nil))
  (pss_cons (ps_for PassesOwn.never rfl (pi_range2 (by rfl) T.b_range (pa_cons (pe_ix ix_tup (pv 6) pe_int (fun _ _ => rfl)) (pa_cons (pe_ix ix_tup (pv 7) pe_int (fun _ _ => rfl)) pa_nil))) (pg_name (i := 11) sc_law_parts.nd rfl (Or.inl rfl))
   (pss_one (ps_expr (pe_bm PySem.F.plainAttrs_list PySem.F.slot_list_append PySem.F.type_list_append mt_append (pv 10) (pa_cons (pe_ix ix_list (pv 3) (pv 11) (fun _ _ => rfl)) pa_nil)))))
  (pss_cons (ps_if (pt_cmpR op_eq (pv 2) pe_str (nomark _))
   (pss_one (ps_ret (pe_and (pe_use U_law_same (hr.mono (by decide)) hg rfl (pa_cons (pv 9) (pa_cons (pe_tup (pa_cons pe_str (pa_cons (pe_tup (pa_cons pe_str (pa_cons (pe_bm PySem.F.plainAttrs_str PySem.F.slot_str_join PySem.F.type_str_join mt_join pe_str (pa_cons (pv 10) pa_nil)) pa_nil))) pa_nil))) pa_nil))) (pe_one (pe_use U_law_same (hr.mono (by decide)) hg rfl (pa_cons (pv 0) (pa_cons (pv 8) pa_nil)))))))
   pss_nil)
  (pss_cons (ps_if (PW.pt (pw_or (pt_cmpR op_ne (pe_ix ix_tup (pv 9) pe_int (fun _ _ => rfl)) pe_str (nomark _)) (pw_or (pt_cmpR op_ne (pe_ix ix_tup (pe_ix ix_tup (pv 9) pe_int (fun _ _ => rfl)) pe_int (fun _ _ => rfl)) pe_str (nomark _)) (pw_or1 (pt_not (pt_chain op_le op_lt (pe_callB call_len (by rfl) T.b_len PySem.boot_len (pa_cons (pv 8) pa_nil)) (pe_ix ix_tup (pe_ix ix_tup (pv 9) pe_int (fun _ _ => rfl)) pe_int (fun _ _ => rfl)) (pe_callB call_len (by rfl) T.b_len PySem.boot_len (pa_cons (pv 0) pa_nil))))))))
   (pss_one (ps_ret pe_bl))
   pss_nil)
  (pss_one (ps_ret (pe_and (pe_use U_law_same (hr.mono (by decide)) hg rfl (pa_cons (pe_ix ix_list (pv 0) (pe_ix ix_tup (pe_ix ix_tup (pv 9) pe_int (fun _ _ => rfl)) pe_int (fun _ _ => rfl)) (fun _ _ => rfl)) (pa_cons (pe_tup (pa_cons (pv 2) (pa_cons (pe_callTy call_tuple_of (by rfl) T.b_tuple (by decide +kernel) (pa_cons (pv 10) pa_nil)) pa_nil))) pa_nil))) (pe_one (pe_use U_law_same (hr.mono (by decide)) hg rfl (pa_cons (pe_slice sl_list (pv 0) po_none (po_some (pe_callB call_len (by rfl) T.b_len PySem.boot_len (pa_cons (pv 8) pa_nil)))) (pa_cons (pv 8) pa_nil))))))))))))))))), ?_⟩
    obtain ⟨xs, ei, ai⟩ := id LI
    obtain ⟨zs, ez, az⟩ := id L
    have hxl : xs.length = r.len := by
      rw [ai.length]
      cases r <;> simp [itsR, RowD.len]
    refine ⟨_, rfl, _, rfl, _, _, rfl, .inl ⟨_, SqL.of ei, rfl⟩, vl, 0, xs.length, il, rfl, dl, fun v1 H1 S1 d1 => ?_⟩
    refine ⟨_, rfl, _, rfl, _, _, rfl, .inl ⟨_, SqL.of (S1 _ _ ei), rfl⟩, _, rfl, _, _, rfl, .inl ⟨_, SqL.of (S1 _ _ ei), rfl⟩, vh, xs.length, xs.length, ih, rfl, dh.mono S1, fun v2 H2 S2 d2 => ?_⟩
    have S12 := S1.trans S2
    refine ⟨_, rfl, hp, zs, rfl, .inl (SqL.of (S12 _ _ ez)), fun lk hlk => ?_⟩
    have S3 := Same.new (o := .lst zs) hlk
    have S13 := S12.trans S3
    have ek : upd H2 lk (.lst zs) lk = some (.lst zs) := upd_same
    have hlkp : lk ≠ hp := Ne.symm (ne_of_none (S12 _ _ ez) hlk)
    have d1 := d1.mono (S2.trans S3)
    have d2 := d2.mono S3
    generalize upd H2 lk (.lst zs) = H3 at S3 S13 ek d1 d2
    rw [hxl] at d1 d2
    have show1 : ∀ i : Ix, ShowOk (sbD i) := fun i => by
      cases i with
      | bool b => exact show_ok (Sm.tup (.cons (Sm.short (by decide +kernel)) (.cons (sm_int (b := 10) (by decide)) (.cons (Sm.short (n := ("slice bound is no integer" ++ ": ") ++ "bool") (by decide +kernel)) .nil)))) (by decide) (by decide)
      | int n => exact show_ok (Sm.tup (.cons (Sm.short (by decide +kernel)) (.cons (sm_int (b := 10) (by decide)) (.cons (Sm.short (n := ("slice bound is no integer" ++ ": ") ++ "int") (by decide +kernel)) .nil)))) (by decide) (by decide)
      | non => exact show_ok (Sm.tup (.cons (Sm.short (by decide +kernel)) (.cons (sm_int (b := 10) (by decide)) (.cons (Sm.short (n := ("slice bound is no integer" ++ ": ") ++ "NoneType") (by decide +kernel)) .nil)))) (by decide) (by decide)
      | txt => exact show_ok (Sm.tup (.cons (Sm.short (by decide +kernel)) (.cons (sm_int (b := 10) (by decide)) (.cons (Sm.short (n := ("slice bound is no integer" ++ ": ") ++ "str") (by decide +kernel)) .nil)))) (by decide) (by decide)
      | span => exact show_ok (Sm.tup (.cons (Sm.short (by decide +kernel)) (.cons (sm_int (b := 10) (by decide)) (.cons (Sm.short (n := ("slice bound is no integer" ++ ": ") ++ "range") (by decide +kernel)) .nil)))) (by decide) (by decide)
    refine ⟨_, rfl, _, rfl, _, rfl, _, rfl, hp, hds, v, vl, vh, t, kd, r, d, il, ih, rfl, listAt_mono L S13, by omega, dv.mono S13, hv, by omega, dl.mono S13, dh.mono S13, fun hb x H4 S4 dx => ?_, fun hb hb2 x H4 S4 dx => ?_, fun hb hb2 => ?_⟩
    · unfold clipD at d1
      rw [if_pos hb] at d1
      have d1 := d1.mono S4
      obtain ⟨q1, w1, rfl, hq1, _⟩ := (show Dt K H4 v1 (.tuple [.str "raise", .int 10, .str (("slice bound is no integer" ++ ": ") ++ il.nm)]) from d1).head
      refine ⟨_, rfl, q1, _, _, _, rfl, rfl, hq1, at0, rfl, _, rfl, iteTb (by decide +kernel) ?_⟩
      exact ⟨_, rfl, _, rfl, _, _, _, rfl, dx.dp, d1.dp, show1 il, k _ [] (Same.keep (S13.trans S4)) (by rw [List.append_nil]; exact listAt_mono L (S13.trans S4)) (by simp) (by simp)⟩
    · unfold clipD at d1 d2
      rw [if_neg (by rw [hb]; decide)] at d1
      rw [if_pos hb2] at d2
      have d1 := d1.mono S4
      have d2 := d2.mono S4
      obtain ⟨q1, w1, rfl, hq1, _⟩ := (show Dt K H4 v1 (.tuple [.str "ok", .int (il.at 0 r.len : Nat)]) from d1).head
      obtain ⟨q2, w2, rfl, hq2, _⟩ := (show Dt K H4 v2 (.tuple [.str "raise", .int 10, .str (("slice bound is no integer" ++ ": ") ++ ih.nm)]) from d2).head
      refine ⟨_, rfl, q1, _, _, _, rfl, rfl, hq1, at0, rfl, _, rfl, iteFb (by decide +kernel) ?_⟩
      refine ⟨_, rfl, q2, _, _, _, rfl, rfl, hq2, at0, rfl, _, rfl, iteTb (by decide +kernel) ?_⟩
      exact ⟨_, rfl, _, rfl, _, _, _, rfl, dx.dp, d2.dp, show1 ih, k _ [] (Same.keep (S13.trans S4)) (by rw [List.append_nil]; exact listAt_mono L (S13.trans S4)) (by simp) (by simp)⟩
    · unfold clipD at d1 d2
      rw [if_neg (by rw [hb]; decide)] at d1
      rw [if_neg (by rw [hb2]; decide)] at d2
      generalize hj1 : il.at 0 r.len = j1 at d1
      generalize hj2 : ih.at r.len r.len = j2 at d2
      intro v5 H5 K5 L5 d5
      obtain ⟨q1, w1, rfl, hq1, e1⟩ := (show Dt K H3 v1 (.tuple [.str "ok", .int (j1 : Nat)]) from d1).pair
      cases e1.int_inv
      obtain ⟨q2, w2, rfl, hq2, e2⟩ := (show Dt K H3 v2 (.tuple [.str "ok", .int (j2 : Nat)]) from d2).pair
      cases e2.int_inv
      have kT := K5.keepT (K := K) ⟨zs, S13 _ _ ez⟩
      have hq1 := kT _ _ hq1
      have hq2 := kT _ _ hq2
      refine ⟨_, rfl, q1, _, _, _, rfl, rfl, hq1, at0, rfl, _, rfl, iteFb (by decide +kernel) ?_⟩
      refine ⟨_, rfl, q2, _, _, _, rfl, rfl, hq2, at0, rfl, _, rfl, iteFb (by decide +kernel) ?_⟩
      refine ⟨sz_0, fun lc hlc => ?_⟩
      have S6 := Same.new (o := .lst []) hlc
      have hq1c := Same.tupl S6 hq1
      have hq2c := Same.tupl S6 hq2
      refine ⟨_, rfl, q1, _, _, _, rfl, rfl, hq1c, at1, _, rfl, q2, _, _, _, rfl, rfl, hq2c, at1, ?_⟩
      have lj1 : j1 ≤ r.len := by
        rw [← hj1]; unfold Ix.at; split
        · omega
        · exact clipN_le _ _
      have lj2 : j2 ≤ r.len := by
        rw [← hj2]; unfold Ix.at; split
        · omega
        · exact clipN_le _ _
      have eil : (itsR r).length = r.len := by cases r <;> simp [itsR, RowD.len]
      have ei5 : H5 ip = some (.lst xs) := K5 ip _ (S13 _ _ ei) (Ne.symm hne)
      have ai5 : DtAll K H5 xs (itsR r) := DtAll.keepT kT (DtAll.mono S13 ai)
      have hipc : ip ≠ lc := ne_of_none ei5 hlc
      refine ⟨_, _, rfl, ⟨by omega, by omega, by omega, by omega⟩, ?_⟩
      refine for_range (lo := (j1 : Int)) (n := ((j2 : Int) - (j1 : Int)).toNat) (fun i σ H7 => ∃ x11, σ = [some (.ref hp), some v, some (.str kd), some (.ref ip), some vl, some vh, some (.ref q1), some (.ref q2), some (.ref lk), some v5, some (.ref lc), x11] ∧ Same H5 H7 ∧ ∃ acc, H7 lc = some (.lst acc) ∧ DtAll K H7 acc (((itsR r).drop j1).take i)) ⟨none, rfl, S6, [], upd_same, by rw [List.take_zero]; exact .nil⟩ ?_ ?_
      · rintro i σ H7 hi ⟨x11, rfl, S7, acc, ea, da⟩
        have hix : j1 + i < (itsR r).length := by omega
        have hx : (itsR r)[j1 + i]? = some (itsR r)[j1 + i] := List.getElem?_eq_getElem hix
        obtain ⟨y, hy, dy⟩ := (DtAll.mono S7 ai5).get hx
        have la := da.length
        rw [List.length_take, List.length_drop] at la
        refine ⟨_, rfl, .inl ⟨rfl, _, SqL.of ea⟩, _, rfl, _, rfl, ip, _, _, _, rfl, rfl, SqL.of (S7 _ _ ei5), at_of' (j := j1 + i) (by omega) hy, lc, _, _, rfl, rfl, ea, Nat.lt_of_le_of_lt (show acc.length ≤ 100 by omega) (by decide), ?_⟩
        refine ⟨_, rfl, fun b o hb => by rw [upd_ne (ne_of_none hb hlc)]; exact S7 _ _ hb, _, upd_same, ?_⟩
        have e9 : ((itsR r).drop j1).take (i + 1) = ((itsR r).drop j1).take i ++ [(itsR r)[j1 + i]] := by
          rw [List.take_succ, List.getElem?_drop, hx]
          rfl
        rw [e9]
        have kk : KeepT K H7 (upd H7 lc (.lst (acc ++ [y]))) := KeepT.upd ea
        exact DtAll.app (DtAll.keepT kk da) (.cons (Dt.keepT kk dy) .nil)
      rintro σ H7 ⟨x11, rfl, S7, acc, ea, da⟩
      have ecut : ((itsR r).drop j1).take ((j2 : Int) - (j1 : Int)).toNat = itsR (r.cut (some (j1 : Nat)) (some (j2 : Nat))) := by
        have e1 : ((j2 : Int) - (j1 : Int)).toNat = j2 - j1 := by omega
        rw [e1]
        cases r with
        | txt cs =>
          show ((cs.map _).drop j1).take (j2 - j1) = (cutG cs _ _).map _
          rw [cutG_nat cs (show j1 ≤ cs.length from lj1) lj2, List.map_take, List.map_drop]
        | tup ds => exact (cutG_nat ds (show j1 ≤ ds.length from lj1) lj2).symm
      rw [ecut] at da
      cases r with
      | txt cs =>
        obtain rfl : t = true := htr
        obtain ⟨_, hkt⟩ | ⟨h, _⟩ := hv.kd
        · subst hkt
          refine ⟨_, rfl, rfl, _, rfl, iteTb (by decide +kernel) ?_⟩
          have da : DtAll K H7 acc ((cutG cs (some (j1 : Nat)) (some (j2 : Nat))).map fun c => PyData.str (S [c])) := da
          have d5 : Dt K H5 v5 (okD (.tuple [.str "text", .str (S (cutG cs (some (j1 : Nat)) (some (j2 : Nat))))])) := by
            exact d5
          have hcs : (cutG cs (some ((j1 : Nat) : Int)) (some ((j2 : Nat) : Int))).length ≤ 10 ∧ ∀ c ∈ cutG cs (some ((j1 : Nat) : Int)) (some ((j2 : Nat) : Int)), c < 128 := by
            unfold cutG
            refine ⟨?_, fun c hc => hlow cs rfl c (List.mem_of_mem_drop (List.mem_of_mem_take hc))⟩
            rw [List.length_take, List.length_drop]
            have : cs.length ≤ 10 := hrl
            omega
          generalize cutG cs (some ((j1 : Nat) : Int)) (some ((j2 : Nat) : Int)) = cs' at da d5 hcs
          obtain ⟨hcs, hcl⟩ := hcs
          obtain rfl := strs_of da
          have hjn : ((cs'.map fun c => (⟨#[c]⟩ : Str)).map (·.length)).sum = cs'.length := ones_len cs'
          have L7 : ListAt K H7 hp hds := by
            have := listAt_mono L5 S7
            rw [show resL true "text" (some (RowD.cut (.txt cs) (some (j1 : Nat)) (some (j2 : Nat))).d) = [] from rfl, List.append_nil] at this
            exact this
          have ek7 : H7 lk = some (.lst zs) := S7 _ _ (K5 _ _ ek hlkp)
          have az7 : DtAll K H7 zs hds := DtAll.mono S7 (DtAll.keepT kT (DtAll.mono S13 az))
          refine ⟨_, rfl, rfl, _, rfl, "", lc, _, rfl, rfl, .inl (SqL.of ea), ?_, sz_2, fun u1 h1 => ⟨sz_2, fun u2 h2 => ⟨v5, _, _, rfl, (d5.mono (S7.trans ((Same.new h1).trans (Same.new h2)))).dp, Dt.dp (Dt.made h2 (.cons (.str _) (.cons (Dt.made h1 (.cons (.str _) (.cons ?_ .nil))) .nil))), ?_, true, rfl, iteTb rfl ?_⟩⟩⟩
          · rw [hjn, show ("" : Str).length = 0 by decide +kernel]
            exact Nat.le_trans (show _ ≤ 100 by omega) (by decide)
          · rw [join_chars]
            exact .str _
          · refine show_ok (Sm.tup (.cons (Sm.short (n := "ok") (by decide +kernel)) (.cons (Sm.tup (.cons (Sm.short (n := "text") (by decide +kernel)) (.cons (Sm.str (n := 10) (by rw [S_len]; exact hcs) fun c hc => Nat.lt_trans (hcl c (by simpa [S] using hc)) (by decide)) .nil))) .nil))) (by decide) (by decide)
          · have S8 := (Same.new (o := .tup [.str "text", .str (Txt.join "" (cs'.map fun c => (⟨#[c]⟩ : Str)))]) h1).trans (Same.new (o := .tup [.str "ok", .ref u1]) h2)
            have L8 := listAt_mono L7 S8
            exact ⟨_, rfl, _, rfl, _, _, _, rfl, L8.dp, .lst (SqL.of (S8 _ _ ek7)) (DtAll.mono S8 az7).dp, (Sm.lst ((SmAll.many hsm).mem (m := 90) (M := 3600000) hl (by omega))).show (by decide) (by decide),
              k _ [] (((Same.keep S13).trans K5).trans (Same.keep (S7.trans S8))) (by rw [List.append_nil]; exact L8) (by simp) (by simp)⟩
        · cases h
      | tup ds =>
        obtain rfl : t = false := htr
        obtain ⟨h, _⟩ | ⟨_, he⟩ := hv.kd
        · cases h
        · have hkd : shortS kd = true := by rcases he with rfl | rfl <;> decide +kernel
          refine ⟨_, rfl, rfl, _, rfl, iteFb (by rcases he with rfl | rfl <;> decide +kernel) ?_⟩
          have da : DtAll K H7 acc (cutG ds (some (j1 : Nat)) (some (j2 : Nat))) := da
          have L5 : ListAt K H5 hp (hds ++ [.tuple [.str kd, .tuple (cutG ds (some (j1 : Nat)) (some (j2 : Nat)))]]) := L5
          have d5 : Dt K H5 v5 (okD (.tuple [.str "ref", .int (hds.length : Nat)])) := d5
          have hsc : ∀ x ∈ cutG ds (some ((j1 : Nat) : Int)) (some ((j2 : Nat) : Int)), Sm x 2 3000 := fun x hx => hsi x (List.mem_of_mem_drop (List.mem_of_mem_take (by unfold cutG at hx; exact hx)))
          have hcl : (cutG ds (some ((j1 : Nat) : Int)) (some ((j2 : Nat) : Int))).length ≤ 10 := by
            unfold cutG
            rw [List.length_take, List.length_drop]
            have : ds.length ≤ 10 := hrl
            omega
          generalize cutG ds (some ((j1 : Nat) : Int)) (some ((j2 : Nat) : Int)) = es at da L5 hsc hcl
          have hsn : Sm (.tuple [.str kd, .tuple es]) 4 40000 := (Sm.tup (.cons (Sm.short hkd) (.cons (Sm.tup ((SmAll.many hsc).mem (m := 10) (M := 30000) hcl (by omega))) .nil))).mono (by decide) (by decide)
          obtain ⟨q5, y5, rfl, hq5, dy5⟩ := (show Dt K H5 v5 (.tuple [.str "ok", .tuple [.str "ref", .int (hds.length : Nat)]]) from d5).pair
          obtain ⟨q6, y6, rfl, hq6, dy6⟩ := dy5.pair
          cases dy6.int_inv
          have hq5 := Same.tupl S7 hq5
          have hq6 := Same.tupl S7 hq6
          have L7 := listAt_mono L5 S7
          obtain ⟨zs7, ez7, az7⟩ := id L7
          have lz7 := az7.length
          rw [List.length_append, List.length_singleton] at lz7
          have lz := az.length
          have ek7 : H7 lk = some (.lst zs) := S7 _ _ (K5 _ _ ek hlkp)
          have azk : DtAll K H7 zs hds := DtAll.mono S7 (DtAll.keepT kT (DtAll.mono S13 az))
          obtain ⟨y9, hy9, dy9⟩ := az7.get (i := hds.length) (d := .tuple [.str kd, .tuple es]) (by simp)
          refine ⟨_, rfl, q5, _, _, _, rfl, rfl, hq5, at0, rfl, _, rfl, iteFb (by decide +kernel) ?_⟩
          refine ⟨_, rfl, q5, _, _, _, rfl, rfl, hq5, at1, q6, _, _, _, rfl, rfl, hq6, at0, rfl, _, rfl, iteFb (by decide +kernel) ?_⟩
          refine ⟨_, rfl, _, _, rfl, .inl ⟨_, SqL.of ek7, rfl⟩, _, rfl, q5, _, _, _, rfl, rfl, hq5, at1, q6, _, _, _, rfl, rfl, hq6, at1, _, _, rfl, rfl, _, rfl, iteTb (decide_eq_true (by omega)) ?_⟩
          refine ⟨_, rfl, _, _, rfl, .inl ⟨_, SqL.of ez7, rfl⟩, _, _, rfl, rfl, _, rfl, iteFb (by rw [decide_eq_true (by omega)]; rfl) ?_⟩
          refine ⟨_, rfl, _, rfl, q5, _, _, _, rfl, rfl, hq5, at1, q6, _, _, _, rfl, rfl, hq6, at1, hp, _, _, _, rfl, rfl, SqL.of ez7, atI_nat hy9, _, rfl, _, rfl, lc, acc, rfl, .inl ⟨SqL.of ea, fun u1 h1 => ⟨sz_2, fun u2 h2 => ?_⟩⟩⟩
          have S8 := (Same.new (o := .tup acc) h1).trans (Same.new (o := .tup [.str kd, .ref u1]) h2)
          refine ⟨_, _, _, rfl, (dy9.mono S8).dp, Dt.dp (Dt.made h2 (.cons (.str _) (.cons (Dt.made h1 da) .nil))), hsn.show (by decide) (by decide), true, rfl, iteTb rfl ?_⟩
          refine ⟨_, rfl, _, rfl, _, _, rfl, .inl ⟨_, SqL.of (S8 _ _ ek7), rfl⟩, _, rfl, hp, _, rfl, SqL.of (S8 _ _ ez7), fun u3 h3 => ?_⟩
          have S9 := S8.trans (Same.new (o := .lst (cutV zs7 none (some ((zs.length : Nat) : Int)))) h3)
          have ac : DtAll K H7 (cutV zs7 none (some ((zs.length : Nat) : Int))) hds := by
            have := DtAll.cutG az7 none (some ((zs.length : Nat) : Int))
            rw [cutG_to _ (by rw [List.length_append]; simp; omega)] at this
            have e1 : List.take zs.length (hds ++ [PyData.tuple [.str kd, .tuple es]]) = hds := by rw [lz]; exact List.take_left' rfl
            rw [e1] at this
            exact this
          refine ⟨_, rfl, _, _, _, rfl, .lst (SqL.of upd_same) (DtAll.mono S9 ac).dp, .lst (SqL.of (S9 _ _ ek7)) (DtAll.mono S9 azk).dp, (Sm.lst ((SmAll.many hsm).mem (m := 90) (M := 3600000) hl (by omega))).show (by decide) (by decide), ?_⟩
          exact k _ [.tuple [.str kd, .tuple es]] (((Same.keep S13).trans K5).trans (Same.keep (S7.trans S9))) (listAt_mono L7 S9) (by simp) (by simpa using hsn)
--SPLIT
abbrev s_law_changes : Stmt := top 55
abbrev N_law_changes : List Str := ["box", "items", "index", "heap", "place", "one", "due"]
abbrev P_law_changes : List Str := ["box", "items", "index"]
theorem sc_law_changes : FnScope N_law_changes P_law_changes (defScope s_law_changes) := ⟨rfl, rfl, rfl, by decide +kernel, rfl, by decide +kernel, by decide +kernel⟩
theorem same_none0 {H H' : Hp} {q : Addr} (S1 : Same H H') (h : H' q = none) : H q = none := by
  cases e : H q with
  | none => rfl
  | some o => rw [S1 _ _ e] at h; cases h
theorem ixnm_short (i : Ix) : shortS (("index is no integer" ++ ": ") ++ i.nm) = true := by cases i <;> simp only [Ix.nm] <;> decide +kernel
theorem placeR_show {i : Ix} {n : Nat} {d : PyData} (h : placeR i n = .inl d) : ShowOk d := by
  have o : ∀ (m : Int) (z : Str), m.natAbs < 2 ^ 20 → shortS z = true → ShowOk (raiseD m z) := fun m z hm hz => show_ok (Sm.tup (.cons (Sm.short (n := "raise") (by decide +kernel)) (.cons (sm_int hm) (.cons (Sm.short hz) .nil)))) (by decide) (by decide)
  unfold placeR at h
  split at h
  · cases h; exact o _ _ (by decide) (ixnm_short i)
  · split at h
    · cases h; exact o _ _ (by decide) (by decide +kernel)
    · cases h
def spLChanges (K : PySem.W.Frag) : Sp := fun vs H Q _ => ∃ (b vi : V) (ip : Addr) (ds : List PyData) (i : Ix), vs = [b, .ref ip, vi] ∧ ListAt K H ip ds ∧ ds.length ≤ 10 ∧ (∀ x ∈ ds, Sm x 2 3000) ∧ Dt K H vi i.d ∧ ∀ H', Same H H' → Q (.bl true) H'
theorem ok_lchanges {f : Addr} {fd : FuncData} (F : Fun K "_law_changes" "_law_changes" s_law_changes f fd) (T : Txt K mg) (U_law_place : Use P w K mg base CX0 "_law_place" 2 P_law_place (spLPlace K)) (U_put_item : Use P w K mg base CX0 "put_item" 4 P_put_item (spPutI K)) (U_drop_item : Use P w K mg base CX0 "drop_item" 4 P_drop_item (spDropI K)) (U_law_same : Use P w K mg base CX0 "_law_same" 1 P_law_same (spSame K)) : FnG P w K mg base CX0 5 f fd P_law_changes (spLChanges K) := by
  refine okG0 F sc_law_changes (fun vs H Q E h => ?_) fun cdv A outer s H vs Q E hr hg h => ?_
  · obtain ⟨b, vi, ip, ds, i, rfl, _⟩ := h
    rfl
  · obtain ⟨b, vi, ip, ds, i, rfl, LI, hl, hsm, di, k⟩ := h
    refine ⟨_, (pss_cons (ps_set (i := 3) sc_law_changes.nd rfl (Or.inl rfl) (pe_lst (pa_cons (pe_tup (pa_cons pe_str (pa_cons (pe_callTy call_tuple_of (by rfl) T.b_tuple (by decide +kernel) (pa_cons (pv 1) pa_nil)) pa_nil))) (pa_cons (pe_tup (pa_cons pe_str (pa_cons (pe_callTy call_tuple_of (by rfl) T.b_tuple (by decide +kernel) (pa_cons (pv 1) pa_nil)) pa_nil))) pa_nil))))
  (pss_cons (ps_set (i := 4) sc_law_changes.nd rfl (Or.inl rfl) (pe_use U_law_place (hr.mono (by decide)) hg rfl (pa_cons (pv 2) (pa_cons (pe_callB call_len (by rfl) T.b_len PySem.boot_len (pa_cons (pv 1) pa_nil)) pa_nil))))
  (pss_cons (ps_set (i := 5) sc_law_changes.nd rfl (Or.inl rfl) (pe_callTy call_list_of (by rfl) T.b_list (by decide +kernel) (pa_cons (pv 1) pa_nil)))
  (pss_cons (ps_set (i := 6) sc_law_changes.nd rfl (Or.inl rfl) (pv 4))
  (pss_cons (ps_if (pt_cmpR op_eq (pe_ix ix_tup (pv 4) pe_int (fun _ _ => rfl)) pe_str (nomark _))
   (pss_cons (ps_asg (pe_tup (pa_cons pe_str (pa_cons pe_str pa_nil))) (pg_sub (pv 5) (pe_ix ix_tup (pv 4) pe_int (fun _ _ => rfl)) set_list))
  (pss_one (ps_set (i := 6) sc_law_changes.nd rfl (Or.inl rfl) (pe_tup (pa_cons pe_str (pa_cons (pe_tup (pa_cons pe_str pa_nil)) pa_nil))))))
   pss_nil)
  (pss_cons (ps_if (PW.pt (pw_or (pt_not (pt_val (pe_use U_law_same (hr.mono (by decide)) hg rfl (pa_cons (pe_use U_put_item (hr.mono (by decide)) hg rfl (pa_cons (pv 3) (pa_cons (pe_tup (pa_cons pe_str (pa_cons pe_int pa_nil))) (pa_cons (pv 2) (pa_cons (pe_tup (pa_cons pe_str (pa_cons pe_str pa_nil))) pa_nil))))) (pa_cons (pv 6) pa_nil))))) (pw_or1 (pt_not (pt_val (pe_use U_law_same (hr.mono (by decide)) hg rfl (pa_cons (pe_ix ix_tup (pe_ix ix_list (pv 3) pe_int (fun _ _ => rfl)) pe_int (fun _ _ => rfl)) (pa_cons (pe_callTy call_tuple_of (by rfl) T.b_tuple (by decide +kernel) (pa_cons (pv 5) pa_nil)) pa_nil))))))))
   (pss_one (ps_ret pe_bl))
   pss_nil)
  (pss_cons (ps_if (pt_cmpR op_eq (pe_ix ix_tup (pv 4) pe_int (fun _ _ => rfl)) pe_str (nomark _))
   (pss_one (ps_set (i := 5) sc_law_changes.nd rfl (Or.inl rfl) (pe_op op_cat (pe_slice sl_list (pv 5) po_none (po_some (pe_ix ix_tup (pv 4) pe_int (fun _ _ => rfl)))) (pe_slice sl_list (pv 5) (po_some (pe_op op_add (pe_ix ix_tup (pv 4) pe_int (fun _ _ => rfl)) pe_int)) po_none))))
   pss_nil)
  (pss_cons (ps_if (PW.pt (pw_or (pt_not (pt_val (pe_use U_law_same (hr.mono (by decide)) hg rfl (pa_cons (pe_use U_drop_item (hr.mono (by decide)) hg rfl (pa_cons (pv 3) (pa_cons (pe_tup (pa_cons pe_str (pa_cons pe_int pa_nil))) (pa_cons (pv 2) pa_nil)))) (pa_cons (pv 6) pa_nil))))) (pw_or1 (pt_not (pt_val (pe_use U_law_same (hr.mono (by decide)) hg rfl (pa_cons (pe_ix ix_list (pv 3) pe_int (fun _ _ => rfl)) (pa_cons (pe_tup (pa_cons pe_str (pa_cons (pe_callTy call_tuple_of (by rfl) T.b_tuple (by decide +kernel) (pa_cons (pv 5) pa_nil)) pa_nil))) pa_nil))))))))
   (pss_one (ps_ret pe_bl))
   pss_nil)
  (pss_one (ps_ret (pe_use U_law_same (hr.mono (by decide)) hg rfl (pa_cons (pe_ix ix_list (pv 3) pe_int (fun _ _ => rfl)) (pa_cons (pe_tup (pa_cons pe_str (pa_cons (pe_callTy call_tuple_of (by rfl) T.b_tuple (by decide +kernel) (pa_cons (pv 1) pa_nil)) pa_nil))) pa_nil))))))))))))), ?_⟩
    obtain ⟨xs, ei, ai⟩ := id LI
    have lx := ai.length
    refine ⟨_, rfl, ip, xs, rfl, .inl ⟨SqL.of ei, fun t1 ht1 => ⟨sz_2, fun o1 ho1 => ?_⟩⟩⟩
    have S1 := (Same.new (o := .tup xs) ht1).trans (Same.new (o := .tup [.str "list", .ref t1]) ho1)
    have dO1 : Dt K _ (.ref o1) (lstD ds) := Dt.made ho1 (.cons (.str _) (.cons (Dt.made ht1 ai) .nil))
    generalize upd (upd H t1 (.tup xs)) o1 (.tup [.str "list", .ref t1]) = H1 at S1 dO1
    refine ⟨_, rfl, ip, xs, rfl, .inl ⟨SqL.of (S1 _ _ ei), fun t2 ht2 => ⟨sz_2, fun o2 ho2 => ⟨sz_2, fun hp hhp => ?_⟩⟩⟩⟩
    have S2 := (Same.new (o := .tup xs) ht2).trans (Same.new (o := .tup [.str "list", .ref t2]) ho2)
    have dO2 : Dt K _ (.ref o2) (lstD ds) := Dt.made ho2 (.cons (.str _) (.cons (Dt.made ht2 (ai.mono S1)) .nil))
    have S3 := Same.new (o := .lst [.ref o1, .ref o2]) hhp
    have L : ListAt K (upd (upd (upd H1 t2 (.tup xs)) o2 (.tup [.str "list", .ref t2])) hp (.lst [.ref o1, .ref o2])) hp [lstD ds, lstD ds] := ⟨_, upd_same, .cons (dO1.mono (S2.trans S3)) (.cons (dO2.mono S3) .nil)⟩
    have hpn : H hp = none := same_none0 (S1.trans S2) hhp
    have hpi : ip ≠ hp := ne_of_none ei hpn
    have S4 := (S1.trans S2).trans S3
    generalize upd (upd (upd H1 t2 (.tup xs)) o2 (.tup [.str "list", .ref t2])) hp (.lst [.ref o1, .ref o2]) = H4 at S4 L
    clear S1 S2 S3 dO1 dO2 ht1 ho1 ht2 ho2 hhp
    refine ⟨_, rfl, _, rfl, _, _, rfl, .inl ⟨_, SqL.of (S4 _ _ ei), rfl⟩, vi, xs.length, i, rfl, di.mono S4, fun pv H5 S5 dp => ?_⟩
    rw [lx] at dp
    have S45 := S4.trans S5
    refine ⟨_, rfl, ip, xs, rfl, .inl (SqL.of (S45 _ _ ei)), fun ol hol => ?_⟩
    have S6 := Same.new (o := .lst xs) hol
    have eol : upd H5 ol (.lst xs) ol = some (.lst xs) := upd_same
    have holn : H ol = none := same_none0 S45 hol
    have holp : hp ≠ ol := fun e => by
      obtain ⟨_, e1, _⟩ := listAt_mono L S5
      subst e
      rw [e1] at hol
      cases hol
    have S46 := S45.trans S6
    have L6 := listAt_mono L (S5.trans S6)
    have dp := dp.mono S6
    generalize upd H5 ol (.lst xs) = H6 at S46 L6 dp eol
    clear S4 S5 S45 S6 hol L
    refine ⟨_, rfl, ?_⟩
    have hds : Sm (.tuple ds) 3 31000 := (Sm.tup ((SmAll.many hsm).mem (m := 10) (M := 30000) hl (by omega))).mono (by decide) (by decide)
    have hlsh : Sm (lstD ds) 4 40000 := (Sm.tup (.cons (Sm.short (n := "list") (by decide +kernel)) (.cons hds .nil))).mono (by decide) (by decide)
    cases hpl : placeR i ds.length with
    | inl e =>
      rw [hpl] at dp
      have hsh := placeR_show hpl
      obtain ⟨m, z, rfl⟩ := placeR_inl hpl
      obtain ⟨q, ws, rfl, hq, _⟩ := (show Dt K H6 pv (.tuple [.str "raise", .int m, .str z]) from dp).head
      refine ⟨_, rfl, q, _, _, _, rfl, rfl, hq, at0, rfl, _, rfl, iteFb (by decide +kernel) ?_⟩
      -- put
      refine ⟨_, rfl, sz_2, fun u1 hu1 => ⟨_, rfl, sz_2, fun u2 hu2 => ?_⟩⟩
      have S7 := (Same.new (o := .tup [.str "ref", .int 0]) hu1).trans (Same.new (o := .tup [.str "text", .str "new"]) hu2)
      have da : Dt K _ (.ref u1) (.tuple [.str "ref", .int ((0 : Nat) : Int)]) := (Dt.made (K := K) hu1 (.cons (.str "ref") (.cons (.int ((0 : Nat) : Int)) .nil))).mono (Same.new (o := .tup [.str "text", .str "new"]) hu2)
      have dx : Dt K _ (.ref u2) (.tuple [.str "text", .str "new"]) := Dt.made (K := K) hu2 (.cons (.str "text") (.cons (.str "new") .nil))
      refine ⟨hp, _, ds, _, _, _, 0, i, _, rfl, listAt_mono L6 S7, rfl, da, di.mono (S46.trans S7), dx, by omega, ?_⟩
      rw [hpl]
      intro r H7 S8 dr
      have S67 := S7.trans S8
      refine ⟨_, rfl, r, _, _, rfl, dr.dp, (dp.mono S67).dp, hsh, true, rfl, iteFb rfl ?_⟩
      clear da dx S7 S8 dr hu1 hu2
      have L7 := listAt_mono L6 S67
      obtain ⟨zs, ez, az⟩ := id L7
      obtain ⟨o0, ho0, dO⟩ := az.get (i := 0) rfl
      obtain ⟨qo, y0, rfl, hqo, dy⟩ := (show Dt K H7 o0 (.tuple [.str "list", .tuple ds]) from dO).pair
      have S47 := S46.trans S67
      refine ⟨_, rfl, hp, _, _, _, rfl, rfl, SqL.of ez, at_of' (j := 0) rfl ho0, qo, _, _, _, rfl, rfl, hqo, at1, _, rfl, ol, xs, rfl, .inl ⟨SqL.of (S67 _ _ eol), fun t ht => ?_⟩⟩
      have S8 := Same.new (o := .tup xs) ht
      refine ⟨_, _, _, rfl, (dy.mono S8).dp, Dt.dp (Dt.made ht (ai.mono S47)), hds.show (by decide) (by decide), true, rfl, iteFb rfl ?_⟩
      have S68 := S67.trans S8
      have L8 := listAt_mono L7 S8
      have hq8 := Same.tupl S68 hq
      refine ⟨_, rfl, q, _, _, _, rfl, rfl, hq8, at0, rfl, _, rfl, iteFb (by decide +kernel) ?_⟩
      have dp8 := dp.mono S68
      have eol8 := S68 _ _ eol
      have S48 := S46.trans S68
      generalize upd H7 t (.tup xs) = H8 at S8 L8 S68 S48 hq8 dp8 eol8
      -- drop
      refine ⟨_, rfl, sz_2, fun u1 hu1 => ?_⟩
      have S9 := Same.new (o := .tup [.str "ref", .int 0]) hu1
      have da : Dt K _ (.ref u1) (.tuple [.str "ref", .int ((0 : Nat) : Int)]) := Dt.made (K := K) hu1 (.cons (.str "ref") (.cons (.int ((0 : Nat) : Int)) .nil))
      refine ⟨_, rfl, hp, _, ds, _, _, 0, i, rfl, listAt_mono L8 S9, rfl, da, di.mono (S48.trans S9), by omega, ?_⟩
      rw [hpl]
      intro r H9 S10 dr
      have S89 := S9.trans S10
      refine ⟨_, rfl, r, _, _, rfl, dr.dp, (dp8.mono S89).dp, hsh, true, rfl, iteFb rfl ?_⟩
      have L9 := listAt_mono L8 S89
      obtain ⟨zs, ez, az⟩ := id L9
      obtain ⟨o0, ho0, dO⟩ := az.get (i := 0) rfl
      obtain ⟨o1, ho1, dO1⟩ := az.get (i := 1) rfl
      refine ⟨_, rfl, hp, _, _, _, rfl, rfl, SqL.of ez, at_of' (j := 0) rfl ho0, _, rfl, ol, xs, rfl, .inl ⟨SqL.of (S89 _ _ eol8), fun t ht => ⟨sz_2, fun t2 ht2 => ?_⟩⟩⟩
      have S11 := (Same.new (o := .tup xs) ht).trans (Same.new (o := .tup [.str "list", .ref t]) ht2)
      have S49 := S48.trans S89
      refine ⟨_, _, _, rfl, (dO.mono S11).dp, Dt.dp (Dt.made ht2 (.cons (.str _) (.cons (Dt.made ht (ai.mono S49)) .nil))), hlsh.show (by decide) (by decide), true, rfl, iteFb rfl ?_⟩
      refine ⟨_, rfl, hp, _, _, _, rfl, rfl, SqL.of (S11 _ _ ez), at_of' (j := 1) rfl ho1, _, rfl, ip, xs, rfl, .inl ⟨SqL.of ((S49.trans S11) _ _ ei), fun t3 ht3 => ⟨sz_2, fun t4 ht4 => ?_⟩⟩⟩
      have S12 := (Same.new (o := .tup xs) ht3).trans (Same.new (o := .tup [.str "list", .ref t3]) ht4)
      refine ⟨_, _, _, rfl, (dO1.mono (S11.trans S12)).dp, Dt.dp (Dt.made ht4 (.cons (.str _) (.cons (Dt.made ht3 (ai.mono (S49.trans S11))) .nil))), hlsh.show (by decide) (by decide), ?_⟩
      exact k _ ((S49.trans S11).trans S12)
    | inr j =>
      rw [hpl] at dp
      have hj := placeR_inr hpl
      obtain ⟨q, y, rfl, hq, dy⟩ := (show Dt K H6 pv (.tuple [.str "ok", .int (j : Nat)]) from dp).pair
      cases dy.int_inv
      refine ⟨_, rfl, q, _, _, _, rfl, rfl, hq, at0, rfl, _, rfl, iteTb (by decide +kernel) ?_⟩
      refine ⟨sz_2, fun ux hux => ?_⟩
      have S7 := Same.new (o := .tup [.str "text", .str "new"]) hux
      have dX : Dt K _ (.ref ux) (.tuple [.str "text", .str "new"]) := Dt.made (K := K) hux (.cons (.str "text") (.cons (.str "new") .nil))
      refine ⟨_, rfl, _, rfl, q, _, _, _, rfl, rfl, Same.tupl S7 hq, at1, ol, _, _, j, rfl, rfl, S7 _ _ eol, ixN_nat (by omega), ?_⟩
      have kT := KeepT.upd (K := K) (o := .lst (xs.set j (.ref ux))) (S7 _ _ eol)
      have aE := dtAll_set (j := j) ((ai.mono (S46.trans S7)).keepT kT) (dX.keepT kT)
      have L7 := listAt_upd (o := .lst (xs.set j (.ref ux))) (listAt_mono L6 S7) holp (S7 _ _ eol)
      have hq7 := kT _ _ (Same.tupl S7 hq)
      have SH : Same H (upd (upd H6 ux (.tup [.str "text", .str "new"])) ol (.lst (xs.set j (.ref ux)))) := fun b o hb => by rw [upd_ne (ne_of_none hb holn)]; exact (S46.trans S7) _ _ hb
      have eol7 : (upd (upd H6 ux (.tup [.str "text", .str "new"])) ol (.lst (xs.set j (.ref ux)))) ol = some (.lst (xs.set j (.ref ux))) := upd_same
      generalize upd (upd H6 ux (.tup [.str "text", .str "new"])) ol (.lst (xs.set j (.ref ux))) = H7 at aE L7 hq7 SH eol7
      clear S7 dX kT L6 eol hq dp S46 hux
      have hel : (ds.set j (.tuple [.str "text", .str "new"])).length = ds.length := List.length_set
      have hplE : placeR i (ds.set j (.tuple [.str "text", .str "new"])).length = .inr j := by rw [hel]; exact hpl
      have hsX : Sm (.tuple [.str "text", .str "new"]) 2 3000 := (Sm.tup (.cons (Sm.short (n := "text") (by decide +kernel)) (.cons (Sm.short (n := "new") (by decide +kernel)) .nil))).mono (by decide) (by decide)
      have hsE : ∀ x ∈ ds.set j (.tuple [.str "text", .str "new"]), Sm x 2 3000 := fun x hx => by
        rcases List.mem_or_eq_of_mem_set hx with h | rfl
        · exact (hsm x h).mono (by decide) (by decide)
        · exact hsX
      have hsD : ShowOk doneD := show_ok (Sm.tup (.cons (Sm.short (n := "ok") (by decide +kernel)) (.cons (Sm.tup (.cons (Sm.short (n := "none") (by decide +kernel)) .nil)) .nil))) (by decide) (by decide)
      have hsT : ∀ es : List PyData, es.length ≤ 10 → (∀ x ∈ es, Sm x 2 3000) → Sm (.tuple es) 3 31000 := fun es hl h => (Sm.tup ((SmAll.many h).mem (m := 10) (M := 30000) hl (by omega))).mono (by decide) (by decide)
      refine ⟨sz_1, fun u1 h1 => ⟨sz_2, fun u2 h2 => ?_⟩⟩
      have S8 := (Same.new (o := .tup [.str "none"]) h1).trans (Same.new (o := .tup [.str "ok", .ref u1]) h2)
      have dDue : Dt K _ (.ref u2) doneD := Dt.made (K := K) h2 (.cons (.str "ok") (.cons (Dt.made (K := K) h1 (.cons (.str "none") .nil)) .nil))
      have aE := aE.mono S8
      have L8 := listAt_mono L7 S8
      have hq8 := Same.tupl S8 hq7
      have SH := SH.trans S8
      have eol8 := S8 _ _ eol7
      generalize upd (upd H7 u1 (.tup [.str "none"])) u2 (.tup [.str "ok", .ref u1]) = H8 at aE L8 hq8 SH eol8 dDue
      clear S8 L7 hq7 eol7 h1 h2
      -- put
      refine ⟨_, rfl, sz_2, fun u1 hu1 => ⟨_, rfl, sz_2, fun u2 hu2 => ?_⟩⟩
      have S7 := (Same.new (o := .tup [.str "ref", .int 0]) hu1).trans (Same.new (o := .tup [.str "text", .str "new"]) hu2)
      have da : Dt K _ (.ref u1) (.tuple [.str "ref", .int ((0 : Nat) : Int)]) := (Dt.made (K := K) hu1 (.cons (.str "ref") (.cons (.int ((0 : Nat) : Int)) .nil))).mono (Same.new (o := .tup [.str "text", .str "new"]) hu2)
      have dx : Dt K _ (.ref u2) (.tuple [.str "text", .str "new"]) := Dt.made (K := K) hu2 (.cons (.str "text") (.cons (.str "new") .nil))
      have L9 := listAt_mono L8 S7
      obtain ⟨zs9, ez9, _⟩ := id L9
      refine ⟨hp, _, ds, _, _, _, 0, i, _, rfl, L9, rfl, da, di.mono (SH.trans S7), dx, by omega, ?_⟩
      rw [hpl]
      intro r H9 K9 L10 dr
      have kT := K9.keepT (K := K) ⟨_, ez9⟩
      have dDue := (dDue.mono S7).keepT kT
      have aE := (aE.mono S7).keepT kT
      have hq9 := kT _ _ (Same.tupl S7 hq8)
      have eol9 := K9 _ _ (S7 _ _ eol8) (Ne.symm holp)
      have SH : Same H H9 := fun b o hb => K9 _ _ ((SH.trans S7) _ _ hb) (ne_of_none hb hpn)
      have L10 : ListAt K H9 hp [lstD (ds.set j (.tuple [.str "text", .str "new"])), lstD ds] := L10
      generalize hes : ds.set j (.tuple [.str "text", .str "new"]) = es at aE L10 hel hplE hsE
      generalize xs.set j (.ref ux) = ys at aE eol9
      clear kT hq8 eol8 L8 L9 da dx S7 hu1 hu2 ez9 K9
      refine ⟨_, rfl, r, _, _, rfl, dr.dp, dDue.dp, hsD, true, rfl, iteFb rfl ?_⟩
      obtain ⟨zs, ez, az⟩ := id L10
      obtain ⟨o0, ho0, dO⟩ := az.get (i := 0) rfl
      obtain ⟨qo, y0, rfl, hqo, dy⟩ := (show Dt K H9 o0 (.tuple [.str "list", .tuple es]) from dO).pair
      refine ⟨_, rfl, hp, _, _, _, rfl, rfl, SqL.of ez, at_of' (j := 0) rfl ho0, qo, _, _, _, rfl, rfl, hqo, at1, _, rfl, ol, ys, rfl, .inl ⟨SqL.of eol9, fun t ht => ?_⟩⟩
      have S8 := Same.new (o := .tup ys) ht
      refine ⟨_, _, _, rfl, (dy.mono S8).dp, Dt.dp (Dt.made ht aE), (hsT es (by omega) hsE).show (by decide) (by decide), true, rfl, iteFb rfl ?_⟩
      have L8 := listAt_mono L10 S8
      have aE := aE.mono S8
      have hq8 := Same.tupl S8 hq9
      have eol8 := S8 _ _ eol9
      have dDue := dDue.mono S8
      have SH := SH.trans S8
      generalize upd H9 t (.tup ys) = H8 at L8 hq8 eol8 SH aE dDue
      clear S8 ht hqo dy dO ho0 ez az L10 hq9 eol9
      refine ⟨_, rfl, q, _, _, _, rfl, rfl, hq8, at0, rfl, _, rfl, iteTb (by decide +kernel) ?_⟩
      have lyE := aE.length
      refine ⟨_, rfl, _, rfl, q, _, _, _, rfl, rfl, hq8, at1, _, rfl, ol, ys, rfl, SqL.of eol8, fun v1 hv1 => ?_⟩
      have S9 := Same.new (o := .lst (cutV ys none (some ((j : Nat) : Int)))) hv1
      refine ⟨_, rfl, _, rfl, q, _, _, _, rfl, rfl, Same.tupl S9 hq8, at1, _, _, rfl, rfl, _, rfl, ol, ys, rfl, SqL.of (S9 _ _ eol8), fun v2 hv2 => ?_⟩
      have S10 := Same.new (o := .lst (cutV ys (some ((j : Nat) + 1 : Int)) none)) hv2
      refine ⟨v1, v2, _, _, rfl, rfl, S10 _ _ upd_same, upd_same, ?_, fun o3 ho3 => ?_⟩
      · have h1 := (DtAll.cutG aE none (some ((j : Nat) : Int))).length
        have h2 := (DtAll.cutG aE (some ((j : Nat) + 1 : Int)) none).length
        rw [h1, h2, cutG_to _ (by omega), show ((j : Nat) : Int) + 1 = ((j + 1 : Nat) : Int) by omega, cutG_from _ (by omega), List.length_take, List.length_drop]
        exact Nat.le_trans (show _ ≤ 100 by omega) (by decide)
      have aF : DtAll K H8 (cutV ys none (some ((j : Nat) : Int)) ++ cutV ys (some ((j : Nat) + 1 : Int)) none) (es.eraseIdx j) := by
        have h1 := DtAll.cutG aE none (some ((j : Nat) : Int))
        have h2 := DtAll.cutG aE (some ((j : Nat) + 1 : Int)) none
        rw [cutG_to _ (by omega)] at h1
        rw [show cutG es (some (((j : Nat) : Int) + 1)) none = es.drop (j + 1) from cutG_from (j := j + 1) es (by omega)] at h2
        rw [List.eraseIdx_eq_take_drop_succ]
        exact DtAll.app h1 h2
      have S11 := (S9.trans S10).trans (Same.new (o := .lst (cutV ys none (some ((j : Nat) : Int)) ++ cutV ys (some ((j : Nat) + 1 : Int)) none)) ho3)
      have aF := aF.mono S11
      have e3 := upd_same (H := upd (upd H8 v1 (.lst (cutV ys none (some ((j : Nat) : Int))))) v2 (.lst (cutV ys (some ((j : Nat) + 1 : Int)) none))) (a := o3) (o := HO.lst (cutV ys none (some ((j : Nat) : Int)) ++ cutV ys (some ((j : Nat) + 1 : Int)) none))
      have L9 := listAt_mono L8 S11
      have SH := SH.trans S11
      have dDue := dDue.mono S11
      have h3p : o3 ≠ hp := fun e => by
        obtain ⟨_, e1, _⟩ := listAt_mono L8 (S9.trans S10)
        subst e
        rw [e1] at ho3
        cases ho3
      generalize upd (upd (upd H8 v1 (.lst (cutV ys none (some ((j : Nat) : Int))))) v2 (.lst (cutV ys (some ((j : Nat) + 1 : Int)) none))) o3 (.lst (cutV ys none (some ((j : Nat) : Int)) ++ cutV ys (some ((j : Nat) + 1 : Int)) none)) = H9 at aF L9 SH e3 dDue
      clear S9 S10 S11 hv1 hv2 ho3 L8 hq8 eol8
      generalize cutV ys none (some ((j : Nat) : Int)) ++ cutV ys (some ((j : Nat) + 1 : Int)) none = ws at aF e3
      -- drop
      refine ⟨_, rfl, sz_2, fun u1 hu1 => ?_⟩
      have S10 := Same.new (o := .tup [.str "ref", .int 0]) hu1
      have da : Dt K _ (.ref u1) (.tuple [.str "ref", .int ((0 : Nat) : Int)]) := Dt.made (K := K) hu1 (.cons (.str "ref") (.cons (.int ((0 : Nat) : Int)) .nil))
      have L10 := listAt_mono L9 S10
      obtain ⟨zs10, ez10, _⟩ := id L10
      refine ⟨_, rfl, hp, _, es, _, _, 0, i, rfl, L10, rfl, da, di.mono (SH.trans S10), by omega, ?_⟩
      rw [hplE]
      intro r H11 K11 L11 dr
      have kT := K11.keepT (K := K) ⟨_, ez10⟩
      have dDue := (dDue.mono S10).keepT kT
      have aF := (aF.mono S10).keepT kT
      have e3 := K11 _ _ (S10 _ _ e3) h3p
      have SH : Same H H11 := fun b o hb => K11 _ _ ((SH.trans S10) _ _ hb) (ne_of_none hb hpn)
      have L11 : ListAt K H11 hp [lstD (es.eraseIdx j), lstD ds] := L11
      refine ⟨_, rfl, r, _, _, rfl, dr.dp, dDue.dp, hsD, true, rfl, iteFb rfl ?_⟩
      obtain ⟨zs, ez, az⟩ := id L11
      obtain ⟨o0, ho0, dO⟩ := az.get (i := 0) rfl
      obtain ⟨o1, ho1, dO1⟩ := az.get (i := 1) rfl
      refine ⟨_, rfl, hp, _, _, _, rfl, rfl, SqL.of ez, at_of' (j := 0) rfl ho0, _, rfl, o3, ws, rfl, .inl ⟨SqL.of e3, fun t ht => ⟨sz_2, fun t2 ht2 => ?_⟩⟩⟩
      have S11 := (Same.new (o := .tup ws) ht).trans (Same.new (o := .tup [.str "list", .ref t]) ht2)
      have hse : Sm (.tuple (es.eraseIdx j)) 3 31000 := hsT _ (by rw [List.length_eraseIdx]; split <;> omega) fun x hx => hsE x (List.mem_of_mem_eraseIdx hx)
      refine ⟨_, _, _, rfl, (dO.mono S11).dp, Dt.dp (Dt.made ht2 (.cons (.str _) (.cons (Dt.made ht aF) .nil))), (Sm.tup (.cons (Sm.short (n := "list") (by decide +kernel)) (.cons hse .nil))).show (by decide) (by decide), true, rfl, iteFb rfl ?_⟩
      have SH := SH.trans S11
      refine ⟨_, rfl, hp, _, _, _, rfl, rfl, SqL.of (S11 _ _ ez), at_of' (j := 1) rfl ho1, _, rfl, ip, xs, rfl, .inl ⟨SqL.of (SH _ _ ei), fun t3 ht3 => ⟨sz_2, fun t4 ht4 => ?_⟩⟩⟩
      have S12 := (Same.new (o := .tup xs) ht3).trans (Same.new (o := .tup [.str "list", .ref t3]) ht4)
      refine ⟨_, _, _, rfl, (dO1.mono (S11.trans S12)).dp, Dt.dp (Dt.made ht4 (.cons (.str _) (.cons (Dt.made ht3 (ai.mono SH)) .nil))), hlsh.show (by decide) (by decide), ?_⟩
      exact k _ (SH.trans S12)
--SPLIT
abbrev s_law : Stmt := top 56
abbrev N_law : List Str := ["script", "box", "kind", "items", "low", "k", "heap", "a", "turn", "index", "due"]
abbrev P_law : List Str := ["script"]
theorem sc_law : FnScope N_law P_law (defScope s_law) := ⟨rfl, rfl, rfl, by decide +kernel, rfl, by decide +kernel, by decide +kernel⟩
structure LpS (K : PySem.W.Frag) (p dl hp il : Addr) (D hds : List PyData) (va : V) (d : PyData) (n : Nat) (H : Hp) : Prop where
  ex : ∃ more : List PyData, more.length ≤ n ∧ (∀ x ∈ more, Sm x 4 40000) ∧ ListAt K H hp (hds ++ more)
  its : ListAt K H il D
  box : BoxAt H p dl
  dva : Dt K H va d
theorem LpS.same {p dl hp il : Addr} {D hds : List PyData} {va : V} {d : PyData} {n : Nat} {H H' : Hp} (L : LpS K p dl hp il D hds va d n H) (S : Same H H') : LpS K p dl hp il D hds va d n H' :=
  ⟨let ⟨m, a, b, c⟩ := L.ex; ⟨m, a, b, listAt_mono c S⟩, listAt_mono L.its S, L.box.same S, L.dva.mono S⟩
theorem LpS.keep {p dl hp il : Addr} {D hds : List PyData} {va : V} {d : PyData} {n : Nat} {H H' : Hp} (L : LpS K p dl hp il D hds va d n H) (k : Keep p H H') (B : BoxAt H' p dl) (h1 : hp ≠ p) (h2 : il ≠ p) : LpS K p dl hp il D hds va d n H' :=
  ⟨let ⟨m, a, b, c⟩ := L.ex; ⟨m, a, b, listAt_keep c k h1 L.box.at_⟩, listAt_keep L.its k h2 L.box.at_, B, L.dva.keepT (k.keepT L.box.at_)⟩
theorem AvIs.app {hds more : List PyData} {a : Av} {d : PyData} (h : AvIs hds a d) : AvIs (hds ++ more) a d := by
  cases h with
  | txt cs => exact .txt cs
  | obj he hh => exact .obj he (by rw [List.getElem?_append_left (List.getElem?_eq_some_iff.mp hh).1]; exact hh)
  | span lo n => exact .span lo n
def spLaw (K : PySem.W.Frag) : Sp := fun vs H Q _ => ∃ (a : Addr) (ns : List Int), vs = [.ref a] ∧ SqL K H a (ns.map V.int) ∧ ns.length ≤ 63 ∧ ∀ H', Q (.bl true) H'
def KdL (kd : Str) : Prop := kd = "text" ∨ kd = "span" ∨ kd = "tuple" ∨ kd = "list"
def ItP (kd : Str) (low : Int) (n : Nat) (D : List PyData) : Prop := (kd = "text" ∧ ∃ cs : List Nat, D = (cs.map fun c => PyData.str (S [c])) ∧ ∀ c ∈ cs, c < 128) ∨ (kd = "span" ∧ D = (List.range n).map fun (j : Nat) => PyData.tuple [.str "int", .int (low + ((j : Nat) : Int))]) ∨ ((kd = "tuple" ∨ kd = "list") ∧ ∀ x ∈ D, Sm x 2 3000)
theorem ok_law {f : Addr} {fd : FuncData} (F : Fun K "law" "law" s_law f fd) (T : Txt K mg) (U_law_digits : Use P w K mg base CX0 "_law_digits" 2 P_law_digits (spDigits K)) (U_law_draw : Use P w K mg base CX0 "_law_draw" 1 P_law_draw (spDraw K)) (U_law_index : Use P w K mg base CX0 "_law_index" 2 P_law_index (spLIndex K)) (U_law_place : Use P w K mg base CX0 "_law_place" 2 P_law_place (spLPlace K))
    (U_law_same : Use P w K mg base CX0 "_law_same" 1 P_law_same (spSame K)) (U_item : Use P w K mg base CX0 "item" 4 P_item (spItem K)) (U_law_parts : Use P w K mg base CX0 "_law_parts" 4 P_law_parts (spLParts K)) (U_law_changes : Use P w K mg base CX0 "_law_changes" 5 P_law_changes (spLChanges K)) : FnG P w K mg base CX0 6 f fd P_law (spLaw K) := by
  refine okG0 F sc_law (fun vs H Q E h => ?_) fun cdv A outer s H vs Q E hr hg h => ?_
  · obtain ⟨a, ns, rfl, _⟩ := h
    rfl
  · obtain ⟨a, ns, rfl, hs, hn, k⟩ := h
    refine ⟨_, (pss_cons (ps_set (i := 1) sc_law.nd rfl (Or.inl rfl) (pe_lst (pa_cons (pe_use U_law_digits (hr.mono (by decide)) hg rfl (pa_cons (pv 0) (pa_cons pe_int (pa_cons pe_int pa_nil)))) (pa_cons pe_int pa_nil))))
  (C8.pss_cut (ps_set (i := 2) sc_law.nd rfl (Or.inl rfl) (pe_ix ix_list (pe_lst (pa_cons pe_str (pa_cons pe_str (pa_cons pe_str (pa_cons pe_str pa_nil))))) (pe_use U_law_draw (hr.mono (by decide)) hg rfl (pa_cons (pv 1) (pa_cons pe_int pa_nil))) (fun _ _ => rfl)))
  (pss_cons (ps_set (i := 3) sc_law.nd rfl (Or.inl rfl) (pe_lst pa_nil))
  (pss_cons (ps_set (i := 4) sc_law.nd rfl (Or.inl rfl) (pe_op op_sub (pe_use U_law_draw (hr.mono (by decide)) hg rfl (pa_cons (pv 1) (pa_cons pe_int pa_nil))) pe_int))
  (C8.pss_cut (ps_for PassesOwn.never rfl (pi_range1 (by rfl) T.b_range (pa_cons (pe_use U_law_draw (hr.mono (by decide)) hg rfl (pa_cons (pv 1) (pa_cons pe_int pa_nil))) pa_nil)) (pg_name (i := 5) sc_law.nd rfl (Or.inl rfl))
   (pss_one (ps_if (pt_cmpR op_eq (pv 2) pe_str (nomark _))
   (pss_one (ps_expr (pe_bm PySem.F.plainAttrs_list PySem.F.slot_list_append PySem.F.type_list_append mt_append (pv 3) (pa_cons (pe_ix ix_str pe_str (pe_use U_law_draw (hr.mono (by decide)) hg rfl (pa_cons (pv 1) (pa_cons pe_int pa_nil))) (fun _ _ => rfl)) pa_nil))))
   (pss_one (ps_if (pt_cmpR op_eq (pv 2) pe_str (nomark _))
   (pss_one (ps_expr (pe_bm PySem.F.plainAttrs_list PySem.F.slot_list_append PySem.F.type_list_append mt_append (pv 3) (pa_cons (pe_tup (pa_cons pe_str (pa_cons (pe_op op_add (pv 4) (pv 5)) pa_nil))) pa_nil))))
   (pss_one (ps_expr (pe_bm PySem.F.plainAttrs_list PySem.F.slot_list_append PySem.F.type_list_append mt_append (pv 3) (pa_cons (pe_ix ix_list (pe_lst (pa_cons (pe_tup (pa_cons pe_str (pa_cons (pv 5) pa_nil))) (pa_cons (pe_tup (pa_cons pe_str (pa_cons pe_str pa_nil))) (pa_cons (pe_tup (pa_cons pe_str pa_nil)) pa_nil)))) (pe_use U_law_draw (hr.mono (by decide)) hg rfl (pa_cons (pv 1) (pa_cons pe_int pa_nil))) (fun _ _ => rfl)) pa_nil)))))))))
  (C8.pss_cut (ps_set (i := 6) sc_law.nd rfl (Or.inl rfl) (pe_lst (pa_cons (pe_tup (pa_cons pe_str (pa_cons (pe_tup pa_nil) pa_nil))) (pa_cons (pe_tup (pa_cons (pv 2) (pa_cons (pe_callTy call_tuple_of (by rfl) T.b_tuple (by decide +kernel) (pa_cons (pv 3) pa_nil)) pa_nil))) pa_nil))))
  (C8.pss_cut (ps_set (i := 7) sc_law.nd rfl (Or.inl rfl) (pe_tup (pa_cons pe_str (pa_cons pe_int pa_nil))))
  (C8.pss_cut (ps_if (pt_cmpR op_eq (pv 2) pe_str (nomark _))
   (pss_one (ps_set (i := 7) sc_law.nd rfl (Or.inl rfl) (pe_tup (pa_cons pe_str (pa_cons (pe_bm PySem.F.plainAttrs_str PySem.F.slot_str_join PySem.F.type_str_join mt_join pe_str (pa_cons (pv 3) pa_nil)) pa_nil)))))
   pss_nil)
  (C8.pss_cut (ps_if (pt_cmpR op_eq (pv 2) pe_str (nomark _))
   (pss_one (ps_set (i := 7) sc_law.nd rfl (Or.inl rfl) (pe_tup (pa_cons pe_str (pa_cons (pv 4) (pa_cons (pe_op op_add (pv 4) (pe_callB call_len (by rfl) T.b_len PySem.boot_len (pa_cons (pv 3) pa_nil))) pa_nil))))))
   pss_nil)
  (C8.pss_cut (ps_if (pt_cmpR op_in_seq (pv 2) (pe_tup (pa_cons pe_str (pa_cons pe_str pa_nil))) (by rfl))
   (pss_one (ps_set (i := 6) sc_law.nd rfl (Or.inl rfl) (pe_lst (pa_cons (pe_tup (pa_cons pe_str (pa_cons (pe_tup pa_nil) pa_nil))) pa_nil))))
   pss_nil)
  (pss_cons (ps_for PassesOwn.never rfl (pi_range1 (by rfl) T.b_range (pa_cons pe_int pa_nil)) (pg_name (i := 8) sc_law.nd rfl (Or.inl rfl))
   (pss_cons (ps_set (i := 9) sc_law.nd rfl (Or.inl rfl) (pe_use U_law_index (hr.mono (by decide)) hg rfl (pa_cons (pv 1) pa_nil)))
  (pss_cons (ps_set (i := 10) sc_law.nd rfl (Or.inl rfl) (pe_use U_law_place (hr.mono (by decide)) hg rfl (pa_cons (pv 9) (pa_cons (pe_callB call_len (by rfl) T.b_len PySem.boot_len (pa_cons (pv 3) pa_nil)) pa_nil))))
  (C8.pss_cut (ps_if (pt_cmpR op_eq (pe_ix ix_tup (pv 10) pe_int (fun _ _ => rfl)) pe_str (nomark _))
   (pss_cons (ps_set (i := 10) sc_law.nd rfl (Or.inl rfl) (pe_tup (pa_cons pe_str (pa_cons (pe_ix ix_list (pv 3) (pe_ix ix_tup (pv 10) pe_int (fun _ _ => rfl)) (fun _ _ => rfl)) pa_nil))))
  (pss_one (ps_if (pt_cmpR op_eq (pv 2) pe_str (nomark _))
   (pss_one (ps_set (i := 10) sc_law.nd rfl (Or.inl rfl) (pe_tup (pa_cons pe_str (pa_cons (pe_tup (pa_cons pe_str (pa_cons (pe_ix ix_tup (pv 10) pe_int (fun _ _ => rfl)) pa_nil))) pa_nil)))))
   pss_nil)))
   pss_nil)
  (pss_cons (ps_if (pt_not (pt_val (pe_use U_law_same (hr.mono (by decide)) hg rfl (pa_cons (pe_use U_item (hr.mono (by decide)) hg rfl (pa_cons (pv 6) (pa_cons (pv 7) (pa_cons (pv 9) pa_nil)))) (pa_cons (pv 10) pa_nil)))))
   (pss_one (ps_ret pe_bl))
   pss_nil)
  (C8.pss_cut (ps_if (PW.pt (pw_and (pt_cmpR op_ne (pv 2) pe_str (nomark _)) (pw_and1 (pt_not (pt_val (pe_use U_law_parts (hr.mono (by decide)) hg rfl (pa_cons (pv 6) (pa_cons (pv 7) (pa_cons (pv 2) (pa_cons (pv 3) (pa_cons (pe_use U_law_index (hr.mono (by decide)) hg rfl (pa_cons (pv 1) pa_nil)) (pa_cons (pe_use U_law_index (hr.mono (by decide)) hg rfl (pa_cons (pv 1) pa_nil)) pa_nil))))))))))))
   (pss_one (ps_ret pe_bl))
   pss_nil)
  (pss_one (ps_if (PW.pt (pw_and (pt_cmpR op_eq (pv 2) pe_str (nomark _)) (pw_and1 (pt_not (pt_val (pe_use U_law_changes (hr.mono (by decide)) hg rfl (pa_cons (pv 1) (pa_cons (pv 3) (pa_cons (pv 9) pa_nil)))))))))
   (pss_one (ps_ret pe_bl))
   pss_nil))))))))
  (pss_one (ps_ret pe_bl))))))))))))), ?_⟩
    refine ⟨_, rfl, a, ns, 0, 63, rfl, hs, by decide, by decide, fun dl H1 nd D => ?_⟩
    obtain ⟨ds, hd, hl, hds, S1⟩ := D
    refine ⟨sz_2, fun p hp0 => ?_⟩
    have B0 : BoxAt (upd H1 p (.lst [.ref dl, .int 0])) p dl := ⟨ds, 0, upd_same, by decide, by rw [upd_ne (ne_of_none hd hp0)]; exact hd, hl, hds⟩
    generalize upd H1 p (.lst [.ref dl, .int 0]) = H2 at B0
    clear hd hds S1 hp0
    refine ⟨fun σ H' => ∃ kd, KdL kd ∧ BoxAt H' p dl ∧ σ = [some (.ref a), some (.ref p), some (.str kd), none, none, none, none, none, none, none, none], ?_, ?_⟩
    · refine ⟨sz_4, fun ul hul => ⟨_, rfl, p, dl, 4, rfl, B0.same (Same.new hul), by decide, fun r H3 r0 r1 B3 K3 => ?_⟩⟩
      have e3 := K3 ul _ upd_same (B0.ne_new hul).1
      obtain rfl | rfl | rfl | rfl : r = 0 ∨ r = 1 ∨ r = 2 ∨ r = 3 := by omega
      · exact ⟨ul, _, _, _, rfl, rfl, SqL.of e3, at0, _, .inl rfl, B3, rfl⟩
      · exact ⟨ul, _, _, _, rfl, rfl, SqL.of e3, at1, _, .inr (.inr (.inl rfl)), B3, rfl⟩
      · exact ⟨ul, _, _, _, rfl, rfl, SqL.of e3, at2, _, .inr (.inr (.inr rfl)), B3, rfl⟩
      · exact ⟨ul, _, _, _, rfl, rfl, SqL.of e3, at_of' (j := 3) rfl rfl, _, .inr (.inl rfl), B3, rfl⟩
    rintro _ H3 ⟨kd, hkd, B3, rfl⟩
    refine ⟨sz_0, fun il hil => ?_⟩
    have B4 := B3.same (Same.new (o := .lst []) hil)
    have hne := B3.ne_new hil
    refine ⟨_, rfl, p, dl, 9, rfl, B4, by decide, fun r H5 r0 r1 B5 K5 => ?_⟩
    have ei5 := K5 il _ upd_same hne.1
    clear K5 B4 hil
    refine ⟨_, _, rfl, rfl, ?_⟩
    have hl1 : -4 ≤ r - 4 := by omega
    have hl2 : r - 4 < 5 := by omega
    dsimp only
    generalize r - 4 = low at hl1 hl2
    refine ⟨fun σ H' => ∃ (n : Nat) (D : List PyData) (x5 : Option V), n ≤ 9 ∧ D.length = n ∧ ItP kd low n D ∧ ListAt K H' il D ∧ BoxAt H' p dl ∧ σ = [some (.ref a), some (.ref p), some (.str kd), some (.ref il), some (.int low), x5, none, none, none, none, none], ?_, ?_⟩
    · refine ⟨_, rfl, p, dl, 10, rfl, B5, by decide, fun m H6 m0 m1 B6 K6 => ?_⟩
      have ei6 := K6 il _ ei5 hne.1
      refine ⟨m, rfl, by omega, by omega, ?_⟩
      refine for_range (lo := 0) (n := m.toNat) (fun i σ H' => ∃ (D : List PyData) (x5 : Option V), D.length = i ∧ ItP kd low i D ∧ ListAt K H' il D ∧ BoxAt H' p dl ∧ σ = [some (.ref a), some (.ref p), some (.str kd), some (.ref il), some (.int low), x5, none, none, none, none, none]) ?_ ?_ ?_
      · refine ⟨[], none, rfl, ?_, ⟨[], ei6, .nil⟩, B6, rfl⟩
        rcases hkd with rfl | rfl | h
        · exact .inl ⟨rfl, [], rfl, by simp⟩
        · exact .inr (.inl ⟨rfl, rfl⟩)
        · exact .inr (.inr ⟨h, by simp⟩)
      · rintro i σ H7 hi ⟨D, x5, hDl, hD, LI, B7, rfl⟩
        have put : ∀ {H8 : Hp} {v : V} {d : PyData} {acc : List V}, ListAt K H8 il D → BoxAt H8 p dl → H8 il = some (.lst acc) → Dt K H8 v d → acc.length < sizeLine ∧ ListAt K (upd H8 il (.lst (acc ++ [v]))) il (D ++ [d]) ∧ BoxAt (upd H8 il (.lst (acc ++ [v]))) p dl := fun L8 B8 e8 d8 => by
          obtain ⟨acc', e', a'⟩ := id L8
          rw [e'] at e8
          obtain rfl := HO.lst.inj (Option.some.inj e8)
          have := a'.length
          exact ⟨Nat.lt_of_le_of_lt (show _ ≤ 100 by omega) (by decide), listAt_app L8 e' d8, B8.upd hne.1 hne.2⟩
        refine ⟨_, rfl, rfl, _, rfl, ?_⟩
        rcases hD with ⟨rfl, cs, hcs, hlow⟩ | ⟨rfl, hD⟩ | ⟨hk2, hD⟩
        · refine iteTb (by decide +kernel) ?_
          obtain ⟨acc, e7, _⟩ := id LI
          refine ⟨_, rfl, .inl ⟨rfl, _, SqL.of e7⟩, _, rfl, p, dl, 5, rfl, B7, by decide, fun r H8 r0 r1 B8 K8 => ?_⟩
          have L8 := listAt_keep LI K8 hne.1 B7.at_
          obtain ⟨acc8, e8, a8⟩ := id L8
          have key : ∀ r < 5, (("abc \n" : Str).cps.toList)[r]? = some (([97, 98, 99, 32, 10] : List Nat).getD r 0) ∧ ([97, 98, 99, 32, 10] : List Nat).getD r 0 < 128 := by decide +kernel
          obtain ⟨hc1, hc2⟩ := key r.toNat (by omega)
          generalize ([97, 98, 99, 32, 10] : List Nat).getD r.toNat 0 = c at hc1 hc2
          obtain ⟨q1, q2, q3⟩ := put L8 B8 e8 (.str (S [c]))
          refine ⟨_, _, c, rfl, rfl, by decide +kernel, at_of' (j := r.toNat) (by omega) hc1, il, _, _, rfl, rfl, e8, q1, ?_⟩
          refine ⟨D ++ [.str (S [c])], _, by rw [List.length_append]; simp; omega, .inl ⟨rfl, cs ++ [c], by rw [hcs, List.map_append]; rfl, fun x hx => ?_⟩, q2, q3, rfl⟩
          rcases List.mem_append.mp hx with h | h
          · exact hlow x h
          · rw [List.mem_singleton.mp h]; exact hc2
        · refine iteFb (by decide +kernel) ?_
          refine ⟨_, rfl, rfl, _, rfl, iteTb (by decide +kernel) ?_⟩
          obtain ⟨acc, e7, _⟩ := id LI
          refine ⟨_, rfl, .inl ⟨rfl, _, SqL.of e7⟩, _, rfl, _, rfl, _, _, rfl, rfl, sz_2, fun u hu => ?_⟩
          have S8 := Same.new (o := .tup [.str "int", .int (low + (0 + (i : Int)))]) hu
          obtain ⟨q1, q2, q3⟩ := put (listAt_mono LI S8) (B7.same S8) (S8 _ _ e7) (Dt.made (K := K) hu (.cons (.str "int") (.cons (.int (low + (0 + (i : Int)))) .nil)))
          refine ⟨il, _, _, rfl, rfl, S8 _ _ e7, q1, ?_⟩
          refine ⟨D ++ [_], _, by rw [List.length_append]; simp; omega, .inr (.inl ⟨rfl, ?_⟩), q2, q3, rfl⟩
          rw [hD, List.range_succ, List.map_append, Int.zero_add]
          rfl
        · refine iteFb (by rcases hk2 with rfl | rfl <;> decide +kernel) ?_
          refine ⟨_, rfl, rfl, _, rfl, iteFb (by rcases hk2 with rfl | rfl <;> decide +kernel) ?_⟩
          obtain ⟨acc, e7, _⟩ := id LI
          refine ⟨_, rfl, .inl ⟨rfl, _, SqL.of e7⟩, _, rfl, sz_2, fun u1 h1 => ⟨sz_2, fun u2 h2 => ⟨sz_1, fun u3 h3 => ⟨sz_3, fun ul hl => ?_⟩⟩⟩⟩
          have S1 := Same.new (o := .tup [.str "int", .int (0 + (i : Int))]) h1
          have d1 := Dt.made (K := K) h1 (.cons (.str "int") (.cons (.int (0 + (i : Int))) .nil))
          have S2 := Same.new (o := .tup [.str "text", .str "a"]) h2
          have d2 := Dt.made (K := K) h2 (.cons (.str "text") (.cons (.str "a") .nil))
          have S3 := Same.new (o := .tup [.str "none"]) h3
          have d3 := Dt.made (K := K) h3 (.cons (.str "none") .nil)
          have S4 := Same.new (o := .lst [.ref u1, .ref u2, .ref u3]) hl
          have S14 := ((S1.trans S2).trans S3).trans S4
          have B8 := B7.same S14
          have hlp := ((((B7.same S1).same S2).same S3).ne_new hl).1
          refine ⟨_, rfl, p, dl, 3, rfl, B8, by decide, fun r H8 r0 r1 B9 K9 => ?_⟩
          have eul := K9 ul _ upd_same hlp
          have kT9 := K9.keepT (K := K) B8.at_
          have L9 := listAt_keep (listAt_mono LI S14) K9 hne.1 B8.at_
          obtain ⟨acc9, e9, a9⟩ := id L9
          have fin : ∀ (v : V) (d : PyData), Dt K H8 v d → Sm d 2 3000 → ∃ (l : Addr) (xs : List V) (z : V), V.ref il = .ref l ∧ [v] = [z] ∧ H8 l = some (.lst xs) ∧ xs.length < sizeLine ∧ ∃ (D' : List PyData) (x5 : Option V), D'.length = i + 1 ∧ ItP kd low (i + 1) D' ∧ ListAt K (upd H8 l (.lst (xs ++ [z]))) il D' ∧ BoxAt (upd H8 l (.lst (xs ++ [z]))) p dl ∧ [some (V.ref a), some (.ref p), some (.str kd), some (.ref il), some (.int low), some (.int (0 + (i : Int))), none, none, none, none, none] = [some (.ref a), some (.ref p), some (.str kd), some (.ref il), some (.int low), x5, none, none, none, none, none] := fun v d dv sd => by
            obtain ⟨q1, q2, q3⟩ := put L9 B9 e9 dv
            refine ⟨il, _, _, rfl, rfl, e9, q1, D ++ [d], _, by rw [List.length_append]; simp; omega, .inr (.inr ⟨hk2, fun x hx => ?_⟩), q2, q3, rfl⟩
            rcases List.mem_append.mp hx with h | h
            · exact hD x h
            · rw [List.mem_singleton.mp h]; exact sd
          have sk : ∀ z y, shortS z = true → shortS y = true → Sm (.tuple [.str z, .str y]) 2 3000 := fun z y hz hy => (Sm.tup (.cons (Sm.short hz) (.cons (Sm.short hy) .nil))).mono (by decide) (by decide)
          obtain rfl | rfl | rfl : r = 0 ∨ r = 1 ∨ r = 2 := by omega
          · exact ⟨ul, _, _, _, rfl, rfl, SqL.of eul, at0, fin _ _ ((d1.mono ((S2.trans S3).trans S4)).keepT kT9) ((Sm.tup (.cons (Sm.short (n := "int") (by decide +kernel)) (.cons (sm_int (by omega)) .nil))).mono (by decide) (by decide))⟩
          · exact ⟨ul, _, _, _, rfl, rfl, SqL.of eul, at1, fin _ _ ((d2.mono (S3.trans S4)).keepT kT9) (sk _ _ (by decide +kernel) (by decide +kernel))⟩
          · exact ⟨ul, _, _, _, rfl, rfl, SqL.of eul, at2, fin _ _ ((d3.mono S4).keepT kT9) ((Sm.tup (.cons (Sm.short (n := "none") (by decide +kernel)) .nil)).mono (by decide) (by decide))⟩
      · rintro σ H7 ⟨D, x5, hDl, hD, LI, B7, rfl⟩
        exact ⟨_, D, x5, by omega, hDl, hD, LI, B7, rfl⟩
    rintro _ H6 ⟨n, D, x5, hn9, hDn, hD, LI, B6, rfl⟩
    -- heap
    refine ⟨fun σ H' => ∃ hp, ListAt K H' hp [lstD [], .tuple [.str kd, .tuple D]] ∧ ListAt K H' il D ∧ BoxAt H' p dl ∧ (hp ≠ il ∧ hp ≠ p ∧ hp ≠ dl) ∧ σ = [some (.ref a), some (.ref p), some (.str kd), some (.ref il), some (.int low), x5, some (.ref hp), none, none, none, none], ?_, ?_⟩
    · obtain ⟨xs, ei, ai⟩ := id LI
      refine ⟨sz_0, fun u0 h0 => ⟨sz_2, fun u1 h1 => ⟨_, rfl, _, rfl, il, xs, rfl, .inl ⟨SqL.of (((Same.new h0).trans (Same.new h1)) _ _ ei), fun t ht => ⟨sz_2, fun u2 h2 => ⟨sz_2, fun hp hhp => ?_⟩⟩⟩⟩⟩⟩
      have S1 := (Same.new (o := .tup []) h0).trans (Same.new (o := .tup [.str "list", .ref u0]) h1)
      have d1 := Dt.made (K := K) h1 (.cons (.str "list") (.cons (Dt.made (K := K) h0 .nil) .nil))
      have S2 := (Same.new (o := .tup xs) ht).trans (Same.new (o := .tup [.str kd, .ref t]) h2)
      have d2 := Dt.made (K := K) h2 (.cons (.str kd) (.cons (Dt.made ht (ai.mono S1)) .nil))
      have S3 := Same.new (o := .lst [.ref u1, .ref u2]) hhp
      have S := (S1.trans S2).trans S3
      have hn6 := same_none0 (S1.trans S2) hhp
      exact ⟨hp, ⟨_, upd_same, .cons (d1.mono (S2.trans S3)) (.cons (d2.mono S3) .nil)⟩, listAt_mono LI S, B6.same S, ⟨Ne.symm (ne_of_none ei hn6), (B6.ne_new hn6).1, (B6.ne_new hn6).2⟩, rfl⟩
    clear LI B6
    rintro _ H6 ⟨hp, L, LI, B6, hne2, rfl⟩
    -- a
    refine ⟨fun σ H' => ∃ va, Dt K H' va (.tuple [.str "ref", .int ((1 : Nat) : Int)]) ∧ ListAt K H' hp [lstD [], .tuple [.str kd, .tuple D]] ∧ ListAt K H' il D ∧ BoxAt H' p dl ∧ σ = [some (.ref a), some (.ref p), some (.str kd), some (.ref il), some (.int low), x5, some (.ref hp), some va, none, none, none], ?_, ?_⟩
    · refine ⟨sz_2, fun u hu => ?_⟩
      have S := Same.new (o := .tup [.str "ref", .int 1]) hu
      exact ⟨_, Dt.made (K := K) hu (.cons (.str "ref") (.cons (.int ((1 : Nat) : Int)) .nil)), listAt_mono L S, listAt_mono LI S, B6.same S, rfl⟩
    clear L LI B6
    rintro _ H6 ⟨va, da, L, LI, B6, rfl⟩
    -- a text
    refine ⟨fun σ H' => ∃ va, (∀ cs, kd = "text" → D = (cs.map fun c => PyData.str (S [c])) → Dt K H' va (.tuple [.str "text", .str (S cs)])) ∧ (kd ≠ "text" → Dt K H' va (.tuple [.str "ref", .int ((1 : Nat) : Int)])) ∧ ListAt K H' hp [lstD [], .tuple [.str kd, .tuple D]] ∧ ListAt K H' il D ∧ BoxAt H' p dl ∧ σ = [some (.ref a), some (.ref p), some (.str kd), some (.ref il), some (.int low), x5, some (.ref hp), some va, none, none, none], ?_, ?_⟩
    · refine ⟨_, rfl, rfl, _, rfl, ?_⟩
      by_cases hk : kd = "text"
      · refine iteTb (by rw [hk]; rfl) ?_
        rcases hD with ⟨_, cs, hcs, hlow⟩ | ⟨h, _⟩ | ⟨h, _⟩
        · obtain ⟨xs, ei, ai⟩ := id LI
          rw [hcs] at ai
          obtain rfl := strs_of ai
          have hcl : cs.length = n := by rw [← hDn, hcs, List.length_map]
          refine ⟨rfl, _, rfl, "", il, _, rfl, rfl, .inl (SqL.of ei), ?_, sz_2, fun u hu => ?_⟩
          · rw [ones_len, List.length_map, show ("" : Str).length = 0 by decide +kernel]
            exact Nat.le_trans (show _ ≤ 100 by omega) (by decide)
          · rw [join_chars]
            have S := Same.new (o := .tup [.str "text", .str (SX.S cs)]) hu
            refine ⟨_, fun cs' _ h' => ?_, fun h => absurd hk h, listAt_mono L S, listAt_mono LI S, B6.same S, rfl⟩
            have : cs = cs' := by
              have h2 := hcs.symm.trans h'
              refine (List.map_inj_right fun x y e => ?_).mp h2
              have e := PyData.str.inj e
              simpa [SX.S] using e
            subst this
            exact Dt.made (K := K) hu (.cons (.str "text") (.cons (.str _) .nil))
        · rw [hk] at h; exact absurd h (by decide +kernel)
        · rw [hk] at h; rcases h with h | h <;> exact absurd h (by decide +kernel)
      · refine iteFb (decide_eq_false fun h => hk (V.str.inj h)) ?_
        exact ⟨va, fun _ h => absurd h hk, fun _ => da, L, LI, B6, rfl⟩
    clear L LI B6 da va
    rintro _ H6 ⟨va, da1, da2, L, LI, B6, rfl⟩
    -- a span
    refine ⟨fun σ H' => ∃ va, (∀ cs, kd = "text" → D = (cs.map fun c => PyData.str (S [c])) → Dt K H' va (.tuple [.str "text", .str (S cs)])) ∧ (kd = "span" → Dt K H' va (.tuple [.str "span", .int low, .int (low + n)])) ∧ (kd ≠ "text" → kd ≠ "span" → Dt K H' va (.tuple [.str "ref", .int ((1 : Nat) : Int)])) ∧ ListAt K H' hp [lstD [], .tuple [.str kd, .tuple D]] ∧ ListAt K H' il D ∧ BoxAt H' p dl ∧ σ = [some (.ref a), some (.ref p), some (.str kd), some (.ref il), some (.int low), x5, some (.ref hp), some va, none, none, none], ?_, ?_⟩
    · refine ⟨_, rfl, rfl, _, rfl, ?_⟩
      by_cases hk : kd = "span"
      · refine iteTb (by rw [hk]; rfl) ?_
        obtain ⟨xs, ei, ai⟩ := id LI
        have hxl := ai.length
        refine ⟨_, rfl, _, rfl, _, rfl, _, _, rfl, .inl ⟨_, SqL.of ei, rfl⟩, _, _, rfl, rfl, sz_3, fun u hu => ?_⟩
        have S := Same.new (o := .tup [.str "span", .int low, .int (low + (xs.length : Nat))]) hu
        refine ⟨_, fun _ h => ?_, fun _ => ?_, fun _ h => absurd hk h, listAt_mono L S, listAt_mono LI S, B6.same S, rfl⟩
        · rw [hk] at h; exact absurd h (by decide +kernel)
        · rw [← hDn, ← hxl]
          exact Dt.made (K := K) hu (.cons (.str "span") (.cons (.int _) (.cons (.int _) .nil)))
      · refine iteFb (decide_eq_false fun h => hk (V.str.inj h)) ?_
        exact ⟨va, da1, fun h => absurd h hk, fun h _ => da2 h, L, LI, B6, rfl⟩
    clear L LI B6 da1 da2 va
    rintro _ H6 ⟨va, da1, da2, da3, L, LI, B6, rfl⟩
    -- heap again
    refine ⟨fun σ H' => ∃ (hp : Addr) (hds : List PyData) (av : Av) (d : PyData), AvIs hds av d ∧ Dt K H' va d ∧ ListAt K H' hp hds ∧ ListAt K H' il D ∧ BoxAt H' p dl ∧ (hp ≠ il ∧ hp ≠ p ∧ hp ≠ dl) ∧ hds.length ≤ 2 ∧ (∀ x ∈ hds, Sm x 4 40000) ∧
      ((kd = "span" ∧ av = .span low n) ∨ ((kd = "tuple" ∨ kd = "list") ∧ av = .obj kd D ∧ hds[1]? = some (.tuple [.str kd, .tuple D]) ∧ d = .tuple [.str "ref", .int ((1 : Nat) : Int)]) ∨ (kd = "text" ∧ ∃ cs, av = .txt cs ∧ D = (cs.map fun c => PyData.str (S [c])) ∧ (∀ c ∈ cs, c < 128) ∧ d = .tuple [.str "text", .str (S cs)])) ∧
      σ = [some (.ref a), some (.ref p), some (.str kd), some (.ref il), some (.int low), x5, some (.ref hp), some va, none, none, none], ?_, ?_⟩
    · have hl0 : Sm (lstD []) 4 40000 := (Sm.tup (.cons (Sm.short (n := "list") (by decide +kernel)) (.cons (Sm.tup .nil) .nil))).mono (by decide) (by decide)
      refine ⟨_, rfl, sz_2, fun u hu => ⟨u, _, rfl, .inr (SqT.of upd_same), rfl, rfl, _, rfl, ?_⟩⟩
      have S1 := Same.new (o := .tup [.str "text", .str "span"]) hu
      rcases hD with ⟨rfl, cs, hcs, hlow⟩ | ⟨rfl, hD⟩ | ⟨hk2, hD⟩
      · refine iteTb (by decide +kernel) ⟨sz_0, fun u1 h1 => ⟨sz_2, fun u2 h2 => ⟨sz_1, fun u3 h3 => ?_⟩⟩⟩
        have S2 := (Same.new (o := .tup []) h1).trans (Same.new (o := .tup [.str "list", .ref u1]) h2)
        have d1 := Dt.made (K := K) h2 (.cons (.str "list") (.cons (Dt.made (K := K) h1 .nil) .nil))
        have S3 := Same.new (o := .lst [.ref u2]) h3
        have S := (S1.trans S2).trans S3
        have hn6 := same_none0 (S1.trans S2) h3
        refine ⟨u3, [lstD []], .txt cs, _, .txt cs, (da1 cs rfl hcs).mono S, ⟨_, upd_same, .cons (d1.mono S3) .nil⟩, listAt_mono LI S, B6.same S, ⟨(let ⟨_, ei, _⟩ := id LI; Ne.symm (ne_of_none ei hn6)), (B6.ne_new hn6).1, (B6.ne_new hn6).2⟩, by decide, fun x hx => by rw [List.mem_singleton.mp hx]; exact hl0, .inr (.inr ⟨rfl, cs, rfl, hcs, hlow, rfl⟩), rfl⟩
      · refine iteTb (by decide +kernel) ⟨sz_0, fun u1 h1 => ⟨sz_2, fun u2 h2 => ⟨sz_1, fun u3 h3 => ?_⟩⟩⟩
        have S2 := (Same.new (o := .tup []) h1).trans (Same.new (o := .tup [.str "list", .ref u1]) h2)
        have d1 := Dt.made (K := K) h2 (.cons (.str "list") (.cons (Dt.made (K := K) h1 .nil) .nil))
        have S3 := Same.new (o := .lst [.ref u2]) h3
        have S := (S1.trans S2).trans S3
        have hn6 := same_none0 (S1.trans S2) h3
        refine ⟨u3, [lstD []], .span low n, _, .span low n, (da2 rfl).mono S, ⟨_, upd_same, .cons (d1.mono S3) .nil⟩, listAt_mono LI S, B6.same S, ⟨(let ⟨_, ei, _⟩ := id LI; Ne.symm (ne_of_none ei hn6)), (B6.ne_new hn6).1, (B6.ne_new hn6).2⟩, by decide, fun x hx => by rw [List.mem_singleton.mp hx]; exact hl0, .inl ⟨rfl, rfl⟩, rfl⟩
      · refine iteFb (by rcases hk2 with rfl | rfl <;> decide +kernel) ?_
        have hkd : shortS kd = true := by rcases hk2 with rfl | rfl <;> decide +kernel
        refine ⟨hp, [lstD [], .tuple [.str kd, .tuple D]], .obj kd D, _, .obj (k := 1) hk2 rfl, (da3 (by rcases hk2 with rfl | rfl <;> decide +kernel) (by rcases hk2 with rfl | rfl <;> decide +kernel)).mono S1, listAt_mono L S1, listAt_mono LI S1, B6.same S1, hne2, Nat.le_refl 2, fun x hx => ?_, .inr (.inl ⟨hk2, rfl, rfl, rfl⟩), rfl⟩
        simp only [List.mem_cons, List.not_mem_nil, or_false] at hx
        rcases hx with rfl | rfl
        · exact hl0
        · exact (Sm.tup (.cons (Sm.short hkd) (.cons (Sm.tup ((SmAll.many hD).mem (m := 10) (M := 30000) (by omega) (by omega))) .nil))).mono (by decide) (by decide)
    clear L LI B6 da1 da2 da3 hne2 hp
    rintro _ H6 ⟨hp, hds, av, d, hav, dva, L, LI, B6, hne2, hhl, hhs, hkk, rfl⟩
    have havl : av.len = n := by
      rcases hkk with ⟨_, rfl⟩ | ⟨_, rfl, _⟩ | ⟨_, cs, rfl, h, _⟩
      · rfl
      · exact hDn
      · rw [h, List.length_map] at hDn; exact hDn
    have hsh : ∀ ix, ShowOk (itemD av ix) := fun ix => by
      unfold itemD
      cases hpl : placeR ix av.len with
      | inl e => exact placeR_show hpl
      | inr j =>
        have hj := placeR_inr hpl
        show ShowOk (okD (av.its.getD j .none))
        have ok1 : ∀ x, Sm x 2 3000 → ShowOk (okD x) := fun x hx => (Sm.tup (.cons (Sm.short (n := "ok") (by decide +kernel)) (.cons hx .nil))).show (by decide) (by decide)
        refine ok1 _ ?_
        have hmem : av.its.getD j .none ∈ av.its := by
          have : j < av.its.length := by rw [av.its_len]; exact hj
          rw [List.getD_eq_getElem?_getD, List.getElem?_eq_getElem this]
          exact List.getElem_mem this
        generalize av.its.getD j .none = x at hmem
        rcases hkk with ⟨_, rfl⟩ | ⟨hk2, rfl, _⟩ | ⟨_, cs, rfl, _, hlow, _⟩
        · obtain ⟨i, hi, rfl⟩ := List.mem_map.mp hmem
          have := List.mem_range.mp hi
          exact (Sm.tup (.cons (Sm.short (n := "int") (by decide +kernel)) (.cons (sm_int (by omega)) .nil))).mono (by decide) (by decide)
        · rcases hD with ⟨h, _⟩ | ⟨h, _⟩ | ⟨_, h⟩
          · rcases hk2 with rfl | rfl <;> exact absurd h (by decide +kernel)
          · rcases hk2 with rfl | rfl <;> exact absurd h (by decide +kernel)
          · exact h x hmem
        · obtain ⟨c, hc, rfl⟩ := List.mem_map.mp hmem
          exact (Sm.tup (.cons (Sm.short (n := "text") (by decide +kernel)) (.cons (Sm.str (n := 1) (by rw [S_len]; exact Nat.le_refl _) fun c' hc' => by
            have : c' = c := by simpa [SX.S] using hc'
            subst this
            exact Nat.lt_trans (hlow _ hc) (by decide)) .nil))).mono (by decide) (by decide)
    refine ⟨_, rfl, by decide, by decide, ?_⟩
    refine for_range (lo := 0) (n := 8) (fun i σ H' => ∃ x8 x9 x10, LpS K p dl hp il D hds va d i H' ∧ σ = [some (.ref a), some (.ref p), some (.str kd), some (.ref il), some (.int low), x5, some (.ref hp), some va, x8, x9, x10]) ⟨none, none, none, ⟨⟨[], by simp, by simp, by rw [List.append_nil]; exact L⟩, LI, B6, dva⟩, rfl⟩ ?_ ?_
    · rintro i σ H7 hi ⟨x8, x9, x10, Z, rfl⟩
      refine ⟨_, rfl, p, dl, rfl, Z.box, fun vi ix H8 di B8 K8 => ?_⟩
      have Z8 := Z.keep K8 B8 hne2.2.1 hne.1
      obtain ⟨xs, ex, ax⟩ := id Z8.its
      have hxl := ax.length
      refine ⟨_, rfl, _, rfl, _, _, rfl, .inl ⟨_, SqL.of ex, rfl⟩, vi, xs.length, ix, rfl, di, fun r H9 S9 dr => ?_⟩
      rw [hxl, hDn, ← havl] at dr
      have Z9 := Z8.same S9
      have di9 := di.mono S9
      refine ⟨fun σ H' => ∃ vr, Dt K H' vr (itemD av ix) ∧ Dt K H' vi ix.d ∧ LpS K p dl hp il D hds va d i H' ∧ σ = [some (.ref a), some (.ref p), some (.str kd), some (.ref il), some (.int low), x5, some (.ref hp), some va, some (.int (0 + (i : Int))), some vi, some vr], ?_, ?_⟩
      · unfold itemD
        cases hpl : placeR ix av.len with
        | inl e =>
          rw [hpl] at dr
          obtain ⟨m, z, rfl⟩ := placeR_inl hpl
          obtain ⟨q, ws, rfl, hq, _⟩ := (show Dt K H9 r (.tuple [.str "raise", .int m, .str z]) from dr).head
          exact ⟨_, rfl, q, _, _, _, rfl, rfl, hq, at0, rfl, _, rfl, iteFb (by decide +kernel) ⟨_, dr, di9, Z9, rfl⟩⟩
        | inr j =>
          rw [hpl] at dr
          have hj := placeR_inr hpl
          obtain ⟨q, y, rfl, hq, dy⟩ := (show Dt K H9 r (.tuple [.str "ok", .int (j : Nat)]) from dr).pair
          cases dy.int_inv
          obtain ⟨xs9, ex9, ax9⟩ := id Z9.its
          obtain ⟨dj, hx⟩ : ∃ dj, D[j]? = some dj := ⟨D[j]'(by omega), List.getElem?_eq_getElem (by omega)⟩
          obtain ⟨y9, hy9, dy9⟩ := ax9.get hx
          refine ⟨_, rfl, q, _, _, _, rfl, rfl, hq, at0, rfl, _, rfl, iteTb (by decide +kernel) ?_⟩
          refine ⟨_, rfl, _, rfl, q, _, _, _, rfl, rfl, hq, at1, il, _, _, _, rfl, rfl, SqL.of ex9, atI_nat hy9, sz_2, fun u hu => ?_⟩
          have S10 := Same.new (o := .tup [.str "ok", y9]) hu
          have Z10 := Z9.same S10
          have d10 := Dt.made (K := K) hu (.cons (.str "ok") (.cons dy9 .nil))
          refine ⟨_, rfl, rfl, _, rfl, ?_⟩
          rcases hkk with ⟨rfl, rfl⟩ | ⟨hk2, rfl, _⟩ | ⟨rfl, cs, rfl, hcs, _⟩
          · refine iteFb (by decide +kernel) ⟨_, ?_, di9.mono S10, Z10, rfl⟩
            rcases hD with ⟨h, _⟩ | ⟨_, h⟩ | ⟨h, _⟩
            · exact absurd h (by decide +kernel)
            · show Dt K _ _ (okD ((Av.span low n).its.getD j .none))
              have : (Av.span low n).its.getD j .none = dj := by
                rw [List.getD_eq_getElem?_getD, show (Av.span low n).its = D from h.symm, hx]; rfl
              rw [this]
              exact d10
            · rcases h with h | h <;> exact absurd h (by decide +kernel)
          · refine iteFb (by rcases hk2 with rfl | rfl <;> decide +kernel) ⟨_, ?_, di9.mono S10, Z10, rfl⟩
            show Dt K _ _ (okD (D.getD j .none))
            have : D.getD j .none = dj := by
              rw [List.getD_eq_getElem?_getD, hx]; rfl
            rw [this]
            exact d10
          · refine iteTb (by decide +kernel) ?_
            refine ⟨_, rfl, u, _, _, _, rfl, rfl, SqT.of upd_same, at1, sz_2, fun u1 h1 => ⟨sz_2, fun u2 h2 => ?_⟩⟩
            have S11 := (Same.new (o := .tup [.str "text", y9]) h1).trans (Same.new (o := .tup [.str "ok", .ref u1]) h2)
            refine ⟨_, ?_, di9.mono (S10.trans S11), Z10.same S11, rfl⟩
            have hjc : cs[j]? = some (cs[j]'hj) := List.getElem?_eq_getElem hj
            show Dt K _ _ (okD ((cs.map fun c => PyData.tuple [.str "text", .str (SX.S [c])]).getD j .none))
            rw [List.getD_eq_getElem?_getD, List.getElem?_map, hjc]
            have e9 : dj = .str (SX.S [cs[j]'hj]) := by
              have h2 := hx
              rw [hcs, List.getElem?_map, hjc] at h2
              exact (Option.some.inj h2).symm
            rw [e9] at dy9
            exact Dt.made (K := K) h2 (.cons (.str "ok") (.cons (Dt.made (K := K) h1 (.cons (.str "text") (.cons (dy9.mono S10) .nil))) .nil))
      clear Z Z8 Z9 di di9 dr S9 K8 B8 ex ax hxl
      rintro _ H8 ⟨vr, dvr, di, Z, rfl⟩
      obtain ⟨more, hm1, hm2, L8⟩ := Z.ex
      refine ⟨_, rfl, _, rfl, _, rfl, hp, _, va, vi, av, d, ix, rfl, L8, Z.dva, hav.app, by omega, di, fun r H9 S9 dr => ?_⟩
      refine ⟨_, rfl, r, vr, _, rfl, dr.dp, (dvr.mono S9).dp, hsh ix, true, rfl, iteFb rfl ?_⟩
      have Z := Z.same S9
      have di := di.mono S9
      have L8 := listAt_mono L8 S9
      clear S9 dr dvr
      refine ⟨fun σ H' => Dt K H' vi ix.d ∧ LpS K p dl hp il D hds va d (i + 1) H' ∧ σ = [some (.ref a), some (.ref p), some (.str kd), some (.ref il), some (.int low), x5, some (.ref hp), some va, some (.int (0 + (i : Int))), some vi, some vr], ?_, ?_⟩
      · have go : ∀ (Q' : VK), (∀ H', Dt K H' vi ix.d → LpS K p dl hp il D hds va d (i + 1) H' → Q' (.bl true) H') → ∀ (t : Bool) (rw_ : RowD), ValIs (hds ++ more) t kd rw_.d d → t = isT rw_ → rw_.len ≤ 10 → itsR rw_ = D → (∀ x ∈ D, Sm x 2 3000) → (∀ cs, rw_ = .txt cs → ∀ c ∈ cs, c < 128) →
            ∀ v1 i1 H1 v2 i2 H2, Dt K H1 v1 (Ix.d i1) → BoxAt H1 p dl → Keep p H9 H1 → Dt K H2 v2 (Ix.d i2) → BoxAt H2 p dl → Keep p H1 H2 → spLParts K [.ref hp, va, .str kd, .ref il, v1, v2] H2 Q' E0 := fun Q' kq t rw_ hval ht hl10 hits hsm hlow v1 i1 H1 v2 i2 H2 d1 B1 K1 d2 B2 K2 => by
          have Z1 := (Z.keep K1 B1 hne2.2.1 hne.1).keep K2 B2 hne2.2.1 hne.1
          have L2 := listAt_keep (listAt_keep L8 K1 hne2.2.1 Z.box.at_) K2 hne2.2.1 B1.at_
          have di2 := (di.keepT (K1.keepT Z.box.at_)).keepT (K2.keepT B1.at_)
          refine ⟨hp, il, _, va, v1, v2, t, kd, rw_, d, i1, i2, rfl, L2, by rw [List.length_append]; omega, Z1.dva, hval, ht, hl10, hne2.1, by rw [hits]; exact Z1.its, d1.keepT (K2.keepT B1.at_), d2, fun x hx => ?_, by rw [hits]; exact hsm, hlow, fun H3 more2 K3 L3 hm3 hm4 => ?_⟩
          · rcases List.mem_append.mp hx with h | h
            · exact hhs x h
            · exact hm2 x h
          · obtain ⟨zs2, ez2, _⟩ := id L2
            have kT := K3.keepT (K := K) ⟨_, ez2⟩
            refine kq _ (di2.keepT kT) ⟨⟨more ++ more2, by rw [List.length_append]; omega, fun x hx => ?_, by rw [← List.append_assoc]; exact L3⟩, listAt_keep Z1.its K3 (Ne.symm hne2.1) ⟨_, ez2⟩, B2.keep' K3 hne2.2.1 hne2.2.2, Z1.dva.keepT kT⟩
            rcases List.mem_append.mp hx with h | h
            · exact hm2 x h
            · exact hm4 x h
        refine ⟨_, rfl, rfl, _, rfl, ?_⟩
        rcases hkk with ⟨rfl, rfl⟩ | ⟨hk2, rfl, hh1, rfl⟩ | ⟨rfl, cs, rfl, hcs, hlow, rfl⟩
        · exact iteFb (by decide +kernel) ⟨di, ⟨⟨more, by omega, hm2, L8⟩, Z.its, Z.box, Z.dva⟩, rfl⟩
        · refine iteTb (by rcases hk2 with rfl | rfl <;> decide +kernel) ?_
          refine ⟨_, rfl, _, rfl, _, rfl, _, rfl, _, rfl, p, dl, rfl, Z.box, fun v1 i1 H1 d1 B1 K1 => ⟨_, rfl, p, dl, rfl, B1, fun v2 i2 H2 d2 B2 K2 => ?_⟩⟩
          dsimp only [tNil]
          refine go _ (fun H' e1 e2 => ⟨true, rfl, iteFb rfl ⟨e1, e2, rfl⟩⟩) false (.tup D) (.obj (k := 1) hk2 (by rw [List.getElem?_append_left (List.getElem?_eq_some_iff.mp hh1).1]; exact hh1)) rfl (by show D.length ≤ 10; omega) rfl ?_ (fun cs h => by cases h) v1 i1 H1 v2 i2 H2 d1 B1 K1 d2 B2 K2
          rcases hD with ⟨h, _⟩ | ⟨h, _⟩ | ⟨_, h⟩
          · rcases hk2 with rfl | rfl <;> exact absurd h (by decide +kernel)
          · rcases hk2 with rfl | rfl <;> exact absurd h (by decide +kernel)
          · exact h
        · refine iteTb (by decide +kernel) ?_
          refine ⟨_, rfl, _, rfl, _, rfl, _, rfl, _, rfl, p, dl, rfl, Z.box, fun v1 i1 H1 d1 B1 K1 => ⟨_, rfl, p, dl, rfl, B1, fun v2 i2 H2 d2 B2 K2 => ?_⟩⟩
          dsimp only [tNil]
          refine go _ (fun H' e1 e2 => ⟨true, rfl, iteFb rfl ⟨e1, e2, rfl⟩⟩) true (.txt cs) .txt rfl (by rw [hcs, List.length_map] at hDn; show cs.length ≤ 10; omega) hcs.symm (fun x hx => ?_) (fun cs' h c hc => by cases h; exact hlow c hc) v1 i1 H1 v2 i2 H2 d1 B1 K1 d2 B2 K2
          rw [hcs] at hx
          obtain ⟨c, hc, rfl⟩ := List.mem_map.mp hx
          exact (Sm.str (n := 1) (by rw [S_len]; exact Nat.le_refl _) fun c' hc' => by
            have : c' = c := by simpa [SX.S] using hc'
            subst this
            exact Nat.lt_trans (hlow _ hc) (by decide)).mono (by decide) (by decide)
      clear Z L8 di
      rintro _ H10 ⟨di, Z, rfl⟩
      refine ⟨_, rfl, rfl, _, rfl, ?_⟩
      by_cases hkl : kd = "list"
      · refine iteTb (by rw [hkl]; rfl) ?_
        refine ⟨_, rfl, _, rfl, _, rfl, _, vi, il, D, ix, rfl, Z.its, by omega, ?_, di, fun H' S => ⟨true, rfl, iteFb rfl ⟨_, _, _, Z.same S, rfl⟩⟩⟩
        rcases hD with ⟨h, _⟩ | ⟨h, _⟩ | ⟨_, h⟩
        · rw [hkl] at h; exact absurd h (by decide +kernel)
        · rw [hkl] at h; exact absurd h (by decide +kernel)
        · exact h
      · exact iteFb (decide_eq_false fun h => hkl (V.str.inj h)) ⟨_, _, _, Z, rfl⟩
    · rintro σ H7 ⟨x8, x9, x10, Z, rfl⟩
      exact k _
end
theorem walk_mk {l : PySem.W.OpenLaw} {w : World} {K : PySem.W.Frag} {h : Heap} {mg : Str → Option Value} {fa : Addr} (X : K.In h) (G : h.Ns mainGlobals mg) (hfa : mg "law" = some (.ref fa))
    (f0 : HasFn K "_law_cell" s_law_cell)
    (f1 : HasFn K "_law_digits" s_law_digits)
    (f2 : HasFn K "_law_draw" s_law_draw)
    (f3 : HasFn K "_law_index" s_law_index)
    (f4 : HasFn K "_law_kind" s_law_kind)
    (f5 : HasFn K "_law_place" s_law_place)
    (f6 : HasFn K "_law_same" s_law_same)
    (f7 : HasFn K "object_kind" s_object_kind)
    (f8 : HasFn K "row_kind" s_row_kind)
    (f9 : HasFn K "row_of" s_row_of)
    (f10 : HasFn K "_size" s_size)
    (f11 : HasFn K "is_number" s_is_number)
    (f12 : HasFn K "kind_name" s_kind_name)
    (f13 : HasFn K "_refusal" s_refusal)
    (f14 : HasFn K "row_place" s_row_place)
    (f15 : HasFn K "element" s_element)
    (f16 : HasFn K "item" s_item)
    (f17 : HasFn K "_law_clip" s_law_clip)
    (f18 : HasFn K "slice_place" s_slice_place)
    (f19 : HasFn K "made_row" s_made_row)
    (f20 : HasFn K "part" s_part)
    (f21 : HasFn K "_law_parts" s_law_parts)
    (f22 : HasFn K "put_item" s_put_item)
    (f23 : HasFn K "drop_item" s_drop_item)
    (f24 : HasFn K "_law_changes" s_law_changes)
    (f25 : HasFn K "law" s_law)
    (c0 : HasInt K "INDEX_ERROR" 6)
    (c1 : HasInt K "KEY_ERROR" 7)
    (c2 : HasInt K "TYPE_ERROR" 10)
    (c3 : HasDone K)
    (b_len : PySem.W.nsIn K mainGlobals "len" = some none)
    (b_int : PySem.W.nsIn K mainGlobals "int" = some none)
    (b_repr : PySem.W.nsIn K mainGlobals "repr" = some none)
    (b_range : PySem.W.nsIn K mainGlobals "range" = some none)
    (b_list : PySem.W.nsIn K mainGlobals "list" = some none)
    (b_tuple : PySem.W.nsIn K mainGlobals "tuple" = some none)
    (b_max : PySem.W.nsIn K mainGlobals "max" = some none)
    (b_min : PySem.W.nsIn K mainGlobals "min" = some none)
    (d_VALUE_KINDS : HasDct l.prog w K "VALUE_KINDS" (txtKV vkL)) :
    ∃ fd : FuncData, (∀ (s : Shared) (v : Value), BindsTo s fd ⟨[v], []⟩ [("script", v)]) ∧ ∀ base : Heap, K.In base → base.Ns mainGlobals mg → FnG l.prog w K mg base CX0 6 fa fd ["script"] (spLaw K) := by
  have T : Txt K mg := ⟨c0.g X G, c1.g X G, c2.g X G, c3.g X G, PySem.W.mg_none_of X G b_len, PySem.W.mg_none_of X G b_int, PySem.W.mg_none_of X G b_repr, PySem.W.mg_none_of X G b_range, PySem.W.mg_none_of X G b_list, PySem.W.mg_none_of X G b_tuple, PySem.W.mg_none_of X G b_max, PySem.W.mg_none_of X G b_min⟩
  refine law_use f25 X G hfa (fun _ _ _ _ _ _ _ => rfl) fun base X' G' fd F => ?_
  have U_VALUE_KINDS : UseD l.prog w K mg "VALUE_KINDS" _ := d_VALUE_KINDS.g X G
  have U_law_cell := mk_use (P := l.prog) (w := w) (mg := mg) (base := base) f0 X G (fun _ _ _ _ _ _ us hl => match us, hl with | [_, _], _ => rfl) fun f fd F => ok_cell F T 
  have U_law_digits := mk_use (P := l.prog) (w := w) (mg := mg) (base := base) f1 X G (fun _ _ _ _ _ _ us hl => match us, hl with | [_, _, _], _ => rfl) fun f fd F => ok_digits F T U_law_cell
  have U_law_draw := mk_use (P := l.prog) (w := w) (mg := mg) (base := base) f2 X G (fun _ _ _ _ _ _ us hl => match us, hl with | [_, _], _ => rfl) fun f fd F => ok_draw F T 
  have U_law_index := mk_use (P := l.prog) (w := w) (mg := mg) (base := base) f3 X G (fun _ _ _ _ _ _ us hl => match us, hl with | [_], _ => rfl) fun f fd F => ok_lindex F T U_law_draw
  have U_law_kind := mk_use (P := l.prog) (w := w) (mg := mg) (base := base) f4 X G (fun _ _ _ _ _ _ us hl => match us, hl with | [_], _ => rfl) fun f fd F => ok_lkind F T 
  have U_law_place := mk_use (P := l.prog) (w := w) (mg := mg) (base := base) f5 X G (fun _ _ _ _ _ _ us hl => match us, hl with | [_, _], _ => rfl) fun f fd F => ok_lplace F T U_law_kind
  have U_law_same := mk_use (P := l.prog) (w := w) (mg := mg) (base := base) f6 X G (fun _ _ _ _ _ _ us hl => match us, hl with | [_, _], _ => rfl) fun f fd F => ok_same F T 
  have U_object_kind := mk_use (P := l.prog) (w := w) (mg := mg) (base := base) f7 X G (fun _ _ _ _ _ _ us hl => match us, hl with | [_, _], _ => rfl) fun f fd F => ok_kind F T 
  have U_row_kind := mk_use (P := l.prog) (w := w) (mg := mg) (base := base) f8 X G (fun _ _ _ _ _ _ us hl => match us, hl with | [_, _], _ => rfl) fun f fd F => ok_rowkind F T U_object_kind
  have U_row_of := mk_use (P := l.prog) (w := w) (mg := mg) (base := base) f9 X G (fun _ _ _ _ _ _ us hl => match us, hl with | [_, _], _ => rfl) fun f fd F => ok_rowof F T 
  have U_size := mk_use (P := l.prog) (w := w) (mg := mg) (base := base) f10 X G (fun _ _ _ _ _ _ us hl => match us, hl with | [_, _], _ => rfl) fun f fd F => ok_size F T U_row_of
  have U_is_number := mk_use (P := l.prog) (w := w) (mg := mg) (base := base) f11 X G (fun _ _ _ _ _ _ us hl => match us, hl with | [_], _ => rfl) fun f fd F => ok_isnum F T 
  have U_kind_name := mk_use (P := l.prog) (w := w) (mg := mg) (base := base) f12 X G (fun _ _ _ _ _ _ us hl => match us, hl with | [_, _], _ => rfl) fun f fd F => ok_kname F T U_VALUE_KINDS
  have U_refusal := mk_use (P := l.prog) (w := w) (mg := mg) (base := base) f13 X G (fun _ _ _ _ _ _ us hl => match us, hl with | [_, _, _], _ => rfl) fun f fd F => ok_refusal F T U_kind_name
  have U_row_place := mk_use (P := l.prog) (w := w) (mg := mg) (base := base) f14 X G (fun _ _ _ _ _ _ us hl => match us, hl with | [_, _, _], _ => rfl) fun f fd F => ok_rplace F T U_is_number U_refusal
  have U_element := mk_use (P := l.prog) (w := w) (mg := mg) (base := base) f15 X G (fun _ _ _ _ _ _ us hl => match us, hl with | [_, _, _], _ => rfl) fun f fd F => ok_elem F T 
  have U_item := mk_use (P := l.prog) (w := w) (mg := mg) (base := base) f16 X G (fun _ _ _ _ _ _ us hl => match us, hl with | [_, _, _], _ => rfl) fun f fd F => ok_item F T U_object_kind U_row_kind U_size U_row_place U_element
  have U_law_clip := mk_use (P := l.prog) (w := w) (mg := mg) (base := base) f17 X G (fun _ _ _ _ _ _ us hl => match us, hl with | [_, _, _], _ => rfl) fun f fd F => ok_lclip F T U_law_kind
  have U_slice_place := mk_use (P := l.prog) (w := w) (mg := mg) (base := base) f18 X G (fun _ _ _ _ _ _ us hl => match us, hl with | [_, _], _ => rfl) fun f fd F => ok_splace F T 
  have U_made_row := mk_use (P := l.prog) (w := w) (mg := mg) (base := base) f19 X G (fun _ _ _ _ _ _ us hl => match us, hl with | [_, _, _], _ => rfl) fun f fd F => ok_made F T 
  have U_part := mk_use (P := l.prog) (w := w) (mg := mg) (base := base) f20 X G (fun _ _ _ _ _ _ us hl => match us, hl with | [_, _, _, _], _ => rfl) fun f fd F => ok_part F T U_row_kind U_row_of U_is_number U_refusal U_slice_place U_made_row
  have U_law_parts := mk_use (P := l.prog) (w := w) (mg := mg) (base := base) f21 X G (fun _ _ _ _ _ _ us hl => match us, hl with | [_, _, _, _, _, _], _ => rfl) fun f fd F => ok_lparts F T U_law_clip U_part U_law_same
  have U_put_item := mk_use (P := l.prog) (w := w) (mg := mg) (base := base) f22 X G (fun _ _ _ _ _ _ us hl => match us, hl with | [_, _, _, _], _ => rfl) fun f fd F => ok_put F T U_object_kind U_row_place
  have U_drop_item := mk_use (P := l.prog) (w := w) (mg := mg) (base := base) f23 X G (fun _ _ _ _ _ _ us hl => match us, hl with | [_, _, _], _ => rfl) fun f fd F => ok_drop F T U_object_kind U_row_place
  have U_law_changes := mk_use (P := l.prog) (w := w) (mg := mg) (base := base) f24 X G (fun _ _ _ _ _ _ us hl => match us, hl with | [_, _, _], _ => rfl) fun f fd F => ok_lchanges F T U_law_place U_put_item U_drop_item U_law_same
  exact ok_law F T U_law_digits U_law_draw U_law_index U_law_place U_law_same U_item U_law_parts U_law_changes
end K26
open PySem PySem.W PyProof.Rows
set_option maxRecDepth 100000 in
set_option maxHeartbeats 0 in
theorem PySem.Challenge.cw_pyhold_k26_items_and_slices_holds : PySem.Challenge.rw_pyhold_k26_items_and_slices.Holds := by
  w_on; o_law; k_head; (case hw => w_witness2)
  k_fill
  refine LK.walkG (l := PySem.Challenge.rw_pyhold_k26_items_and_slices) (n := 63) (k := 6) (x := "script") (CX := L2.CX0) (sp := K26.spLaw) rfl (by decide) rfl ⟨rfl, by decide, by decide⟩ (fun w h Y => PySem.W.kIn_of Y) ?F (fun K H a ns hl _ hS => ⟨a, ns, rfl, hS, hl, fun _ => rfl⟩) (fun _ _ _ _ z => z)
  case F =>
    intro w mg fa h KX G hmg
    refine' K26.walk_mk KX G hmg ?f0 ?f1 ?f2 ?f3 ?f4 ?f5 ?f6 ?f7 ?f8 ?f9 ?f10 ?f11 ?f12 ?f13 ?f14 ?f15 ?f16 ?f17 ?f18 ?f19 ?f20 ?f21 ?f22 ?f23 ?f24 ?f25 ?c0 ?c1 ?c2 ?c3 ?b_len ?b_int ?b_repr ?b_range ?b_list ?b_tuple ?b_max ?b_min ?d_VALUE_KINDS
    case f0 => refine' LK.HasFn.mk' ?a ?b ?c ?d; (case a => k_is); (case b => k_is); (case c => k_is); (case d => k_is)
    case f1 => refine' LK.HasFn.mk' ?a ?b ?c ?d; (case a => k_is); (case b => k_is); (case c => k_is); (case d => k_is)
    case f2 => refine' LK.HasFn.mk' ?a ?b ?c ?d; (case a => k_is); (case b => k_is); (case c => k_is); (case d => k_is)
    case f3 => refine' LK.HasFn.mk' ?a ?b ?c ?d; (case a => k_is); (case b => k_is); (case c => k_is); (case d => k_is)
    case f4 => refine' LK.HasFn.mk' ?a ?b ?c ?d; (case a => k_is); (case b => k_is); (case c => k_is); (case d => k_is)
    case f5 => refine' LK.HasFn.mk' ?a ?b ?c ?d; (case a => k_is); (case b => k_is); (case c => k_is); (case d => k_is)
    case f6 => refine' LK.HasFn.mk' ?a ?b ?c ?d; (case a => k_is); (case b => k_is); (case c => k_is); (case d => k_is)
    case f7 => refine' LK.HasFn.mk' ?a ?b ?c ?d; (case a => k_is); (case b => k_is); (case c => k_is); (case d => k_is)
    case f8 => refine' LK.HasFn.mk' ?a ?b ?c ?d; (case a => k_is); (case b => k_is); (case c => k_is); (case d => k_is)
    case f9 => refine' LK.HasFn.mk' ?a ?b ?c ?d; (case a => k_is); (case b => k_is); (case c => k_is); (case d => k_is)
    case f10 => refine' LK.HasFn.mk' ?a ?b ?c ?d; (case a => k_is); (case b => k_is); (case c => k_is); (case d => k_is)
    case f11 => refine' LK.HasFn.mk' ?a ?b ?c ?d; (case a => k_is); (case b => k_is); (case c => k_is); (case d => k_is)
    case f12 => refine' LK.HasFn.mk' ?a ?b ?c ?d; (case a => k_is); (case b => k_is); (case c => k_is); (case d => k_is)
    case f13 => refine' LK.HasFn.mk' ?a ?b ?c ?d; (case a => k_is); (case b => k_is); (case c => k_is); (case d => k_is)
    case f14 => refine' LK.HasFn.mk' ?a ?b ?c ?d; (case a => k_is); (case b => k_is); (case c => k_is); (case d => k_is)
    case f15 => refine' LK.HasFn.mk' ?a ?b ?c ?d; (case a => k_is); (case b => k_is); (case c => k_is); (case d => k_is)
    case f16 => refine' LK.HasFn.mk' ?a ?b ?c ?d; (case a => k_is); (case b => k_is); (case c => k_is); (case d => k_is)
    case f17 => refine' LK.HasFn.mk' ?a ?b ?c ?d; (case a => k_is); (case b => k_is); (case c => k_is); (case d => k_is)
    case f18 => refine' LK.HasFn.mk' ?a ?b ?c ?d; (case a => k_is); (case b => k_is); (case c => k_is); (case d => k_is)
    case f19 => refine' LK.HasFn.mk' ?a ?b ?c ?d; (case a => k_is); (case b => k_is); (case c => k_is); (case d => k_is)
    case f20 => refine' LK.HasFn.mk' ?a ?b ?c ?d; (case a => k_is); (case b => k_is); (case c => k_is); (case d => k_is)
    case f21 => refine' LK.HasFn.mk' ?a ?b ?c ?d; (case a => k_is); (case b => k_is); (case c => k_is); (case d => k_is)
    case f22 => refine' LK.HasFn.mk' ?a ?b ?c ?d; (case a => k_is); (case b => k_is); (case c => k_is); (case d => k_is)
    case f23 => refine' LK.HasFn.mk' ?a ?b ?c ?d; (case a => k_is); (case b => k_is); (case c => k_is); (case d => k_is)
    case f24 => refine' LK.HasFn.mk' ?a ?b ?c ?d; (case a => k_is); (case b => k_is); (case c => k_is); (case d => k_is)
    case f25 => refine' LK.HasFn.mk' ?a ?b ?c ?d; (case a => k_is); (case b => k_is); (case c => k_is); (case d => k_is)
    case c0 => refine' LK.HasInt.mk' ?a ?b; (case a => k_is); (case b => decide +kernel)
    case c1 => refine' LK.HasInt.mk' ?a ?b; (case a => k_is); (case b => decide +kernel)
    case c2 => refine' LK.HasInt.mk' ?a ?b; (case a => k_is); (case b => decide +kernel)
    case c3 => refine' K26.HasDone.mk' ?a ?b ?c ?d ?e ?f ?g; (case a => k_is); (case b => k_is); (case c => decide); (case d => exact .cons ⟨_, rfl⟩ (.cons rfl .nil)); (case e => k_is); (case f => decide); (case g => exact .cons ⟨_, rfl⟩ .nil)
    case b_len => k_is
    case b_int => k_is
    case b_repr => k_is
    case b_range => k_is
    case b_list => k_is
    case b_tuple => k_is
    case b_max => k_is
    case b_min => k_is
    case d_VALUE_KINDS => refine' LK.HasDct.mk' ?a ?b ?c ?d ?e; (case a => k_is); (case b => k_is); (case c => rfl); (case d => repeat (first | exact .nil | refine .cons rfl rfl rfl ?_)); (case e => decide +kernel)


