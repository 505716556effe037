import PyProof.Rows.All
import Wide.All
import OpenK.AllK
import Wide.FinOn
import HandS.Base
import HandS.Call
import HandS.List
import HandS.Comp
import HandS.Ends
import HandS.Iter
import HandS.Text
import HandS.Words
import HandS.WordsList
import HandS.TupAny
import HandS.TupLe
import HandS.Rev
import HandS.Style
import HandS.Flow
import HandS.IsInst
import HandS.Codes
import HandS.FStrTup
import PySem.Challenge.RW_chartspec_k37_rectangles_by_their_pixels
set_option Elab.async false
set_option linter.all false
set_option maxRecDepth 100000
set_option maxHeartbeats 4000000
/-! The layer's promises with one thing more: no repr is under way (A.guards = some []). -/
namespace Cs
open PySem PySem.Spec PyProof.Rows L2

/-- a def's promise, given where no repr is under way -/
structure FnG (P : Program) (w : World) (K : PySem.W.Frag) (mg : Str → Option Value) (base : Heap) (k : Nat) (f : Addr) (fd : FuncData) (ps : List Str) (sp : Sp) : Prop where
  len : ∀ vs H Q E, sp vs H Q E → vs.length = ps.length
  go : ∀ (A : Around) (out : List Env) (s : Shared) (H : Hp) (args : Args) (us : List Value) (vs : List V) (Q : VK) (E : XK),
    Room k A → A.guards = some [] → Env0 P w K mg base A out s H → BindsTo s fd args (ps.zip us) → Vals vs us → sp vs H Q E →
    codeAny (model P w) A (.call (.ref f) args) (CR CX0 out P w H s Q E) s

section
variable {P : Program} {w : World} {K : PySem.W.Frag} {mg : Str → Option Value} {base : Heap}

/-- the contexts of bodies: as cxOf, nothing leaves the def -/
abbrev cxG (P : Program) (w : World) (K : PySem.W.Frag) (mg : Str → Option Value) (base : Heap) (N : List Str) (qual : Str) (sc : Scope) (f : Addr) (cd : Value) (A : Around) (out : List Env) (s : Shared) (H : Hp) (E : XK) : Cx :=
  (cxOf CX0 P w K mg base N qual sc f cd A out s H E).nox

/-- a def by its body -/
theorem FnG.of {x qual : Str} {st : Stmt} {f : Addr} {fd : FuncData} {N ps : List Str} {k : Nat} {sp : Sp} (F : Fun K x qual st f fd) (S : FnScope N ps (defScope st)) (len : ∀ vs H Q E, sp vs H Q E → vs.length = ps.length)
    (body : ∀ (cdv : Value) (A : Around) (out : List Env) (s : Shared) (H : Hp) (vs : List V) (Q : VK) (E : XK), Room k (A.deeper (envOfC qual (defScope st) s.heap.objs.size f cdv)) → A.guards = some [] → sp vs H Q E →
      ∃ t, PSs (cxG P w K mg base N qual (defScope st) f cdv A out s H E) (defBody st) t ∧ t { nx := fun _ H' => Q .non H', rt := Q } (start N vs) H) :
    FnG P w K mg base (k + 1) f fd ps sp := by
  obtain ⟨oc, od, kV, doc, pm, an, cdv, ct, osl, rfl, lk, hcd⟩ := F.ex
  refine ⟨len, fun A out s H args us vs Q E hr hg e0 hb r hsp => ?_⟩
  have hl := len _ _ _ _ hsp
  have inK : K.In s.heap := e0.mod.kin.keeps fun b o e => (e0.bs b o e).1
  have noL : s.heap.NoLimit := e0.mod.nolimit.keeps fun b o e => (e0.bs b o e).1
  refine codeAny_call_function hr.depth (inK _ _ lk) rfl S.co S.gen rfl (PySem.W.codeRec_of inK hcd) (hb _ _ _ _ ?_)
  refine wpAny_newFunctionEnv_cells S.kind (fun y hy => ?_) fun env he s1 x => ?_
  · rcases S.par y.1 (List.of_mem_zip (show (y.1, y.2) ∈ ps.zip us from hy)).1 with q | q
    · exact Or.inl q
    · exact Or.inr ⟨q, PySem.W.cellsFrom_some _ _ _ (Or.inl q)⟩
  · subst he
    refine ⟨noL.keeps x.toInCall.keep, codeAny_func ?_⟩
    obtain ⟨t, ht, hq⟩ := body cdv A out s H vs Q E (hr.deeper _) hg hsp
    have I : Inv (cxOf CX0 P w K mg base N qual (defScope st) f cdv A out s H E) [] (start N vs) H s1 := inv_start S hr.hd e0 hl r x
    refine wpAny_mono (ht.nox.run [] s1 (start N vs) H _ I hq) (fun fl s' hs => ?_) fun e s' hs => hs
    have fin : ∀ {σ' : L2.St} {H' : Hp} {v : V} {u : Value}, Inv (cxOf CX0 P w K mg base N qual (defScope st) f cdv A out s H E) [] σ' H' s' → RelV v u → Q v H' → CE out P w H s Q u s' :=
      fun {σ' H' v u} J rv q => ⟨v, H', J.os, J.bare, J.base, J.hok, rv, q⟩
    cases fl with
    | next =>
      obtain ⟨σ', H', J, q⟩ := hs
      exact fin (v := V.non) (u := Value.none) J rfl q
    | ret u =>
      obtain ⟨v, σ', H', J, rv, q⟩ := hs
      exact fin J rv q
    | brk =>
      obtain ⟨_, _, _, q⟩ := hs
      exact q.elim
    | cont =>
      obtain ⟨_, _, _, q⟩ := hs
      exact q.elim
end

section
variable {X : Cx} {k : Nat} {f : Addr} {fd : FuncData} {ps : List Str} {sp : Sp} {x : Str} {p pos : Pos} {e : Expr} {es : List Expr} {t : TA}
theorem goFn {pins : List (Addr × Obj)} {σ : L2.St} {H : Hp} {s : Shared} {Q : VK} {us : List Value} {vs : List V} (F : FnG X.prog X.w X.K X.mg X.base k f fd ps sp) (hr : Room k X.A) (hg : X.A.guards = some []) (hb : Binds X.K fd ps [])
    (I : Inv X pins σ H s) (r : Vals vs us) (h : sp vs H Q E0) : wpAny (model X.prog X.w) X.A (call (.ref f) us) (EP X pins σ Q) X.xe s := by
  have hl : (us ++ []).length = ps.length := by rw [List.append_nil, ← r.length]; exact F.len _ _ _ _ h
  have hb' := hb s us I.kIn hl
  rw [List.append_nil] at hb'
  refine wpAny_call (codeAny_mono (F.go X.A X.stack s H ⟨us, []⟩ us vs Q E0 hr hg I.env0 hb' r h) fun r s' hq => ?_)
  match r, hq with
  | .ok (.ret u), hq => exact I.after hq
  | .error e, hq => exact False.elim hq
  | .ok .next, hq => exact False.elim hq
  | .ok .brk, hq => exact False.elim hq
  | .ok .cont, hq => exact False.elim hq
/-- f(a, ..): the callee's promise -/
def tFn (sp : Sp) (t : TA) : TE := fun σ H Q => t σ H fun vs H1 => sp vs H1 Q E0
theorem pe_fn (F : FnG X.prog X.w X.K X.mg X.base k f fd ps sp) (hr : Room k X.A) (hgd : X.A.guards = some []) (hg : Gl X x) (hm : X.mg x = some (.ref f)) (hk : PySem.W.keepIn X.K (.ref f) = true) (hb : Binds X.K fd ps [])
    (ha : PA X (e :: es) t) (hdb : (x == ("__debug__" : Str)) = false := by decide) (he : starEach (e :: es) X.env = (false, eval e X.env) :: starEach es X.env := by rfl) (hpl : (backTo pos (starEach es X.env)).any (·.1) = false := by rfl) :
    PE X (.Call (.Name x p) (e :: es) [] pos) (tFn sp t) := by
  refine ⟨fun pins s σ H Q I h => wpAny_Call_Name_kw (ld_glob I hg hm ?_ hdb)⟩
  refine PySem.W.callWith_K (h₀ := X.base) I.ok.mod.kin hk (thn (ha.run pos pins s σ H _ I h) fun us s1 ⟨vs, H1, I1, r, q⟩ => ⟨I1.kIn, ?_⟩) he hpl
  exact goFn F hr hgd hb I1 r q
theorem pe_fn0 (F : FnG X.prog X.w X.K X.mg X.base k f fd ps sp) (hr : Room k X.A) (hgd : X.A.guards = some []) (hg : Gl X x) (hm : X.mg x = some (.ref f)) (hk : PySem.W.keepIn X.K (.ref f) = true) (hb : Binds X.K fd ps [])
    (hdb : (x == ("__debug__" : Str)) = false := by decide) : PE X (.Call (.Name x p) [] [] pos) (tFn sp tNil) := by
  refine ⟨fun pins s σ H Q I h => wpAny_Call_Name_kw (ld_glob I hg hm ?_ hdb)⟩
  exact PySem.W.callWith_K0 I.kIn hk (goFn (us := []) F hr hgd hb I .nil h)

/-- repr(x) of data: what stands in the text -/
def rRepr (K : PySem.W.Frag) : List V → Hp → VK → Prop := fun vs H Q => ∃ (x : V) (d : PyData), vs = [x] ∧ Dp K H x d ∧ d.showable = true ∧ d.hasDict = false ∧ d.depth ≤ 40 ∧ d.shown.length ≤ sizeLine ∧ Q (.str d.shown) H
theorem call_repr (hu : X.A.units + 64 < cLine) (hg : X.A.guards = some []) : CallR X (.builtin "repr") (rRepr X.K) := by
  intro pins s σ H vs us Q I r h
  obtain ⟨x, d, rfl, hd, sh, nd, dp, sz, q⟩ := h
  cases r with
  | cons r1 rr =>
    cases rr
    rename_i u
    obtain ⟨as, rd⟩ := Dp.reads I d x u hd r1
    cases hd with
    | non =>
      cases r1
      exact PySem.P.repr_of_none ⟨.str _, H, I.tok _, ⟨_, rfl⟩, q⟩
    | bl b =>
      cases r1
      exact PySem.P.repr_of_bool ⟨.str _, H, I.tok _, ⟨_, rfl⟩, q⟩
    | int i =>
      obtain ⟨t, rfl⟩ := r1
      exact PySem.P.repr_of_int (of_decide_eq_true sh) ⟨.str _, H, I.tok _, ⟨_, rfl⟩, q⟩
    | str z =>
      obtain ⟨t, rfl⟩ := r1
      exact PySem.P.repr_of_str ⟨.str _, H, I.tok _, ⟨_, rfl⟩, q⟩ sz
    | lst h1 h2 =>
      cases r1
      exact repr_of_reads' rd sh (PyData.noDict_hsm nd) hg (by omega) (fun _ _ e => e) (fun h1 u tk hk => ⟨.str _, H, I.kept hk, ⟨u, rfl⟩, q⟩) sz
    | tup h1 h2 =>
      cases r1
      exact repr_of_reads' rd sh (PyData.noDict_hsm nd) hg (by omega) (fun _ _ e => e) (fun h1 u tk hk => ⟨.str _, H, I.kept hk, ⟨u, rfl⟩, q⟩) sz
end
end Cs

set_option maxRecDepth 100000
set_option maxHeartbeats 4000000
namespace Cs
open PySem PySem.Spec PyProof.Rows L2

/-- what is tracked at the law's entry: the script, locked -/
def hpOf (a : Addr) (o : Obj) (xs : List V) : Hp := fun b => if b = a then some (.frz o (.lst xs)) else none
theorem hpOf_some {a b : Addr} {o : Obj} {xs : List V} {u : HO} (h : hpOf a o xs b = some u) : b = a ∧ u = .frz o (.lst xs) := by
  unfold hpOf at h
  by_cases e : b = a
  · rw [if_pos e] at h
    exact ⟨e, (Option.some.inj h).symm⟩
  · rw [if_neg e] at h
    cases h
theorem hpOf_at {a : Addr} {o : Obj} {xs : List V} : hpOf a o xs a = some (.frz o (.lst xs)) := if_pos rfl

section
variable {P : Program} {w : World} {K : PySem.W.Frag} {mg mb : Str → Option Value} {k : Nat} {fa a : Addr} {fd : FuncData} {x : Str} {sp : Sp} {s₁ : Shared} {vs : List Value} {ns : List Int}

/-- one run of the law from an abstract heap H that tracks no more than the script -/
theorem law_from (H : Hp) (inK : K.In s₁.heap) (hns : s₁.heap.Ns mainGlobals mg) (hb : s₁.heap.Ns builtinsNs mb) (hbb : ∀ y : Str, y ≠ "__name__" → mb y = bootBuiltins y) (hlim : s₁.heap.NoLimit) (hg : s₁.gens = #[])
    (ha : s₁.heap.get? a = some { cls := .type "list", data := .seq vs.toArray }) (hr : Room k callerA)
    (F : ∀ base : Heap, K.In base → base.Ns mainGlobals mg → FnG P w K mg base k fa fd [x] sp) (hbind : ∀ (s : Shared) (u : Value), BindsTo s fd ⟨[u], []⟩ [(x, u)])
    (hS : sp [.ref a] H (fun v _ => v = .bl true) E0) (hok : HOk P w H s₁.heap) (one : ∀ b u, H b = some u → b = a ∧ ∃ o xs, u = .frz o (.lst xs)) (off : ∀ u, H a = some u → K.lookup a = none) :
    codeAny (model P w) callerA (.call (.ref fa) ⟨[.ref a], []⟩) (fun r s' => r = .ok (.ret (.bool true)) ∧ OldK s₁.heap s'.heap ∧ s'.os = s₁.os ∧ AllBare s'.gens) s₁ := by
  have none_of : ∀ {b : Addr}, b ≠ a → H b = none := fun {b} n => by
    cases e : H b with
    | none => rfl
    | some u => exact absurd (one b u e).1 n
  have ns_keep : ∀ {b : Addr} {m : Str → Option Value}, s₁.heap.Ns b m → (hidT s₁.heap H).Ns b m := fun {b m} ⟨o, es, ep, e, d, q⟩ => by
    refine ⟨o, es, ep, hidT_get e (none_of fun z => ?_), d, q⟩
    rw [z, ha] at e
    cases e
    cases (show Data.seq vs.toArray _ = Data.dict es ep from d)
  have kb : K.In (hidT s₁.heap H) := fun b o e => by
    refine hidT_get (inK b o e) ?_
    cases q : H b with
    | none => rfl
    | some u =>
      obtain ⟨z, _⟩ := one b u q
      rw [z] at q e
      rw [off u q] at e
      cases e
  obtain ⟨mc, c1, c2⟩ := hlim
  have md : Mod K mg (hidT s₁.heap H) := ⟨kb, ns_keep hns, ⟨mb, ns_keep hb, hbb⟩, ⟨mc, ns_keep c1, c2⟩⟩
  have e0 : Env0 P w K mg (hidT s₁.heap H) callerA [] s₁ H :=
    ⟨rfl, md, fun _ _ e => of_hidT e, Nat.le_of_eq (hidT_size _ _), trivial, (fun b hm => absurd (show b ∈ ([] : List Addr) from hm) List.not_mem_nil), hok, .of_eq hg⟩
  refine codeAny_mono ((F _ kb (ns_keep hns)).go callerA [] s₁ H ⟨[.ref a], []⟩ [.ref a] [.ref a] _ _ hr rfl e0 (hbind s₁ (.ref a)) (.cons rfl .nil) hS) fun r s' h => ?_
  match r, h with
  | .error e, h => exact False.elim h
  | .ok .next, h => exact False.elim h
  | .ok .brk, h => exact False.elim h
  | .ok .cont, h => exact False.elim h
  | .ok (.ret u), ⟨v, H', os, bare, un, hok', rv, q⟩ =>
    cases (show v = V.bl true from q)
    cases (show u = Value.bool true from rv)
    refine ⟨rfl, OldK.of_keep fun b o e => ?_, os, bare⟩
    cases q : H b with
    | none => exact un.keep b o e q (fun z => absurd (show b ∈ ([] : List Addr) from z) List.not_mem_nil) (fun z => absurd (show b ∈ ([] : List Addr) from z) List.not_mem_nil)
    | some u =>
      obtain ⟨_, ob, xs, z⟩ := one b u q
      subst z
      obtain ⟨g1, _⟩ := hok b _ q
      obtain ⟨g2, _⟩ := hok' b _ (un.frzs b ob _ q)
      rw [e] at g1
      cases g1
      exact g2

theorem law_run (inK : K.In s₁.heap) (hns : s₁.heap.Ns mainGlobals mg) (hb : s₁.heap.Ns builtinsNs mb) (hbb : ∀ y : Str, y ≠ "__name__" → mb y = bootBuiltins y) (hlim : s₁.heap.NoLimit) (hg : s₁.gens = #[])
    (ha : s₁.heap.get? a = some { cls := .type "list", data := .seq vs.toArray }) (hi : IntsAre vs ns) (hl : ns.length ≤ sizeLine) (hr : Room k callerA)
    (F : ∀ base : Heap, K.In base → base.Ns mainGlobals mg → FnG P w K mg base k fa fd [x] sp) (hbind : ∀ (s : Shared) (u : Value), BindsTo s fd ⟨[u], []⟩ [(x, u)])
    (hsp : ∀ H : Hp, SqL K H a (ns.map V.int) → sp [.ref a] H (fun v _ => v = .bl true) E0) :
    codeAny (model P w) callerA (.call (.ref fa) ⟨[.ref a], []⟩) (fun r s' => r = .ok (.ret (.bool true)) ∧ OldK s₁.heap s'.heap ∧ s'.os = s₁.os ∧ AllBare s'.gens) s₁ := by
  have rv := vals_ints hi
  have hl2 : (ns.map V.int).length ≤ sizeLine := by rw [List.length_map]; exact hl
  have hl3 : vs.length ≤ sizeLine := by rw [← rv.length]; exact hl2
  cases hk : K.lookup a with
  | none =>
    refine law_from (hpOf a { cls := .type "list", data := .seq vs.toArray } (ns.map V.int)) inK hns hb hbb hlim hg ha hr F hbind (hsp _ (.inl (.inr ⟨_, hpOf_at⟩))) (fun b u e => ?_) (fun b u e => ?_) fun _ _ => hk
    · obtain ⟨rfl, rfl⟩ := hpOf_some e
      exact ⟨ha, hl2, vs, _, rv, ha⟩
    · obtain ⟨z, q⟩ := hpOf_some e
      exact ⟨z, _, _, q⟩
  | some o =>
    have e := inK a o hk
    rw [ha] at e
    cases e
    exact law_from (fun _ => none) inK hns hb hbb hlim hg ha hr F hbind (hsp _ (.inr ⟨_, vs.toArray, _, hk, rfl, rfl, rfl, by rw [List.size_toArray]; exact hl3, by simpa using rv⟩)) (fun _ u e => absurd (show (none : Option HO) = some u from e) (by simp)) (fun _ u e => absurd (show (none : Option HO) = some u from e) (by simp)) fun u e => absurd (show (none : Option HO) = some u from e) (by simp)
end

/-- the law's row from the law's promise -/
theorem walkG {l : PySem.W.OpenLaw} {n k : Nat} {q : Program} {loose : List Str} {XP : (Str → Option Value) → Heap → Prop} {YP : World → Heap → Prop} {d : DefRec} {K : Params → PySem.W.Frag} {sp : PySem.W.Frag → Sp} {x : Str}
    (hn : l.most = some n) (hn2 : n ≤ sizeLine) (hdf : d.params.defaults = []) (hr : Room k callerA)
    (hY : ∀ (w : World) (h : Heap), YP w h → (K w.params).In h)
    (F : ∀ (w : World) (mg : Str → Option Value) (fa : Addr) (h : Heap), (K w.params).In h → h.Ns mainGlobals mg → mg d.name = some (.ref fa) →
      ∃ fd : FuncData, (∀ (s : Shared) (u : Value), BindsTo s fd ⟨[u], []⟩ [(x, u)]) ∧
        ∀ base : Heap, (K w.params).In base → base.Ns mainGlobals mg → FnG l.prog w (K w.params) mg base k fa fd [x] (sp (K w.params)))
    (hsp : ∀ (K : PySem.W.Frag) (H : Hp) (a : Addr) (ns : List Int), ns.length ≤ n → SqL K H a (ns.map V.int) → sp K [.ref a] H (fun v _ => v = .bl true) E0) :
    PySem.W.WalkO q loose XP YP l.row.toRowW d [] (fun f vs => PySem.call f vs) := by
  refine Att.attach_call hn hdf fun w s₀ s₁ mg mb fa o pm cd doc a vs ns G Y ho hd hcd hmg hobj hints hlen hg => ?_
  have inK := hY w _ Y
  obtain ⟨fd, hb, hF⟩ := F w mg fa _ inK G.T.g hmg
  exact law_run inK G.T.g G.T.b G.T.builtins G.T.nolimit hg hobj hints (Nat.le_trans hlen hn2) hr hF hb fun H hS => hsp (K w.params) H a ns hlen hS
end Cs

set_option maxRecDepth 100000
set_option maxHeartbeats 4000000
namespace Cs
open PySem PySem.Spec PyProof.Rows L2

/-! ### a def that stands in the text and keeps a promise -/
def At (K : PySem.W.Frag) (mg : Str → Option Value) (x : Str) (st : Stmt) : Prop := ∃ (f : Addr) (fd : FuncData), mg x = some (.ref f) ∧ Fun K x x st f fd
def Df (P : Program) (w : World) (K : PySem.W.Frag) (mg : Str → Option Value) (base : Heap) (k : Nat) (x : Str) (ps : List Str) (sp : Sp) : Prop :=
  ∃ (f : Addr) (fd : FuncData), mg x = some (.ref f) ∧ PySem.W.keepIn K (.ref f) = true ∧ Binds K fd ps [] ∧ FnG P w K mg base k f fd ps sp
section
variable {P : Program} {w : World} {K : PySem.W.Frag} {mg : Str → Option Value} {base : Heap}
theorem Df.of {x : Str} {st : Stmt} {N ps : List Str} {k : Nat} {sp : Sp} (A : At K mg x st)
    (bd : ∀ (kV doc pm : Value) (an : Option Addr) (cdv ct : Value) (us : List Value), us.length = ps.length → bindArgs (PySem.W.fnOf x x (defArgs st) (defBody st) (defScope st) .none kV doc pm an cdv ct) ⟨us, []⟩ = pure (ps.zip us))
    (S : FnScope N ps (defScope st)) (len : ∀ vs H Q E, sp vs H Q E → vs.length = ps.length)
    (body : ∀ (cdv : Value) (A : Around) (out : List Env) (f : Addr) (s : Shared) (H : Hp) (vs : List V) (Q : VK) (E : XK), Room k (A.deeper (envOfC x (defScope st) s.heap.objs.size f cdv)) → A.guards = some [] → sp vs H Q E →
      ∃ t, PSs (cxG P w K mg base N x (defScope st) f cdv A out s H E) (defBody st) t ∧ t { nx := fun _ H' => Q .non H', rt := Q } (start N vs) H) :
    Df P w K mg base (k + 1) x ps sp := by
  obtain ⟨f, fd, m, F⟩ := A
  exact ⟨f, fd, m, F.kp, F.binds bd, FnG.of F S len fun cdv A out s H vs Q E hr hg h => body cdv A out f s H vs Q E hr hg h⟩
end
section
variable {X : Cx} {k : Nat} {ps : List Str} {sp : Sp} {x : Str} {p pos : Pos} {e : Expr} {es : List Expr} {t : TA}
theorem pe_df (D : Df X.prog X.w X.K X.mg X.base k x ps sp) (hr : Room k X.A) (hgd : X.A.guards = some []) (hg : Gl X x)
    (ha : PA X (e :: es) t) (hdb : (x == ("__debug__" : Str)) = false := by decide) (he : starEach (e :: es) X.env = (false, eval e X.env) :: starEach es X.env := by rfl) (hpl : (backTo pos (starEach es X.env)).any (·.1) = false := by rfl) :
    PE X (.Call (.Name x p) (e :: es) [] pos) (tFn sp t) := by
  obtain ⟨f, fd, m, kp, b, G⟩ := D
  exact pe_fn G hr hgd hg m kp b ha hdb he hpl
theorem pe_df0 (D : Df X.prog X.w X.K X.mg X.base k x ps sp) (hr : Room k X.A) (hgd : X.A.guards = some []) (hg : Gl X x) (hdb : (x == ("__debug__" : Str)) = false := by decide) :
    PE X (.Call (.Name x p) [] [] pos) (tFn sp tNil) := by
  obtain ⟨f, fd, m, kp, b, G⟩ := D
  exact pe_fn0 G hr hgd hg m kp b hdb
end

/-! ### heaps -/
/-- all but t is as it was -/
def Al (t : Addr) (H H' : Hp) : Prop := ∀ b, b ≠ t → H' b = H b
/-- all that was tracked, but t, is as it was -/
def Gr (t : Addr) (H H' : Hp) : Prop := ∀ b o, H b = some o → b ≠ t → H' b = some o
theorem Al.gr {t : Addr} {H H' : Hp} (a : Al t H H') : Gr t H H' := fun b o e n => by rw [a b n]; exact e
theorem Al.upd {t : Addr} {H : Hp} {o : HO} : Al t H (upd H t o) := fun b n => upd_ne n
theorem Al.trans {t : Addr} {H H1 H2 : Hp} (a : Al t H H1) (b : Al t H1 H2) : Al t H H2 := fun c n => (b c n).trans (a c n)
theorem Al.free {t b : Addr} {H H' : Hp} (a : Al t H H') (n : b ≠ t) (h : H' b = none) : H b = none := by rw [← a b n]; exact h
theorem Gr.refl (t : Addr) (H : Hp) : Gr t H H := fun _ _ e _ => e
theorem Gr.trans {t : Addr} {H H1 H2 : Hp} (a : Gr t H H1) (b : Gr t H1 H2) : Gr t H H2 := fun c o e n => b c o (a c o e n) n
theorem Gr.of {t : Addr} {H H' : Hp} (a : Same H H') : Gr t H H' := fun b o e _ => a b o e
theorem Gr.free {t b : Addr} {H H' : Hp} (a : Gr t H H') (n : b ≠ t) (h : H' b = none) : H b = none := by
  cases e : H b with
  | none => rfl
  | some o =>
    rw [a b o e n] at h
    cases h
theorem Same.new {p : Addr} {H : Hp} {o : HO} (h : H p = none) : Same H (upd H p o) := fun b u e => by rw [upd_ne (ne_of_none e h)]; exact e
theorem Gr.new {t p : Addr} {H : Hp} {o : HO} (h : H p = none) : Gr t H (upd H p o) := Gr.of (Same.new h)

/-- things that never change are as they were -/
structure Im (H H' : Hp) : Prop where
  tup : ∀ b xs, H b = some (.tup xs) → H' b = some (.tup xs)
  frz : ∀ b o u, H b = some (.frz o u) → H' b = some (.frz o u)
theorem Im.refl (H : Hp) : Im H H := ⟨fun _ _ e => e, fun _ _ _ e => e⟩
theorem Im.trans {H H1 H2 : Hp} (a : Im H H1) (b : Im H1 H2) : Im H H2 := ⟨fun c xs e => b.tup c xs (a.tup c xs e), fun c o u e => b.frz c o u (a.frz c o u e)⟩
theorem Im.same {H H' : Hp} (a : Same H H') : Im H H' := ⟨fun b _ e => a b _ e, fun b _ _ e => a b _ e⟩
theorem Im.new {p : Addr} {H : Hp} {o : HO} (h : H p = none) : Im H (upd H p o) := Im.same (Same.new h)
theorem Im.gr {t : Addr} {H H' : Hp} {xs : List V} (a : Gr t H H') (h : H t = some (.lst xs)) : Im H H' :=
  ⟨fun b ys e => a b _ e fun z => (by subst z; rw [h] at e; cases e), fun b o u e => a b _ e fun z => (by subst z; rw [h] at e; cases e)⟩
theorem Im.set {t : Addr} {H : Hp} {xs : List V} {o : HO} (h : H t = some (.lst xs)) : Im H (upd H t o) := Im.gr (Al.upd.gr) h
theorem Im.sqT {K : PySem.W.Frag} {H H' : Hp} {a : Addr} {xs : List V} (e : Im H H') (h : SqT K H a xs) : SqT K H' a xs := by
  rcases h with (h | ⟨o, h⟩) | h
  · exact .inl (.inl (e.tup _ _ h))
  · exact .inl (.inr ⟨o, e.frz _ _ _ h⟩)
  · exact .inr h

/-! ### the tape -/
structure TapeAt (H : Hp) (t l : Addr) : Prop where
  ex : ∃ (ns : List Int) (p r s : Int), H t = some (.lst [.ref l, .int p, .int r, .int s]) ∧ H l = some (.lst (ns.map V.int)) ∧ 0 ≤ p ∧ 0 ≤ r ∧ 0 ≤ s
  ne : l ≠ t
theorem TapeAt.list {H : Hp} {t l : Addr} (T : TapeAt H t l) : ∃ xs, H t = some (.lst xs) := let ⟨_, _, _, _, h, _⟩ := T.ex; ⟨_, h⟩
theorem TapeAt.list' {H : Hp} {t l : Addr} (T : TapeAt H t l) : ∃ xs, H l = some (.lst xs) := let ⟨_, _, _, _, _, h, _⟩ := T.ex; ⟨_, h⟩
theorem TapeAt.same {H H' : Hp} {t l : Addr} (T : TapeAt H t l) (e : Same H H') : TapeAt H' t l := let ⟨ns, p, r, s, h1, h2, q⟩ := T.ex; ⟨⟨ns, p, r, s, e _ _ h1, e _ _ h2, q⟩, T.ne⟩
theorem TapeAt.new {H : Hp} {t l b : Addr} {o : HO} (T : TapeAt H t l) (h : H b = none) : TapeAt (upd H b o) t l := T.same (Same.new h)
theorem TapeAt.upd {H : Hp} {t l b : Addr} {o : HO} (T : TapeAt H t l) (n1 : b ≠ t) (n2 : b ≠ l) : TapeAt (upd H b o) t l :=
  let ⟨ns, p, r, s, h1, h2, q⟩ := T.ex; ⟨⟨ns, p, r, s, by rw [upd_ne n1.symm]; exact h1, by rw [upd_ne n2.symm]; exact h2, q⟩, T.ne⟩
theorem TapeAt.ne_t {H : Hp} {t l b : Addr} (T : TapeAt H t l) (h : H b = none) : b ≠ t := let ⟨_, e⟩ := T.list; (ne_of_none e h).symm
theorem TapeAt.ne_l {H : Hp} {t l b : Addr} (T : TapeAt H t l) (h : H b = none) : b ≠ l := let ⟨_, e⟩ := T.list'; (ne_of_none e h).symm
theorem TapeAt.im {H H' : Hp} {t l : Addr} (T : TapeAt H t l) (g : Gr t H H') : Im H H' := let ⟨_, e⟩ := T.list; Im.gr g e

/-- the law's own two: a tape is made; a number is drawn -/
def sp_law_tape (K : PySem.W.Frag) : Sp := fun vs H Q _ => ∃ (a : Addr) (ns : List Int), vs = [.ref a] ∧ SqL K H a (ns.map V.int) ∧ ns.length ≤ 63 ∧ ∀ t l H', Same H H' → TapeAt H' t l → H t = none → H l = none → Q (.ref t) H'
def sp_law_draw (K : PySem.W.Frag) : Sp := fun vs H Q _ => ∃ (t l : Addr) (m : Int), vs = [.ref t, .int m] ∧ TapeAt H t l ∧ m ≤ 1000000000 ∧ ∀ v H', TapeAt H' t l → Al t H H' → 0 ≤ v → v < max m 1 → Q (.int v) H'
end Cs

set_option maxRecDepth 100000
set_option maxHeartbeats 4000000
namespace Cs
open PySem PySem.Spec PyProof.Rows L2
/-! ### tests -/
section
variable {A B c : Prop}
theorem if_dec [Decidable c] (h1 : c → A) (h2 : ¬ c → B) : if decide c = true then A else B := by
  by_cases h : c
  · rw [decide_eq_true h, if_pos rfl]; exact h1 h
  · rw [decide_eq_false h, if_neg Bool.false_ne_true]; exact h2 h
theorem if_ndec [Decidable c] (h1 : ¬ c → A) (h2 : c → B) : if (!decide c) = true then A else B := by
  by_cases h : c
  · rw [decide_eq_true h]; exact h2 h
  · rw [decide_eq_false h]; exact h1 h
theorem if_int {i j : Int} (h1 : i = j → A) (h2 : ¬ i = j → B) : if decide (V.int i = V.int j) = true then A else B :=
  if_dec (fun h => h1 (V.int.inj h)) fun h => h2 fun e => h (by rw [e])
theorem if_nint {i j : Int} (h1 : ¬ i = j → A) (h2 : i = j → B) : if (!decide (V.int i = V.int j)) = true then A else B :=
  if_ndec (fun h => h1 fun e => h (by rw [e])) fun h => h2 (V.int.inj h)
theorem if_str {i j : Str} (h1 : i = j → A) (h2 : ¬ i = j → B) : if decide (V.str i = V.str j) = true then A else B :=
  if_dec (fun h => h1 (V.str.inj h)) fun h => h2 fun e => h (by rw [e])
theorem if_nstr {i j : Str} (h1 : ¬ i = j → A) (h2 : i = j → B) : if (!decide (V.str i = V.str j)) = true then A else B :=
  if_ndec (fun h => h1 fun e => h (by rw [e])) fun h => h2 (V.str.inj h)
theorem if_bool {b : Bool} (h1 : b = true → A) (h2 : b = false → B) : if b = true then A else B := by
  cases b with
  | true => exact h1 rfl
  | false => exact h2 rfl
theorem if_nbool {b : Bool} (h1 : b = false → A) (h2 : b = true → B) : if (!b) = true then A else B := by
  cases b with
  | true => exact h2 rfl
  | false => exact h1 rfl
end
theorem int_at {ns : List Int} {i : Nat} {y : V} (h : (ns.map V.int)[i]? = some y) : ∃ n, y = V.int n := by
  rw [List.getElem?_map] at h
  cases e : ns[i]? with
  | none => rw [e] at h; cases h
  | some z => rw [e] at h; exact ⟨z, (Option.some.inj h).symm⟩
theorem at_int {ns : List Int} {i : Int} (h0 : 0 ≤ i) (h : i < ns.length) : ∃ n, atI (ns.map V.int) i = some (V.int n) := by
  obtain ⟨j, rfl⟩ : ∃ j : Nat, i = (j : Int) := ⟨i.toNat, by omega⟩
  have hj : j < ns.length := by omega
  exact ⟨ns[j], atI_nat (by rw [List.getElem?_map, List.getElem?_eq_getElem hj]; rfl)⟩
theorem max_one (m : Int) : (if (1 : Int) > m then (1 : Int) else m) = max m 1 := by
  by_cases h : (1 : Int) > m
  · rw [if_pos h]; omega
  · rw [if_neg h]; omega
end Cs
namespace Cs
open PySem PySem.Spec PyProof.Rows L2
theorem set3 {α : Type} (σ : List α) (s : Nat) (a b c : α) : (((σ.set s a).set s b).set s c) = σ.set s c := by
  rw [List.set_set, List.set_set]
theorem get_snoc {ys : List V} {v u : V} {j : Nat} (e : (ys ++ [v])[j]? = some u) : (j < ys.length ∧ ys[j]? = some u) ∨ (j = ys.length ∧ u = v) := by
  by_cases h : j < ys.length
  · rw [List.getElem?_append_left h] at e
    exact .inl ⟨h, e⟩
  · rw [List.getElem?_append_right (by omega)] at e
    have q : j - ys.length = 0 := by
      by_cases z : j - ys.length = 0
      · exact z
      · rw [List.getElem?_eq_none (by show 1 ≤ _; omega)] at e
        cases e
    rw [q] at e
    exact .inr ⟨by omega, (Option.some.inj e).symm⟩
section
variable {K : PySem.W.Frag} {a : Addr} {xs : List V} {te : TE} {s : Nat} {σ : L2.St} {H1 : Hp} {D : Addr} {Qd : Hp → Prop}
/-- what holds of a comprehension's list under way: its items so far are as P says -/
def CompSo (P : Nat → V → Hp → Prop) (H1 : Hp) (D : Addr) (i : Nat) (H : Hp) : Prop := Same H1 H ∧ ∃ ys, H D = some (.lst ys) ∧ ys.length = i ∧ ∀ j v, ys[j]? = some v → P j v H
theorem comp_turn {P : Nat → V → Hp → Prop} {i n : Nat} {x : V} {H : Hp} (mono : ∀ i v H H', P i v H → Im H H' → P i v H') (hz : n ≤ sizeLine) (fresh : H1 D = none) (hi : i < n) (so : CompSo P H1 D i H)
    (elt : ∀ H, Same H1 H → ∀ Q' : VK, (∀ v H', Same H H' → P i v H' → Q' v H') → te ((σ.set s none).set s (some x)) H Q') :
    gName s x (wipe σ [s]) H fun σ2 H2 => wipe σ2 [s] = wipe σ [s] ∧ tYes σ2 H2 fun b H3 =>
      if b = true then te σ2 H3 fun y H4 => ∃ acc, H4 D = some (.lst acc) ∧ acc.length < sizeLine ∧ CompSo P H1 D (i + 1) (upd H4 D (.lst (acc ++ [y]))) else CompSo P H1 D (i + 1) H3 := by
  obtain ⟨sm, ys, hD, hlen, hP⟩ := so
  refine ⟨set3 σ s none (some x) none, ?_⟩
  unfold tYes
  dsimp only
  rw [if_pos rfl]
  refine elt H sm _ fun v H' sm' pv => ?_
  have hD' := sm' _ _ hD
  have im2 : Im H' (upd H' D (.lst (ys ++ [v]))) := Im.set hD'
  refine ⟨ys, hD', by omega, fun b o e => by rw [upd_ne (ne_of_none e fresh)]; exact sm' _ _ (sm _ _ e), ys ++ [v], upd_same, by rw [List.length_append, hlen]; rfl, fun j u e => ?_⟩
  rcases get_snoc e with ⟨_, e⟩ | ⟨rfl, rfl⟩
  · exact mono _ _ _ _ (hP j u e) ((Im.same sm').trans im2)
  · rw [hlen]
    exact mono _ _ _ _ pv im2
theorem comp_start {P : Nat → V → Hp → Prop} (fresh : H1 D = none) : CompSo P H1 D 0 (upd H1 D (.lst [])) := ⟨Same.new fresh, [], upd_same, rfl, fun j v e => by simp at e⟩
/-- a comprehension over a list, no test: each element of the new list is what P says; nothing that was tracked changes -/
theorem comp_list (P : Nat → V → Hp → Prop) (mono : ∀ i v H H', P i v H → Im H H' → P i v H') (hl : SqL K H1 a xs) (hz : xs.length ≤ sizeLine) (fresh : H1 D = none)
    (elt : ∀ i x, xs[i]? = some x → ∀ H, Same H1 H → ∀ Q' : VK, (∀ v H', Same H H' → P i v H' → Q' v H') → te ((σ.set s none).set s (some x)) H Q')
    (hd : ∀ H ys, Same H1 H → H D = some (.lst ys) → ys.length = xs.length → (∀ i v, ys[i]? = some v → P i v H) → Qd H) :
    ∃ W : Nat → Nat → Hp → Prop, (∃ m, W 0 m (upd H1 D (.lst []))) ∧ ∀ i m H, W i m H →
      ((Itl K a).stop i H ∧ Qd H) ∨ ((Itl K a).go i H ∧ ∃ Nx : Hp → Prop, (∀ H', Nx H' → ∃ m', m' < m ∧ W (i + 1) m' H') ∧ ∀ x H', (Itl K a).yld i H x H' → gName s x (wipe σ [s]) H' fun σ2 H2 => wipe σ2 [s] = wipe σ [s] ∧ tYes σ2 H2 fun b H3 =>
        if b = true then te σ2 H3 fun y H4 => ∃ acc, H4 D = some (.lst acc) ∧ acc.length < sizeLine ∧ Nx (upd H4 D (.lst (acc ++ [y]))) else Nx H3) :=
  lc_list (K := K) (a := a) (xs := xs) (CompSo P H1 D) (comp_start fresh) (fun i H _ h => h.1.seq hl)
    (fun i x H hx so => comp_turn mono hz fresh (List.getElem?_eq_some_iff.mp hx).1 so (elt i x hx)) fun H ⟨sm, ys, hD, hlen, hP⟩ => hd H ys sm hD hlen hP
theorem comp_tup (P : Nat → V → Hp → Prop) (mono : ∀ i v H H', P i v H → Im H H' → P i v H') (hl : SqT K H1 a xs) (hz : xs.length ≤ sizeLine) (fresh : H1 D = none)
    (elt : ∀ i x, xs[i]? = some x → ∀ H, Same H1 H → ∀ Q' : VK, (∀ v H', Same H H' → P i v H' → Q' v H') → te ((σ.set s none).set s (some x)) H Q')
    (hd : ∀ H ys, Same H1 H → H D = some (.lst ys) → ys.length = xs.length → (∀ i v, ys[i]? = some v → P i v H) → Qd H) :
    ∃ W : Nat → Nat → Hp → Prop, (∃ m, W 0 m (upd H1 D (.lst []))) ∧ ∀ i m H, W i m H →
      ((Itt K a).stop i H ∧ Qd H) ∨ ((Itt K a).go i H ∧ ∃ Nx : Hp → Prop, (∀ H', Nx H' → ∃ m', m' < m ∧ W (i + 1) m' H') ∧ ∀ x H', (Itt K a).yld i H x H' → gName s x (wipe σ [s]) H' fun σ2 H2 => wipe σ2 [s] = wipe σ [s] ∧ tYes σ2 H2 fun b H3 =>
        if b = true then te σ2 H3 fun y H4 => ∃ acc, H4 D = some (.lst acc) ∧ acc.length < sizeLine ∧ Nx (upd H4 D (.lst (acc ++ [y]))) else Nx H3) :=
  lc_tup (K := K) (a := a) (xs := xs) (CompSo P H1 D) (comp_start fresh) (fun i H _ h => (Im.same h.1).sqT hl)
    (fun i x H hx so => comp_turn mono hz fresh (List.getElem?_eq_some_iff.mp hx).1 so (elt i x hx)) fun H ⟨sm, ys, hD, hlen, hP⟩ => hd H ys sm hD hlen hP
end
end Cs

namespace Cs
open PySem PySem.Spec PyProof.Rows L2
theorem eq_map {α : Type} {ys : List V} {rs : List α} {f : α → V} (h1 : ys.length = rs.length) (h2 : ∀ (i : Nat) v, ys[i]? = some v → ∃ r, rs[i]? = some r ∧ v = f r) : ys = rs.map f := by
  refine List.ext_getElem? fun i => ?_
  rw [List.getElem?_map]
  cases e : ys[i]? with
  | none =>
    have : rs[i]? = none := List.getElem?_eq_none_iff.mpr (by have := List.getElem?_eq_none_iff.mp e; omega)
    rw [this]; rfl
  | some v =>
    obtain ⟨r, hr, rfl⟩ := h2 i v e
    rw [hr]; rfl
theorem get_len {α β : Type} {xs : List α} {rs : List β} (h : xs.length = rs.length) {i : Nat} {x : α} (e : xs[i]? = some x) : ∃ r, rs[i]? = some r := by
  have hi := (List.getElem?_eq_some_iff.mp e).1
  exact ⟨rs[i]'(by omega), List.getElem?_eq_getElem (by omega)⟩
section
variable {K : PySem.W.Frag} {a : Addr} {xs : List V} {te : TE} {s : Nat} {σ : L2.St} {H1 : Hp} {D : Addr} {Qd : Hp → Prop} {α : Type}
/-- .. where each element is a value that hangs on the datum alone -/
theorem map_list (rs : List α) (f : α → V) (hl : SqL K H1 a xs) (hz : xs.length ≤ sizeLine) (hlen : xs.length = rs.length) (fresh : H1 D = none)
    (elt : ∀ (i : Nat) x r, xs[i]? = some x → rs[i]? = some r → ∀ H, Same H1 H → ∀ Q' : VK, (∀ H', Same H H' → Q' (f r) H') → te ((σ.set s none).set s (some x)) H Q')
    (hd : ∀ H, Same H1 H → H D = some (.lst (rs.map f)) → Qd H) :
    ∃ W : Nat → Nat → Hp → Prop, (∃ m, W 0 m (upd H1 D (.lst []))) ∧ ∀ i m H, W i m H →
      ((Itl K a).stop i H ∧ Qd H) ∨ ((Itl K a).go i H ∧ ∃ Nx : Hp → Prop, (∀ H', Nx H' → ∃ m', m' < m ∧ W (i + 1) m' H') ∧ ∀ x H', (Itl K a).yld i H x H' → gName s x (wipe σ [s]) H' fun σ2 H2 => wipe σ2 [s] = wipe σ [s] ∧ tYes σ2 H2 fun b H3 =>
        if b = true then te σ2 H3 fun y H4 => ∃ acc, H4 D = some (.lst acc) ∧ acc.length < sizeLine ∧ Nx (upd H4 D (.lst (acc ++ [y]))) else Nx H3) :=
  comp_list (K := K) (a := a) (fun i v _ => ∃ r, rs[i]? = some r ∧ v = f r) (fun _ _ _ _ h _ => h) hl hz fresh
    (fun i x hx H sm Q' hQ => by
      obtain ⟨r, hr⟩ := get_len hlen hx
      exact elt i x r hx hr H sm Q' fun H' sm' => hQ _ H' sm' ⟨r, hr, rfl⟩)
    fun H ys sm hD hl2 hP => hd H sm (by rw [← eq_map (hl2.trans hlen) hP]; exact hD)
theorem map_tup (rs : List α) (f : α → V) (hl : SqT K H1 a xs) (hz : xs.length ≤ sizeLine) (hlen : xs.length = rs.length) (fresh : H1 D = none)
    (elt : ∀ (i : Nat) x r, xs[i]? = some x → rs[i]? = some r → ∀ H, Same H1 H → ∀ Q' : VK, (∀ H', Same H H' → Q' (f r) H') → te ((σ.set s none).set s (some x)) H Q')
    (hd : ∀ H, Same H1 H → H D = some (.lst (rs.map f)) → Qd H) :
    ∃ W : Nat → Nat → Hp → Prop, (∃ m, W 0 m (upd H1 D (.lst []))) ∧ ∀ i m H, W i m H →
      ((Itt K a).stop i H ∧ Qd H) ∨ ((Itt K a).go i H ∧ ∃ Nx : Hp → Prop, (∀ H', Nx H' → ∃ m', m' < m ∧ W (i + 1) m' H') ∧ ∀ x H', (Itt K a).yld i H x H' → gName s x (wipe σ [s]) H' fun σ2 H2 => wipe σ2 [s] = wipe σ [s] ∧ tYes σ2 H2 fun b H3 =>
        if b = true then te σ2 H3 fun y H4 => ∃ acc, H4 D = some (.lst acc) ∧ acc.length < sizeLine ∧ Nx (upd H4 D (.lst (acc ++ [y]))) else Nx H3) :=
  comp_tup (K := K) (a := a) (fun i v _ => ∃ r, rs[i]? = some r ∧ v = f r) (fun _ _ _ _ h _ => h) hl hz fresh
    (fun i x hx H sm Q' hQ => by
      obtain ⟨r, hr⟩ := get_len hlen hx
      exact elt i x r hx hr H sm Q' fun H' sm' => hQ _ H' sm' ⟨r, hr, rfl⟩)
    fun H ys sm hD hl2 hP => hd H sm (by rw [← eq_map (hl2.trans hlen) hP]; exact hD)
end
/-! ### rectangles -/
structure R where
  l : Int
  t : Int
  w : Int
  h : Int
  deriving DecidableEq
def R.vs (r : R) : List V := [.int r.l, .int r.t, .int r.w, .int r.h]
def R.es (r : R) : List V := [.int r.l, .int r.t, .int (r.l + r.w), .int (r.t + r.h)]
/-- v is the rectangle r -/
def Rc (K : PySem.W.Frag) (H : Hp) (v : V) (r : R) : Prop := ∃ a, v = .ref a ∧ SqT K H a r.vs
theorem Rc.im {K : PySem.W.Frag} {H H' : Hp} {v : V} {r : R} (h : Rc K H v r) (e : Im H H') : Rc K H' v r := let ⟨a, h1, h2⟩ := h; ⟨a, h1, e.sqT h2⟩
theorem Rc.same {K : PySem.W.Frag} {H H' : Hp} {v : V} {r : R} (h : Rc K H v r) (e : Same H H') : Rc K H' v r := h.im (Im.same e)
/-- xs are the rectangles rs -/
structure Rcs (K : PySem.W.Frag) (H : Hp) (xs : List V) (rs : List R) : Prop where
  len : xs.length = rs.length
  at_ : ∀ (i : Nat) (x : V) (r : R), xs[i]? = some x → rs[i]? = some r → Rc K H x r
theorem Rcs.im {K : PySem.W.Frag} {H H' : Hp} {xs : List V} {rs : List R} (h : Rcs K H xs rs) (e : Im H H') : Rcs K H' xs rs := ⟨h.len, fun i x r h1 h2 => (h.at_ i x r h1 h2).im e⟩
theorem Rcs.nil {K : PySem.W.Frag} {H : Hp} : Rcs K H [] [] := ⟨rfl, fun i x r h => by simp at h⟩
theorem Rcs.snoc {K : PySem.W.Frag} {H : Hp} {xs : List V} {rs : List R} {x : V} {r : R} (h : Rcs K H xs rs) (q : Rc K H x r) : Rcs K H (xs ++ [x]) (rs ++ [r]) := by
  refine ⟨by rw [List.length_append, List.length_append, h.len]; rfl, fun i y s h1 h2 => ?_⟩
  rcases get_snoc h1 with ⟨hi, h1⟩ | ⟨rfl, rfl⟩
  · rw [List.getElem?_append_left (by rw [← h.len]; exact hi)] at h2
    exact h.at_ i y s h1 h2
  · rw [h.len, List.getElem?_append_right (Nat.le_refl _), Nat.sub_self] at h2
    cases (Option.some.inj h2)
    exact q
theorem Rcs.take {K : PySem.W.Frag} {H : Hp} {xs : List V} {rs : List R} (h : Rcs K H xs rs) (n : Nat) : Rcs K H (xs.take n) (rs.take n) := by
  refine ⟨by rw [List.length_take, List.length_take, h.len], fun i y s h1 h2 => ?_⟩
  rw [List.getElem?_take] at h1 h2
  split at h1
  · rw [if_pos (by assumption)] at h2
    exact h.at_ i y s h1 h2
  · cases h1
theorem Rcs.drop {K : PySem.W.Frag} {H : Hp} {xs : List V} {rs : List R} (h : Rcs K H xs rs) (n : Nat) : Rcs K H (xs.drop n) (rs.drop n) := by
  refine ⟨by rw [List.length_drop, List.length_drop, h.len], fun i y s h1 h2 => ?_⟩
  rw [List.getElem?_drop] at h1 h2
  exact h.at_ _ y s h1 h2
theorem Rcs.reverse {K : PySem.W.Frag} {H : Hp} {xs : List V} {rs : List R} (h : Rcs K H xs rs) : Rcs K H xs.reverse rs.reverse := by
  refine ⟨by rw [List.length_reverse, List.length_reverse, h.len], fun i y s h1 h2 => ?_⟩
  have hi : i < xs.length := by have := (List.getElem?_eq_some_iff.mp h1).1; rw [List.length_reverse] at this; exact this
  rw [List.getElem?_reverse hi] at h1
  rw [List.getElem?_reverse (by rw [← h.len]; exact hi), ← h.len] at h2
  exact h.at_ _ y s h1 h2
end Cs

set_option maxRecDepth 100000
set_option maxHeartbeats 4000000
/-! rules with the written part named, so that they stand within comprehensions too -/
namespace Cs
open PySem PySem.Spec PyProof.Rows L2
section
variable {X : Cx} {a b e : Expr} {ta tb te : TE} {pos : Pos}
theorem ixL (K : PySem.W.Frag) (h : X.K = K := by rfl) : IxR X (rIxL K) := h ▸ ix_list
theorem ixT (K : PySem.W.Frag) (h : X.K = K := by rfl) : IxR X (rIxT K) := h ▸ ix_tup
theorem slL (K : PySem.W.Frag) (h : X.K = K := by rfl) : SlR X (rSlL K) := h ▸ sl_list
theorem slT (K : PySem.W.Frag) (h : X.K = K := by rfl) : SlR X (rSlA K) := h ▸ sl_tupA
theorem eqK (K : PySem.W.Frag) (hu : X.A.units + 64 < cLine) (h : X.K = K := by rfl) : OpR X (compareOp .Eq) (rEqD K) := h ▸ op_eqD hu
theorem neK (K : PySem.W.Frag) (hu : X.A.units + 64 < cLine) (h : X.K = K := by rfl) : OpR X (compareOp .NotEq) (rNeD K) := h ▸ op_neD hu
theorem catT (K : PySem.W.Frag) (h : X.K = K := by rfl) : OpR X (binaryOp .Add) (rCatA K) := h ▸ op_catA
def rLen (K : PySem.W.Frag) : List V → Hp → VK → Prop := fun xs H Q => ∃ x n, xs = [x] ∧ LenV K x H n ∧ Q (.int n) H
theorem lenK (K : PySem.W.Frag) (h : X.K = K := by rfl) : CallR X (.builtin "len") (rLen K) := h ▸ call_len
def rListOf (K : PySem.W.Frag) : List V → Hp → VK → Prop := fun xs H Q => ∃ p ys, xs = [.ref p] ∧ (SqL K H p ys ∨ SqT K H p ys) ∧ ∀ l, H l = none → Q (.ref l) (upd H l (.lst ys))
theorem listK (K : PySem.W.Frag) (h : X.K = K := by rfl) : CallR X (.type "list") (rListOf K) := h ▸ call_list_of
def rTupOf (K : PySem.W.Frag) : List V → Hp → VK → Prop := fun xs H Q => ∃ p ys, xs = [.ref p] ∧ ((SqL K H p ys ∧ ∀ l, H l = none → Q (.ref l) (upd H l (.tup ys))) ∨ (SqT K H p ys ∧ Q (.ref p) H))
theorem tupK (K : PySem.W.Frag) (h : X.K = K := by rfl) : CallR X (.type "tuple") (rTupOf K) := h ▸ call_tuple_of
theorem reprK (K : PySem.W.Frag) (hu : X.A.units + 64 < cLine) (hg : X.A.guards = some []) (h : X.K = K := by rfl) : CallR X (.builtin "repr") (rRepr K) := h ▸ call_repr hu hg
theorem minK (K : PySem.W.Frag) (hc : X.calm = true) (h : X.K = K := by rfl) : CallR X (.builtin "min") (rMin K) := h ▸ cr_min hc
theorem maxK (K : PySem.W.Frag) (hc : X.calm = true) (h : X.K = K := by rfl) : CallR X (.builtin "max") (rMax K) := h ▸ cr_max hc
theorem sumK (K : PySem.W.Frag) (hc : X.calm = true) (h : X.K = K := by rfl) : CallR X (.builtin "sum") (rSum K) := h ▸ cr_sum hc
/-- a test by truth -/
def tTru (K : PySem.W.Frag) (ta : TE) : TT := fun σ H Q => ta σ H fun x H' => ∃ k, TruV K x H' k ∧ Q k H'
theorem truK (K : PySem.W.Frag) (ha : PE X a ta) (he : ∀ whole, isTrue a X.env whole = (do let v ← whole; standAt a.pos; holding [v] (truthy v)) := by intro _; rfl) (h : X.K = K := by rfl) : PT X a (tTru K ta) := h ▸ pt_truth ha he
end
theorem atI_mem {α : Type} {xs : List α} {v : Int} (h0 : 0 ≤ v) (h1 : v < xs.length) : ∃ z, atI xs v = some z ∧ xs[v.toNat]? = some z ∧ z ∈ xs := by
  obtain ⟨j, rfl⟩ : ∃ j : Nat, v = (j : Int) := ⟨v.toNat, by omega⟩
  have hj : j < xs.length := by omega
  have e : xs[j]? = some xs[j] := List.getElem?_eq_getElem hj
  exact ⟨xs[j], atI_nat e, by rw [Int.toNat_natCast]; exact e, List.getElem_mem hj⟩
/-! the slots as a written list -/
theorem gset {i : Nat} {v : V} {σ σ' : L2.St} {H : Hp} {Q : L2.St → Hp → Prop} (e : σ.set i (some v) = σ') (h : Q σ' H) : gName i v σ H Q := by
  subst e
  exact h
theorem set_0 {α : Type} {a b : α} {l : List α} : (a :: l).set 0 b = b :: l := rfl
theorem set_s {α : Type} {a b : α} {l l' : List α} {n : Nat} (h : l.set n b = l') : (a :: l).set (n + 1) b = a :: l' := by
  subst h
  rfl
def tPar2 (i j : Nat) (ta : TA) : TS := fun D σ H => ta σ H fun vs H1 => ∃ v w, vs = [v, w] ∧ gName i v σ H1 fun σ' H' => gName j w σ' H' D.nx
theorem par2 {X : Cx} {i j : Nat} {st : Stmt} {ta : TA} (h : PS X st (tPar i j ta)) : PS X st (tPar2 i j ta) := h
theorem at_start {N : List Str} {vs : List V} {σ : L2.St} {t : TS} {D : Ends} {H : Hp} (e : L2.start N vs = σ) (h : t D σ H) : t D (L2.start N vs) H := by
  subst e
  exact h
theorem rep_0 {α : Type} {a : α} : List.replicate 0 a = [] := rfl
theorem rep_s {α : Type} {a : α} {k : Nat} {l : List α} (h : List.replicate k a = l) : List.replicate (k + 1) a = a :: l := by
  subst h
  rfl
theorem app_nil {α : Type} {r l : List (Option α)} (h : r = l) : ([] : List α).map some ++ r = l := h
theorem app_cons {α : Type} {v : α} {vs : List α} {r l : List (Option α)} (h : vs.map some ++ r = l) : (v :: vs).map some ++ r = some v :: l := by
  subst h
  rfl
theorem st_of {N : List Str} {vs : List V} {k : Nat} {σ : L2.St} (h : N.length - vs.length = k) (e : vs.map some ++ List.replicate k none = σ) : L2.start N vs = σ := by
  subst h
  exact e
theorem cut_to {xs : List V} {k : Int} (h : 0 ≤ k) : cutV xs none (some k) = xs.take k.toNat := by
  obtain ⟨j, rfl⟩ : ∃ j : Nat, k = (j : Int) := ⟨k.toNat, by omega⟩
  unfold cutV
  rw [HT.sIx_none, HT.sIx_nat, List.drop_zero, Nat.sub_zero, Int.toNat_natCast]
  by_cases h : j ≤ xs.length
  · rw [Nat.min_eq_left h]
  · rw [Nat.min_eq_right (by omega), List.take_length, List.take_of_length_le (by omega)]
theorem cut_from {xs : List V} {k : Int} (h : 0 ≤ k) : cutV xs (some k) none = xs.drop k.toNat := by
  obtain ⟨j, rfl⟩ : ∃ j : Nat, k = (j : Int) := ⟨k.toNat, by omega⟩
  unfold cutV
  rw [HT.sIx_none, HT.sIx_nat, Int.toNat_natCast]
  by_cases h : j ≤ xs.length
  · rw [Nat.min_eq_left h, List.take_of_length_le (by rw [List.length_drop]; omega)]
  · rw [Nat.min_eq_right (by omega), List.drop_of_length_le (Nat.le_refl _), List.drop_of_length_le (by omega), List.take_nil]
theorem Al.at_ {t b : Addr} {H H' : Hp} {o : HO} (a : Al t H H') (n : b ≠ t) (h : H b = some o) : H' b = some o := by rw [a b n]; exact h
theorem Al.none_ {t b : Addr} {H H' : Hp} (a : Al t H H') (n : b ≠ t) (h : H b = none) : H' b = none := by rw [a b n]; exact h
end Cs

set_option maxRecDepth 100000
set_option maxHeartbeats 4000000
/-! how long the text of data may get -/
namespace Cs
open PySem PySem.Spec PyProof.Rows L2
def smallStr (x : Str) : Bool := x.cps.toList.all fun c => decide (c < 16 ^ 8)
theorem smallStr_all {x : Str} (h : smallStr x = true) : ∀ c ∈ x.cps.toList, c < 16 ^ 8 := fun c hc => of_decide_eq_true (List.all_eq_true.mp h c hc)
mutual
/-- no dicts, ints below 2 ^ 1920, texts of codes that can be shown -/
def plainD : PyData → Bool
  | .none => true
  | .bool _ => true
  | .int i => decide (i.natAbs.log2 < 1920)
  | .str x => smallStr x
  | .list xs => plainAll xs
  | .tuple xs => plainAll xs
  | .dict _ => false
def plainAll : List PyData → Bool
  | [] => true
  | x :: xs => plainD x && plainAll xs
end
mutual
def cost : PyData → Nat
  | .none => 4
  | .bool _ => 5
  | .int _ => 1921
  | .str x => 10 * x.length + 2
  | .list xs => costAll xs + 2
  | .tuple xs => costAll xs + 2
  | .dict _ => 0
def costAll : List PyData → Nat
  | [] => 0
  | x :: xs => cost x + 2 + costAll xs
end
theorem list_text (ts : List Str) : (listText ts).length ≤ piled ts + 2 := by
  cases ts with
  | nil => decide +kernel
  | cons t r =>
    have e1 : (listText (t :: r)).length = (textFrom 0 "[" (t :: r)).length + 1 := by
      show (textFrom 0 "[" (t :: r) ++ "]").length = _
      rw [strLen_append]; rfl
    have e2 : (textFrom 0 "[" (t :: r)).length = (textFrom 1 (("[" : Str) ++ (if (0 : Nat) > 0 then ", " else "" : String) ++ t) r).length := rfl
    have e3 : ((("[" : Str) ++ (if (0 : Nat) > 0 then ", " else "" : String) ++ t)).length = 1 + t.length := by
      rw [strLen_append, strLen_append]; rfl
    have h := textFrom_length_pos r 1 (("[" : Str) ++ (if (0 : Nat) > 0 then ", " else "" : String) ++ t) (Nat.succ_pos 0)
    rw [piled_cons]
    omega
mutual
theorem plain_shows : ∀ d : PyData, plainD d = true → d.showable = true ∧ d.hasDict = false ∧ d.shown.length ≤ cost d
  | .none, _ => ⟨by simp only [PyData.showable], by simp only [PyData.hasDict], by simp only [PyData.shown, cost]; decide +kernel⟩
  | .bool b, _ => ⟨by simp only [PyData.showable], by simp only [PyData.hasDict], by simp only [PyData.shown, cost]; cases b <;> decide +kernel⟩
  | .int i, h => by
    simp only [plainD] at h
    exact ⟨by simp only [PyData.showable]; exact h, by simp only [PyData.hasDict], by simp only [PyData.shown, cost]; exact int_text_len_1921 (of_decide_eq_true h)⟩
  | .str x, h => by
    simp only [plainD] at h
    exact ⟨by simp only [PyData.showable], by simp only [PyData.hasDict], by simp only [PyData.shown, cost]; exact StrLaws.reprText_len x (smallStr_all h)⟩
  | .list xs, h => by
    simp only [plainD] at h
    obtain ⟨h1, h2, h3⟩ := plain_showsAll xs h
    refine ⟨by simp only [PyData.showable]; exact h1, by simp only [PyData.hasDict]; exact h2, ?_⟩
    simp only [PyData.shown, cost]
    have := list_text (PyData.shownAll xs)
    omega
  | .tuple xs, h => by
    simp only [plainD] at h
    obtain ⟨h1, h2, h3⟩ := plain_showsAll xs h
    refine ⟨by simp only [PyData.showable]; exact h1, by simp only [PyData.hasDict]; exact h2, ?_⟩
    simp only [PyData.shown, cost]
    have := fmt_text (PyData.shownAll xs)
    omega
  | .dict _, h => by simp [plainD] at h
theorem plain_showsAll : ∀ xs : List PyData, plainAll xs = true → PyData.showableAll xs = true ∧ PyData.hasDictAll xs = false ∧ piled (PyData.shownAll xs) ≤ costAll xs
  | [], _ => ⟨by simp only [PyData.showableAll], by simp only [PyData.hasDictAll], by simp only [PyData.shownAll, costAll]; exact Nat.le_refl _⟩
  | x :: xs, h => by
    simp only [plainAll, Bool.and_eq_true] at h
    obtain ⟨a1, a2, a3⟩ := plain_shows x h.1
    obtain ⟨b1, b2, b3⟩ := plain_showsAll xs h.2
    refine ⟨by simp only [PyData.showableAll, a1, b1, Bool.and_self], by simp only [PyData.hasDictAll, a2, b2, Bool.or_self], ?_⟩
    simp only [PyData.shownAll, costAll, piled_cons]
    omega
end
/-- what repr asks of data -/
def RepOk (d : PyData) : Prop := plainD d = true ∧ d.depth ≤ 40 ∧ cost d ≤ sizeLine
theorem repr_go {K : PySem.W.Frag} {x : V} {d : PyData} {H : Hp} {Q : VK} (hd : Dp K H x d) (ok : RepOk d) (q : Q (.str d.shown) H) : rRepr K [x] H Q := by
  obtain ⟨h1, h2, h3⟩ := plain_shows d ok.1
  exact ⟨x, d, rfl, hd, h1, h2, ok.2.1, Nat.le_trans h3 ok.2.2, q⟩
theorem RepOk.sh {d : PyData} (ok : RepOk d) : d.showable = true := (plain_shows d ok.1).1
theorem RepOk.nd {d : PyData} (ok : RepOk d) : d.hasDict = false := (plain_shows d ok.1).2.1
theorem RepOk.dp {d : PyData} (ok : RepOk d) : d.depth ≤ 40 := ok.2.1
theorem RepOk.sz {d : PyData} (ok : RepOk d) : d.shown.length ≤ sizeLine := Nat.le_trans (plain_shows d ok.1).2.2 ok.2.2
theorem small_int {i : Int} (h1 : -1000000000000000000000000000000 ≤ i) (h2 : i ≤ 1000000000000000000000000000000) : plainD (.int i) = true := by
  simp only [plainD]
  refine decide_eq_true ?_
  by_cases h : i.natAbs = 0
  · rw [h]; decide
  · refine (Nat.log2_lt h).mpr ?_
    have : i.natAbs ≤ 1000000000000000000000000000000 := by omega
    exact Nat.lt_of_le_of_lt this (by decide)
/-- the rectangle as data -/
def R.d (r : R) : PyData := .tuple [.int r.l, .int r.t, .int r.w, .int r.h]
theorem Rc.dp {K : PySem.W.Frag} {H : Hp} {v : V} {r : R} (h : Rc K H v r) : Dp K H v r.d := by
  obtain ⟨a, rfl, h⟩ := h
  exact .tup h (.cons (.int _) (.cons (.int _) (.cons (.int _) (.cons (.int _) .nil))))
theorem R.rep {r : R} (h : ∀ z ∈ [r.l, r.t, r.w, r.h], -1000000000000000000000000000000 ≤ z ∧ z ≤ 1000000000000000000000000000000) : RepOk r.d := by
  refine ⟨?_, by simp [R.d, PyData.depth, PyData.depthAll], ?_⟩
  · have p : ∀ z ∈ [r.l, r.t, r.w, r.h], plainD (.int z) = true := fun z hz => small_int (h z hz).1 (h z hz).2
    simp only [R.d, plainD, plainAll, Bool.and_true, Bool.and_eq_true] at *
    exact ⟨p _ (by simp), p _ (by simp), p _ (by simp), p _ (by simp)⟩
  · simp only [R.d, cost, costAll]
    decide
end Cs

set_option maxRecDepth 100000
set_option maxHeartbeats 4000000
/-! rectangles: the plain functions, and what the program's functions promise of them -/
namespace Cs
open PySem PySem.Spec PyProof.Rows L2
def has (r : R) (x y : Int) : Bool := (decide (r.l ≤ x) && decide (x < r.l + r.w)) && (decide (r.t ≤ y) && decide (y < r.t + r.h))
def In (a b : R) : Bool := decide (b.l ≤ a.l) && (decide (b.t ≤ a.t) && (decide (a.l + a.w ≤ b.l + b.w) && decide (a.t + a.h ≤ b.t + b.h)))
def com (a b : R) : Option R :=
  if max a.l b.l < min (a.l + a.w) (b.l + b.w) ∧ max a.t b.t < min (a.t + a.h) (b.t + b.h) then
    some ⟨max a.l b.l, max a.t b.t, min (a.l + a.w) (b.l + b.w) - max a.l b.l, min (a.t + a.h) (b.t + b.h) - max a.t b.t⟩
  else none
theorem com_comm (a b : R) : com a b = com b a := by
  unfold com
  rw [Int.max_comm a.l b.l, Int.max_comm a.t b.t, Int.min_comm (a.l + a.w), Int.min_comm (a.t + a.h)]
theorem max_if (i j : Int) : (if j > i then j else i) = max i j := by split <;> omega
theorem min_if (i j : Int) : (if j < i then j else i) = min i j := by split <;> omega
/-- v is None or the rectangle o -/
def OptR (K : PySem.W.Frag) (H : Hp) (v : V) : Option R → Prop
  | none => v = .non
  | some r => Rc K H v r
theorem OptR.im {K : PySem.W.Frag} {H H' : Hp} {v : V} {o : Option R} (h : OptR K H v o) (e : Im H H') : OptR K H' v o := by
  cases o with
  | none => exact h
  | some r => exact Rc.im h e
theorem OptR.same {K : PySem.W.Frag} {H H' : Hp} {v : V} {o : Option R} (h : OptR K H v o) (e : Same H H') : OptR K H' v o := h.im (Im.same e)
theorem OptR.isN {K : PySem.W.Frag} {H : Hp} {v : V} {o : Option R} (h : OptR K H v o) : decide (v = .non) = o.isNone := by
  cases o with
  | none => cases h; rfl
  | some r => obtain ⟨a, rfl, _⟩ := h; rfl
def odata : Option R → PyData
  | none => .none
  | some r => r.d
theorem OptR.dp {K : PySem.W.Frag} {H : Hp} {v : V} {o : Option R} (h : OptR K H v o) : Dp K H v (odata o) := by
  cases o with
  | none => cases h; exact .non
  | some r => exact Rc.dp h
theorem none_rep : RepOk .none := ⟨rfl, by simp [PyData.depth], by simp only [cost]; decide⟩
def sp_edges (K : PySem.W.Frag) : Sp := fun vs H Q _ => ∃ (v : V) (r : R), vs = [v] ∧ Rc K H v r ∧ ∀ p, H p = none → Q (.ref p) (upd H p (.tup r.es))
def sp_inside (K : PySem.W.Frag) : Sp := fun vs H Q _ => ∃ (u v : V) (a b : R), vs = [u, v] ∧ Rc K H u a ∧ Rc K H v b ∧ ∀ H', Same H H' → Q (.bl (In a b)) H'
def sp_contains (K : PySem.W.Frag) : Sp := fun vs H Q _ => ∃ (v : V) (r : R) (x y : Int), vs = [v, .int x, .int y] ∧ Rc K H v r ∧ Q (.bl (has r x y)) H
def sp_common (K : PySem.W.Frag) : Sp := fun vs H Q _ => ∃ (u v : V) (a b : R), vs = [u, v] ∧ Rc K H u a ∧ Rc K H v b ∧ ∀ x H', Same H H' → OptR K H' x (com a b) → Q x H'
def sp_overlap (K : PySem.W.Frag) : Sp := fun vs H Q _ => ∃ (u v : V) (a b : R), vs = [u, v] ∧ Rc K H u a ∧ Rc K H v b ∧ ∀ H', Same H H' → Q (.bl (com a b).isSome) H'
def spLaw (K : PySem.W.Frag) : Sp := fun vs H Q _ => ∃ (a : Addr) (ns : List Int), vs = [.ref a] ∧ SqL K H a (ns.map V.int) ∧ ns.length ≤ 63 ∧ ∀ H', Q (.bl true) H'
theorem law_start (K : PySem.W.Frag) (H : Hp) (a : Addr) (ns : List Int) (h1 : ns.length ≤ 63) (h2 : SqL K H a (ns.map V.int)) : spLaw K [.ref a] H (fun v _ => v = .bl true) E0 := ⟨a, ns, rfl, h2, h1, fun _ => rfl⟩
end Cs

set_option maxRecDepth 100000
set_option maxHeartbeats 4000000

namespace Cs
open PySem PySem.Spec PyProof.Rows L2
local macro_rules | `(tactic| walk_at "sets") => `(tactic| (repeat (first | exact set_0 | apply set_s)))
local macro_rules | `(tactic| walk_at "sts") => `(tactic| (repeat (first | exact rep_0 | apply rep_s | apply app_cons | apply app_nil)))
local macro_rules | `(tactic| walk_at "sql") => `(tactic| first
  | exact SqL.of (by assumption)
  | exact SqL.of upd_same
  | assumption)
local macro_rules | `(tactic| walk_at "sqt") => `(tactic| first
  | exact SqT.of (by assumption)
  | exact SqT.of upd_same
  | assumption)
local macro_rules | `(tactic| walk_at "rd1") => `(tactic| first
  | ((with_reducible show gName _ _ _ _ _); refine gset (by walk_at "sets") ?_)
  | refine ⟨_, rfl, ?_⟩
  | refine ⟨rfl, ?_⟩
  | refine ⟨_, _, rfl, rfl, (show CMul _ _ from Or.inr ⟨by decide, by decide⟩), ?_⟩
  | refine ⟨_, _, rfl, rfl, (show (0 : Int) < _ by first | decide | omega), ?_⟩
  | refine ⟨_, _, rfl, rfl, (show CDiv _ _ from ⟨by omega, by omega⟩), ?_⟩
  | refine ⟨_, _, rfl, rfl, (show CPow _ _ from ⟨by decide, by decide, by decide⟩), ?_⟩
  | refine ⟨_, _, rfl, rfl, ?_⟩
  | refine ⟨_, _, _, _, rfl, rfl, (show SqL _ _ _ _ by walk_at "sql"), rfl, ?_⟩
  | refine ⟨_, _, _, _, rfl, rfl, (show SqT _ _ _ _ by walk_at "sqt"), rfl, ?_⟩
  | refine ⟨_, _, _, _, rfl, rfl, (by assumption), rfl, ?_⟩
  | refine ⟨_, _, _, _, rfl, rfl, upd_same, rfl, ?_⟩
  | refine ⟨_, _, rfl, (show LenV _ _ _ _ from Or.inl ⟨_, (by walk_at "sql"), rfl⟩), ?_⟩
  | refine ⟨_, _, rfl, (show LenV _ _ _ _ from Or.inr ⟨_, (by walk_at "sqt"), rfl⟩), ?_⟩
  | refine ⟨_, (show TruV _ _ _ _ from Or.inl ⟨_, (by walk_at "sql"), rfl⟩), ?_⟩
  | refine ⟨_, (show TruV _ _ _ _ from Or.inr (Or.inl ⟨_, (by walk_at "sqt"), rfl⟩)), ?_⟩
  | refine Or.inl ⟨_, rfl, ?_⟩
  | refine ⟨_, _, rfl, ?_⟩)

def top (i : Nat) : Stmt := PySem.Challenge.pw_chartspec_k37_rectangles_by_their_pixels.main.body.getD i (.Pass ⟨0, 0, 0, 0⟩)
abbrev s_contains : Stmt := top 1
theorem sc_contains : FnScope ["rectangle", "x", "y", "left", "top", "width", "height"] ["rectangle", "x", "y"] (defScope s_contains) := ⟨rfl, rfl, rfl, by decide +kernel, rfl, by decide +kernel, by decide +kernel⟩
abbrev s_overlap : Stmt := top 2
theorem sc_overlap : FnScope ["first", "second"] ["first", "second"] (defScope s_overlap) := ⟨rfl, rfl, rfl, by decide +kernel, rfl, by decide +kernel, by decide +kernel⟩
abbrev s_inside : Stmt := top 3
theorem sc_inside : FnScope ["first", "second", "left", "top", "right", "bottom", "least_left", "least_top", "most_right", "most_bottom"] ["first", "second"] (defScope s_inside) := ⟨rfl, rfl, rfl, by decide +kernel, rfl, by decide +kernel, by decide +kernel⟩
abbrev s_common : Stmt := top 4
theorem sc_common : FnScope ["first", "second", "first_left", "first_top", "first_right", "first_bottom", "second_left", "second_top", "second_right", "second_bottom", "left", "top", "right", "bottom"] ["first", "second"] (defScope s_common) := ⟨rfl, rfl, rfl, by decide +kernel, rfl, by decide +kernel, by decide +kernel⟩
abbrev s_edges : Stmt := top 5
theorem sc_edges : FnScope ["rectangle", "left", "top", "width", "height"] ["rectangle"] (defScope s_edges) := ⟨rfl, rfl, rfl, by decide +kernel, rfl, by decide +kernel, by decide +kernel⟩
abbrev s_law_tape : Stmt := top 7
theorem sc_law_tape : FnScope ["script", "total", "cell"] ["script"] (defScope s_law_tape) := ⟨rfl, rfl, rfl, by decide +kernel, rfl, by decide +kernel, by decide +kernel⟩
abbrev s_law_draw : Stmt := top 8
theorem sc_law_draw : FnScope ["tape", "many", "place", "number"] ["tape", "many"] (defScope s_law_draw) := ⟨rfl, rfl, rfl, by decide +kernel, rfl, by decide +kernel, by decide +kernel⟩
abbrev s_law_inside : Stmt := top 9
theorem sc_law_inside : FnScope ["one", "area"] ["one", "area"] (defScope s_law_inside) := ⟨rfl, rfl, rfl, by decide +kernel, rfl, by decide +kernel, by decide +kernel⟩
abbrev s_law_holds : Stmt := top 10
theorem sc_law_holds : FnScope ["one", "x", "y"] ["one", "x", "y"] (defScope s_law_holds) := ⟨rfl, rfl, rfl, by decide +kernel, rfl, by decide +kernel, by decide +kernel⟩
abbrev s_law_common : Stmt := top 11
theorem sc_law_common : FnScope ["first", "second", "left", "top", "right", "low"] ["first", "second"] (defScope s_law_common) := ⟨rfl, rfl, rfl, by decide +kernel, rfl, by decide +kernel, by decide +kernel⟩
abbrev s_law_pair : Stmt := top 12
theorem sc_law_pair : FnScope ["first", "second", "due", "told"] ["first", "second", "due"] (defScope s_law_pair) := ⟨rfl, rfl, rfl, by decide +kernel, rfl, by decide +kernel, by decide +kernel⟩
abbrev s_law_large : Stmt := top 13
theorem sc_law_large : FnScope ["tape", "left", "top"] ["tape"] (defScope s_law_large) := ⟨rfl, rfl, rfl, by decide +kernel, rfl, by decide +kernel, by decide +kernel⟩
abbrev s_law : Stmt := top 14
theorem sc_law : FnScope ["script", "tape", "x", "y", "first", "second", "both", "j", "i", "told", "due", "across", "pixel", "down", "large", "other"] ["script"] (defScope s_law) := ⟨rfl, rfl, rfl, by decide +kernel, rfl, by decide +kernel, by decide +kernel⟩
structure Blt (mg : Str → Option Value) : Prop where
  abs : mg "abs" = none
  int : mg "int" = none
  len : mg "len" = none
  list : mg "list" = none
  max : mg "max" = none
  min : mg "min" = none
  range : mg "range" = none
  repr : mg "repr" = none

section
variable {P : Program} {w : World} {K : PySem.W.Frag} {mg : Str → Option Value} {base : Heap}
theorem df_law_tape (M : Blt mg) (A : At K mg "_law_tape" s_law_tape) : Df P w K mg base 1 "_law_tape" ["script"] (sp_law_tape K) := by
  have nd := sc_law_tape.nd
  refine Df.of A (fun _ _ _ _ _ _ us hl => match us, hl with | [_], _ => rfl) sc_law_tape (fun vs H Q E h => ?_) (fun cdv A out f s H vs Q E hr hgd h => ?_)
  · obtain ⟨a, ns, rfl, _⟩ := h
    rfl
  · obtain ⟨a, ns, rfl, hS, hl, k⟩ := h
    refine ⟨_, (pss_cons (ps_set (i := 1) nd rfl (Or.inl rfl) pe_int)
      (pss_cons (ps_for PassesOwn.never rfl (pi_list (pv 0)) (pg_name (i := 2) nd rfl (Or.inl rfl)) (pss_one (ps_set (i := 1) nd rfl (Or.inl rfl) (pe_op op_mod (pe_callTy call_int1 (by rfl) M.int (by decide +kernel) (pa_cons (pe_op op_add (pe_op op_mul (pv 1) pe_int) (pe_callB call_abs (by rfl) M.abs (by decide +kernel) (pa_cons (pe_callTy call_int1 (by rfl) M.int (by decide +kernel) (pa_cons (pv 2) pa_nil)) pa_nil))) pa_nil)) pe_int))))
      (pss_one (ps_ret (pe_lst (pa_cons (pe_callTy (listK K) (by rfl) M.list (by decide +kernel) (pa_cons (pv 0) pa_nil)) (pa_cons pe_int (pa_cons pe_int (pa_cons (pv 1) pa_nil))))))))), at_start (st_of (k := 2) rfl (by walk_at "sts")) ?_⟩
    refine ⟨_, rfl, a, rfl, ⟨_, hS⟩, for_list (K := K) (a := a) (xs := ns.map V.int) (fun i σ H2 => H2 = H ∧ ∃ (z : Int) (v : Option V), σ = [some (.ref a), some (.int z), v] ∧ 0 ≤ z) ⟨rfl, 7, none, rfl, by decide⟩ (fun i σ H2 _ e => by rw [e.1]; exact hS) ?_ ?_⟩
    · rintro i y σ H2 hi ⟨rfl, z, v, rfl, hz⟩
      obtain ⟨n, rfl⟩ := int_at hi
      repeat walk_at "rd1"
      exact Int.emod_nonneg _ (by decide)
    · rintro σ H2 ⟨rfl, z, v, rfl, hz⟩
      refine ⟨_, rfl, a, _, rfl, Or.inl hS, fun l hl => ?_⟩
      repeat walk_at "rd1"
      refine ⟨(by show 4 ≤ sizeLine; decide), fun t ht => ?_⟩
      have nlt : l ≠ t := ne_of_none upd_same ht
      refine k t l _ (fun b o e => ?_) ⟨⟨ns, 0, 0, z, upd_same, by rw [upd_ne nlt]; exact upd_same, by decide, by decide, hz⟩, nlt⟩ ((Same.new hl).free ht) hl
      rw [upd_ne (ne_of_none (Same.new hl _ _ e) ht), upd_ne (ne_of_none e hl)]
      exact e
theorem df_law_draw (M : Blt mg) (A : At K mg "_law_draw" s_law_draw) : Df P w K mg base 1 "_law_draw" ["tape", "many"] (sp_law_draw K) := by
  have nd := sc_law_draw.nd
  refine Df.of A (fun _ _ _ _ _ _ us hl => match us, hl with | [_, _], _ => rfl) sc_law_draw (fun vs H Q E h => ?_) (fun cdv A out f s H vs Q E hr hgd h => ?_)
  · obtain ⟨t, l, m, rfl, _⟩ := h
    rfl
  · obtain ⟨t, l, m, rfl, T, hm, k⟩ := h
    obtain ⟨⟨ns, p, r, s, h1, h2, p0, r0, s0⟩, nlt⟩ := id T
    refine ⟨_, (pss_cons (ps_if (pt_cmpR op_eq (pe_ix (ixL K) (pv 0) pe_int (fun _ _ => rfl)) pe_int (nomark _)) (pss_cons (ps_set (i := 2) nd rfl (Or.inl rfl) (pe_ix (ixL K) (pv 0) pe_int (fun _ _ => rfl)))
      (pss_cons (ps_set (i := 3) nd rfl (Or.inl rfl) pe_int)
      (pss_cons (ps_if (pt_cmpR op_lt (pv 2) (pe_callB (lenK K) (by rfl) M.len (by decide +kernel) (pa_cons (pe_ix (ixL K) (pv 0) pe_int (fun _ _ => rfl)) pa_nil)) (nomark _)) (pss_one (ps_set (i := 3) nd rfl (Or.inl rfl) (pe_callB call_abs (by rfl) M.abs (by decide +kernel) (pa_cons (pe_callTy call_int1 (by rfl) M.int (by decide +kernel) (pa_cons (pe_ix (ixL K) (pe_ix (ixL K) (pv 0) pe_int (fun _ _ => rfl)) (pv 2) (fun _ _ => rfl)) pa_nil)) pa_nil)))) (pss_cons (ps_asg (pe_op op_mod (pe_callTy call_int1 (by rfl) M.int (by decide +kernel) (pa_cons (pe_op op_add (pe_op op_add (pe_op op_mul (pe_ix (ixL K) (pv 0) pe_int (fun _ _ => rfl)) pe_int) (pv 2)) pe_int) pa_nil)) pe_int) (pg_sub (pv 0) pe_int set_list))
      (pss_one (ps_set (i := 3) nd rfl (Or.inl rfl) (pe_ix (ixL K) (pv 0) pe_int (fun _ _ => rfl))))))
      (pss_cons (ps_asg (pe_op op_add (pv 2) pe_int) (pg_sub (pv 0) pe_int set_list))
      (pss_cons (ps_if (pt_cmpR op_lt (pv 3) (pe_op op_pow pe_int pe_int) (nomark _)) (pss_cons (ps_set (i := 3) nd rfl (Or.inl rfl) (pe_op op_mod (pe_callTy call_int1 (by rfl) M.int (by decide +kernel) (pa_cons (pe_op op_add (pe_op op_add (pe_op op_mul (pv 3) pe_int) (pe_op op_mul (pv 2) pe_int)) pe_int) pa_nil)) pe_int))
      (pss_cons (ps_set (i := 3) nd rfl (Or.inl rfl) (pe_op op_mod (pe_callTy call_int1 (by rfl) M.int (by decide +kernel) (pa_cons (pe_op op_mul (pv 3) pe_int) pa_nil)) pe_int))
      (pss_one (ps_ret (pe_op op_mod (pe_callTy call_int1 (by rfl) M.int (by decide +kernel) (pa_cons (pv 3) pa_nil)) (pe_callB (call_max2 rfl) (by rfl) M.max (by decide +kernel) (pa_cons (pv 1) (pa_cons pe_int pa_nil)))))))) pss_nil)
      (pss_one (ps_asg (pv 3) (pg_sub (pv 0) pe_int set_list)))))))) pss_nil)
      (pss_cons (ps_set (i := 3) nd rfl (Or.inl rfl) (pe_ix (ixL K) (pv 0) pe_int (fun _ _ => rfl)))
      (pss_cons (ps_asg (pe_op op_fdiv (pv 3) (pe_callB (call_max2 rfl) (by rfl) M.max (by decide +kernel) (pa_cons (pv 1) (pa_cons pe_int pa_nil)))) (pg_sub (pv 0) pe_int set_list))
      (pss_one (ps_ret (pe_op op_mod (pe_callTy call_int1 (by rfl) M.int (by decide +kernel) (pa_cons (pv 3) pa_nil)) (pe_callB (call_max2 rfl) (by rfl) M.max (by decide +kernel) (pa_cons (pv 1) (pa_cons pe_int pa_nil))))))))), at_start (st_of (k := 2) rfl (by walk_at "sts")) ?_⟩
    have fin : ∀ (n : Int) (H1 : Hp) (p' r' s' : Int), H1 t = some (.lst [.ref l, .int p', .int r', .int s']) → Al t H H1 → 0 ≤ p' → 0 ≤ r' → 0 ≤ s' → Q (.int (n % (if (1 : Int) > m then (1 : Int) else m))) H1 := by
      intro n H1 p' r' s' e1 a1 hp hr' hs
      rw [max_one]
      refine k _ H1 ⟨⟨ns, p', r', s', e1, by rw [a1 l nlt]; exact h2, hp, hr', hs⟩, nlt⟩ a1 (Int.emod_nonneg _ (by omega)) (Int.emod_lt_of_pos _ (by omega))
    repeat walk_at "rd1"
    refine if_int (fun hr0 => ?_) (fun hr0 => ?_)
    · subst hr0
      repeat walk_at "rd1"
      refine if_dec (fun hpl => ?_) (fun hpl => ?_)
      · rw [List.length_map] at hpl
        obtain ⟨n, hn⟩ := at_int p0 hpl
        refine ⟨_, rfl, _, _, _, _, rfl, rfl, SqL.of h1, rfl, _, rfl, _, _, _, _, rfl, rfl, SqL.of h2, hn, ?_⟩
        repeat walk_at "rd1"
        refine if_dec (fun h18 => ?_) (fun h18 => ?_)
        · repeat walk_at "rd1"
          exact fin _ _ (p + 1) 0 s upd_same Al.upd (by omega) (by decide) s0
        · repeat walk_at "rd1"
          exact fin _ _ (p + 1) _ s upd_same ((Al.upd.trans Al.upd).trans Al.upd) (by omega) (Int.ediv_nonneg (by split <;> omega) (by split <;> omega)) s0
      · repeat walk_at "rd1"
        refine if_dec (fun h18 => ?_) (fun h18 => ?_)
        · repeat walk_at "rd1"
          exact fin _ _ (p + 1) 0 _ upd_same (Al.upd.trans Al.upd) (by omega) (by decide) (Int.emod_nonneg _ (by decide))
        · repeat walk_at "rd1"
          exact fin _ _ (p + 1) _ _ upd_same (((Al.upd.trans Al.upd).trans Al.upd).trans Al.upd) (by omega) (Int.ediv_nonneg (Int.emod_nonneg _ (by decide)) (by split <;> omega)) (Int.emod_nonneg _ (by decide))
    · repeat walk_at "rd1"
      exact fin _ _ p _ s upd_same Al.upd p0 (Int.ediv_nonneg r0 (by split <;> omega)) s0
end

section
variable {P : Program} {w : World} {K : PySem.W.Frag} {mg : Str → Option Value} {base : Heap}
theorem df_edges (M : Blt mg) (A : At K mg "edges" s_edges) : Df P w K mg base 1 "edges" ["rectangle"] (sp_edges K) := by
  have nd := sc_edges.nd
  refine Df.of A (fun _ _ _ _ _ _ us hl => match us, hl with | [_], _ => rfl) sc_edges (fun vs H Q E h => ?_) (fun cdv A out f s H vs Q E hr hgd h => ?_)
  · obtain ⟨v, r, rfl, _⟩ := h
    rfl
  · obtain ⟨_, r, rfl, ⟨a, rfl, hS⟩, k⟩ := h
    refine ⟨_, (pss_cons (ps_asg (pv 0) (pg_tup rfl (pgs_cons (pg_name (i := 1) nd rfl (Or.inl rfl)) (pgs_cons (pg_name (i := 2) nd rfl (Or.inl rfl)) (pgs_cons (pg_name (i := 3) nd rfl (Or.inl rfl)) (pgs_cons (pg_name (i := 4) nd rfl (Or.inl rfl)) pgs_nil))))))
      (pss_one (ps_ret (pe_tup (pa_cons (pv 1) (pa_cons (pv 2) (pa_cons (pe_op op_add (pv 1) (pv 3)) (pa_cons (pe_op op_add (pv 2) (pv 4)) pa_nil)))))))), at_start (st_of (k := 4) rfl (by walk_at "sts")) ?_⟩
    refine ⟨_, rfl, a, _, rfl, hS, rfl, ?_⟩
    repeat walk_at "rd1"
    exact ⟨(show 4 ≤ sizeLine by decide), fun p hp => k p hp⟩
theorem df_inside (M : Blt mg) (A : At K mg "inside" s_inside) (D_edges : Df P w K mg base 1 "edges" ["rectangle"] (sp_edges K)) : Df P w K mg base 2 "inside" ["first", "second"] (sp_inside K) := by
  have nd := sc_inside.nd
  refine Df.of A (fun _ _ _ _ _ _ us hl => match us, hl with | [_, _], _ => rfl) sc_inside (fun vs H Q E h => ?_) (fun cdv A out f s H vs Q E hr hgd h => ?_)
  · obtain ⟨u, v, a, b, rfl, _⟩ := h
    rfl
  · obtain ⟨u, v, a, b, rfl, hu, hv, k⟩ := h
    refine ⟨_, (pss_cons (ps_asg (pe_df D_edges (hr.mono (by decide)) hgd rfl (pa_cons (pv 0) pa_nil)) (pg_tup rfl (pgs_cons (pg_name (i := 2) nd rfl (Or.inl rfl)) (pgs_cons (pg_name (i := 3) nd rfl (Or.inl rfl)) (pgs_cons (pg_name (i := 4) nd rfl (Or.inl rfl)) (pgs_cons (pg_name (i := 5) nd rfl (Or.inl rfl)) pgs_nil))))))
      (pss_cons (ps_asg (pe_df D_edges (hr.mono (by decide)) hgd rfl (pa_cons (pv 1) pa_nil)) (pg_tup rfl (pgs_cons (pg_name (i := 6) nd rfl (Or.inl rfl)) (pgs_cons (pg_name (i := 7) nd rfl (Or.inl rfl)) (pgs_cons (pg_name (i := 8) nd rfl (Or.inl rfl)) (pgs_cons (pg_name (i := 9) nd rfl (Or.inl rfl)) pgs_nil))))))
      (pss_one (ps_ret (pe_and (pe_cmpR op_le (pv 6) (pv 2) (nomark _)) (pe_and (pe_cmpR op_le (pv 7) (pv 3) (nomark _)) (pe_and (pe_cmpR op_le (pv 4) (pv 8) (nomark _)) (pe_one (pe_cmpR op_le (pv 5) (pv 9) (nomark _)))))))))), at_start (st_of (k := 8) rfl (by walk_at "sts")) ?_⟩
    refine ⟨_, rfl, u, a, rfl, hu, fun p hp => ⟨p, _, rfl, SqT.of upd_same, rfl, ?_⟩⟩
    repeat walk_at "rd1"
    refine ⟨v, b, rfl, hv.same (Same.new hp), fun q hq => ⟨q, _, rfl, SqT.of upd_same, rfl, ?_⟩⟩
    repeat walk_at "rd1"
    have sm : Same H (upd (upd H p (.tup a.es)) q (.tup b.es)) := (Same.new hp).trans (Same.new hq)
    have k' : ∀ c, In a b = c → Q (.bl c) (upd (upd H p (.tup a.es)) q (.tup b.es)) := fun c e => by rw [← e]; exact k _ sm
    refine if_dec (fun c1 => ?_) (fun c1 => k' _ (by simp [In, c1]))
    repeat walk_at "rd1"
    refine if_dec (fun c2 => ?_) (fun c2 => k' _ (by simp [In, c2]))
    repeat walk_at "rd1"
    refine if_dec (fun c3 => ?_) (fun c3 => k' _ (by simp [In, c3]))
    repeat walk_at "rd1"
    exact k' _ (by simp [In, c1, c2, c3])
theorem df_contains (M : Blt mg) (A : At K mg "contains" s_contains) : Df P w K mg base 1 "contains" ["rectangle", "x", "y"] (sp_contains K) := by
  have nd := sc_contains.nd
  refine Df.of A (fun _ _ _ _ _ _ us hl => match us, hl with | [_, _, _], _ => rfl) sc_contains (fun vs H Q E h => ?_) (fun cdv A out f s H vs Q E hr hgd h => ?_)
  · obtain ⟨v, r, x, y, rfl, _⟩ := h
    rfl
  · obtain ⟨_, r, x, y, rfl, ⟨a, rfl, hS⟩, k⟩ := h
    refine ⟨_, (pss_cons (ps_asg (pv 0) (pg_tup rfl (pgs_cons (pg_name (i := 3) nd rfl (Or.inl rfl)) (pgs_cons (pg_name (i := 4) nd rfl (Or.inl rfl)) (pgs_cons (pg_name (i := 5) nd rfl (Or.inl rfl)) (pgs_cons (pg_name (i := 6) nd rfl (Or.inl rfl)) pgs_nil))))))
      (pss_one (ps_ret (pe_and (pe_chain op_le op_lt (pv 3) (pv 1) (pe_op op_add (pv 3) (pv 5))) (pe_one (pe_chain op_le op_lt (pv 4) (pv 2) (pe_op op_add (pv 4) (pv 6)))))))), at_start (st_of (k := 4) rfl (by walk_at "sts")) ?_⟩
    refine ⟨_, rfl, a, _, rfl, hS, rfl, ?_⟩
    repeat walk_at "rd1"
    have k' : ∀ c, has r x y = c → Q (.bl c) H := fun c e => by rw [← e]; exact k
    refine if_dec (fun c1 => ?_) (fun c1 => ⟨_, rfl, iteF (k' _ (by simp [has, c1]))⟩)
    repeat walk_at "rd1"
    refine if_dec (fun c2 => ?_) (fun c2 => k' _ (by simp [has, c2]))
    repeat walk_at "rd1"
    refine if_dec (fun c3 => ?_) (fun c3 => k' _ (by simp [has, c3]))
    repeat walk_at "rd1"
    exact k' _ (by simp [has, c1, c2, c3])
theorem df_common (M : Blt mg) (A : At K mg "common" s_common) (D_edges : Df P w K mg base 1 "edges" ["rectangle"] (sp_edges K)) : Df P w K mg base 2 "common" ["first", "second"] (sp_common K) := by
  have nd := sc_common.nd
  refine Df.of A (fun _ _ _ _ _ _ us hl => match us, hl with | [_, _], _ => rfl) sc_common (fun vs H Q E h => ?_) (fun cdv A out f s H vs Q E hr hgd h => ?_)
  · obtain ⟨u, v, a, b, rfl, _⟩ := h
    rfl
  · obtain ⟨u, v, a, b, rfl, hu, hv, k⟩ := h
    refine ⟨_, (pss_cons (ps_asg (pe_df D_edges (hr.mono (by decide)) hgd rfl (pa_cons (pv 0) pa_nil)) (pg_tup rfl (pgs_cons (pg_name (i := 2) nd rfl (Or.inl rfl)) (pgs_cons (pg_name (i := 3) nd rfl (Or.inl rfl)) (pgs_cons (pg_name (i := 4) nd rfl (Or.inl rfl)) (pgs_cons (pg_name (i := 5) nd rfl (Or.inl rfl)) pgs_nil))))))
      (pss_cons (ps_asg (pe_df D_edges (hr.mono (by decide)) hgd rfl (pa_cons (pv 1) pa_nil)) (pg_tup rfl (pgs_cons (pg_name (i := 6) nd rfl (Or.inl rfl)) (pgs_cons (pg_name (i := 7) nd rfl (Or.inl rfl)) (pgs_cons (pg_name (i := 8) nd rfl (Or.inl rfl)) (pgs_cons (pg_name (i := 9) nd rfl (Or.inl rfl)) pgs_nil))))))
      (pss_cons (par2 (ps_par (i := 10) (j := 11) (by rfl) nd rfl rfl (by decide) rfl rfl (pa_cons (pe_callB (call_max2 rfl) (by rfl) M.max (by decide +kernel) (pa_cons (pv 2) (pa_cons (pv 6) pa_nil))) (pa_cons (pe_callB (call_max2 rfl) (by rfl) M.max (by decide +kernel) (pa_cons (pv 3) (pa_cons (pv 7) pa_nil))) pa_nil)) (by rfl)))
      (pss_cons (par2 (ps_par (i := 12) (j := 13) (by rfl) nd rfl rfl (by decide) rfl rfl (pa_cons (pe_callB (call_min2 rfl) (by rfl) M.min (by decide +kernel) (pa_cons (pv 4) (pa_cons (pv 8) pa_nil))) (pa_cons (pe_callB (call_min2 rfl) (by rfl) M.min (by decide +kernel) (pa_cons (pv 5) (pa_cons (pv 9) pa_nil))) pa_nil)) (by rfl)))
      (pss_cons (ps_if (PW.pt (pw_or (pt_cmpR op_ge (pv 10) (pv 12) (nomark _)) (pw_or1 (pt_cmpR op_ge (pv 11) (pv 13) (nomark _))))) (pss_one (ps_ret pe_non)) pss_nil)
      (pss_one (ps_ret (pe_tup (pa_cons (pv 10) (pa_cons (pv 11) (pa_cons (pe_op op_sub (pv 12) (pv 10)) (pa_cons (pe_op op_sub (pv 13) (pv 11)) pa_nil)))))))))))), at_start (st_of (k := 12) rfl (by walk_at "sts")) ?_⟩
    refine ⟨_, rfl, u, a, rfl, hu, fun p hp => ⟨p, _, rfl, SqT.of upd_same, rfl, ?_⟩⟩
    repeat walk_at "rd1"
    refine ⟨v, b, rfl, hv.same (Same.new hp), fun q hq => ⟨q, _, rfl, SqT.of upd_same, rfl, ?_⟩⟩
    have sm : Same H (upd (upd H p (.tup a.es)) q (.tup b.es)) := (Same.new hp).trans (Same.new hq)
    generalize (upd (upd H p (.tup a.es)) q (.tup b.es)) = H2 at *
    repeat walk_at "rd1"
    rw [max_if, max_if, min_if, min_if] at *
    refine if_dec (fun c1 => ?_) (fun c1 => ?_)
    · refine iteT (k _ H2 sm ?_)
      have e : com a b = none := if_neg fun h => by omega
      rw [e]
      rfl
    repeat walk_at "rd1"
    refine if_dec (fun c2 => ?_) (fun c2 => ?_)
    · refine k _ H2 sm ?_
      have e : com a b = none := if_neg fun h => by omega
      rw [e]
      rfl
    repeat walk_at "rd1"
    refine ⟨(show 4 ≤ sizeLine by decide), fun r hr => k _ _ (sm.trans (Same.new hr)) ?_⟩
    have e : com a b = some ⟨max a.l b.l, max a.t b.t, min (a.l + a.w) (b.l + b.w) - max a.l b.l, min (a.t + a.h) (b.t + b.h) - max a.t b.t⟩ := if_pos ⟨by omega, by omega⟩
    rw [e]
    exact ⟨r, rfl, SqT.of upd_same⟩
theorem df_overlap (M : Blt mg) (A : At K mg "overlap" s_overlap) (D_common : Df P w K mg base 2 "common" ["first", "second"] (sp_common K)) : Df P w K mg base 3 "overlap" ["first", "second"] (sp_overlap K) := by
  have nd := sc_overlap.nd
  refine Df.of A (fun _ _ _ _ _ _ us hl => match us, hl with | [_, _], _ => rfl) sc_overlap (fun vs H Q E h => ?_) (fun cdv A out f s H vs Q E hr hgd h => ?_)
  · obtain ⟨u, v, a, b, rfl, _⟩ := h
    rfl
  · obtain ⟨u, v, a, b, rfl, hu, hv, k⟩ := h
    refine ⟨_, (pss_one (ps_ret (pe_cmpR op_notN (pe_df D_common (hr.mono (by decide)) hgd rfl (pa_cons (pv 0) (pa_cons (pv 1) pa_nil))) pe_non (nomark _)))), at_start (st_of (k := 0) rfl (by walk_at "sts")) ?_⟩
    refine ⟨_, rfl, _, rfl, u, v, a, b, rfl, hu, hv, fun x H' sm hx => ⟨rfl, ?_⟩⟩
    show Q (.bl (!decide (x = .non))) H'
    rw [hx.isN]
    have e : (!(com a b).isNone) = (com a b).isSome := by cases com a b <;> rfl
    rw [e]
    exact k H' sm
end

def sp_law_inside (K : PySem.W.Frag) : Sp := fun vs H Q _ => ∃ (u v : V) (a b : R), vs = [u, v] ∧ Rc K H u a ∧ Rc K H v b ∧ Q (.bl (In a b)) H
def sp_law_holds (K : PySem.W.Frag) : Sp := sp_contains K
def sp_law_common (K : PySem.W.Frag) : Sp := sp_common K
def Big (r : R) : Prop := ∀ z ∈ [r.l, r.t, r.w, r.h], -1000000 ≤ z ∧ z ≤ 1000000
def sp_law_pair (K : PySem.W.Frag) : Sp := fun vs H Q _ => ∃ (u v d : V) (a b : R), vs = [u, v, d] ∧ Rc K H u a ∧ Rc K H v b ∧ OptR K H d (com a b) ∧ Big a ∧ Big b ∧ ∀ H', Same H H' → Q (.bl true) H'
def sp_law_large (K : PySem.W.Frag) : Sp := fun vs H Q _ => ∃ (t l : Addr), vs = [.ref t] ∧ TapeAt H t l ∧ ∀ x r H', TapeAt H' t l → Gr t H H' → Rc K H' x r → Big r → Q x H'
theorem com_rep {a b : R} (ha : Big a) (hb : Big b) : RepOk (odata (com a b)) := by
  have a1 := ha a.l (by simp)
  have a2 := ha a.t (by simp)
  have a3 := ha a.w (by simp)
  have a4 := ha a.h (by simp)
  have b1 := hb b.l (by simp)
  have b2 := hb b.t (by simp)
  have b3 := hb b.w (by simp)
  have b4 := hb b.h (by simp)
  unfold com
  split
  · refine R.rep (r := ⟨_, _, _, _⟩) fun z hz => ?_
    simp at hz
    rcases hz with rfl | rfl | rfl | rfl <;> omega
  · exact none_rep
section
variable {P : Program} {w : World} {K : PySem.W.Frag} {mg : Str → Option Value} {base : Heap}
theorem df_law_inside (M : Blt mg) (A : At K mg "_law_inside" s_law_inside) : Df P w K mg base 1 "_law_inside" ["one", "area"] (sp_law_inside K) := by
  have nd := sc_law_inside.nd
  refine Df.of A (fun _ _ _ _ _ _ us hl => match us, hl with | [_, _], _ => rfl) sc_law_inside (fun vs H Q E h => ?_) (fun cdv A out f s H vs Q E hr hgd h => ?_)
  · obtain ⟨u, v, a, b, rfl, _⟩ := h
    rfl
  · obtain ⟨_, _, a, b, rfl, ⟨p, rfl, hu⟩, ⟨q, rfl, hv⟩, k⟩ := h
    refine ⟨_, (pss_cons (ps_if (PW.pt (pw_or (pt_cmpR op_lt (pe_ix (ixT K) (pv 0) pe_int (fun _ _ => rfl)) (pe_ix (ixT K) (pv 1) pe_int (fun _ _ => rfl)) (nomark _)) (pw_or1 (pt_cmpR op_lt (pe_ix (ixT K) (pv 0) pe_int (fun _ _ => rfl)) (pe_ix (ixT K) (pv 1) pe_int (fun _ _ => rfl)) (nomark _))))) (pss_one (ps_ret pe_bl)) pss_nil)
      (pss_cons (ps_if (pt_cmpR op_gt (pe_op op_add (pe_ix (ixT K) (pv 0) pe_int (fun _ _ => rfl)) (pe_ix (ixT K) (pv 0) pe_int (fun _ _ => rfl))) (pe_op op_add (pe_ix (ixT K) (pv 1) pe_int (fun _ _ => rfl)) (pe_ix (ixT K) (pv 1) pe_int (fun _ _ => rfl))) (nomark _)) (pss_one (ps_ret pe_bl)) pss_nil)
      (pss_one (ps_ret (pe_cmpR op_le (pe_op op_add (pe_ix (ixT K) (pv 0) pe_int (fun _ _ => rfl)) (pe_ix (ixT K) (pv 0) pe_int (fun _ _ => rfl))) (pe_op op_add (pe_ix (ixT K) (pv 1) pe_int (fun _ _ => rfl)) (pe_ix (ixT K) (pv 1) pe_int (fun _ _ => rfl))) (nomark _)))))), at_start (st_of (k := 0) rfl (by walk_at "sts")) ?_⟩
    unfold R.vs at hu hv
    have k' : ∀ c, In a b = c → Q (.bl c) H := fun c e => by rw [← e]; exact k
    repeat walk_at "rd1"
    refine if_dec (fun c1 => iteT (k' _ (by simp [In]; omega))) (fun c1 => ?_)
    repeat walk_at "rd1"
    refine if_dec (fun c2 => k' _ (by simp [In]; omega)) (fun c2 => ?_)
    repeat walk_at "rd1"
    refine if_dec (fun c3 => k' _ (by simp [In]; omega)) (fun c3 => ?_)
    repeat walk_at "rd1"
    show Q (V.bl (decide (a.t + a.h ≤ b.t + b.h))) H
    by_cases c4 : a.t + a.h ≤ b.t + b.h
    · rw [decide_eq_true c4]; exact k' _ (by simp [In]; omega)
    · rw [decide_eq_false c4]; exact k' _ (by simp [In]; omega)
theorem df_law_holds (M : Blt mg) (A : At K mg "_law_holds" s_law_holds) : Df P w K mg base 1 "_law_holds" ["one", "x", "y"] (sp_law_holds K) := by
  have nd := sc_law_holds.nd
  refine Df.of A (fun _ _ _ _ _ _ us hl => match us, hl with | [_, _, _], _ => rfl) sc_law_holds (fun vs H Q E h => ?_) (fun cdv A out f s H vs Q E hr hgd h => ?_)
  · obtain ⟨v, r, x, y, rfl, _⟩ := h
    rfl
  · obtain ⟨_, r, x, y, rfl, ⟨a, rfl, hS⟩, k⟩ := h
    refine ⟨_, (pss_one (ps_ret (pe_and (pe_cmpR op_le (pe_ix (ixT K) (pv 0) pe_int (fun _ _ => rfl)) (pv 1) (nomark _)) (pe_and (pe_cmpR op_lt (pv 1) (pe_op op_add (pe_ix (ixT K) (pv 0) pe_int (fun _ _ => rfl)) (pe_ix (ixT K) (pv 0) pe_int (fun _ _ => rfl))) (nomark _)) (pe_and (pe_cmpR op_le (pe_ix (ixT K) (pv 0) pe_int (fun _ _ => rfl)) (pv 2) (nomark _)) (pe_one (pe_cmpR op_lt (pv 2) (pe_op op_add (pe_ix (ixT K) (pv 0) pe_int (fun _ _ => rfl)) (pe_ix (ixT K) (pv 0) pe_int (fun _ _ => rfl))) (nomark _)))))))), at_start (st_of (k := 0) rfl (by walk_at "sts")) ?_⟩
    unfold R.vs at hS
    have k' : ∀ c, has r x y = c → Q (.bl c) H := fun c e => by rw [← e]; exact k
    repeat walk_at "rd1"
    refine if_dec (fun c1 => ?_) (fun c1 => k' _ (by simp [has, c1]))
    repeat walk_at "rd1"
    refine if_dec (fun c2 => ?_) (fun c2 => k' _ (by simp [has, c2]))
    repeat walk_at "rd1"
    refine if_dec (fun c3 => ?_) (fun c3 => k' _ (by simp [has, c3]))
    repeat walk_at "rd1"
    exact k' _ (by simp [has, c1, c2, c3])
theorem df_law_common (M : Blt mg) (A : At K mg "_law_common" s_law_common) : Df P w K mg base 1 "_law_common" ["first", "second"] (sp_law_common K) := by
  have nd := sc_law_common.nd
  refine Df.of A (fun _ _ _ _ _ _ us hl => match us, hl with | [_, _], _ => rfl) sc_law_common (fun vs H Q E h => ?_) (fun cdv A out f s H vs Q E hr hgd h => ?_)
  · obtain ⟨u, v, a, b, rfl, _⟩ := h
    rfl
  · obtain ⟨_, _, a, b, rfl, ⟨p, rfl, hu⟩, ⟨q, rfl, hv⟩, k⟩ := h
    refine ⟨_, (pss_cons (ps_set (i := 2) nd rfl (Or.inl rfl) (pe_callB (call_max2 rfl) (by rfl) M.max (by decide +kernel) (pa_cons (pe_ix (ixT K) (pv 0) pe_int (fun _ _ => rfl)) (pa_cons (pe_ix (ixT K) (pv 1) pe_int (fun _ _ => rfl)) pa_nil))))
      (pss_cons (ps_set (i := 3) nd rfl (Or.inl rfl) (pe_callB (call_max2 rfl) (by rfl) M.max (by decide +kernel) (pa_cons (pe_ix (ixT K) (pv 0) pe_int (fun _ _ => rfl)) (pa_cons (pe_ix (ixT K) (pv 1) pe_int (fun _ _ => rfl)) pa_nil))))
      (pss_cons (ps_set (i := 4) nd rfl (Or.inl rfl) (pe_callB (call_min2 rfl) (by rfl) M.min (by decide +kernel) (pa_cons (pe_op op_add (pe_ix (ixT K) (pv 0) pe_int (fun _ _ => rfl)) (pe_ix (ixT K) (pv 0) pe_int (fun _ _ => rfl))) (pa_cons (pe_op op_add (pe_ix (ixT K) (pv 1) pe_int (fun _ _ => rfl)) (pe_ix (ixT K) (pv 1) pe_int (fun _ _ => rfl))) pa_nil))))
      (pss_cons (ps_set (i := 5) nd rfl (Or.inl rfl) (pe_callB (call_min2 rfl) (by rfl) M.min (by decide +kernel) (pa_cons (pe_op op_add (pe_ix (ixT K) (pv 0) pe_int (fun _ _ => rfl)) (pe_ix (ixT K) (pv 0) pe_int (fun _ _ => rfl))) (pa_cons (pe_op op_add (pe_ix (ixT K) (pv 1) pe_int (fun _ _ => rfl)) (pe_ix (ixT K) (pv 1) pe_int (fun _ _ => rfl))) pa_nil))))
      (pss_cons (ps_if (PW.pt (pw_and (pt_cmpR op_lt (pv 2) (pv 4) (nomark _)) (pw_and1 (pt_cmpR op_lt (pv 3) (pv 5) (nomark _))))) (pss_one (ps_ret (pe_tup (pa_cons (pv 2) (pa_cons (pv 3) (pa_cons (pe_op op_sub (pv 4) (pv 2)) (pa_cons (pe_op op_sub (pv 5) (pv 3)) pa_nil))))))) pss_nil)
      (pss_one (ps_ret pe_non))))))), at_start (st_of (k := 4) rfl (by walk_at "sts")) ?_⟩
    unfold R.vs at hu hv
    repeat walk_at "rd1"
    rw [max_if, max_if, min_if, min_if] at *
    refine if_dec (fun c1 => ?_) (fun c1 => ?_)
    · repeat walk_at "rd1"
      refine if_dec (fun c2 => ?_) (fun c2 => ?_)
      · repeat walk_at "rd1"
        refine ⟨(show 4 ≤ sizeLine by decide), fun r hr => k _ _ (Same.new hr) ?_⟩
        have e : com a b = some ⟨max a.l b.l, max a.t b.t, min (a.l + a.w) (b.l + b.w) - max a.l b.l, min (a.t + a.h) (b.t + b.h) - max a.t b.t⟩ := if_pos ⟨c1, c2⟩
        rw [e]
        exact ⟨r, rfl, SqT.of upd_same⟩
      · have e : com a b = none := if_neg fun h => c2 h.2
        refine k _ H (Same.refl _) ?_
        rw [e]
        rfl
    · have e : com a b = none := if_neg fun h => c1 h.1
      refine iteF (k _ H (Same.refl _) ?_)
      rw [e]
      rfl
theorem df_law_pair (M : Blt mg) (A : At K mg "_law_pair" s_law_pair) (D_overlap : Df P w K mg base 3 "overlap" ["first", "second"] (sp_overlap K)) (D_inside : Df P w K mg base 2 "inside" ["first", "second"] (sp_inside K)) (D_common : Df P w K mg base 2 "common" ["first", "second"] (sp_common K)) (D_law_inside : Df P w K mg base 1 "_law_inside" ["one", "area"] (sp_law_inside K)) : Df P w K mg base 4 "_law_pair" ["first", "second", "due"] (sp_law_pair K) := by
  have nd := sc_law_pair.nd
  refine Df.of A (fun _ _ _ _ _ _ us hl => match us, hl with | [_, _, _], _ => rfl) sc_law_pair (fun vs H Q E h => ?_) (fun cdv A out f s H vs Q E hr hgd h => ?_)
  · obtain ⟨u, v, d, a, b, rfl, _⟩ := h
    rfl
  · obtain ⟨u, v, d, a, b, rfl, hu, hv, hd, ba, bb, k⟩ := h
    refine ⟨_, (pss_cons (ps_if (PW.pt (pw_or (pt_cmpR op_ne (pe_callB (reprK K hr.units hgd) (by rfl) M.repr (by decide +kernel) (pa_cons (pe_df D_common (hr.mono (by decide)) hgd rfl (pa_cons (pv 0) (pa_cons (pv 1) pa_nil))) pa_nil)) (pe_callB (reprK K hr.units hgd) (by rfl) M.repr (by decide +kernel) (pa_cons (pv 2) pa_nil)) (nomark _)) (pw_or1 (pt_cmpR op_ne (pe_callB (reprK K hr.units hgd) (by rfl) M.repr (by decide +kernel) (pa_cons (pe_df D_common (hr.mono (by decide)) hgd rfl (pa_cons (pv 1) (pa_cons (pv 0) pa_nil))) pa_nil)) (pe_callB (reprK K hr.units hgd) (by rfl) M.repr (by decide +kernel) (pa_cons (pv 2) pa_nil)) (nomark _))))) (pss_one (ps_ret pe_bl)) pss_nil)
      (pss_cons (ps_set (i := 3) nd rfl (Or.inl rfl) (pe_tup (pa_cons (pe_df D_overlap (hr.mono (by decide)) hgd rfl (pa_cons (pv 0) (pa_cons (pv 1) pa_nil))) (pa_cons (pe_df D_overlap (hr.mono (by decide)) hgd rfl (pa_cons (pv 1) (pa_cons (pv 0) pa_nil))) (pa_cons (pe_df D_inside (hr.mono (by decide)) hgd rfl (pa_cons (pv 0) (pa_cons (pv 1) pa_nil))) (pa_cons (pe_df D_inside (hr.mono (by decide)) hgd rfl (pa_cons (pv 1) (pa_cons (pv 0) pa_nil))) pa_nil))))))
      (pss_one (ps_ret (pe_cmpR op_eq (pe_callB (reprK K hr.units hgd) (by rfl) M.repr (by decide +kernel) (pa_cons (pv 3) pa_nil)) (pe_callB (reprK K hr.units hgd) (by rfl) M.repr (by decide +kernel) (pa_cons (pe_tup (pa_cons (pe_cmpR op_notN (pv 2) pe_non (nomark _)) (pa_cons (pe_cmpR op_notN (pv 2) pe_non (nomark _)) (pa_cons (pe_df D_law_inside (hr.mono (by decide)) hgd rfl (pa_cons (pv 0) (pa_cons (pv 1) pa_nil))) (pa_cons (pe_df D_law_inside (hr.mono (by decide)) hgd rfl (pa_cons (pv 1) (pa_cons (pv 0) pa_nil))) pa_nil))))) pa_nil)) (nomark _)))))), at_start (st_of (k := 1) rfl (by walk_at "sts")) ?_⟩
    have rep := com_rep ba bb
    have e1 : com b a = com a b := com_comm b a
    refine ⟨_, rfl, _, rfl, u, v, a, b, rfl, hu, hv, fun x H1 s1 hx => ⟨_, _, rfl, hx.dp, rep.sh, rep.nd, rep.dp, rep.sz, _, rfl, _, _, rfl, (hd.same s1).dp, rep.sh, rep.nd, rep.dp, rep.sz, rfl, _, rfl, if_nstr (fun h => absurd rfl h) (fun _ => ?_)⟩⟩
    refine ⟨_, rfl, _, rfl, v, u, b, a, rfl, hv.same s1, hu.same s1, fun x2 H2 s2 hx2 => ?_⟩
    rw [e1] at hx2
    have s12 := s1.trans s2
    refine ⟨_, _, rfl, hx2.dp, rep.sh, rep.nd, rep.dp, rep.sz, _, rfl, _, _, rfl, (hd.same s12).dp, rep.sh, rep.nd, rep.dp, rep.sz, rfl, _, rfl, if_nstr (fun h => absurd rfl h) (fun _ => ?_)⟩
    -- told
    refine ⟨_, rfl, _, rfl, u, v, a, b, rfl, hu.same s12, hv.same s12, fun H3 s3 => ?_⟩
    have s13 := s12.trans s3
    refine ⟨_, rfl, _, rfl, v, u, b, a, rfl, hv.same s13, hu.same s13, fun H4 s4 => ?_⟩
    have s14 := s13.trans s4
    refine ⟨_, rfl, _, rfl, u, v, a, b, rfl, hu.same s14, hv.same s14, fun H5 s5 => ?_⟩
    have s15 := s14.trans s5
    refine ⟨_, rfl, _, rfl, v, u, b, a, rfl, hv.same s15, hu.same s15, fun H6 s6 => ⟨(show 4 ≤ sizeLine by decide), fun p hp => ?_⟩⟩
    have s16 := s15.trans s6
    have rb : ∀ b1 b2 b3 b4 : Bool, RepOk (.tuple [.bool b1, .bool b2, .bool b3, .bool b4]) := fun b1 b2 b3 b4 => ⟨rfl, by simp [PyData.depth, PyData.depthAll], by simp only [cost, costAll]; decide⟩
    have dp : ∀ {H : Hp} {p : Addr} {b1 b2 b3 b4 : Bool}, H p = some (.tup [.bl b1, .bl b2, .bl b3, .bl b4]) → Dp K H (.ref p) (.tuple [.bool b1, .bool b2, .bool b3, .bool b4]) := fun h => .tup (SqT.of h) (.cons (.bl _) (.cons (.bl _) (.cons (.bl _) (.cons (.bl _) .nil))))
    have rt := rb (com a b).isSome (com b a).isSome (In a b) (In b a)
    refine ⟨_, rfl, _, _, rfl, dp upd_same, rt.sh, rt.nd, rt.dp, rt.sz, ?_⟩
    have i17 : Same H (upd H6 p (.tup [.bl (com a b).isSome, .bl (com b a).isSome, .bl (In a b), .bl (In b a)])) := s16.trans (Same.new hp)
    generalize (upd H6 p (.tup [.bl (com a b).isSome, .bl (com b a).isSome, .bl (In a b), .bl (In b a)])) = H7 at *
    repeat walk_at "rd1"
    refine ⟨u, v, a, b, rfl, hu.same i17, hv.same i17, ?_⟩
    repeat walk_at "rd1"
    refine ⟨v, u, b, a, rfl, hv.same i17, hu.same i17, ?_⟩
    refine ⟨(show 4 ≤ sizeLine by decide), fun q hq => ?_⟩
    have ed : decide (d = .non) = (com a b).isNone := hd.isN
    have e2 : (!decide (d = .non)) = (com a b).isSome := by rw [ed]; cases com a b <;> rfl
    have e3 : (!decide (d = .non)) = (com b a).isSome := by rw [e1]; exact e2
    refine ⟨_, _, rfl, dp upd_same, (rb _ _ _ _).sh, (rb _ _ _ _).nd, (rb _ _ _ _).dp, (rb _ _ _ _).sz, rfl, ?_⟩
    rw [e1, e2]
    have e9 : ∀ x : Str, decide (V.str x = V.str x) = true := fun x => decide_eq_true rfl
    show Q (.bl (decide (V.str _ = V.str _))) _
    rw [e9]
    exact k _ (i17.trans (Same.new hq))
theorem df_law_large (M : Blt mg) (A : At K mg "_law_large" s_law_large) (D_law_draw : Df P w K mg base 1 "_law_draw" ["tape", "many"] (sp_law_draw K)) : Df P w K mg base 2 "_law_large" ["tape"] (sp_law_large K) := by
  have nd := sc_law_large.nd
  refine Df.of A (fun _ _ _ _ _ _ us hl => match us, hl with | [_], _ => rfl) sc_law_large (fun vs H Q E h => ?_) (fun cdv A out f s H vs Q E hr hgd h => ?_)
  · obtain ⟨t, l, rfl, _⟩ := h
    rfl
  · obtain ⟨t, l, rfl, T, k⟩ := h
    refine ⟨_, (pss_cons (ps_set (i := 1) nd rfl (Or.inl rfl) (pe_op op_sub (pe_df D_law_draw (hr.mono (by decide)) hgd rfl (pa_cons (pv 0) (pa_cons pe_int pa_nil))) pe_int))
      (pss_cons (ps_set (i := 2) nd rfl (Or.inl rfl) (pe_op op_sub (pe_df D_law_draw (hr.mono (by decide)) hgd rfl (pa_cons (pv 0) (pa_cons pe_int pa_nil))) pe_int))
      (pss_one (ps_ret (pe_tup (pa_cons (pv 1) (pa_cons (pv 2) (pa_cons (pe_df D_law_draw (hr.mono (by decide)) hgd rfl (pa_cons (pv 0) (pa_cons pe_int pa_nil))) (pa_cons (pe_df D_law_draw (hr.mono (by decide)) hgd rfl (pa_cons (pv 0) (pa_cons pe_int pa_nil))) pa_nil))))))))), at_start (st_of (k := 2) rfl (by walk_at "sts")) ?_⟩
    repeat walk_at "rd1"
    refine ⟨t, l, _, rfl, T, by decide, fun a H1 T1 a1 a2 a3 => ?_⟩
    repeat walk_at "rd1"
    refine ⟨t, l, _, rfl, T1, by decide, fun b H2 T2 b1 b2 b3 => ?_⟩
    repeat walk_at "rd1"
    refine ⟨t, l, _, rfl, T2, by decide, fun c H3 T3 c1 c2 c3 => ?_⟩
    repeat walk_at "rd1"
    refine ⟨t, l, _, rfl, T3, by decide, fun d H4 T4 d1 d2 d3 => ⟨(show 4 ≤ sizeLine by decide), fun p hp => ?_⟩⟩
    refine k (.ref p) ⟨a - 100000, b - 100000, c, d⟩ _ (T4.new hp) ((((a1.trans b1).trans c1).trans d1).gr.trans (Gr.new hp)) ⟨p, rfl, SqT.of upd_same⟩ fun z hz => ?_
    simp at hz
    rcases hz with rfl | rfl | rfl | rfl <;> omega
end
/-- v is a tuple of vs -/
def Tup (K : PySem.W.Frag) (H : Hp) (v : V) (vs : List V) : Prop := ∃ a, v = .ref a ∧ SqT K H a vs
def pv2 (p : Int × Int) : List V := [.int p.1, .int p.2]
structure Pix (K : PySem.W.Frag) (H : Hp) (xs : List V) (ps : List (Int × Int)) : Prop where
  len : xs.length = ps.length
  at_ : ∀ (i : Nat) (x : V) (p : Int × Int), xs[i]? = some x → ps[i]? = some p → Tup K H x (pv2 p)
theorem Pix.im {K : PySem.W.Frag} {H H' : Hp} {xs : List V} {ps : List (Int × Int)} (h : Pix K H xs ps) (e : Im H H') : Pix K H' xs ps := ⟨h.len, fun i x r h1 h2 => let ⟨a, q1, q2⟩ := h.at_ i x r h1 h2; ⟨a, q1, e.sqT q2⟩⟩
theorem Pix.snoc {K : PySem.W.Frag} {H : Hp} {xs : List V} {ps : List (Int × Int)} {x : V} {p : Int × Int} (h : Pix K H xs ps) (q : Tup K H x (pv2 p)) : Pix K H (xs ++ [x]) (ps ++ [p]) := by
  refine ⟨by rw [List.length_append, List.length_append, h.len]; rfl, fun i y s h1 h2 => ?_⟩
  rcases get_snoc h1 with ⟨hi, h1⟩ | ⟨rfl, rfl⟩
  · rw [List.getElem?_append_left (by rw [← h.len]; exact hi)] at h2
    exact h.at_ i y s h1 h2
  · rw [h.len, List.getElem?_append_right (Nat.le_refl _), Nat.sub_self] at h2
    cases (Option.some.inj h2)
    exact q
structure Near (X Y : Int) (r : R) : Prop where
  a1 : X ≤ r.l
  a2 : r.l ≤ X + 7
  b1 : Y ≤ r.t
  b2 : r.t ≤ Y + 7
  c1 : 0 ≤ r.w
  c2 : r.w ≤ 7
  d1 : 0 ≤ r.h
  d2 : r.h ≤ 7
/-- ps: pixels that both hold; all of them in the rows ahead of m and in the row m ahead of n -/
structure Scan (X Y : Int) (A B : R) (ps : List (Int × Int)) (m n : Nat) : Prop where
  ok : ∀ p ∈ ps, has A p.1 p.2 = true ∧ has B p.1 p.2 = true
  all : ∀ i j : Int, X - 1 ≤ i → i < X + 16 → Y - 1 ≤ j → (j < Y - 1 + m ∨ (j = Y - 1 + m ∧ i < X - 1 + n)) → has A i j = true → has B i j = true → (i, j) ∈ ps
theorem Scan.start {X Y : Int} {A B : R} : Scan X Y A B [] 0 0 := ⟨fun p h => absurd h List.not_mem_nil, fun i j _ _ h1 h2 => by omega⟩
theorem Scan.row {X Y : Int} {A B : R} {ps : List (Int × Int)} {m : Nat} (s : Scan X Y A B ps m 17) : Scan X Y A B ps (m + 1) 0 := ⟨s.ok, fun i j h1 h2 h3 h4 => s.all i j h1 h2 h3 (by omega)⟩
theorem Scan.no {X Y : Int} {A B : R} {ps : List (Int × Int)} {m n : Nat} (s : Scan X Y A B ps m n) (h : ¬ (has A (X - 1 + n) (Y - 1 + m) = true ∧ has B (X - 1 + n) (Y - 1 + m) = true)) : Scan X Y A B ps m (n + 1) :=
  ⟨s.ok, fun i j h1 h2 h3 h4 h5 h6 => by
    by_cases e : j = Y - 1 + m ∧ i = X - 1 + n
    · obtain ⟨rfl, rfl⟩ := e
      exact absurd ⟨h5, h6⟩ h
    · exact s.all i j h1 h2 h3 (by omega) h5 h6⟩
theorem Scan.yes {X Y : Int} {A B : R} {ps : List (Int × Int)} {m n : Nat} (s : Scan X Y A B ps m n) (h : has A (X - 1 + n) (Y - 1 + m) = true) (h' : has B (X - 1 + n) (Y - 1 + m) = true) : Scan X Y A B (ps ++ [(X - 1 + n, Y - 1 + m)]) m (n + 1) := by
  refine ⟨fun p hp => ?_, fun i j h1 h2 h3 h4 h5 h6 => ?_⟩
  · rcases List.mem_append.mp hp with q | q
    · exact s.ok p q
    · rw [List.mem_singleton.mp q]; exact ⟨h, h'⟩
  · by_cases e : j = Y - 1 + m ∧ i = X - 1 + n
    · obtain ⟨rfl, rfl⟩ := e
      exact List.mem_append_right _ (List.mem_singleton.mpr rfl)
    · exact List.mem_append_left _ (s.all i j h1 h2 h3 (by omega) h5 h6)
theorem has_iff {r : R} {x y : Int} : has r x y = true ↔ r.l ≤ x ∧ x < r.l + r.w ∧ r.t ≤ y ∧ y < r.t + r.h := by
  unfold has
  simp only [Bool.and_eq_true, decide_eq_true_eq]
  omega
theorem scan_none {X Y : Int} {A B : R} (s : Scan X Y A B [] 17 0) (n : Near X Y A) : com A B = none := by
  obtain ⟨a1, a2, b1, b2, c1, c2, d1, d2⟩ := n
  refine if_neg fun ⟨h1, h2⟩ => ?_
  have := s.all (max A.l B.l) (max A.t B.t) (by omega) (by omega) (by omega) (by omega) (has_iff.mpr (by omega)) (has_iff.mpr (by omega))
  exact absurd this List.not_mem_nil
theorem scan_some {X Y : Int} {A B : R} {ps : List (Int × Int)} (s : Scan X Y A B ps 17 0) (n : Near X Y A) {m1 M1 m2 M2 : Int}
    (h1 : m1 ∈ ps.map (·.1)) (h1' : ∀ z, z ∈ ps.map (·.1) → m1 ≤ z) (h2 : M1 ∈ ps.map (·.1)) (h2' : ∀ z, z ∈ ps.map (·.1) → z ≤ M1)
    (h3 : m2 ∈ ps.map (·.2)) (h3' : ∀ z, z ∈ ps.map (·.2) → m2 ≤ z) (h4 : M2 ∈ ps.map (·.2)) (h4' : ∀ z, z ∈ ps.map (·.2) → z ≤ M2) : com A B = some ⟨m1, m2, M1 - m1 + 1, M2 - m2 + 1⟩ := by
  obtain ⟨a1, a2, b1, b2, c1, c2, d1, d2⟩ := n
  obtain ⟨p1, q1, e1⟩ := List.mem_map.mp h1
  obtain ⟨p2, q2, e2⟩ := List.mem_map.mp h2
  obtain ⟨p3, q3, e3⟩ := List.mem_map.mp h3
  obtain ⟨p4, q4, e4⟩ := List.mem_map.mp h4
  obtain ⟨x1, y1⟩ := s.ok p1 q1
  obtain ⟨x2, y2⟩ := s.ok p2 q2
  obtain ⟨x3, y3⟩ := s.ok p3 q3
  obtain ⟨x4, y4⟩ := s.ok p4 q4
  rw [has_iff] at x1 y1 x2 y2 x3 y3 x4 y4
  have g1 := s.all (max A.l B.l) p1.2 (by omega) (by omega) (by omega) (by omega) (has_iff.mpr (by omega)) (has_iff.mpr (by omega))
  have g2 := s.all (min (A.l + A.w) (B.l + B.w) - 1) p1.2 (by omega) (by omega) (by omega) (by omega) (has_iff.mpr (by omega)) (has_iff.mpr (by omega))
  have g3 := s.all p3.1 (max A.t B.t) (by omega) (by omega) (by omega) (by omega) (has_iff.mpr (by omega)) (has_iff.mpr (by omega))
  have g4 := s.all p3.1 (min (A.t + A.h) (B.t + B.h) - 1) (by omega) (by omega) (by omega) (by omega) (has_iff.mpr (by omega)) (has_iff.mpr (by omega))
  have k1 := h1' _ (List.mem_map.mpr ⟨_, g1, rfl⟩)
  have k2 := h2' _ (List.mem_map.mpr ⟨_, g2, rfl⟩)
  have k3 := h3' _ (List.mem_map.mpr ⟨_, g3, rfl⟩)
  have k4 := h4' _ (List.mem_map.mpr ⟨_, g4, rfl⟩)
  simp only at k1 k2 k3 k4
  have z1 : max A.l B.l = m1 := by omega
  have z2 : min (A.l + A.w) (B.l + B.w) = M1 + 1 := by omega
  have z3 : max A.t B.t = m2 := by omega
  have z4 : min (A.t + A.h) (B.t + B.h) = M2 + 1 := by omega
  unfold com
  rw [if_pos (by omega), z1, z2, z3, z4]
  have w1 : M1 + 1 - m1 = M1 - m1 + 1 := by omega
  have w2 : M2 + 1 - m2 = M2 - m2 + 1 := by omega
  rw [w1, w2]
theorem near_big {X Y : Int} {r : R} (n : Near X Y r) (h1 : -99999 ≤ X) (h2 : X ≤ 99980) (h3 : -99999 ≤ Y) (h4 : Y ≤ 99980) : Big r := by
  obtain ⟨a1, a2, b1, b2, c1, c2, d1, d2⟩ := n
  intro z hz
  simp at hz
  rcases hz with rfl | rfl | rfl | rfl <;> omega
theorem pick_x {c : Int} (h0 : 0 ≤ c) (h1 : c < max 4 1) : ∃ X, atI [V.int 0, V.int 0, V.int (-99999), V.int 99980] c = some (.int X) ∧ -99999 ≤ X ∧ X ≤ 99980 := by
  obtain ⟨z, e1, _, e3⟩ := atI_mem (xs := [V.int 0, V.int 0, V.int (-99999), V.int 99980]) h0 (by show c < 4; omega)
  simp at e3
  rcases e3 with rfl | rfl | rfl
  · exact ⟨0, e1, by decide, by decide⟩
  · exact ⟨-99999, e1, by decide, by decide⟩
  · exact ⟨99980, e1, by decide, by decide⟩
section
variable {P : Program} {w : World} {K : PySem.W.Frag} {mg : Str → Option Value} {base : Heap}
theorem fn_law {f : Addr} {fd : FuncData} (M : Blt mg) (F : Fun K "law" "law" s_law f fd) (D_law_tape : Df P w K mg base 1 "_law_tape" ["script"] (sp_law_tape K)) (D_law_large : Df P w K mg base 2 "_law_large" ["tape"] (sp_law_large K)) (D_law_draw : Df P w K mg base 1 "_law_draw" ["tape", "many"] (sp_law_draw K)) (D_law_pair : Df P w K mg base 4 "_law_pair" ["first", "second", "due"] (sp_law_pair K)) (D_law_common : Df P w K mg base 1 "_law_common" ["first", "second"] (sp_law_common K)) (D_contains : Df P w K mg base 1 "contains" ["rectangle", "x", "y"] (sp_contains K)) (D_law_holds : Df P w K mg base 1 "_law_holds" ["one", "x", "y"] (sp_law_holds K)) : FnG P w K mg base 5 f fd ["script"] (spLaw K) := by
  have nd := sc_law.nd
  refine FnG.of F sc_law (fun vs H Q E h => ?_) (fun cdv A out s H vs Q E hr hgd h => ?_)
  · obtain ⟨a, ns, rfl, _⟩ := h
    rfl
  · obtain ⟨a, ns, rfl, hS, hlen, k⟩ := h
    refine ⟨_, (pss_cons (ps_set (i := 1) nd rfl (Or.inl rfl) (pe_df D_law_tape (hr.mono (by decide)) hgd rfl (pa_cons (pv 0) pa_nil)))
      (pss_cons (ps_set (i := 2) nd rfl (Or.inl rfl) (pe_ix (ixL K) (pe_lst (pa_cons pe_int (pa_cons pe_int (pa_cons (pe_un un_neg pe_int) (pa_cons pe_int pa_nil))))) (pe_df D_law_draw (hr.mono (by decide)) hgd rfl (pa_cons (pv 1) (pa_cons pe_int pa_nil))) (fun _ _ => rfl)))
      (pss_cons (ps_set (i := 3) nd rfl (Or.inl rfl) (pe_ix (ixL K) (pe_lst (pa_cons pe_int (pa_cons pe_int (pa_cons (pe_un un_neg pe_int) (pa_cons pe_int pa_nil))))) (pe_df D_law_draw (hr.mono (by decide)) hgd rfl (pa_cons (pv 1) (pa_cons pe_int pa_nil))) (fun _ _ => rfl)))
      (pss_cons (ps_set (i := 4) nd rfl (Or.inl rfl) (pe_tup (pa_cons (pe_op op_add (pv 2) (pe_df D_law_draw (hr.mono (by decide)) hgd rfl (pa_cons (pv 1) (pa_cons pe_int pa_nil)))) (pa_cons (pe_op op_add (pv 3) (pe_df D_law_draw (hr.mono (by decide)) hgd rfl (pa_cons (pv 1) (pa_cons pe_int pa_nil)))) (pa_cons (pe_df D_law_draw (hr.mono (by decide)) hgd rfl (pa_cons (pv 1) (pa_cons pe_int pa_nil))) (pa_cons (pe_df D_law_draw (hr.mono (by decide)) hgd rfl (pa_cons (pv 1) (pa_cons pe_int pa_nil))) pa_nil))))))
      (pss_cons (ps_set (i := 5) nd rfl (Or.inl rfl) (pe_tup (pa_cons (pe_op op_add (pv 2) (pe_df D_law_draw (hr.mono (by decide)) hgd rfl (pa_cons (pv 1) (pa_cons pe_int pa_nil)))) (pa_cons (pe_op op_add (pv 3) (pe_df D_law_draw (hr.mono (by decide)) hgd rfl (pa_cons (pv 1) (pa_cons pe_int pa_nil)))) (pa_cons (pe_df D_law_draw (hr.mono (by decide)) hgd rfl (pa_cons (pv 1) (pa_cons pe_int pa_nil))) (pa_cons (pe_df D_law_draw (hr.mono (by decide)) hgd rfl (pa_cons (pv 1) (pa_cons pe_int pa_nil))) pa_nil))))))
      (C8.pss_cut (ps_if (pt_cmpR op_eq (pe_df D_law_draw (hr.mono (by decide)) hgd rfl (pa_cons (pv 1) (pa_cons pe_int pa_nil))) pe_int (nomark _)) (pss_one (ps_set (i := 5) nd rfl (Or.inl rfl) (pv 4))) pss_nil)
      (pss_cons (ps_set (i := 6) nd rfl (Or.inl rfl) (pe_lst pa_nil))
      (C8.pss_cut (ps_for PassesOwn.never rfl (pi_range2 rfl M.range (pa_cons (pe_op op_sub (pv 3) pe_int) (pa_cons (pe_op op_add (pv 3) pe_int) pa_nil))) (pg_name (i := 7) nd rfl (Or.inl rfl)) (pss_one (ps_for PassesOwn.never rfl (pi_range2 rfl M.range (pa_cons (pe_op op_sub (pv 2) pe_int) (pa_cons (pe_op op_add (pv 2) pe_int) pa_nil))) (pg_name (i := 8) nd rfl (Or.inl rfl)) (pss_cons (ps_set (i := 9) nd rfl (Or.inl rfl) (pe_tup (pa_cons (pe_df D_contains (hr.mono (by decide)) hgd rfl (pa_cons (pv 4) (pa_cons (pv 8) (pa_cons (pv 7) pa_nil)))) (pa_cons (pe_df D_contains (hr.mono (by decide)) hgd rfl (pa_cons (pv 5) (pa_cons (pv 8) (pa_cons (pv 7) pa_nil)))) pa_nil))))
      (pss_cons (ps_if (pt_cmpR op_ne (pe_callB (reprK K hr.units hgd) (by rfl) M.repr (by decide +kernel) (pa_cons (pv 9) pa_nil)) (pe_callB (reprK K hr.units hgd) (by rfl) M.repr (by decide +kernel) (pa_cons (pe_tup (pa_cons (pe_df D_law_holds (hr.mono (by decide)) hgd rfl (pa_cons (pv 4) (pa_cons (pv 8) (pa_cons (pv 7) pa_nil)))) (pa_cons (pe_df D_law_holds (hr.mono (by decide)) hgd rfl (pa_cons (pv 5) (pa_cons (pv 8) (pa_cons (pv 7) pa_nil)))) pa_nil))) pa_nil)) (nomark _)) (pss_one (ps_ret pe_bl)) pss_nil)
      (pss_one (ps_if (PW.pt (pw_and (pt_val (pe_ix (ixT K) (pv 9) pe_int (fun _ _ => rfl))) (pw_and1 (pt_val (pe_ix (ixT K) (pv 9) pe_int (fun _ _ => rfl)))))) (pss_one (ps_expr (pe_bm PySem.F.plainAttrs_list PySem.F.slot_list_append PySem.F.type_list_append mt_append (pv 6) (pa_cons (pe_tup (pa_cons (pv 8) (pa_cons (pv 7) pa_nil))) pa_nil)))) pss_nil)))))))
      (pss_cons (ps_set (i := 10) nd rfl (Or.inl rfl) pe_non)
      (C8.pss_cut (ps_if (truK K (pv 6)) (pss_cons (ps_setLc (i := 11) (own := [("pixel", 12)]) (g := (gName 12)) (tt := tYes) rfl nd rfl rfl (sw_true rfl rfl rfl (by decide +kernel)) (pi_list (pv 6)) (blkOk_by (N := ["script", "tape", "x", "y", "first", "second", "both", "j", "i", "told", "due", "across", "pixel", "down", "large", "other"]) (sc := defScope s_law) (by decide +kernel)) (fun _ _ _ _ _ => pg_name (i := 12) nd rfl (Or.inl rfl)) (fun _ _ _ _ _ => pts_nil) (fun _ _ _ _ _ => (pe_ix (ixT K) (pv 12) pe_int (fun _ _ => rfl))))
      (pss_cons (ps_setLc (i := 13) (own := [("pixel", 12)]) (g := (gName 12)) (tt := tYes) rfl nd rfl rfl (sw_true rfl rfl rfl (by decide +kernel)) (pi_list (pv 6)) (blkOk_by (N := ["script", "tape", "x", "y", "first", "second", "both", "j", "i", "told", "due", "across", "pixel", "down", "large", "other"]) (sc := defScope s_law) (by decide +kernel)) (fun _ _ _ _ _ => pg_name (i := 12) nd rfl (Or.inl rfl)) (fun _ _ _ _ _ => pts_nil) (fun _ _ _ _ _ => (pe_ix (ixT K) (pv 12) pe_int (fun _ _ => rfl))))
      (pss_one (ps_set (i := 10) nd rfl (Or.inl rfl) (pe_tup (pa_cons (pe_callB (minK K rfl) (by rfl) M.min (by decide +kernel) (pa_cons (pv 11) pa_nil)) (pa_cons (pe_callB (minK K rfl) (by rfl) M.min (by decide +kernel) (pa_cons (pv 13) pa_nil)) (pa_cons (pe_op op_add (pe_op op_sub (pe_callB (maxK K rfl) (by rfl) M.max (by decide +kernel) (pa_cons (pv 11) pa_nil)) (pe_callB (minK K rfl) (by rfl) M.min (by decide +kernel) (pa_cons (pv 11) pa_nil))) pe_int) (pa_cons (pe_op op_add (pe_op op_sub (pe_callB (maxK K rfl) (by rfl) M.max (by decide +kernel) (pa_cons (pv 13) pa_nil)) (pe_callB (minK K rfl) (by rfl) M.min (by decide +kernel) (pa_cons (pv 13) pa_nil))) pe_int) pa_nil))))))))) pss_nil)
      (pss_cons (ps_set (i := 14) nd rfl (Or.inl rfl) (pe_df D_law_large (hr.mono (by decide)) hgd rfl (pa_cons (pv 1) pa_nil)))
      (pss_cons (ps_set (i := 15) nd rfl (Or.inl rfl) (pe_df D_law_large (hr.mono (by decide)) hgd rfl (pa_cons (pv 1) pa_nil)))
      (C8.pss_cut (ps_if (pt_cmpR op_eq (pe_df D_law_draw (hr.mono (by decide)) hgd rfl (pa_cons (pv 1) (pa_cons pe_int pa_nil))) pe_int (nomark _)) (pss_one (ps_set (i := 15) nd rfl (Or.inl rfl) (pe_tup (pa_cons (pe_ix (ixT K) (pv 14) pe_int (fun _ _ => rfl)) (pa_cons (pe_ix (ixT K) (pv 15) pe_int (fun _ _ => rfl)) (pa_cons (pe_ix (ixT K) (pv 14) pe_int (fun _ _ => rfl)) (pa_cons (pe_ix (ixT K) (pv 14) pe_int (fun _ _ => rfl)) pa_nil))))))) pss_nil)
      (pss_one (ps_ret (pe_and (pe_df D_law_pair (hr.mono (by decide)) hgd rfl (pa_cons (pv 4) (pa_cons (pv 5) (pa_cons (pv 10) pa_nil)))) (pe_one (pe_df D_law_pair (hr.mono (by decide)) hgd rfl (pa_cons (pv 14) (pa_cons (pv 15) (pa_cons (pe_df D_law_common (hr.mono (by decide)) hgd rfl (pa_cons (pv 14) (pa_cons (pv 15) pa_nil))) pa_nil))))))))))))))))))))), at_start (st_of (k := 15) rfl (by walk_at "sts")) ?_⟩
    refine ⟨_, rfl, a, ns, rfl, hS, hlen, fun t l H1 sm0 T1 ht hl => ?_⟩
    repeat walk_at "rd1"
    refine ⟨(show 4 ≤ sizeLine by decide), fun b1 hb1 => ?_⟩
    repeat walk_at "rd1"
    refine ⟨t, l, _, rfl, T1.new hb1, by decide, fun c1 H2 T2 a2 c2 c3 => ?_⟩
    obtain ⟨X, hX, X1, X2⟩ := pick_x c2 c3
    refine ⟨b1, _, _, _, rfl, rfl, SqL.of (a2.at_ (T1.ne_t hb1) upd_same), hX, ?_⟩
    repeat walk_at "rd1"
    refine ⟨(show 4 ≤ sizeLine by decide), fun b2 hb2 => ?_⟩
    repeat walk_at "rd1"
    refine ⟨t, l, _, rfl, T2.new hb2, by decide, fun d1 H3 T3 a3 d2 d3 => ?_⟩
    obtain ⟨Y, hY, Y1, Y2⟩ := pick_x d2 d3
    refine ⟨b2, _, _, _, rfl, rfl, SqL.of (a3.at_ (T2.ne_t hb2) upd_same), hY, ?_⟩
    repeat walk_at "rd1"
    refine ⟨t, l, _, rfl, T3, by decide, fun e1 H4 T4 a4 e1a e1b => ?_⟩
    repeat walk_at "rd1"
    refine ⟨t, l, _, rfl, T4, by decide, fun e2 H5 T5 a5 e2a e2b => ?_⟩
    repeat walk_at "rd1"
    refine ⟨t, l, _, rfl, T5, by decide, fun e3 H6 T6 a6 e3a e3b => ?_⟩
    repeat walk_at "rd1"
    refine ⟨t, l, _, rfl, T6, by decide, fun e4 H7 T7 a7 e4a e4b => ⟨(show 4 ≤ sizeLine by decide), fun p hp => ?_⟩⟩
    have nA : Near X Y ⟨X + e1, Y + e2, e3, e4⟩ := by constructor <;> dsimp only <;> omega
    have hA8 : Rc K (upd H7 p (.tup (R.vs ⟨X + e1, Y + e2, e3, e4⟩))) (.ref p) ⟨X + e1, Y + e2, e3, e4⟩ := ⟨p, rfl, SqT.of upd_same⟩
    have T8 : TapeAt (upd H7 p (.tup (R.vs ⟨X + e1, Y + e2, e3, e4⟩))) t l := T7.new hp
    show tSeq _ _ _ _ (upd H7 p (.tup (R.vs ⟨X + e1, Y + e2, e3, e4⟩)))
    generalize (⟨X + e1, Y + e2, e3, e4⟩ : R) = A at *
    generalize (upd H7 p (.tup (R.vs A))) = H8 at *
    repeat walk_at "rd1"
    refine ⟨t, l, _, rfl, T8, by decide, fun f1 H9 T9 a9 f1a f1b => ?_⟩
    repeat walk_at "rd1"
    refine ⟨t, l, _, rfl, T9, by decide, fun f2 H10 T10 a10 f2a f2b => ?_⟩
    repeat walk_at "rd1"
    refine ⟨t, l, _, rfl, T10, by decide, fun f3 H11 T11 a11 f3a f3b => ?_⟩
    repeat walk_at "rd1"
    refine ⟨t, l, _, rfl, T11, by decide, fun f4 H12 T12 a12 f4a f4b => ⟨(show 4 ≤ sizeLine by decide), fun p2 hp2 => ?_⟩⟩
    have nB : Near X Y ⟨X + f1, Y + f2, f3, f4⟩ := by constructor <;> dsimp only <;> omega
    have hB13 : Rc K (upd H12 p2 (.tup (R.vs ⟨X + f1, Y + f2, f3, f4⟩))) (.ref p2) ⟨X + f1, Y + f2, f3, f4⟩ := ⟨p2, rfl, SqT.of upd_same⟩
    have T13 : TapeAt (upd H12 p2 (.tup (R.vs ⟨X + f1, Y + f2, f3, f4⟩))) t l := T12.new hp2
    have hA13 : Rc K (upd H12 p2 (.tup (R.vs ⟨X + f1, Y + f2, f3, f4⟩))) (.ref p) A := hA8.im ((T8.im (((a9.trans a10).trans a11).trans a12).gr).trans (Im.new hp2))
    show tSeq _ _ _ _ (upd H12 p2 (.tup (R.vs ⟨X + f1, Y + f2, f3, f4⟩)))
    generalize (⟨X + f1, Y + f2, f3, f4⟩ : R) = B0 at *
    generalize (upd H12 p2 (.tup (R.vs B0))) = H13 at *
    repeat walk_at "rd1"
    refine ⟨fun σ H' => ∃ (v : V) (B : R), σ = [some (.ref a), some (.ref t), some (.int X), some (.int Y), some (.ref p), some v, none, none, none, none, none, none, none, none, none, none] ∧ TapeAt H' t l ∧ Rc K H' (.ref p) A ∧ Rc K H' v B ∧ Near X Y B, ?_, ?_⟩
    · refine ⟨_, rfl, t, l, _, rfl, T13, by decide, fun g1 H14 T14 a14 g1a g1b => ⟨rfl, _, rfl, ?_⟩⟩
      have i14 := T13.im a14.gr
      refine if_int (fun _ => ?_) (fun _ => ?_)
      · exact ⟨_, rfl, _, A, rfl, T14, hA13.im i14, hA13.im i14, nA⟩
      · exact ⟨_, B0, rfl, T14, hA13.im i14, hB13.im i14, nB⟩
    rintro σ H15 ⟨vB, B, rfl, T15, hA, hB, nB⟩
    clear hB13 hA13 hA8
    repeat walk_at "rd1"
    refine ⟨(show 0 ≤ sizeLine by decide), fun q hq => ?_⟩
    have q1 := T15.ne_t hq
    have q2 := T15.ne_l hq
    have Tq := T15.new (o := .lst []) hq
    have hAq := hA.im (Im.new (o := .lst []) hq)
    have hBq := hB.im (Im.new (o := .lst []) hq)
    have hqq : (upd H15 q (.lst [])) q = some (.lst []) := upd_same
    generalize (upd H15 q (.lst [])) = H16 at *
    repeat walk_at "rd1"
    -- the scan
    refine ⟨fun σ H' => ∃ (ys : List V) (ps : List (Int × Int)) (v7 v8 v9 : Option V), σ = [some (.ref a), some (.ref t), some (.int X), some (.int Y), some (.ref p), some vB, some (.ref q), v7, v8, v9, none, none, none, none, none, none] ∧ Im H16 H' ∧ TapeAt H' t l ∧ H' q = some (.lst ys) ∧ Pix K H' ys ps ∧ Scan X Y A B ps 17 0 ∧ ys.length ≤ 1000, ?_, ?_⟩
    · refine ⟨_, rfl, _, _, rfl, rfl, _, rfl, _, _, rfl, rfl, _, _, rfl, ⟨by omega, by omega, by omega, by omega⟩, ?_⟩
      have e17 : (Y + 16 - (Y - 1)).toNat = 17 := by omega
      rw [e17]
      refine for_range (lo := Y - 1) (n := 17) (fun m σ H' => ∃ (ys : List V) (ps : List (Int × Int)) (v7 v8 v9 : Option V), σ = [some (.ref a), some (.ref t), some (.int X), some (.int Y), some (.ref p), some vB, some (.ref q), v7, v8, v9, none, none, none, none, none, none] ∧ Im H16 H' ∧ TapeAt H' t l ∧ H' q = some (.lst ys) ∧ Pix K H' ys ps ∧ Scan X Y A B ps m 0 ∧ ys.length ≤ 17 * m)
        ⟨[], [], none, none, none, rfl, Im.refl _, Tq, hqq, ⟨rfl, fun i x p h => by simp at h⟩, Scan.start, Nat.le_refl _⟩ ?_ ?_
      · rintro m σ H' hm ⟨ys, ps, v7, v8, v9, rfl, i17, T17, hq17, P17, S17, l17⟩
        refine ⟨_, rfl, _, _, rfl, rfl, _, rfl, _, _, rfl, rfl, _, _, rfl, ⟨by omega, by omega, by omega, by omega⟩, ?_⟩
        have e17 : (X + 16 - (X - 1)).toNat = 17 := by omega
        rw [e17]
        refine for_range (lo := X - 1) (n := 17) (fun n σ H' => ∃ (ys : List V) (ps : List (Int × Int)) (v8 v9 : Option V), σ = [some (.ref a), some (.ref t), some (.int X), some (.int Y), some (.ref p), some vB, some (.ref q), some (.int (Y - 1 + m)), v8, v9, none, none, none, none, none, none] ∧ Im H16 H' ∧ TapeAt H' t l ∧ H' q = some (.lst ys) ∧ Pix K H' ys ps ∧ Scan X Y A B ps m n ∧ ys.length ≤ 17 * m + n)
          ⟨ys, ps, v8, v9, rfl, i17, T17, hq17, P17, S17, l17⟩ ?_ ?_
        · rintro n σ H18 hn ⟨ys, ps, v8, v9, rfl, i18, T18, hq18, P18, S18, l18⟩
          have hA18 := hAq.im i18
          have hB18 := hBq.im i18
          refine ⟨_, rfl, _, rfl, _, rfl, _, A, _, _, rfl, hA18, _, rfl, _, rfl, _, rfl, _, B, _, _, rfl, hB18, (show 2 ≤ sizeLine by decide), fun u hu => ?_⟩
          have rb : ∀ b1 b2 : Bool, RepOk (.tuple [.bool b1, .bool b2]) := fun b1 b2 => ⟨rfl, by simp [PyData.depth, PyData.depthAll], by simp only [cost, costAll]; decide⟩
          have dp : ∀ {H : Hp} {p : Addr} {b1 b2 : Bool}, H p = some (.tup [.bl b1, .bl b2]) → Dp K H (.ref p) (.tuple [.bool b1, .bool b2]) := fun h => .tup (SqT.of h) (.cons (.bl _) (.cons (.bl _) .nil))
          have i19 : Im H18 (upd H18 u (.tup [.bl (has A (X - 1 + n) (Y - 1 + m)), .bl (has B (X - 1 + n) (Y - 1 + m))])) := Im.new hu
          have T19 := T18.new (o := .tup [.bl (has A (X - 1 + n) (Y - 1 + m)), .bl (has B (X - 1 + n) (Y - 1 + m))]) hu
          have hq19 := Same.new (o := .tup [.bl (has A (X - 1 + n) (Y - 1 + m)), .bl (has B (X - 1 + n) (Y - 1 + m))]) hu _ _ hq18
          have hu19 : (upd H18 u (.tup [.bl (has A (X - 1 + n) (Y - 1 + m)), .bl (has B (X - 1 + n) (Y - 1 + m))])) u = some (.tup [.bl (has A (X - 1 + n) (Y - 1 + m)), .bl (has B (X - 1 + n) (Y - 1 + m))]) := upd_same
          generalize (upd H18 u (.tup [.bl (has A (X - 1 + n) (Y - 1 + m)), .bl (has B (X - 1 + n) (Y - 1 + m))])) = H19 at *
          repeat walk_at "rd1"
          refine ⟨_, _, rfl, dp hu19, (rb _ _).sh, (rb _ _).nd, (rb _ _).dp, (rb _ _).sz, ?_⟩
          refine ⟨_, rfl, _, rfl, _, rfl, _, A, _, _, rfl, hA18.im i19, _, rfl, _, rfl, _, rfl, _, B, _, _, rfl, hB18.im i19, (show 2 ≤ sizeLine by decide), fun w2 hw2 => ?_⟩
          refine ⟨_, _, rfl, dp upd_same, (rb _ _).sh, (rb _ _).nd, (rb _ _).dp, (rb _ _).sz, rfl, _, rfl, if_nstr (fun h => absurd rfl h) (fun _ => ?_)⟩
          have i20 := i19.trans (Im.new (o := .tup [.bl (has A (X - 1 + n) (Y - 1 + m)), .bl (has B (X - 1 + n) (Y - 1 + m))]) hw2)
          have T20 := T19.new (o := .tup [.bl (has A (X - 1 + n) (Y - 1 + m)), .bl (has B (X - 1 + n) (Y - 1 + m))]) hw2
          have hq20 := Same.new (o := .tup [.bl (has A (X - 1 + n) (Y - 1 + m)), .bl (has B (X - 1 + n) (Y - 1 + m))]) hw2 _ _ hq19
          have hu20 := Same.new (o := .tup [.bl (has A (X - 1 + n) (Y - 1 + m)), .bl (has B (X - 1 + n) (Y - 1 + m))]) hw2 _ _ hu19
          generalize (upd H19 w2 (.tup [.bl (has A (X - 1 + n) (Y - 1 + m)), .bl (has B (X - 1 + n) (Y - 1 + m))])) = H20 at *
          refine ⟨_, rfl, _, _, _, _, rfl, rfl, SqT.of hu20, rfl, _, rfl, ?_⟩
          refine if_bool (fun c1 => ?_) (fun c1 => ?_)
          · refine ⟨_, rfl, _, _, _, _, rfl, rfl, SqT.of hu20, rfl, _, rfl, ?_⟩
            refine if_bool (fun c2 => ?_) (fun c2 => ?_)
            · refine ⟨_, rfl, Or.inl ⟨rfl, _, SqL.of hq20⟩, _, rfl, _, rfl, (show 2 ≤ sizeLine by decide), fun z hz => ?_⟩
              have nz : q ≠ z := ne_of_none hq20 hz
              refine ⟨q, ys, _, rfl, rfl, by rw [upd_ne nz]; exact hq20, (by have h16 : sizeLine = 16777216 := (by decide); omega), ?_⟩
              have i21 : Im H20 (upd (upd H20 z (.tup [.int (X - 1 + n), .int (Y - 1 + m)])) q (.lst (ys ++ [.ref z]))) := (Im.new hz).trans (Im.set (by rw [upd_ne nz]; exact hq20))
              refine ⟨ys ++ [.ref z], ps ++ [(X - 1 + n, Y - 1 + m)], _, _, rfl, (i18.trans i20).trans i21, (T20.new hz).upd q1 q2, upd_same, (P18.im (i20.trans i21)).snoc ⟨z, rfl, SqT.of (by rw [upd_ne nz.symm]; exact upd_same)⟩, S18.yes c1 c2, by rw [List.length_append]; show _ + 1 ≤ _; omega⟩
            · exact ⟨ys, ps, _, _, rfl, i18.trans i20, T20, hq20, P18.im i20, S18.no (by rw [c2]; simp), by omega⟩
          · exact iteF ⟨ys, ps, _, _, rfl, i18.trans i20, T20, hq20, P18.im i20, S18.no (by rw [c1]; simp), by omega⟩
        · rintro σ H18 ⟨ys, ps, v8, v9, rfl, i18, T18, hq18, P18, S18, l18⟩
          exact ⟨ys, ps, _, _, _, rfl, i18, T18, hq18, P18, S18.row, by omega⟩
      · rintro σ H18 ⟨ys, ps, v7, v8, v9, rfl, i18, T18, hq18, P18, S18, l18⟩
        exact ⟨ys, ps, _, _, _, rfl, i18, T18, hq18, P18, S18, by omega⟩
    rintro σ H18 ⟨ys, ps, v7, v8, v9, rfl, i18, T18, hq18, P18, S18, l18⟩
    have hA18 := hAq.im i18
    have hB18 := hBq.im i18
    have hz : ys.length ≤ sizeLine := (by have h16 : sizeLine = 16777216 := (by decide); omega)
    repeat walk_at "rd1"
    refine ⟨fun σ H' => ∃ (d : V) (v11 v12 v13 : Option V), σ = [some (.ref a), some (.ref t), some (.int X), some (.int Y), some (.ref p), some vB, some (.ref q), v7, v8, v9, some d, v11, v12, v13, none, none] ∧ TapeAt H' t l ∧ Rc K H' (.ref p) A ∧ Rc K H' vB B ∧ OptR K H' d (com A B), ?_, ?_⟩
    · refine ⟨_, rfl, _, (show TruV K _ _ _ from Or.inl ⟨ys, SqL.of hq18, rfl⟩), if_bool (fun hb => ?_) (fun hb => ?_)⟩
      · have ne : ps ≠ [] := fun e => by
          have : ys = [] := List.eq_nil_of_length_eq_zero (by rw [P18.len, e]; rfl)
          subst this
          cases hb
        have col : ∀ {i : Nat} {x : V} {r : Int × Int}, ys[i]? = some x → ps[i]? = some r → ∀ {H2 : Hp}, Same H18 H2 → Tup K H2 x (pv2 r) := fun {i x r} h1 h2 {H2} sm2 => let ⟨b, e1, e2⟩ := P18.at_ i x r h1 h2; ⟨b, e1, (Im.same sm2).sqT e2⟩
        refine ⟨_, rfl, q, rfl, ⟨_, SqL.of hq18⟩, fun D1 hD1 => map_list (K := K) (a := q) ps (fun p => V.int p.1) (SqL.of hq18) hz P18.len hD1 (fun i x r hx hr' H2 sm2 Q' hQ => ?_) fun H2 sm2 hD2 => ?_⟩
        · obtain ⟨b, rfl, hb⟩ := col hx hr' sm2
          exact ⟨_, rfl, b, _, _, _, rfl, rfl, hb, rfl, hQ _ (Same.refl _)⟩
        have hq2 := sm2 _ _ hq18
        refine ⟨_, rfl, q, rfl, ⟨_, SqL.of hq2⟩, fun D3 hD3 => map_list (K := K) (a := q) ps (fun p => V.int p.2) (SqL.of hq2) hz P18.len hD3 (fun i x r hx hr' H3 sm3 Q' hQ => ?_) fun H3 sm3 hD4 => ?_⟩
        · obtain ⟨b, rfl, hb⟩ := col hx hr' (sm2.trans sm3)
          exact ⟨_, rfl, b, _, _, _, rfl, rfl, hb, rfl, hQ _ (Same.refl _)⟩
        have hD2' := sm3 _ _ hD2
        have e1 : (ps.map fun p => V.int p.1) = (ps.map (·.1)).map V.int := by rw [List.map_map]; rfl
        have e2 : (ps.map fun p => V.int p.2) = (ps.map (·.2)).map V.int := by rw [List.map_map]; rfl
        rw [e1] at hD2'
        rw [e2] at hD4
        have l1 : 0 < (ps.map (·.1)).length := by rw [List.length_map]; exact List.length_pos_iff.mpr ne
        have l2 : 0 < (ps.map (·.2)).length := by rw [List.length_map]; exact List.length_pos_iff.mpr ne
        refine ⟨_, rfl, D1, _, rfl, SqL.of hD2', l1, fun m1 h1 h1' => ?_⟩
        refine ⟨_, rfl, D3, _, rfl, SqL.of hD4, l2, fun m2 h2 h2' => ?_⟩
        refine ⟨_, rfl, D1, _, rfl, SqL.of hD2', l1, fun M1 h3 h3' => ?_⟩
        refine ⟨_, rfl, D1, _, rfl, SqL.of hD2', l1, fun m1' g1 g1' => ⟨_, _, rfl, rfl, _, _, rfl, rfl, ?_⟩⟩
        refine ⟨_, rfl, D3, _, rfl, SqL.of hD4, l2, fun M2 h4 h4' => ?_⟩
        refine ⟨_, rfl, D3, _, rfl, SqL.of hD4, l2, fun m2' g2 g2' => ⟨_, _, rfl, rfl, _, _, rfl, rfl, ?_⟩⟩
        refine ⟨(show 4 ≤ sizeLine by decide), fun z hz => ?_⟩
        have z1 : m1' = m1 := Int.le_antisymm (g1' _ h1) (h1' _ g1)
        have z2 : m2' = m2 := Int.le_antisymm (g2' _ h2) (h2' _ g2)
        subst z1 z2
        have im3 : Im H18 (upd H3 z (.tup (R.vs ⟨m1', m2', M1 - m1' + 1, M2 - m2' + 1⟩))) := (Im.same (sm2.trans sm3)).trans (Im.new hz)
        refine ⟨.ref z, _, _, _, rfl, (T18.same (sm2.trans sm3)).new hz, hA18.im im3, hB18.im im3, ?_⟩
        rw [scan_some S18 nA h1 h1' h3 h3' h2 h2' h4 h4']
        exact ⟨z, rfl, SqT.of upd_same⟩
      · have e : ps = [] := by
          have : ys = [] := by
            cases ys with
            | nil => rfl
            | cons _ _ => cases hb
          exact List.eq_nil_of_length_eq_zero (by rw [← P18.len, this]; rfl)
        subst e
        refine ⟨.non, _, _, _, rfl, T18, hA18, hB18, ?_⟩
        rw [scan_none S18 nA]
        rfl
    clear S18 P18 i18 hq18 hA18 hB18 T18
    rintro σ H20 ⟨d, v11, v12, v13, rfl, T20, hA20, hB20, hd20⟩
    refine ⟨_, rfl, t, l, rfl, T20, fun x1 r1 H21 T21 g21 hx1 big1 => ?_⟩
    repeat walk_at "rd1"
    refine ⟨t, l, rfl, T21, fun x2 r2 H22 T22 g22 hx2 big2 => ?_⟩
    have i22 := T21.im g22
    have i2 : Im H20 H22 := (T20.im g21).trans i22
    repeat walk_at "rd1"
    refine ⟨fun σ H' => ∃ (x : V) (r : R), σ = [some (.ref a), some (.ref t), some (.int X), some (.int Y), some (.ref p), some vB, some (.ref q), v7, v8, v9, some d, v11, v12, v13, some x1, some x] ∧ Im H22 H' ∧ Rc K H' x r ∧ Big r, ?_, ?_⟩
    · refine ⟨_, rfl, t, l, _, rfl, T22, by decide, fun g1 H23 T23 a23 g1a g1b => ⟨rfl, _, rfl, ?_⟩⟩
      have i23 := T22.im a23.gr
      refine if_int (fun _ => ?_) (fun _ => ?_)
      · obtain ⟨b1, rfl, hb1⟩ := (hx1.im i22).im i23
        obtain ⟨b2, rfl, hb2⟩ := hx2.im i23
        unfold R.vs at hb1 hb2
        repeat walk_at "rd1"
        refine ⟨(show 4 ≤ sizeLine by decide), fun z hz => ⟨.ref z, ⟨r1.l, r2.t, r1.w, r1.h⟩, rfl, i23.trans (Im.new hz), ⟨z, rfl, SqT.of upd_same⟩, fun y hy => ?_⟩⟩
        simp at hy
        rcases hy with rfl | rfl | rfl | rfl
        · exact big1 _ (by simp)
        · exact big2 _ (by simp)
        · exact big1 _ (by simp)
        · exact big1 _ (by simp)
      · exact ⟨x2, r2, rfl, i23, hx2.im i23, big2⟩
    rintro σ H24 ⟨x, r, rfl, i24, hx, big⟩
    have i3 := i2.trans i24
    have bA : Big A := near_big nA X1 X2 Y1 Y2
    have bB : Big B := near_big nB X1 X2 Y1 Y2
    refine ⟨_, rfl, _, rfl, _, rfl, .ref p, vB, d, A, B, rfl, hA20.im i3, hB20.im i3, hd20.im i3, bA, bB, fun H25 s25 => ⟨true, rfl, iteT ?_⟩⟩
    have hx1' := ((hx1.im i22).im i24).same s25
    refine ⟨_, rfl, _, rfl, _, rfl, _, rfl, x1, x, r1, r, rfl, hx1', hx.same s25, fun y H26 s26 hy => ?_⟩
    exact ⟨x1, x, y, r1, r, rfl, hx1'.same s26, (hx.same s25).same s26, hy, big1, big, fun H' _ => k H'⟩
end
theorem all_mk {l : PySem.W.OpenLaw} {w : World} {K : PySem.W.Frag} {h : Heap} {mg : Str → Option Value} {fa : Addr} (X : K.In h) (G : h.Ns mainGlobals mg) (hfa : mg "law" = some (.ref fa))
    {f_contains f_overlap f_inside f_common f_edges f_law_tape f_law_draw f_law_inside f_law_holds f_law_common f_law_pair f_law_large f_law : Addr}
    {od_contains an_contains : Option Addr} {sl_contains : Array (Option Value)} {oc_contains kV_contains dc_contains pm_contains cd_contains ct_contains : Value}
    {od_overlap an_overlap : Option Addr} {sl_overlap : Array (Option Value)} {oc_overlap kV_overlap dc_overlap pm_overlap cd_overlap ct_overlap : Value}
    {od_inside an_inside : Option Addr} {sl_inside : Array (Option Value)} {oc_inside kV_inside dc_inside pm_inside cd_inside ct_inside : Value}
    {od_common an_common : Option Addr} {sl_common : Array (Option Value)} {oc_common kV_common dc_common pm_common cd_common ct_common : Value}
    {od_edges an_edges : Option Addr} {sl_edges : Array (Option Value)} {oc_edges kV_edges dc_edges pm_edges cd_edges ct_edges : Value}
    {od_law_tape an_law_tape : Option Addr} {sl_law_tape : Array (Option Value)} {oc_law_tape kV_law_tape dc_law_tape pm_law_tape cd_law_tape ct_law_tape : Value}
    {od_law_draw an_law_draw : Option Addr} {sl_law_draw : Array (Option Value)} {oc_law_draw kV_law_draw dc_law_draw pm_law_draw cd_law_draw ct_law_draw : Value}
    {od_law_inside an_law_inside : Option Addr} {sl_law_inside : Array (Option Value)} {oc_law_inside kV_law_inside dc_law_inside pm_law_inside cd_law_inside ct_law_inside : Value}
    {od_law_holds an_law_holds : Option Addr} {sl_law_holds : Array (Option Value)} {oc_law_holds kV_law_holds dc_law_holds pm_law_holds cd_law_holds ct_law_holds : Value}
    {od_law_common an_law_common : Option Addr} {sl_law_common : Array (Option Value)} {oc_law_common kV_law_common dc_law_common pm_law_common cd_law_common ct_law_common : Value}
    {od_law_pair an_law_pair : Option Addr} {sl_law_pair : Array (Option Value)} {oc_law_pair kV_law_pair dc_law_pair pm_law_pair cd_law_pair ct_law_pair : Value}
    {od_law_large an_law_large : Option Addr} {sl_law_large : Array (Option Value)} {oc_law_large kV_law_large dc_law_large pm_law_large cd_law_large ct_law_large : Value}
    {od_law an_law : Option Addr} {sl_law : Array (Option Value)} {oc_law kV_law dc_law pm_law cd_law ct_law : Value}
    (a_contains : PySem.W.nsIn K mainGlobals "contains" = some (some (.ref f_contains))) (l_contains : K.lookup f_contains = some ⟨oc_contains, od_contains, .func (PySem.W.fnOf "contains" "contains" (defArgs s_contains) (defBody s_contains) (defScope s_contains) .none kV_contains dc_contains pm_contains an_contains cd_contains ct_contains), sl_contains⟩) (c_contains : PySem.W.codeIn K cd_contains "contains" = true) (k_contains : PySem.W.keepIn K (.ref f_contains) = true)
    (a_overlap : PySem.W.nsIn K mainGlobals "overlap" = some (some (.ref f_overlap))) (l_overlap : K.lookup f_overlap = some ⟨oc_overlap, od_overlap, .func (PySem.W.fnOf "overlap" "overlap" (defArgs s_overlap) (defBody s_overlap) (defScope s_overlap) .none kV_overlap dc_overlap pm_overlap an_overlap cd_overlap ct_overlap), sl_overlap⟩) (c_overlap : PySem.W.codeIn K cd_overlap "overlap" = true) (k_overlap : PySem.W.keepIn K (.ref f_overlap) = true)
    (a_inside : PySem.W.nsIn K mainGlobals "inside" = some (some (.ref f_inside))) (l_inside : K.lookup f_inside = some ⟨oc_inside, od_inside, .func (PySem.W.fnOf "inside" "inside" (defArgs s_inside) (defBody s_inside) (defScope s_inside) .none kV_inside dc_inside pm_inside an_inside cd_inside ct_inside), sl_inside⟩) (c_inside : PySem.W.codeIn K cd_inside "inside" = true) (k_inside : PySem.W.keepIn K (.ref f_inside) = true)
    (a_common : PySem.W.nsIn K mainGlobals "common" = some (some (.ref f_common))) (l_common : K.lookup f_common = some ⟨oc_common, od_common, .func (PySem.W.fnOf "common" "common" (defArgs s_common) (defBody s_common) (defScope s_common) .none kV_common dc_common pm_common an_common cd_common ct_common), sl_common⟩) (c_common : PySem.W.codeIn K cd_common "common" = true) (k_common : PySem.W.keepIn K (.ref f_common) = true)
    (a_edges : PySem.W.nsIn K mainGlobals "edges" = some (some (.ref f_edges))) (l_edges : K.lookup f_edges = some ⟨oc_edges, od_edges, .func (PySem.W.fnOf "edges" "edges" (defArgs s_edges) (defBody s_edges) (defScope s_edges) .none kV_edges dc_edges pm_edges an_edges cd_edges ct_edges), sl_edges⟩) (c_edges : PySem.W.codeIn K cd_edges "edges" = true) (k_edges : PySem.W.keepIn K (.ref f_edges) = true)
    (a_law_tape : PySem.W.nsIn K mainGlobals "_law_tape" = some (some (.ref f_law_tape))) (l_law_tape : K.lookup f_law_tape = some ⟨oc_law_tape, od_law_tape, .func (PySem.W.fnOf "_law_tape" "_law_tape" (defArgs s_law_tape) (defBody s_law_tape) (defScope s_law_tape) .none kV_law_tape dc_law_tape pm_law_tape an_law_tape cd_law_tape ct_law_tape), sl_law_tape⟩) (c_law_tape : PySem.W.codeIn K cd_law_tape "_law_tape" = true) (k_law_tape : PySem.W.keepIn K (.ref f_law_tape) = true)
    (a_law_draw : PySem.W.nsIn K mainGlobals "_law_draw" = some (some (.ref f_law_draw))) (l_law_draw : K.lookup f_law_draw = some ⟨oc_law_draw, od_law_draw, .func (PySem.W.fnOf "_law_draw" "_law_draw" (defArgs s_law_draw) (defBody s_law_draw) (defScope s_law_draw) .none kV_law_draw dc_law_draw pm_law_draw an_law_draw cd_law_draw ct_law_draw), sl_law_draw⟩) (c_law_draw : PySem.W.codeIn K cd_law_draw "_law_draw" = true) (k_law_draw : PySem.W.keepIn K (.ref f_law_draw) = true)
    (a_law_inside : PySem.W.nsIn K mainGlobals "_law_inside" = some (some (.ref f_law_inside))) (l_law_inside : K.lookup f_law_inside = some ⟨oc_law_inside, od_law_inside, .func (PySem.W.fnOf "_law_inside" "_law_inside" (defArgs s_law_inside) (defBody s_law_inside) (defScope s_law_inside) .none kV_law_inside dc_law_inside pm_law_inside an_law_inside cd_law_inside ct_law_inside), sl_law_inside⟩) (c_law_inside : PySem.W.codeIn K cd_law_inside "_law_inside" = true) (k_law_inside : PySem.W.keepIn K (.ref f_law_inside) = true)
    (a_law_holds : PySem.W.nsIn K mainGlobals "_law_holds" = some (some (.ref f_law_holds))) (l_law_holds : K.lookup f_law_holds = some ⟨oc_law_holds, od_law_holds, .func (PySem.W.fnOf "_law_holds" "_law_holds" (defArgs s_law_holds) (defBody s_law_holds) (defScope s_law_holds) .none kV_law_holds dc_law_holds pm_law_holds an_law_holds cd_law_holds ct_law_holds), sl_law_holds⟩) (c_law_holds : PySem.W.codeIn K cd_law_holds "_law_holds" = true) (k_law_holds : PySem.W.keepIn K (.ref f_law_holds) = true)
    (a_law_common : PySem.W.nsIn K mainGlobals "_law_common" = some (some (.ref f_law_common))) (l_law_common : K.lookup f_law_common = some ⟨oc_law_common, od_law_common, .func (PySem.W.fnOf "_law_common" "_law_common" (defArgs s_law_common) (defBody s_law_common) (defScope s_law_common) .none kV_law_common dc_law_common pm_law_common an_law_common cd_law_common ct_law_common), sl_law_common⟩) (c_law_common : PySem.W.codeIn K cd_law_common "_law_common" = true) (k_law_common : PySem.W.keepIn K (.ref f_law_common) = true)
    (a_law_pair : PySem.W.nsIn K mainGlobals "_law_pair" = some (some (.ref f_law_pair))) (l_law_pair : K.lookup f_law_pair = some ⟨oc_law_pair, od_law_pair, .func (PySem.W.fnOf "_law_pair" "_law_pair" (defArgs s_law_pair) (defBody s_law_pair) (defScope s_law_pair) .none kV_law_pair dc_law_pair pm_law_pair an_law_pair cd_law_pair ct_law_pair), sl_law_pair⟩) (c_law_pair : PySem.W.codeIn K cd_law_pair "_law_pair" = true) (k_law_pair : PySem.W.keepIn K (.ref f_law_pair) = true)
    (a_law_large : PySem.W.nsIn K mainGlobals "_law_large" = some (some (.ref f_law_large))) (l_law_large : K.lookup f_law_large = some ⟨oc_law_large, od_law_large, .func (PySem.W.fnOf "_law_large" "_law_large" (defArgs s_law_large) (defBody s_law_large) (defScope s_law_large) .none kV_law_large dc_law_large pm_law_large an_law_large cd_law_large ct_law_large), sl_law_large⟩) (c_law_large : PySem.W.codeIn K cd_law_large "_law_large" = true) (k_law_large : PySem.W.keepIn K (.ref f_law_large) = true)
    (a_law : PySem.W.nsIn K mainGlobals "law" = some (some (.ref f_law))) (l_law : K.lookup f_law = some ⟨oc_law, od_law, .func (PySem.W.fnOf "law" "law" (defArgs s_law) (defBody s_law) (defScope s_law) .none kV_law dc_law pm_law an_law cd_law ct_law), sl_law⟩) (c_law : PySem.W.codeIn K cd_law "law" = true) (k_law : PySem.W.keepIn K (.ref f_law) = true)
    (z_abs : PySem.W.nsIn K mainGlobals "abs" = some none) (z_int : PySem.W.nsIn K mainGlobals "int" = some none) (z_len : PySem.W.nsIn K mainGlobals "len" = some none) (z_list : PySem.W.nsIn K mainGlobals "list" = some none) (z_max : PySem.W.nsIn K mainGlobals "max" = some none) (z_min : PySem.W.nsIn K mainGlobals "min" = some none) (z_range : PySem.W.nsIn K mainGlobals "range" = some none) (z_repr : PySem.W.nsIn K mainGlobals "repr" = some none) :
    ∃ fd : FuncData, (∀ (s : Shared) (v : Value), BindsTo s fd ⟨[v], []⟩ [("script", v)]) ∧ ∀ base : Heap, K.In base → base.Ns mainGlobals mg → FnG l.prog w K mg base 5 fa fd ["script"] (spLaw K) := by
  have e := hfa.symm.trans (PySem.W.mg_of X G a_law)
  cases e
  have MB : Blt mg := ⟨PySem.W.mg_none_of X G z_abs, PySem.W.mg_none_of X G z_int, PySem.W.mg_none_of X G z_len, PySem.W.mg_none_of X G z_list, PySem.W.mg_none_of X G z_max, PySem.W.mg_none_of X G z_min, PySem.W.mg_none_of X G z_range, PySem.W.mg_none_of X G z_repr⟩
  have A_contains : At K mg "contains" s_contains := ⟨_, _, PySem.W.mg_of X G a_contains, fun_mk (st := s_contains) l_contains c_contains k_contains⟩
  have A_overlap : At K mg "overlap" s_overlap := ⟨_, _, PySem.W.mg_of X G a_overlap, fun_mk (st := s_overlap) l_overlap c_overlap k_overlap⟩
  have A_inside : At K mg "inside" s_inside := ⟨_, _, PySem.W.mg_of X G a_inside, fun_mk (st := s_inside) l_inside c_inside k_inside⟩
  have A_common : At K mg "common" s_common := ⟨_, _, PySem.W.mg_of X G a_common, fun_mk (st := s_common) l_common c_common k_common⟩
  have A_edges : At K mg "edges" s_edges := ⟨_, _, PySem.W.mg_of X G a_edges, fun_mk (st := s_edges) l_edges c_edges k_edges⟩
  have A_law_tape : At K mg "_law_tape" s_law_tape := ⟨_, _, PySem.W.mg_of X G a_law_tape, fun_mk (st := s_law_tape) l_law_tape c_law_tape k_law_tape⟩
  have A_law_draw : At K mg "_law_draw" s_law_draw := ⟨_, _, PySem.W.mg_of X G a_law_draw, fun_mk (st := s_law_draw) l_law_draw c_law_draw k_law_draw⟩
  have A_law_inside : At K mg "_law_inside" s_law_inside := ⟨_, _, PySem.W.mg_of X G a_law_inside, fun_mk (st := s_law_inside) l_law_inside c_law_inside k_law_inside⟩
  have A_law_holds : At K mg "_law_holds" s_law_holds := ⟨_, _, PySem.W.mg_of X G a_law_holds, fun_mk (st := s_law_holds) l_law_holds c_law_holds k_law_holds⟩
  have A_law_common : At K mg "_law_common" s_law_common := ⟨_, _, PySem.W.mg_of X G a_law_common, fun_mk (st := s_law_common) l_law_common c_law_common k_law_common⟩
  have A_law_pair : At K mg "_law_pair" s_law_pair := ⟨_, _, PySem.W.mg_of X G a_law_pair, fun_mk (st := s_law_pair) l_law_pair c_law_pair k_law_pair⟩
  have A_law_large : At K mg "_law_large" s_law_large := ⟨_, _, PySem.W.mg_of X G a_law_large, fun_mk (st := s_law_large) l_law_large c_law_large k_law_large⟩
  have A_law : At K mg "law" s_law := ⟨_, _, PySem.W.mg_of X G a_law, fun_mk (st := s_law) l_law c_law k_law⟩
  refine ⟨PySem.W.fnOf "law" "law" (defArgs s_law) (defBody s_law) (defScope s_law) .none kV_law dc_law pm_law an_law cd_law ct_law, fun s v => .of_eq rfl, fun base _ _ => ?_⟩
  have D_contains := df_contains (P := l.prog) (w := w) (base := base) MB A_contains
  have D_edges := df_edges (P := l.prog) (w := w) (base := base) MB A_edges
  have D_inside := df_inside (P := l.prog) (w := w) (base := base) MB A_inside D_edges
  have D_common := df_common (P := l.prog) (w := w) (base := base) MB A_common D_edges
  have D_overlap := df_overlap (P := l.prog) (w := w) (base := base) MB A_overlap D_common
  have D_law_tape := df_law_tape (P := l.prog) (w := w) (base := base) MB A_law_tape
  have D_law_draw := df_law_draw (P := l.prog) (w := w) (base := base) MB A_law_draw
  have D_law_inside := df_law_inside (P := l.prog) (w := w) (base := base) MB A_law_inside
  have D_law_holds := df_law_holds (P := l.prog) (w := w) (base := base) MB A_law_holds
  have D_law_common := df_law_common (P := l.prog) (w := w) (base := base) MB A_law_common
  have D_law_pair := df_law_pair (P := l.prog) (w := w) (base := base) MB A_law_pair D_overlap D_inside D_common D_law_inside
  have D_law_large := df_law_large (P := l.prog) (w := w) (base := base) MB A_law_large D_law_draw
  exact fn_law MB (fun_mk (st := s_law) l_law c_law k_law) D_law_tape D_law_large D_law_draw D_law_pair D_law_common D_contains D_law_holds

end Cs
open PySem PySem.W PyProof.Rows
set_option maxRecDepth 100000 in
set_option maxHeartbeats 0 in
theorem PySem.Challenge.cw_chartspec_k37_rectangles_by_their_pixels_holds : PySem.Challenge.rw_chartspec_k37_rectangles_by_their_pixels.Holds := by
  w_on; o_law; k_head; (case hw => w_witness2)
  k_fill
  refine Cs.walkG (k := 5) (x := "script") (sp := Cs.spLaw) (l := PySem.Challenge.rw_chartspec_k37_rectangles_by_their_pixels) rfl (by decide) rfl ⟨rfl, by decide, by decide⟩ (fun w h Y => PySem.W.kIn_of Y) ?F Cs.law_start
  case F =>
    intro w mg fa h KX G hmg
    refine' Cs.all_mk KX G hmg ?a_contains ?l_contains ?c_contains ?k_contains ?a_overlap ?l_overlap ?c_overlap ?k_overlap ?a_inside ?l_inside ?c_inside ?k_inside ?a_common ?l_common ?c_common ?k_common ?a_edges ?l_edges ?c_edges ?k_edges ?a_law_tape ?l_law_tape ?c_law_tape ?k_law_tape ?a_law_draw ?l_law_draw ?c_law_draw ?k_law_draw ?a_law_inside ?l_law_inside ?c_law_inside ?k_law_inside ?a_law_holds ?l_law_holds ?c_law_holds ?k_law_holds ?a_law_common ?l_law_common ?c_law_common ?k_law_common ?a_law_pair ?l_law_pair ?c_law_pair ?k_law_pair ?a_law_large ?l_law_large ?c_law_large ?k_law_large ?a_law ?l_law ?c_law ?k_law ?z_abs ?z_int ?z_len ?z_list ?z_max ?z_min ?z_range ?z_repr
    (case a_contains => k_is)
    (case l_contains => k_is)
    (case c_contains => k_is)
    (case k_contains => k_is)
    (case a_overlap => k_is)
    (case l_overlap => k_is)
    (case c_overlap => k_is)
    (case k_overlap => k_is)
    (case a_inside => k_is)
    (case l_inside => k_is)
    (case c_inside => k_is)
    (case k_inside => k_is)
    (case a_common => k_is)
    (case l_common => k_is)
    (case c_common => k_is)
    (case k_common => k_is)
    (case a_edges => k_is)
    (case l_edges => k_is)
    (case c_edges => k_is)
    (case k_edges => k_is)
    (case a_law_tape => k_is)
    (case l_law_tape => k_is)
    (case c_law_tape => k_is)
    (case k_law_tape => k_is)
    (case a_law_draw => k_is)
    (case l_law_draw => k_is)
    (case c_law_draw => k_is)
    (case k_law_draw => k_is)
    (case a_law_inside => k_is)
    (case l_law_inside => k_is)
    (case c_law_inside => k_is)
    (case k_law_inside => k_is)
    (case a_law_holds => k_is)
    (case l_law_holds => k_is)
    (case c_law_holds => k_is)
    (case k_law_holds => k_is)
    (case a_law_common => k_is)
    (case l_law_common => k_is)
    (case c_law_common => k_is)
    (case k_law_common => k_is)
    (case a_law_pair => k_is)
    (case l_law_pair => k_is)
    (case c_law_pair => k_is)
    (case k_law_pair => k_is)
    (case a_law_large => k_is)
    (case l_law_large => k_is)
    (case c_law_large => k_is)
    (case k_law_large => k_is)
    (case a_law => k_is)
    (case l_law => k_is)
    (case c_law => k_is)
    (case k_law => k_is)
    (case z_abs => k_is)
    (case z_int => k_is)
    (case z_len => k_is)
    (case z_list => k_is)
    (case z_max => k_is)
    (case z_min => k_is)
    (case z_range => k_is)
    (case z_repr => k_is)
#print axioms PySem.Challenge.cw_chartspec_k37_rectangles_by_their_pixels_holds

