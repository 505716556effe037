import PyProof.Rows.All
import Wide.All
import OpenK.AllK
import Wide.FinOn
import HandS.Base
import HandS.Call
import HandS.List
import HandS.Comp
import HandS.Ends
import HandS.Iter
import HandS.Text
import HandS.Words
import HandS.WordsList
import HandS.TupAny
import HandS.TupLe
import HandS.Rev
import HandS.Style
import HandS.Flow
import HandS.IsInst
import HandS.Codes
import HandS.FStrTup
import HandS.Walk
import HandS.More
import PyProof.StrBlock2
import PySem.Challenge.RW_chartspec_k42_pixels_that_shapes_cover
set_option Elab.async false
set_option linter.all false
set_option maxRecDepth 100000
set_option maxHeartbeats 4000000
/-! The layer's promises with one thing more: no repr is under way (A.guards = some []). -/
namespace Cs
open PySem PySem.Spec PyProof.Rows L2

/-- a def's promise, given where no repr is under way -/
structure FnG (P : Program) (w : World) (K : PySem.W.Frag) (mg : Str → Option Value) (base : Heap) (k : Nat) (f : Addr) (fd : FuncData) (ps : List Str) (sp : Sp) : Prop where
  len : ∀ vs H Q E, sp vs H Q E → vs.length = ps.length
  go : ∀ (A : Around) (out : List Env) (s : Shared) (H : Hp) (args : Args) (us : List Value) (vs : List V) (Q : VK) (E : XK),
    Room k A → A.guards = some [] → Env0 P w K mg base A out s H → BindsTo s fd args (ps.zip us) → Vals vs us → sp vs H Q E →
    codeAny (model P w) A (.call (.ref f) args) (CR CX0 out P w H s Q E) s

section
variable {P : Program} {w : World} {K : PySem.W.Frag} {mg : Str → Option Value} {base : Heap}

/-- the contexts of bodies: as cxOf, nothing leaves the def -/
abbrev cxG (P : Program) (w : World) (K : PySem.W.Frag) (mg : Str → Option Value) (base : Heap) (N : List Str) (qual : Str) (sc : Scope) (f : Addr) (cd : Value) (A : Around) (out : List Env) (s : Shared) (H : Hp) (E : XK) : Cx :=
  (cxOf CX0 P w K mg base N qual sc f cd A out s H E).nox

/-- a def by its body -/
theorem FnG.of {x qual : Str} {st : Stmt} {f : Addr} {fd : FuncData} {N ps : List Str} {k : Nat} {sp : Sp} (F : Fun K x qual st f fd) (S : FnScope N ps (defScope st)) (len : ∀ vs H Q E, sp vs H Q E → vs.length = ps.length)
    (body : ∀ (cdv : Value) (A : Around) (out : List Env) (s : Shared) (H : Hp) (vs : List V) (Q : VK) (E : XK), Room k (A.deeper (envOfC qual (defScope st) s.heap.objs.size f cdv)) → A.guards = some [] → sp vs H Q E →
      ∃ t, PSs (cxG P w K mg base N qual (defScope st) f cdv A out s H E) (defBody st) t ∧ t { nx := fun _ H' => Q .non H', rt := Q } (start N vs) H) :
    FnG P w K mg base (k + 1) f fd ps sp := by
  obtain ⟨oc, od, kV, doc, pm, an, cdv, ct, osl, rfl, lk, hcd⟩ := F.ex
  refine ⟨len, fun A out s H args us vs Q E hr hg e0 hb r hsp => ?_⟩
  have hl := len _ _ _ _ hsp
  have inK : K.In s.heap := e0.mod.kin.keeps fun b o e => (e0.bs b o e).1
  have noL : s.heap.NoLimit := e0.mod.nolimit.keeps fun b o e => (e0.bs b o e).1
  refine codeAny_call_function hr.depth (inK _ _ lk) rfl S.co S.gen rfl (PySem.W.codeRec_of inK hcd) (hb _ _ _ _ ?_)
  refine wpAny_newFunctionEnv_cells S.kind (fun y hy => ?_) fun env he s1 x => ?_
  · rcases S.par y.1 (List.of_mem_zip (show (y.1, y.2) ∈ ps.zip us from hy)).1 with q | q
    · exact Or.inl q
    · exact Or.inr ⟨q, PySem.W.cellsFrom_some _ _ _ (Or.inl q)⟩
  · subst he
    refine ⟨noL.keeps x.toInCall.keep, codeAny_func ?_⟩
    obtain ⟨t, ht, hq⟩ := body cdv A out s H vs Q E (hr.deeper _) hg hsp
    have I : Inv (cxOf CX0 P w K mg base N qual (defScope st) f cdv A out s H E) [] (start N vs) H s1 := inv_start S hr.hd e0 hl r x
    refine wpAny_mono (ht.nox.run [] s1 (start N vs) H _ I hq) (fun fl s' hs => ?_) fun e s' hs => hs
    have fin : ∀ {σ' : L2.St} {H' : Hp} {v : V} {u : Value}, Inv (cxOf CX0 P w K mg base N qual (defScope st) f cdv A out s H E) [] σ' H' s' → RelV v u → Q v H' → CE out P w H s Q u s' :=
      fun {σ' H' v u} J rv q => ⟨v, H', J.os, J.bare, J.base, J.hok, rv, q⟩
    cases fl with
    | next =>
      obtain ⟨σ', H', J, q⟩ := hs
      exact fin (v := V.non) (u := Value.none) J rfl q
    | ret u =>
      obtain ⟨v, σ', H', J, rv, q⟩ := hs
      exact fin J rv q
    | brk =>
      obtain ⟨_, _, _, q⟩ := hs
      exact q.elim
    | cont =>
      obtain ⟨_, _, _, q⟩ := hs
      exact q.elim
end

section
variable {X : Cx} {k : Nat} {f : Addr} {fd : FuncData} {ps : List Str} {sp : Sp} {x : Str} {p pos : Pos} {e : Expr} {es : List Expr} {t : TA}
theorem goFn {pins : List (Addr × Obj)} {σ : L2.St} {H : Hp} {s : Shared} {Q : VK} {us : List Value} {vs : List V} (F : FnG X.prog X.w X.K X.mg X.base k f fd ps sp) (hr : Room k X.A) (hg : X.A.guards = some []) (hb : Binds X.K fd ps [])
    (I : Inv X pins σ H s) (r : Vals vs us) (h : sp vs H Q E0) : wpAny (model X.prog X.w) X.A (call (.ref f) us) (EP X pins σ Q) X.xe s := by
  have hl : (us ++ []).length = ps.length := by rw [List.append_nil, ← r.length]; exact F.len _ _ _ _ h
  have hb' := hb s us I.kIn hl
  rw [List.append_nil] at hb'
  refine wpAny_call (codeAny_mono (F.go X.A X.stack s H ⟨us, []⟩ us vs Q E0 hr hg I.env0 hb' r h) fun r s' hq => ?_)
  match r, hq with
  | .ok (.ret u), hq => exact I.after hq
  | .error e, hq => exact False.elim hq
  | .ok .next, hq => exact False.elim hq
  | .ok .brk, hq => exact False.elim hq
  | .ok .cont, hq => exact False.elim hq
/-- f(a, ..): the callee's promise -/
def tFn (sp : Sp) (t : TA) : TE := fun σ H Q => t σ H fun vs H1 => sp vs H1 Q E0
theorem pe_fn (F : FnG X.prog X.w X.K X.mg X.base k f fd ps sp) (hr : Room k X.A) (hgd : X.A.guards = some []) (hg : Gl X x) (hm : X.mg x = some (.ref f)) (hk : PySem.W.keepIn X.K (.ref f) = true) (hb : Binds X.K fd ps [])
    (ha : PA X (e :: es) t) (hdb : (x == ("__debug__" : Str)) = false := by decide) (he : starEach (e :: es) X.env = (false, eval e X.env) :: starEach es X.env := by rfl) (hpl : (backTo pos (starEach es X.env)).any (·.1) = false := by rfl) :
    PE X (.Call (.Name x p) (e :: es) [] pos) (tFn sp t) := by
  refine ⟨fun pins s σ H Q I h => wpAny_Call_Name_kw (ld_glob I hg hm ?_ hdb)⟩
  refine PySem.W.callWith_K (h₀ := X.base) I.ok.mod.kin hk (thn (ha.run pos pins s σ H _ I h) fun us s1 ⟨vs, H1, I1, r, q⟩ => ⟨I1.kIn, ?_⟩) he hpl
  exact goFn F hr hgd hb I1 r q
theorem pe_fn0 (F : FnG X.prog X.w X.K X.mg X.base k f fd ps sp) (hr : Room k X.A) (hgd : X.A.guards = some []) (hg : Gl X x) (hm : X.mg x = some (.ref f)) (hk : PySem.W.keepIn X.K (.ref f) = true) (hb : Binds X.K fd ps [])
    (hdb : (x == ("__debug__" : Str)) = false := by decide) : PE X (.Call (.Name x p) [] [] pos) (tFn sp tNil) := by
  refine ⟨fun pins s σ H Q I h => wpAny_Call_Name_kw (ld_glob I hg hm ?_ hdb)⟩
  exact PySem.W.callWith_K0 I.kIn hk (goFn (us := []) F hr hgd hb I .nil h)

/-- repr(x) of data: what stands in the text -/
def rRepr (K : PySem.W.Frag) : List V → Hp → VK → Prop := fun vs H Q => ∃ (x : V) (d : PyData), vs = [x] ∧ Dp K H x d ∧ d.showable = true ∧ d.hasDict = false ∧ d.depth ≤ 40 ∧ d.shown.length ≤ sizeLine ∧ Q (.str d.shown) H
theorem call_repr (hu : X.A.units + 64 < cLine) (hg : X.A.guards = some []) : CallR X (.builtin "repr") (rRepr X.K) := by
  intro pins s σ H vs us Q I r h
  obtain ⟨x, d, rfl, hd, sh, nd, dp, sz, q⟩ := h
  cases r with
  | cons r1 rr =>
    cases rr
    rename_i u
    obtain ⟨as, rd⟩ := Dp.reads I d x u hd r1
    cases hd with
    | non =>
      cases r1
      exact PySem.P.repr_of_none ⟨.str _, H, I.tok _, ⟨_, rfl⟩, q⟩
    | bl b =>
      cases r1
      exact PySem.P.repr_of_bool ⟨.str _, H, I.tok _, ⟨_, rfl⟩, q⟩
    | int i =>
      obtain ⟨t, rfl⟩ := r1
      exact PySem.P.repr_of_int (of_decide_eq_true sh) ⟨.str _, H, I.tok _, ⟨_, rfl⟩, q⟩
    | str z =>
      obtain ⟨t, rfl⟩ := r1
      exact PySem.P.repr_of_str ⟨.str _, H, I.tok _, ⟨_, rfl⟩, q⟩ sz
    | lst h1 h2 =>
      cases r1
      exact repr_of_reads' rd sh (PyData.noDict_hsm nd) hg (by omega) (fun _ _ e => e) (fun h1 u tk hk => ⟨.str _, H, I.kept hk, ⟨u, rfl⟩, q⟩) sz
    | tup h1 h2 =>
      cases r1
      exact repr_of_reads' rd sh (PyData.noDict_hsm nd) hg (by omega) (fun _ _ e => e) (fun h1 u tk hk => ⟨.str _, H, I.kept hk, ⟨u, rfl⟩, q⟩) sz
end
end Cs

set_option maxRecDepth 100000
set_option maxHeartbeats 4000000
namespace Cs
open PySem PySem.Spec PyProof.Rows L2

/-- what is tracked at the law's entry: the script, locked -/
def hpOf (a : Addr) (o : Obj) (xs : List V) : Hp := fun b => if b = a then some (.frz o (.lst xs)) else none
theorem hpOf_some {a b : Addr} {o : Obj} {xs : List V} {u : HO} (h : hpOf a o xs b = some u) : b = a ∧ u = .frz o (.lst xs) := by
  unfold hpOf at h
  by_cases e : b = a
  · rw [if_pos e] at h
    exact ⟨e, (Option.some.inj h).symm⟩
  · rw [if_neg e] at h
    cases h
theorem hpOf_at {a : Addr} {o : Obj} {xs : List V} : hpOf a o xs a = some (.frz o (.lst xs)) := if_pos rfl

section
variable {P : Program} {w : World} {K : PySem.W.Frag} {mg mb : Str → Option Value} {k : Nat} {fa a : Addr} {fd : FuncData} {x : Str} {sp : Sp} {s₁ : Shared} {vs : List Value} {ns : List Int}

/-- one run of the law from an abstract heap H that tracks no more than the script -/
theorem law_from (H : Hp) (inK : K.In s₁.heap) (hns : s₁.heap.Ns mainGlobals mg) (hb : s₁.heap.Ns builtinsNs mb) (hbb : ∀ y : Str, y ≠ "__name__" → mb y = bootBuiltins y) (hlim : s₁.heap.NoLimit) (hg : s₁.gens = #[])
    (ha : s₁.heap.get? a = some { cls := .type "list", data := .seq vs.toArray }) (hr : Room k callerA)
    (F : ∀ base : Heap, K.In base → base.Ns mainGlobals mg → FnG P w K mg base k fa fd [x] sp) (hbind : ∀ (s : Shared) (u : Value), BindsTo s fd ⟨[u], []⟩ [(x, u)])
    (hS : sp [.ref a] H (fun v _ => v = .bl true) E0) (hok : HOk P w H s₁.heap) (one : ∀ b u, H b = some u → b = a ∧ ∃ o xs, u = .frz o (.lst xs)) (off : ∀ u, H a = some u → K.lookup a = none) :
    codeAny (model P w) callerA (.call (.ref fa) ⟨[.ref a], []⟩) (fun r s' => r = .ok (.ret (.bool true)) ∧ OldK s₁.heap s'.heap ∧ s'.os = s₁.os ∧ AllBare s'.gens) s₁ := by
  have none_of : ∀ {b : Addr}, b ≠ a → H b = none := fun {b} n => by
    cases e : H b with
    | none => rfl
    | some u => exact absurd (one b u e).1 n
  have ns_keep : ∀ {b : Addr} {m : Str → Option Value}, s₁.heap.Ns b m → (hidT s₁.heap H).Ns b m := fun {b m} ⟨o, es, ep, e, d, q⟩ => by
    refine ⟨o, es, ep, hidT_get e (none_of fun z => ?_), d, q⟩
    rw [z, ha] at e
    cases e
    cases (show Data.seq vs.toArray _ = Data.dict es ep from d)
  have kb : K.In (hidT s₁.heap H) := fun b o e => by
    refine hidT_get (inK b o e) ?_
    cases q : H b with
    | none => rfl
    | some u =>
      obtain ⟨z, _⟩ := one b u q
      rw [z] at q e
      rw [off u q] at e
      cases e
  obtain ⟨mc, c1, c2⟩ := hlim
  have md : Mod K mg (hidT s₁.heap H) := ⟨kb, ns_keep hns, ⟨mb, ns_keep hb, hbb⟩, ⟨mc, ns_keep c1, c2⟩⟩
  have e0 : Env0 P w K mg (hidT s₁.heap H) callerA [] s₁ H :=
    ⟨rfl, md, fun _ _ e => of_hidT e, Nat.le_of_eq (hidT_size _ _), trivial, (fun b hm => absurd (show b ∈ ([] : List Addr) from hm) List.not_mem_nil), hok, .of_eq hg⟩
  refine codeAny_mono ((F _ kb (ns_keep hns)).go callerA [] s₁ H ⟨[.ref a], []⟩ [.ref a] [.ref a] _ _ hr rfl e0 (hbind s₁ (.ref a)) (.cons rfl .nil) hS) fun r s' h => ?_
  match r, h with
  | .error e, h => exact False.elim h
  | .ok .next, h => exact False.elim h
  | .ok .brk, h => exact False.elim h
  | .ok .cont, h => exact False.elim h
  | .ok (.ret u), ⟨v, H', os, bare, un, hok', rv, q⟩ =>
    cases (show v = V.bl true from q)
    cases (show u = Value.bool true from rv)
    refine ⟨rfl, OldK.of_keep fun b o e => ?_, os, bare⟩
    cases q : H b with
    | none => exact un.keep b o e q (fun z => absurd (show b ∈ ([] : List Addr) from z) List.not_mem_nil) (fun z => absurd (show b ∈ ([] : List Addr) from z) List.not_mem_nil)
    | some u =>
      obtain ⟨_, ob, xs, z⟩ := one b u q
      subst z
      obtain ⟨g1, _⟩ := hok b _ q
      obtain ⟨g2, _⟩ := hok' b _ (un.frzs b ob _ q)
      rw [e] at g1
      cases g1
      exact g2

theorem law_run (inK : K.In s₁.heap) (hns : s₁.heap.Ns mainGlobals mg) (hb : s₁.heap.Ns builtinsNs mb) (hbb : ∀ y : Str, y ≠ "__name__" → mb y = bootBuiltins y) (hlim : s₁.heap.NoLimit) (hg : s₁.gens = #[])
    (ha : s₁.heap.get? a = some { cls := .type "list", data := .seq vs.toArray }) (hi : IntsAre vs ns) (hl : ns.length ≤ sizeLine) (hr : Room k callerA)
    (F : ∀ base : Heap, K.In base → base.Ns mainGlobals mg → FnG P w K mg base k fa fd [x] sp) (hbind : ∀ (s : Shared) (u : Value), BindsTo s fd ⟨[u], []⟩ [(x, u)])
    (hsp : ∀ H : Hp, SqL K H a (ns.map V.int) → sp [.ref a] H (fun v _ => v = .bl true) E0) :
    codeAny (model P w) callerA (.call (.ref fa) ⟨[.ref a], []⟩) (fun r s' => r = .ok (.ret (.bool true)) ∧ OldK s₁.heap s'.heap ∧ s'.os = s₁.os ∧ AllBare s'.gens) s₁ := by
  have rv := vals_ints hi
  have hl2 : (ns.map V.int).length ≤ sizeLine := by rw [List.length_map]; exact hl
  have hl3 : vs.length ≤ sizeLine := by rw [← rv.length]; exact hl2
  cases hk : K.lookup a with
  | none =>
    refine law_from (hpOf a { cls := .type "list", data := .seq vs.toArray } (ns.map V.int)) inK hns hb hbb hlim hg ha hr F hbind (hsp _ (.inl (.inr ⟨_, hpOf_at⟩))) (fun b u e => ?_) (fun b u e => ?_) fun _ _ => hk
    · obtain ⟨rfl, rfl⟩ := hpOf_some e
      exact ⟨ha, hl2, vs, _, rv, ha⟩
    · obtain ⟨z, q⟩ := hpOf_some e
      exact ⟨z, _, _, q⟩
  | some o =>
    have e := inK a o hk
    rw [ha] at e
    cases e
    exact law_from (fun _ => none) inK hns hb hbb hlim hg ha hr F hbind (hsp _ (.inr ⟨_, vs.toArray, _, hk, rfl, rfl, rfl, by rw [List.size_toArray]; exact hl3, by simpa using rv⟩)) (fun _ u e => absurd (show (none : Option HO) = some u from e) (by simp)) (fun _ u e => absurd (show (none : Option HO) = some u from e) (by simp)) fun u e => absurd (show (none : Option HO) = some u from e) (by simp)
end

/-- the law's row from the law's promise -/
theorem walkG {l : PySem.W.OpenLaw} {n k : Nat} {q : Program} {loose : List Str} {XP : (Str → Option Value) → Heap → Prop} {YP : World → Heap → Prop} {d : DefRec} {K : Params → PySem.W.Frag} {sp : PySem.W.Frag → Sp} {x : Str}
    (hn : l.most = some n) (hn2 : n ≤ sizeLine) (hdf : d.params.defaults = []) (hr : Room k callerA)
    (hY : ∀ (w : World) (h : Heap), YP w h → (K w.params).In h)
    (F : ∀ (w : World) (mg : Str → Option Value) (fa : Addr) (h : Heap), (K w.params).In h → h.Ns mainGlobals mg → mg d.name = some (.ref fa) →
      ∃ fd : FuncData, (∀ (s : Shared) (u : Value), BindsTo s fd ⟨[u], []⟩ [(x, u)]) ∧
        ∀ base : Heap, (K w.params).In base → base.Ns mainGlobals mg → FnG l.prog w (K w.params) mg base k fa fd [x] (sp (K w.params)))
    (hsp : ∀ (K : PySem.W.Frag) (H : Hp) (a : Addr) (ns : List Int), ns.length ≤ n → SqL K H a (ns.map V.int) → sp K [.ref a] H (fun v _ => v = .bl true) E0) :
    PySem.W.WalkO q loose XP YP l.row.toRowW d [] (fun f vs => PySem.call f vs) := by
  refine Att.attach_call hn hdf fun w s₀ s₁ mg mb fa o pm cd doc a vs ns G Y ho hd hcd hmg hobj hints hlen hg => ?_
  have inK := hY w _ Y
  obtain ⟨fd, hb, hF⟩ := F w mg fa _ inK G.T.g hmg
  exact law_run inK G.T.g G.T.b G.T.builtins G.T.nolimit hg hobj hints (Nat.le_trans hlen hn2) hr hF hb fun H hS => hsp (K w.params) H a ns hlen hS
end Cs

set_option maxRecDepth 100000
set_option maxHeartbeats 4000000
namespace Cs
open PySem PySem.Spec PyProof.Rows L2

/-! ### a def that stands in the text and keeps a promise -/
def At (K : PySem.W.Frag) (mg : Str → Option Value) (x : Str) (st : Stmt) : Prop := ∃ (f : Addr) (fd : FuncData), mg x = some (.ref f) ∧ Fun K x x st f fd
def Df (P : Program) (w : World) (K : PySem.W.Frag) (mg : Str → Option Value) (base : Heap) (k : Nat) (x : Str) (ps : List Str) (sp : Sp) : Prop :=
  ∃ (f : Addr) (fd : FuncData), mg x = some (.ref f) ∧ PySem.W.keepIn K (.ref f) = true ∧ Binds K fd ps [] ∧ FnG P w K mg base k f fd ps sp
section
variable {P : Program} {w : World} {K : PySem.W.Frag} {mg : Str → Option Value} {base : Heap}
theorem Df.of {x : Str} {st : Stmt} {N ps : List Str} {k : Nat} {sp : Sp} (A : At K mg x st)
    (bd : ∀ (kV doc pm : Value) (an : Option Addr) (cdv ct : Value) (us : List Value), us.length = ps.length → bindArgs (PySem.W.fnOf x x (defArgs st) (defBody st) (defScope st) .none kV doc pm an cdv ct) ⟨us, []⟩ = pure (ps.zip us))
    (S : FnScope N ps (defScope st)) (len : ∀ vs H Q E, sp vs H Q E → vs.length = ps.length)
    (body : ∀ (cdv : Value) (A : Around) (out : List Env) (f : Addr) (s : Shared) (H : Hp) (vs : List V) (Q : VK) (E : XK), Room k (A.deeper (envOfC x (defScope st) s.heap.objs.size f cdv)) → A.guards = some [] → sp vs H Q E →
      ∃ t, PSs (cxG P w K mg base N x (defScope st) f cdv A out s H E) (defBody st) t ∧ t { nx := fun _ H' => Q .non H', rt := Q } (start N vs) H) :
    Df P w K mg base (k + 1) x ps sp := by
  obtain ⟨f, fd, m, F⟩ := A
  exact ⟨f, fd, m, F.kp, F.binds bd, FnG.of F S len fun cdv A out s H vs Q E hr hg h => body cdv A out f s H vs Q E hr hg h⟩
end
section
variable {X : Cx} {k : Nat} {ps : List Str} {sp : Sp} {x : Str} {p pos : Pos} {e : Expr} {es : List Expr} {t : TA}
theorem pe_df (D : Df X.prog X.w X.K X.mg X.base k x ps sp) (hr : Room k X.A) (hgd : X.A.guards = some []) (hg : Gl X x)
    (ha : PA X (e :: es) t) (hdb : (x == ("__debug__" : Str)) = false := by decide) (he : starEach (e :: es) X.env = (false, eval e X.env) :: starEach es X.env := by rfl) (hpl : (backTo pos (starEach es X.env)).any (·.1) = false := by rfl) :
    PE X (.Call (.Name x p) (e :: es) [] pos) (tFn sp t) := by
  obtain ⟨f, fd, m, kp, b, G⟩ := D
  exact pe_fn G hr hgd hg m kp b ha hdb he hpl
theorem pe_df0 (D : Df X.prog X.w X.K X.mg X.base k x ps sp) (hr : Room k X.A) (hgd : X.A.guards = some []) (hg : Gl X x) (hdb : (x == ("__debug__" : Str)) = false := by decide) :
    PE X (.Call (.Name x p) [] [] pos) (tFn sp tNil) := by
  obtain ⟨f, fd, m, kp, b, G⟩ := D
  exact pe_fn0 G hr hgd hg m kp b hdb
end

/-! ### heaps -/
/-- all but t is as it was -/
def Al (t : Addr) (H H' : Hp) : Prop := ∀ b, b ≠ t → H' b = H b
/-- all that was tracked, but t, is as it was -/
def Gr (t : Addr) (H H' : Hp) : Prop := ∀ b o, H b = some o → b ≠ t → H' b = some o
theorem Al.gr {t : Addr} {H H' : Hp} (a : Al t H H') : Gr t H H' := fun b o e n => by rw [a b n]; exact e
theorem Al.upd {t : Addr} {H : Hp} {o : HO} : Al t H (upd H t o) := fun b n => upd_ne n
theorem Al.trans {t : Addr} {H H1 H2 : Hp} (a : Al t H H1) (b : Al t H1 H2) : Al t H H2 := fun c n => (b c n).trans (a c n)
theorem Al.free {t b : Addr} {H H' : Hp} (a : Al t H H') (n : b ≠ t) (h : H' b = none) : H b = none := by rw [← a b n]; exact h
theorem Gr.refl (t : Addr) (H : Hp) : Gr t H H := fun _ _ e _ => e
theorem Gr.trans {t : Addr} {H H1 H2 : Hp} (a : Gr t H H1) (b : Gr t H1 H2) : Gr t H H2 := fun c o e n => b c o (a c o e n) n
theorem Gr.of {t : Addr} {H H' : Hp} (a : Same H H') : Gr t H H' := fun b o e _ => a b o e
theorem Gr.free {t b : Addr} {H H' : Hp} (a : Gr t H H') (n : b ≠ t) (h : H' b = none) : H b = none := by
  cases e : H b with
  | none => rfl
  | some o =>
    rw [a b o e n] at h
    cases h
theorem Same.new {p : Addr} {H : Hp} {o : HO} (h : H p = none) : Same H (upd H p o) := fun b u e => by rw [upd_ne (ne_of_none e h)]; exact e
theorem Gr.new {t p : Addr} {H : Hp} {o : HO} (h : H p = none) : Gr t H (upd H p o) := Gr.of (Same.new h)

/-- things that never change are as they were -/
structure Im (H H' : Hp) : Prop where
  tup : ∀ b xs, H b = some (.tup xs) → H' b = some (.tup xs)
  frz : ∀ b o u, H b = some (.frz o u) → H' b = some (.frz o u)
theorem Im.refl (H : Hp) : Im H H := ⟨fun _ _ e => e, fun _ _ _ e => e⟩
theorem Im.trans {H H1 H2 : Hp} (a : Im H H1) (b : Im H1 H2) : Im H H2 := ⟨fun c xs e => b.tup c xs (a.tup c xs e), fun c o u e => b.frz c o u (a.frz c o u e)⟩
theorem Im.same {H H' : Hp} (a : Same H H') : Im H H' := ⟨fun b _ e => a b _ e, fun b _ _ e => a b _ e⟩
theorem Im.new {p : Addr} {H : Hp} {o : HO} (h : H p = none) : Im H (upd H p o) := Im.same (Same.new h)
theorem Im.gr {t : Addr} {H H' : Hp} {xs : List V} (a : Gr t H H') (h : H t = some (.lst xs)) : Im H H' :=
  ⟨fun b ys e => a b _ e fun z => (by subst z; rw [h] at e; cases e), fun b o u e => a b _ e fun z => (by subst z; rw [h] at e; cases e)⟩
theorem Im.set {t : Addr} {H : Hp} {xs : List V} {o : HO} (h : H t = some (.lst xs)) : Im H (upd H t o) := Im.gr (Al.upd.gr) h
theorem Im.sqT {K : PySem.W.Frag} {H H' : Hp} {a : Addr} {xs : List V} (e : Im H H') (h : SqT K H a xs) : SqT K H' a xs := by
  rcases h with (h | ⟨o, h⟩) | h
  · exact .inl (.inl (e.tup _ _ h))
  · exact .inl (.inr ⟨o, e.frz _ _ _ h⟩)
  · exact .inr h

/-! ### the tape -/
structure TapeAt (H : Hp) (t l : Addr) : Prop where
  ex : ∃ (ns : List Int) (p r s : Int), H t = some (.lst [.ref l, .int p, .int r, .int s]) ∧ H l = some (.lst (ns.map V.int)) ∧ 0 ≤ p ∧ 0 ≤ r ∧ 0 ≤ s
  ne : l ≠ t
theorem TapeAt.list {H : Hp} {t l : Addr} (T : TapeAt H t l) : ∃ xs, H t = some (.lst xs) := let ⟨_, _, _, _, h, _⟩ := T.ex; ⟨_, h⟩
theorem TapeAt.list' {H : Hp} {t l : Addr} (T : TapeAt H t l) : ∃ xs, H l = some (.lst xs) := let ⟨_, _, _, _, _, h, _⟩ := T.ex; ⟨_, h⟩
theorem TapeAt.same {H H' : Hp} {t l : Addr} (T : TapeAt H t l) (e : Same H H') : TapeAt H' t l := let ⟨ns, p, r, s, h1, h2, q⟩ := T.ex; ⟨⟨ns, p, r, s, e _ _ h1, e _ _ h2, q⟩, T.ne⟩
theorem TapeAt.new {H : Hp} {t l b : Addr} {o : HO} (T : TapeAt H t l) (h : H b = none) : TapeAt (upd H b o) t l := T.same (Same.new h)
theorem TapeAt.upd {H : Hp} {t l b : Addr} {o : HO} (T : TapeAt H t l) (n1 : b ≠ t) (n2 : b ≠ l) : TapeAt (upd H b o) t l :=
  let ⟨ns, p, r, s, h1, h2, q⟩ := T.ex; ⟨⟨ns, p, r, s, by rw [upd_ne n1.symm]; exact h1, by rw [upd_ne n2.symm]; exact h2, q⟩, T.ne⟩
theorem TapeAt.ne_t {H : Hp} {t l b : Addr} (T : TapeAt H t l) (h : H b = none) : b ≠ t := let ⟨_, e⟩ := T.list; (ne_of_none e h).symm
theorem TapeAt.ne_l {H : Hp} {t l b : Addr} (T : TapeAt H t l) (h : H b = none) : b ≠ l := let ⟨_, e⟩ := T.list'; (ne_of_none e h).symm
theorem TapeAt.im {H H' : Hp} {t l : Addr} (T : TapeAt H t l) (g : Gr t H H') : Im H H' := let ⟨_, e⟩ := T.list; Im.gr g e

/-- the law's own two: a tape is made; a number is drawn -/
def sp_law_tape (K : PySem.W.Frag) : Sp := fun vs H Q _ => ∃ (a : Addr) (ns : List Int), vs = [.ref a] ∧ SqL K H a (ns.map V.int) ∧ ns.length ≤ 63 ∧ ∀ t l H', Same H H' → TapeAt H' t l → H t = none → H l = none → Q (.ref t) H'
def sp_law_draw (K : PySem.W.Frag) : Sp := fun vs H Q _ => ∃ (t l : Addr) (m : Int), vs = [.ref t, .int m] ∧ TapeAt H t l ∧ m ≤ 1000000000 ∧ ∀ v H', TapeAt H' t l → Al t H H' → 0 ≤ v → v < max m 1 → Q (.int v) H'
end Cs

set_option maxRecDepth 100000
set_option maxHeartbeats 4000000
namespace Cs
open PySem PySem.Spec PyProof.Rows L2
/-! ### tests -/
section
variable {A B c : Prop}
theorem if_dec [Decidable c] (h1 : c → A) (h2 : ¬ c → B) : if decide c = true then A else B := by
  by_cases h : c
  · rw [decide_eq_true h, if_pos rfl]; exact h1 h
  · rw [decide_eq_false h, if_neg Bool.false_ne_true]; exact h2 h
theorem if_ndec [Decidable c] (h1 : ¬ c → A) (h2 : c → B) : if (!decide c) = true then A else B := by
  by_cases h : c
  · rw [decide_eq_true h]; exact h2 h
  · rw [decide_eq_false h]; exact h1 h
theorem if_int {i j : Int} (h1 : i = j → A) (h2 : ¬ i = j → B) : if decide (V.int i = V.int j) = true then A else B :=
  if_dec (fun h => h1 (V.int.inj h)) fun h => h2 fun e => h (by rw [e])
theorem if_nint {i j : Int} (h1 : ¬ i = j → A) (h2 : i = j → B) : if (!decide (V.int i = V.int j)) = true then A else B :=
  if_ndec (fun h => h1 fun e => h (by rw [e])) fun h => h2 (V.int.inj h)
theorem if_str {i j : Str} (h1 : i = j → A) (h2 : ¬ i = j → B) : if decide (V.str i = V.str j) = true then A else B :=
  if_dec (fun h => h1 (V.str.inj h)) fun h => h2 fun e => h (by rw [e])
theorem if_nstr {i j : Str} (h1 : ¬ i = j → A) (h2 : i = j → B) : if (!decide (V.str i = V.str j)) = true then A else B :=
  if_ndec (fun h => h1 fun e => h (by rw [e])) fun h => h2 (V.str.inj h)
theorem if_bool {b : Bool} (h1 : b = true → A) (h2 : b = false → B) : if b = true then A else B := by
  cases b with
  | true => exact h1 rfl
  | false => exact h2 rfl
theorem if_nbool {b : Bool} (h1 : b = false → A) (h2 : b = true → B) : if (!b) = true then A else B := by
  cases b with
  | true => exact h2 rfl
  | false => exact h1 rfl
end
theorem int_at {ns : List Int} {i : Nat} {y : V} (h : (ns.map V.int)[i]? = some y) : ∃ n, y = V.int n := by
  rw [List.getElem?_map] at h
  cases e : ns[i]? with
  | none => rw [e] at h; cases h
  | some z => rw [e] at h; exact ⟨z, (Option.some.inj h).symm⟩
theorem at_int {ns : List Int} {i : Int} (h0 : 0 ≤ i) (h : i < ns.length) : ∃ n, atI (ns.map V.int) i = some (V.int n) := by
  obtain ⟨j, rfl⟩ : ∃ j : Nat, i = (j : Int) := ⟨i.toNat, by omega⟩
  have hj : j < ns.length := by omega
  exact ⟨ns[j], atI_nat (by rw [List.getElem?_map, List.getElem?_eq_getElem hj]; rfl)⟩
theorem max_one (m : Int) : (if (1 : Int) > m then (1 : Int) else m) = max m 1 := by
  by_cases h : (1 : Int) > m
  · rw [if_pos h]; omega
  · rw [if_neg h]; omega
end Cs
namespace Cs
open PySem PySem.Spec PyProof.Rows L2
theorem set3 {α : Type} (σ : List α) (s : Nat) (a b c : α) : (((σ.set s a).set s b).set s c) = σ.set s c := by
  rw [List.set_set, List.set_set]
theorem get_snoc {ys : List V} {v u : V} {j : Nat} (e : (ys ++ [v])[j]? = some u) : (j < ys.length ∧ ys[j]? = some u) ∨ (j = ys.length ∧ u = v) := by
  by_cases h : j < ys.length
  · rw [List.getElem?_append_left h] at e
    exact .inl ⟨h, e⟩
  · rw [List.getElem?_append_right (by omega)] at e
    have q : j - ys.length = 0 := by
      by_cases z : j - ys.length = 0
      · exact z
      · rw [List.getElem?_eq_none (by show 1 ≤ _; omega)] at e
        cases e
    rw [q] at e
    exact .inr ⟨by omega, (Option.some.inj e).symm⟩
section
variable {K : PySem.W.Frag} {a : Addr} {xs : List V} {te : TE} {s : Nat} {σ : L2.St} {H1 : Hp} {D : Addr} {Qd : Hp → Prop}
/-- what holds of a comprehension's list under way: its items so far are as P says -/
def CompSo (P : Nat → V → Hp → Prop) (H1 : Hp) (D : Addr) (i : Nat) (H : Hp) : Prop := Same H1 H ∧ ∃ ys, H D = some (.lst ys) ∧ ys.length = i ∧ ∀ j v, ys[j]? = some v → P j v H
theorem comp_turn {P : Nat → V → Hp → Prop} {i n : Nat} {x : V} {H : Hp} (mono : ∀ i v H H', P i v H → Im H H' → P i v H') (hz : n ≤ sizeLine) (fresh : H1 D = none) (hi : i < n) (so : CompSo P H1 D i H)
    (elt : ∀ H, Same H1 H → ∀ Q' : VK, (∀ v H', Same H H' → P i v H' → Q' v H') → te ((σ.set s none).set s (some x)) H Q') :
    gName s x (wipe σ [s]) H fun σ2 H2 => wipe σ2 [s] = wipe σ [s] ∧ tYes σ2 H2 fun b H3 =>
      if b = true then te σ2 H3 fun y H4 => ∃ acc, H4 D = some (.lst acc) ∧ acc.length < sizeLine ∧ CompSo P H1 D (i + 1) (upd H4 D (.lst (acc ++ [y]))) else CompSo P H1 D (i + 1) H3 := by
  obtain ⟨sm, ys, hD, hlen, hP⟩ := so
  refine ⟨set3 σ s none (some x) none, ?_⟩
  unfold tYes
  dsimp only
  rw [if_pos rfl]
  refine elt H sm _ fun v H' sm' pv => ?_
  have hD' := sm' _ _ hD
  have im2 : Im H' (upd H' D (.lst (ys ++ [v]))) := Im.set hD'
  refine ⟨ys, hD', by omega, fun b o e => by rw [upd_ne (ne_of_none e fresh)]; exact sm' _ _ (sm _ _ e), ys ++ [v], upd_same, by rw [List.length_append, hlen]; rfl, fun j u e => ?_⟩
  rcases get_snoc e with ⟨_, e⟩ | ⟨rfl, rfl⟩
  · exact mono _ _ _ _ (hP j u e) ((Im.same sm').trans im2)
  · rw [hlen]
    exact mono _ _ _ _ pv im2
theorem comp_start {P : Nat → V → Hp → Prop} (fresh : H1 D = none) : CompSo P H1 D 0 (upd H1 D (.lst [])) := ⟨Same.new fresh, [], upd_same, rfl, fun j v e => by simp at e⟩
/-- a comprehension over a list, no test: each element of the new list is what P says; nothing that was tracked changes -/
theorem comp_list (P : Nat → V → Hp → Prop) (mono : ∀ i v H H', P i v H → Im H H' → P i v H') (hl : SqL K H1 a xs) (hz : xs.length ≤ sizeLine) (fresh : H1 D = none)
    (elt : ∀ i x, xs[i]? = some x → ∀ H, Same H1 H → ∀ Q' : VK, (∀ v H', Same H H' → P i v H' → Q' v H') → te ((σ.set s none).set s (some x)) H Q')
    (hd : ∀ H ys, Same H1 H → H D = some (.lst ys) → ys.length = xs.length → (∀ i v, ys[i]? = some v → P i v H) → Qd H) :
    ∃ W : Nat → Nat → Hp → Prop, (∃ m, W 0 m (upd H1 D (.lst []))) ∧ ∀ i m H, W i m H →
      ((Itl K a).stop i H ∧ Qd H) ∨ ((Itl K a).go i H ∧ ∃ Nx : Hp → Prop, (∀ H', Nx H' → ∃ m', m' < m ∧ W (i + 1) m' H') ∧ ∀ x H', (Itl K a).yld i H x H' → gName s x (wipe σ [s]) H' fun σ2 H2 => wipe σ2 [s] = wipe σ [s] ∧ tYes σ2 H2 fun b H3 =>
        if b = true then te σ2 H3 fun y H4 => ∃ acc, H4 D = some (.lst acc) ∧ acc.length < sizeLine ∧ Nx (upd H4 D (.lst (acc ++ [y]))) else Nx H3) :=
  lc_list (K := K) (a := a) (xs := xs) (CompSo P H1 D) (comp_start fresh) (fun i H _ h => h.1.seq hl)
    (fun i x H hx so => comp_turn mono hz fresh (List.getElem?_eq_some_iff.mp hx).1 so (elt i x hx)) fun H ⟨sm, ys, hD, hlen, hP⟩ => hd H ys sm hD hlen hP
theorem comp_tup (P : Nat → V → Hp → Prop) (mono : ∀ i v H H', P i v H → Im H H' → P i v H') (hl : SqT K H1 a xs) (hz : xs.length ≤ sizeLine) (fresh : H1 D = none)
    (elt : ∀ i x, xs[i]? = some x → ∀ H, Same H1 H → ∀ Q' : VK, (∀ v H', Same H H' → P i v H' → Q' v H') → te ((σ.set s none).set s (some x)) H Q')
    (hd : ∀ H ys, Same H1 H → H D = some (.lst ys) → ys.length = xs.length → (∀ i v, ys[i]? = some v → P i v H) → Qd H) :
    ∃ W : Nat → Nat → Hp → Prop, (∃ m, W 0 m (upd H1 D (.lst []))) ∧ ∀ i m H, W i m H →
      ((Itt K a).stop i H ∧ Qd H) ∨ ((Itt K a).go i H ∧ ∃ Nx : Hp → Prop, (∀ H', Nx H' → ∃ m', m' < m ∧ W (i + 1) m' H') ∧ ∀ x H', (Itt K a).yld i H x H' → gName s x (wipe σ [s]) H' fun σ2 H2 => wipe σ2 [s] = wipe σ [s] ∧ tYes σ2 H2 fun b H3 =>
        if b = true then te σ2 H3 fun y H4 => ∃ acc, H4 D = some (.lst acc) ∧ acc.length < sizeLine ∧ Nx (upd H4 D (.lst (acc ++ [y]))) else Nx H3) :=
  lc_tup (K := K) (a := a) (xs := xs) (CompSo P H1 D) (comp_start fresh) (fun i H _ h => (Im.same h.1).sqT hl)
    (fun i x H hx so => comp_turn mono hz fresh (List.getElem?_eq_some_iff.mp hx).1 so (elt i x hx)) fun H ⟨sm, ys, hD, hlen, hP⟩ => hd H ys sm hD hlen hP
end
end Cs

namespace Cs
open PySem PySem.Spec PyProof.Rows L2
theorem eq_map {α : Type} {ys : List V} {rs : List α} {f : α → V} (h1 : ys.length = rs.length) (h2 : ∀ (i : Nat) v, ys[i]? = some v → ∃ r, rs[i]? = some r ∧ v = f r) : ys = rs.map f := by
  refine List.ext_getElem? fun i => ?_
  rw [List.getElem?_map]
  cases e : ys[i]? with
  | none =>
    have : rs[i]? = none := List.getElem?_eq_none_iff.mpr (by have := List.getElem?_eq_none_iff.mp e; omega)
    rw [this]; rfl
  | some v =>
    obtain ⟨r, hr, rfl⟩ := h2 i v e
    rw [hr]; rfl
theorem get_len {α β : Type} {xs : List α} {rs : List β} (h : xs.length = rs.length) {i : Nat} {x : α} (e : xs[i]? = some x) : ∃ r, rs[i]? = some r := by
  have hi := (List.getElem?_eq_some_iff.mp e).1
  exact ⟨rs[i]'(by omega), List.getElem?_eq_getElem (by omega)⟩
section
variable {K : PySem.W.Frag} {a : Addr} {xs : List V} {te : TE} {s : Nat} {σ : L2.St} {H1 : Hp} {D : Addr} {Qd : Hp → Prop} {α : Type}
/-- .. where each element is a value that hangs on the datum alone -/
theorem map_list (rs : List α) (f : α → V) (hl : SqL K H1 a xs) (hz : xs.length ≤ sizeLine) (hlen : xs.length = rs.length) (fresh : H1 D = none)
    (elt : ∀ (i : Nat) x r, xs[i]? = some x → rs[i]? = some r → ∀ H, Same H1 H → ∀ Q' : VK, (∀ H', Same H H' → Q' (f r) H') → te ((σ.set s none).set s (some x)) H Q')
    (hd : ∀ H, Same H1 H → H D = some (.lst (rs.map f)) → Qd H) :
    ∃ W : Nat → Nat → Hp → Prop, (∃ m, W 0 m (upd H1 D (.lst []))) ∧ ∀ i m H, W i m H →
      ((Itl K a).stop i H ∧ Qd H) ∨ ((Itl K a).go i H ∧ ∃ Nx : Hp → Prop, (∀ H', Nx H' → ∃ m', m' < m ∧ W (i + 1) m' H') ∧ ∀ x H', (Itl K a).yld i H x H' → gName s x (wipe σ [s]) H' fun σ2 H2 => wipe σ2 [s] = wipe σ [s] ∧ tYes σ2 H2 fun b H3 =>
        if b = true then te σ2 H3 fun y H4 => ∃ acc, H4 D = some (.lst acc) ∧ acc.length < sizeLine ∧ Nx (upd H4 D (.lst (acc ++ [y]))) else Nx H3) :=
  comp_list (K := K) (a := a) (fun i v _ => ∃ r, rs[i]? = some r ∧ v = f r) (fun _ _ _ _ h _ => h) hl hz fresh
    (fun i x hx H sm Q' hQ => by
      obtain ⟨r, hr⟩ := get_len hlen hx
      exact elt i x r hx hr H sm Q' fun H' sm' => hQ _ H' sm' ⟨r, hr, rfl⟩)
    fun H ys sm hD hl2 hP => hd H sm (by rw [← eq_map (hl2.trans hlen) hP]; exact hD)
theorem map_tup (rs : List α) (f : α → V) (hl : SqT K H1 a xs) (hz : xs.length ≤ sizeLine) (hlen : xs.length = rs.length) (fresh : H1 D = none)
    (elt : ∀ (i : Nat) x r, xs[i]? = some x → rs[i]? = some r → ∀ H, Same H1 H → ∀ Q' : VK, (∀ H', Same H H' → Q' (f r) H') → te ((σ.set s none).set s (some x)) H Q')
    (hd : ∀ H, Same H1 H → H D = some (.lst (rs.map f)) → Qd H) :
    ∃ W : Nat → Nat → Hp → Prop, (∃ m, W 0 m (upd H1 D (.lst []))) ∧ ∀ i m H, W i m H →
      ((Itt K a).stop i H ∧ Qd H) ∨ ((Itt K a).go i H ∧ ∃ Nx : Hp → Prop, (∀ H', Nx H' → ∃ m', m' < m ∧ W (i + 1) m' H') ∧ ∀ x H', (Itt K a).yld i H x H' → gName s x (wipe σ [s]) H' fun σ2 H2 => wipe σ2 [s] = wipe σ [s] ∧ tYes σ2 H2 fun b H3 =>
        if b = true then te σ2 H3 fun y H4 => ∃ acc, H4 D = some (.lst acc) ∧ acc.length < sizeLine ∧ Nx (upd H4 D (.lst (acc ++ [y]))) else Nx H3) :=
  comp_tup (K := K) (a := a) (fun i v _ => ∃ r, rs[i]? = some r ∧ v = f r) (fun _ _ _ _ h _ => h) hl hz fresh
    (fun i x hx H sm Q' hQ => by
      obtain ⟨r, hr⟩ := get_len hlen hx
      exact elt i x r hx hr H sm Q' fun H' sm' => hQ _ H' sm' ⟨r, hr, rfl⟩)
    fun H ys sm hD hl2 hP => hd H sm (by rw [← eq_map (hl2.trans hlen) hP]; exact hD)
end
/-! ### rectangles -/
structure R where
  l : Int
  t : Int
  w : Int
  h : Int
  deriving DecidableEq
def R.vs (r : R) : List V := [.int r.l, .int r.t, .int r.w, .int r.h]
def R.es (r : R) : List V := [.int r.l, .int r.t, .int (r.l + r.w), .int (r.t + r.h)]
/-- v is the rectangle r -/
def Rc (K : PySem.W.Frag) (H : Hp) (v : V) (r : R) : Prop := ∃ a, v = .ref a ∧ SqT K H a r.vs
theorem Rc.im {K : PySem.W.Frag} {H H' : Hp} {v : V} {r : R} (h : Rc K H v r) (e : Im H H') : Rc K H' v r := let ⟨a, h1, h2⟩ := h; ⟨a, h1, e.sqT h2⟩
theorem Rc.same {K : PySem.W.Frag} {H H' : Hp} {v : V} {r : R} (h : Rc K H v r) (e : Same H H') : Rc K H' v r := h.im (Im.same e)
/-- xs are the rectangles rs -/
structure Rcs (K : PySem.W.Frag) (H : Hp) (xs : List V) (rs : List R) : Prop where
  len : xs.length = rs.length
  at_ : ∀ (i : Nat) (x : V) (r : R), xs[i]? = some x → rs[i]? = some r → Rc K H x r
theorem Rcs.im {K : PySem.W.Frag} {H H' : Hp} {xs : List V} {rs : List R} (h : Rcs K H xs rs) (e : Im H H') : Rcs K H' xs rs := ⟨h.len, fun i x r h1 h2 => (h.at_ i x r h1 h2).im e⟩
theorem Rcs.nil {K : PySem.W.Frag} {H : Hp} : Rcs K H [] [] := ⟨rfl, fun i x r h => by simp at h⟩
theorem Rcs.snoc {K : PySem.W.Frag} {H : Hp} {xs : List V} {rs : List R} {x : V} {r : R} (h : Rcs K H xs rs) (q : Rc K H x r) : Rcs K H (xs ++ [x]) (rs ++ [r]) := by
  refine ⟨by rw [List.length_append, List.length_append, h.len]; rfl, fun i y s h1 h2 => ?_⟩
  rcases get_snoc h1 with ⟨hi, h1⟩ | ⟨rfl, rfl⟩
  · rw [List.getElem?_append_left (by rw [← h.len]; exact hi)] at h2
    exact h.at_ i y s h1 h2
  · rw [h.len, List.getElem?_append_right (Nat.le_refl _), Nat.sub_self] at h2
    cases (Option.some.inj h2)
    exact q
theorem Rcs.take {K : PySem.W.Frag} {H : Hp} {xs : List V} {rs : List R} (h : Rcs K H xs rs) (n : Nat) : Rcs K H (xs.take n) (rs.take n) := by
  refine ⟨by rw [List.length_take, List.length_take, h.len], fun i y s h1 h2 => ?_⟩
  rw [List.getElem?_take] at h1 h2
  split at h1
  · rw [if_pos (by assumption)] at h2
    exact h.at_ i y s h1 h2
  · cases h1
theorem Rcs.drop {K : PySem.W.Frag} {H : Hp} {xs : List V} {rs : List R} (h : Rcs K H xs rs) (n : Nat) : Rcs K H (xs.drop n) (rs.drop n) := by
  refine ⟨by rw [List.length_drop, List.length_drop, h.len], fun i y s h1 h2 => ?_⟩
  rw [List.getElem?_drop] at h1 h2
  exact h.at_ _ y s h1 h2
theorem Rcs.reverse {K : PySem.W.Frag} {H : Hp} {xs : List V} {rs : List R} (h : Rcs K H xs rs) : Rcs K H xs.reverse rs.reverse := by
  refine ⟨by rw [List.length_reverse, List.length_reverse, h.len], fun i y s h1 h2 => ?_⟩
  have hi : i < xs.length := by have := (List.getElem?_eq_some_iff.mp h1).1; rw [List.length_reverse] at this; exact this
  rw [List.getElem?_reverse hi] at h1
  rw [List.getElem?_reverse (by rw [← h.len]; exact hi), ← h.len] at h2
  exact h.at_ _ y s h1 h2
end Cs

set_option maxRecDepth 100000
set_option maxHeartbeats 4000000
/-! rules with the written part named, so that they stand within comprehensions too -/
namespace Cs
open PySem PySem.Spec PyProof.Rows L2
section
variable {X : Cx} {a b e : Expr} {ta tb te : TE} {pos : Pos}
theorem ixL (K : PySem.W.Frag) (h : X.K = K := by rfl) : IxR X (rIxL K) := h ▸ ix_list
theorem ixT (K : PySem.W.Frag) (h : X.K = K := by rfl) : IxR X (rIxT K) := h ▸ ix_tup
theorem slL (K : PySem.W.Frag) (h : X.K = K := by rfl) : SlR X (rSlL K) := h ▸ sl_list
theorem slT (K : PySem.W.Frag) (h : X.K = K := by rfl) : SlR X (rSlA K) := h ▸ sl_tupA
theorem eqK (K : PySem.W.Frag) (hu : X.A.units + 64 < cLine) (h : X.K = K := by rfl) : OpR X (compareOp .Eq) (rEqD K) := h ▸ op_eqD hu
theorem neK (K : PySem.W.Frag) (hu : X.A.units + 64 < cLine) (h : X.K = K := by rfl) : OpR X (compareOp .NotEq) (rNeD K) := h ▸ op_neD hu
theorem catT (K : PySem.W.Frag) (h : X.K = K := by rfl) : OpR X (binaryOp .Add) (rCatA K) := h ▸ op_catA
def rLen (K : PySem.W.Frag) : List V → Hp → VK → Prop := fun xs H Q => ∃ x n, xs = [x] ∧ LenV K x H n ∧ Q (.int n) H
theorem lenK (K : PySem.W.Frag) (h : X.K = K := by rfl) : CallR X (.builtin "len") (rLen K) := h ▸ call_len
def rListOf (K : PySem.W.Frag) : List V → Hp → VK → Prop := fun xs H Q => ∃ p ys, xs = [.ref p] ∧ (SqL K H p ys ∨ SqT K H p ys) ∧ ∀ l, H l = none → Q (.ref l) (upd H l (.lst ys))
theorem listK (K : PySem.W.Frag) (h : X.K = K := by rfl) : CallR X (.type "list") (rListOf K) := h ▸ call_list_of
def rTupOf (K : PySem.W.Frag) : List V → Hp → VK → Prop := fun xs H Q => ∃ p ys, xs = [.ref p] ∧ ((SqL K H p ys ∧ ∀ l, H l = none → Q (.ref l) (upd H l (.tup ys))) ∨ (SqT K H p ys ∧ Q (.ref p) H))
theorem tupK (K : PySem.W.Frag) (h : X.K = K := by rfl) : CallR X (.type "tuple") (rTupOf K) := h ▸ call_tuple_of
theorem reprK (K : PySem.W.Frag) (hu : X.A.units + 64 < cLine) (hg : X.A.guards = some []) (h : X.K = K := by rfl) : CallR X (.builtin "repr") (rRepr K) := h ▸ call_repr hu hg
theorem minK (K : PySem.W.Frag) (hc : X.calm = true) (h : X.K = K := by rfl) : CallR X (.builtin "min") (rMin K) := h ▸ cr_min hc
theorem maxK (K : PySem.W.Frag) (hc : X.calm = true) (h : X.K = K := by rfl) : CallR X (.builtin "max") (rMax K) := h ▸ cr_max hc
theorem sumK (K : PySem.W.Frag) (hc : X.calm = true) (h : X.K = K := by rfl) : CallR X (.builtin "sum") (rSum K) := h ▸ cr_sum hc
/-- a test by truth -/
def tTru (K : PySem.W.Frag) (ta : TE) : TT := fun σ H Q => ta σ H fun x H' => ∃ k, TruV K x H' k ∧ Q k H'
theorem truK (K : PySem.W.Frag) (ha : PE X a ta) (he : ∀ whole, isTrue a X.env whole = (do let v ← whole; standAt a.pos; holding [v] (truthy v)) := by intro _; rfl) (h : X.K = K := by rfl) : PT X a (tTru K ta) := h ▸ pt_truth ha he
end
theorem atI_mem {α : Type} {xs : List α} {v : Int} (h0 : 0 ≤ v) (h1 : v < xs.length) : ∃ z, atI xs v = some z ∧ xs[v.toNat]? = some z ∧ z ∈ xs := by
  obtain ⟨j, rfl⟩ : ∃ j : Nat, v = (j : Int) := ⟨v.toNat, by omega⟩
  have hj : j < xs.length := by omega
  have e : xs[j]? = some xs[j] := List.getElem?_eq_getElem hj
  exact ⟨xs[j], atI_nat e, by rw [Int.toNat_natCast]; exact e, List.getElem_mem hj⟩
/-! the slots as a written list -/
theorem gset {i : Nat} {v : V} {σ σ' : L2.St} {H : Hp} {Q : L2.St → Hp → Prop} (e : σ.set i (some v) = σ') (h : Q σ' H) : gName i v σ H Q := by
  subst e
  exact h
theorem set_0 {α : Type} {a b : α} {l : List α} : (a :: l).set 0 b = b :: l := rfl
theorem set_s {α : Type} {a b : α} {l l' : List α} {n : Nat} (h : l.set n b = l') : (a :: l).set (n + 1) b = a :: l' := by
  subst h
  rfl
def tPar2 (i j : Nat) (ta : TA) : TS := fun D σ H => ta σ H fun vs H1 => ∃ v w, vs = [v, w] ∧ gName i v σ H1 fun σ' H' => gName j w σ' H' D.nx
theorem par2 {X : Cx} {i j : Nat} {st : Stmt} {ta : TA} (h : PS X st (tPar i j ta)) : PS X st (tPar2 i j ta) := h
theorem at_start {N : List Str} {vs : List V} {σ : L2.St} {t : TS} {D : Ends} {H : Hp} (e : L2.start N vs = σ) (h : t D σ H) : t D (L2.start N vs) H := by
  subst e
  exact h
theorem rep_0 {α : Type} {a : α} : List.replicate 0 a = [] := rfl
theorem rep_s {α : Type} {a : α} {k : Nat} {l : List α} (h : List.replicate k a = l) : List.replicate (k + 1) a = a :: l := by
  subst h
  rfl
theorem app_nil {α : Type} {r l : List (Option α)} (h : r = l) : ([] : List α).map some ++ r = l := h
theorem app_cons {α : Type} {v : α} {vs : List α} {r l : List (Option α)} (h : vs.map some ++ r = l) : (v :: vs).map some ++ r = some v :: l := by
  subst h
  rfl
theorem st_of {N : List Str} {vs : List V} {k : Nat} {σ : L2.St} (h : N.length - vs.length = k) (e : vs.map some ++ List.replicate k none = σ) : L2.start N vs = σ := by
  subst h
  exact e
theorem cut_to {xs : List V} {k : Int} (h : 0 ≤ k) : cutV xs none (some k) = xs.take k.toNat := by
  obtain ⟨j, rfl⟩ : ∃ j : Nat, k = (j : Int) := ⟨k.toNat, by omega⟩
  unfold cutV
  rw [HT.sIx_none, HT.sIx_nat, List.drop_zero, Nat.sub_zero, Int.toNat_natCast]
  by_cases h : j ≤ xs.length
  · rw [Nat.min_eq_left h]
  · rw [Nat.min_eq_right (by omega), List.take_length, List.take_of_length_le (by omega)]
theorem cut_from {xs : List V} {k : Int} (h : 0 ≤ k) : cutV xs (some k) none = xs.drop k.toNat := by
  obtain ⟨j, rfl⟩ : ∃ j : Nat, k = (j : Int) := ⟨k.toNat, by omega⟩
  unfold cutV
  rw [HT.sIx_none, HT.sIx_nat, Int.toNat_natCast]
  by_cases h : j ≤ xs.length
  · rw [Nat.min_eq_left h, List.take_of_length_le (by rw [List.length_drop]; omega)]
  · rw [Nat.min_eq_right (by omega), List.drop_of_length_le (Nat.le_refl _), List.drop_of_length_le (by omega), List.take_nil]
theorem Al.at_ {t b : Addr} {H H' : Hp} {o : HO} (a : Al t H H') (n : b ≠ t) (h : H b = some o) : H' b = some o := by rw [a b n]; exact h
theorem Al.none_ {t b : Addr} {H H' : Hp} (a : Al t H H') (n : b ≠ t) (h : H b = none) : H' b = none := by rw [a b n]; exact h
end Cs

set_option maxRecDepth 100000
set_option maxHeartbeats 4000000
/-! how long the text of data may get -/
namespace Cs
open PySem PySem.Spec PyProof.Rows L2
def smallStr (x : Str) : Bool := x.cps.toList.all fun c => decide (c < 16 ^ 8)
theorem smallStr_all {x : Str} (h : smallStr x = true) : ∀ c ∈ x.cps.toList, c < 16 ^ 8 := fun c hc => of_decide_eq_true (List.all_eq_true.mp h c hc)
mutual
/-- no dicts, ints below 2 ^ 1920, texts of codes that can be shown -/
def plainD : PyData → Bool
  | .none => true
  | .bool _ => true
  | .int i => decide (i.natAbs.log2 < 1920)
  | .str x => smallStr x
  | .list xs => plainAll xs
  | .tuple xs => plainAll xs
  | .dict _ => false
def plainAll : List PyData → Bool
  | [] => true
  | x :: xs => plainD x && plainAll xs
end
mutual
def cost : PyData → Nat
  | .none => 4
  | .bool _ => 5
  | .int _ => 1921
  | .str x => 10 * x.length + 2
  | .list xs => costAll xs + 2
  | .tuple xs => costAll xs + 2
  | .dict _ => 0
def costAll : List PyData → Nat
  | [] => 0
  | x :: xs => cost x + 2 + costAll xs
end
theorem list_text (ts : List Str) : (listText ts).length ≤ piled ts + 2 := by
  cases ts with
  | nil => decide +kernel
  | cons t r =>
    have e1 : (listText (t :: r)).length = (textFrom 0 "[" (t :: r)).length + 1 := by
      show (textFrom 0 "[" (t :: r) ++ "]").length = _
      rw [strLen_append]; rfl
    have e2 : (textFrom 0 "[" (t :: r)).length = (textFrom 1 (("[" : Str) ++ (if (0 : Nat) > 0 then ", " else "" : String) ++ t) r).length := rfl
    have e3 : ((("[" : Str) ++ (if (0 : Nat) > 0 then ", " else "" : String) ++ t)).length = 1 + t.length := by
      rw [strLen_append, strLen_append]; rfl
    have h := textFrom_length_pos r 1 (("[" : Str) ++ (if (0 : Nat) > 0 then ", " else "" : String) ++ t) (Nat.succ_pos 0)
    rw [piled_cons]
    omega
mutual
theorem plain_shows : ∀ d : PyData, plainD d = true → d.showable = true ∧ d.hasDict = false ∧ d.shown.length ≤ cost d
  | .none, _ => ⟨by simp only [PyData.showable], by simp only [PyData.hasDict], by simp only [PyData.shown, cost]; decide +kernel⟩
  | .bool b, _ => ⟨by simp only [PyData.showable], by simp only [PyData.hasDict], by simp only [PyData.shown, cost]; cases b <;> decide +kernel⟩
  | .int i, h => by
    simp only [plainD] at h
    exact ⟨by simp only [PyData.showable]; exact h, by simp only [PyData.hasDict], by simp only [PyData.shown, cost]; exact int_text_len_1921 (of_decide_eq_true h)⟩
  | .str x, h => by
    simp only [plainD] at h
    exact ⟨by simp only [PyData.showable], by simp only [PyData.hasDict], by simp only [PyData.shown, cost]; exact StrLaws.reprText_len x (smallStr_all h)⟩
  | .list xs, h => by
    simp only [plainD] at h
    obtain ⟨h1, h2, h3⟩ := plain_showsAll xs h
    refine ⟨by simp only [PyData.showable]; exact h1, by simp only [PyData.hasDict]; exact h2, ?_⟩
    simp only [PyData.shown, cost]
    have := list_text (PyData.shownAll xs)
    omega
  | .tuple xs, h => by
    simp only [plainD] at h
    obtain ⟨h1, h2, h3⟩ := plain_showsAll xs h
    refine ⟨by simp only [PyData.showable]; exact h1, by simp only [PyData.hasDict]; exact h2, ?_⟩
    simp only [PyData.shown, cost]
    have := fmt_text (PyData.shownAll xs)
    omega
  | .dict _, h => by simp [plainD] at h
theorem plain_showsAll : ∀ xs : List PyData, plainAll xs = true → PyData.showableAll xs = true ∧ PyData.hasDictAll xs = false ∧ piled (PyData.shownAll xs) ≤ costAll xs
  | [], _ => ⟨by simp only [PyData.showableAll], by simp only [PyData.hasDictAll], by simp only [PyData.shownAll, costAll]; exact Nat.le_refl _⟩
  | x :: xs, h => by
    simp only [plainAll, Bool.and_eq_true] at h
    obtain ⟨a1, a2, a3⟩ := plain_shows x h.1
    obtain ⟨b1, b2, b3⟩ := plain_showsAll xs h.2
    refine ⟨by simp only [PyData.showableAll, a1, b1, Bool.and_self], by simp only [PyData.hasDictAll, a2, b2, Bool.or_self], ?_⟩
    simp only [PyData.shownAll, costAll, piled_cons]
    omega
end
/-- what repr asks of data -/
def RepOk (d : PyData) : Prop := plainD d = true ∧ d.depth ≤ 40 ∧ cost d ≤ sizeLine
theorem repr_go {K : PySem.W.Frag} {x : V} {d : PyData} {H : Hp} {Q : VK} (hd : Dp K H x d) (ok : RepOk d) (q : Q (.str d.shown) H) : rRepr K [x] H Q := by
  obtain ⟨h1, h2, h3⟩ := plain_shows d ok.1
  exact ⟨x, d, rfl, hd, h1, h2, ok.2.1, Nat.le_trans h3 ok.2.2, q⟩
theorem RepOk.sh {d : PyData} (ok : RepOk d) : d.showable = true := (plain_shows d ok.1).1
theorem RepOk.nd {d : PyData} (ok : RepOk d) : d.hasDict = false := (plain_shows d ok.1).2.1
theorem RepOk.dp {d : PyData} (ok : RepOk d) : d.depth ≤ 40 := ok.2.1
theorem RepOk.sz {d : PyData} (ok : RepOk d) : d.shown.length ≤ sizeLine := Nat.le_trans (plain_shows d ok.1).2.2 ok.2.2
theorem small_int {i : Int} (h1 : -1000000000000000000000000000000 ≤ i) (h2 : i ≤ 1000000000000000000000000000000) : plainD (.int i) = true := by
  simp only [plainD]
  refine decide_eq_true ?_
  by_cases h : i.natAbs = 0
  · rw [h]; decide
  · refine (Nat.log2_lt h).mpr ?_
    have : i.natAbs ≤ 1000000000000000000000000000000 := by omega
    exact Nat.lt_of_le_of_lt this (by decide)
/-- the rectangle as data -/
def R.d (r : R) : PyData := .tuple [.int r.l, .int r.t, .int r.w, .int r.h]
theorem Rc.dp {K : PySem.W.Frag} {H : Hp} {v : V} {r : R} (h : Rc K H v r) : Dp K H v r.d := by
  obtain ⟨a, rfl, h⟩ := h
  exact .tup h (.cons (.int _) (.cons (.int _) (.cons (.int _) (.cons (.int _) .nil))))
theorem R.rep {r : R} (h : ∀ z ∈ [r.l, r.t, r.w, r.h], -1000000000000000000000000000000 ≤ z ∧ z ≤ 1000000000000000000000000000000) : RepOk r.d := by
  refine ⟨?_, by simp [R.d, PyData.depth, PyData.depthAll], ?_⟩
  · have p : ∀ z ∈ [r.l, r.t, r.w, r.h], plainD (.int z) = true := fun z hz => small_int (h z hz).1 (h z hz).2
    simp only [R.d, plainD, plainAll, Bool.and_true, Bool.and_eq_true] at *
    exact ⟨p _ (by simp), p _ (by simp), p _ (by simp), p _ (by simp)⟩
  · simp only [R.d, cost, costAll]
    decide
end Cs

set_option maxRecDepth 100000
set_option maxHeartbeats 4000000
/-! rectangles: the plain functions, and what the program's functions promise of them -/
namespace Cs
open PySem PySem.Spec PyProof.Rows L2
def has (r : R) (x y : Int) : Bool := (decide (r.l ≤ x) && decide (x < r.l + r.w)) && (decide (r.t ≤ y) && decide (y < r.t + r.h))
def In (a b : R) : Bool := decide (b.l ≤ a.l) && (decide (b.t ≤ a.t) && (decide (a.l + a.w ≤ b.l + b.w) && decide (a.t + a.h ≤ b.t + b.h)))
def com (a b : R) : Option R :=
  if max a.l b.l < min (a.l + a.w) (b.l + b.w) ∧ max a.t b.t < min (a.t + a.h) (b.t + b.h) then
    some ⟨max a.l b.l, max a.t b.t, min (a.l + a.w) (b.l + b.w) - max a.l b.l, min (a.t + a.h) (b.t + b.h) - max a.t b.t⟩
  else none
theorem com_comm (a b : R) : com a b = com b a := by
  unfold com
  rw [Int.max_comm a.l b.l, Int.max_comm a.t b.t, Int.min_comm (a.l + a.w), Int.min_comm (a.t + a.h)]
theorem max_if (i j : Int) : (if j > i then j else i) = max i j := by split <;> omega
theorem min_if (i j : Int) : (if j < i then j else i) = min i j := by split <;> omega
/-- v is None or the rectangle o -/
def OptR (K : PySem.W.Frag) (H : Hp) (v : V) : Option R → Prop
  | none => v = .non
  | some r => Rc K H v r
theorem OptR.im {K : PySem.W.Frag} {H H' : Hp} {v : V} {o : Option R} (h : OptR K H v o) (e : Im H H') : OptR K H' v o := by
  cases o with
  | none => exact h
  | some r => exact Rc.im h e
theorem OptR.same {K : PySem.W.Frag} {H H' : Hp} {v : V} {o : Option R} (h : OptR K H v o) (e : Same H H') : OptR K H' v o := h.im (Im.same e)
theorem OptR.isN {K : PySem.W.Frag} {H : Hp} {v : V} {o : Option R} (h : OptR K H v o) : decide (v = .non) = o.isNone := by
  cases o with
  | none => cases h; rfl
  | some r => obtain ⟨a, rfl, _⟩ := h; rfl
def odata : Option R → PyData
  | none => .none
  | some r => r.d
theorem OptR.dp {K : PySem.W.Frag} {H : Hp} {v : V} {o : Option R} (h : OptR K H v o) : Dp K H v (odata o) := by
  cases o with
  | none => cases h; exact .non
  | some r => exact Rc.dp h
theorem none_rep : RepOk .none := ⟨rfl, by simp [PyData.depth], by simp only [cost]; decide⟩
def sp_edges (K : PySem.W.Frag) : Sp := fun vs H Q _ => ∃ (v : V) (r : R), vs = [v] ∧ Rc K H v r ∧ ∀ p, H p = none → Q (.ref p) (upd H p (.tup r.es))
def sp_inside (K : PySem.W.Frag) : Sp := fun vs H Q _ => ∃ (u v : V) (a b : R), vs = [u, v] ∧ Rc K H u a ∧ Rc K H v b ∧ ∀ H', Same H H' → Q (.bl (In a b)) H'
def sp_contains (K : PySem.W.Frag) : Sp := fun vs H Q _ => ∃ (v : V) (r : R) (x y : Int), vs = [v, .int x, .int y] ∧ Rc K H v r ∧ Q (.bl (has r x y)) H
def sp_common (K : PySem.W.Frag) : Sp := fun vs H Q _ => ∃ (u v : V) (a b : R), vs = [u, v] ∧ Rc K H u a ∧ Rc K H v b ∧ ∀ x H', Same H H' → OptR K H' x (com a b) → Q x H'
def sp_overlap (K : PySem.W.Frag) : Sp := fun vs H Q _ => ∃ (u v : V) (a b : R), vs = [u, v] ∧ Rc K H u a ∧ Rc K H v b ∧ ∀ H', Same H H' → Q (.bl (com a b).isSome) H'
def spLaw (K : PySem.W.Frag) : Sp := fun vs H Q _ => ∃ (a : Addr) (ns : List Int), vs = [.ref a] ∧ SqL K H a (ns.map V.int) ∧ ns.length ≤ 63 ∧ ∀ H', Q (.bl true) H'
theorem law_start (K : PySem.W.Frag) (H : Hp) (a : Addr) (ns : List Int) (h1 : ns.length ≤ 63) (h2 : SqL K H a (ns.map V.int)) : spLaw K [.ref a] H (fun v _ => v = .bl true) E0 := ⟨a, ns, rfl, h2, h1, fun _ => rfl⟩
end Cs

set_option maxRecDepth 100000
set_option maxHeartbeats 4000000
/-! texts as lists of codes; a written dict asked by get; comprehensions and loops over a text -/
namespace Cs
open PySem PySem.Spec PyProof.Rows L2
/-- the text of the codes l -/
def S (l : List Nat) : Str := ⟨l.toArray⟩
theorem S_len (l : List Nat) : (S l).length = l.length := by simp [S, Str.length]
theorem S_codes (l : List Nat) : (S l).cps.toList = l := by simp [S]
theorem S_app (l m : List Nat) : S l ++ S m = S (l ++ m) := by
  show Str.mk (l.toArray ++ m.toArray) = Str.mk (l ++ m).toArray
  rw [List.append_toArray]
theorem S_inj {l m : List Nat} (h : S l = S m) : l = m := by
  have := congrArg (fun x : Str => x.cps.toList) h
  simpa [S] using this
theorem S_of (x : Str) : ∃ l, x = S l := ⟨x.cps.toList, by cases x; simp [S]⟩
theorem S_eq {l : List Nat} {x : Str} (h : x.cps.toList = l) : x = S l := by
  subst h
  cases x
  simp [S]
theorem S_at {l : List Nat} {i : Nat} {c : Nat} (h : (S l).cps[i]? = some c) : l[i]? = some c := by
  have : (S l).cps.toList[i]? = some c := by rw [Array.getElem?_toList]; exact h
  rwa [S_codes] at this
/-- text * int -/
def rMulS : R2 := fun x y H Q => ∃ (l : List Nat) (k : Int), x = .str (S l) ∧ y = .int k ∧ 1 ≤ k ∧ l.length * k.toNat ≤ 100000 ∧ k ≤ 100000 ∧ Q (.str (S (List.replicate k.toNat l).flatten)) H
theorem fold_cat : ∀ (n : Nat) (acc l : List Nat), (List.replicate n l.toArray).foldl (· ++ ·) acc.toArray = (acc ++ (List.replicate n l).flatten).toArray
  | 0, acc, l => by simp
  | n + 1, acc, l => by
    rw [List.replicate_succ, List.foldl_cons, List.append_toArray, fold_cat n (acc ++ l) l, List.replicate_succ, List.flatten_cons, List.append_assoc]
theorem op_mul_str {X : Cx} : OpR X (binaryOp .Mult) rMulS := by
  intro pins s σ H x y v u Q I rx ry h
  obtain ⟨l, k, rfl, rfl, k1, k2, k3, q⟩ := h
  obtain ⟨t, rfl⟩ := rx
  obtain ⟨t', rfl⟩ := ry
  have hz : sizeLine = 16777216 := by decide
  refine SB.mul (x := S l) ⟨by simp; omega, fun _ _ h => ?_, fun _ _ => ?_⟩ fun t' n => ⟨.str (Txt.mul (S l) k), H, I.tok _, ⟨_, rfl⟩, ?_⟩
  · rw [S_len] at h
    have hl : (l.length : Int) ≤ 100000 := by
      have : l.length * 1 ≤ l.length * k.toNat := Nat.mul_le_mul_left _ (by omega)
      omega
    have : (2 ^ 63 - 1 : Int) / 100000 ≤ (2 ^ 63 - 1) / k := by
      refine Int.le_ediv_of_mul_le (by omega) ?_
      have : (2 ^ 63 - 1 : Int) / 100000 * k ≤ (2 ^ 63 - 1 : Int) / 100000 * 100000 := Int.mul_le_mul_of_nonneg_left k3 (by decide)
      exact Int.le_trans this (by decide)
    have : (100000 : Int) ≤ (2 ^ 63 - 1 : Int) / 100000 := by decide
    omega
  · rw [S_len]
    show decide (l.length * k.toNat > sizeLine) = false
    exact decide_eq_false (by omega)
  · have e : Txt.mul (S l) k = S (List.replicate k.toNat l).flatten := by
      unfold Txt.mul
      rw [if_neg (by omega)]
      by_cases h1 : (k == 1 || (S l).length == 0) = true
      · rw [if_pos h1]
        rcases Bool.or_eq_true _ _ ▸ h1 with h | h
        · have : k = 1 := by simpa using h
          subst this
          show S l = S (List.replicate 1 l).flatten
          simp
        · rw [S_len] at h
          have : l = [] := by simpa using h
          subst this
          simp
      · rw [if_neg h1]
        have := fold_cat k.toNat [] l
        show Str.mk _ = Str.mk _
        rw [show (S l).cps = l.toArray from rfl]
        simpa using this
    rw [e]
    exact q
section
variable {X : Cx} {o e f : Expr} {apos cpos : Pos} {td ty tx : TE}
/-- d.get(x, z) of a written dict: r says what it holds at the text -/
def tWGet (K : PySem.W.Frag) (w : World) (ty tx : TE) (d : Addr) : TE := fun σ H Q => ty σ H fun y H2 => tx σ H2 fun z H3 => ∃ (x : Str) (es : Array DictEntry) (n : Nat), y = .str x ∧ KDict K w d es n ∧
  ((∃ u v, findBy Value.isStrOf es x = some u ∧ RelV v u ∧ Q v H3) ∨ (findBy Value.isStrOf es x = none ∧ Q z H3))
theorem pe_wget {d : Addr} {x : Str} {pos : Pos} (hg : Gl X x) (hm : X.mg x = some (.ref d)) (D : ∃ es n, KDict X.K X.w d es n) (he : PE X e ty) (hf : PE X f tx) (m : M2 X (.Name x pos) "get" apos e f cpos) (hd : (x == ("__debug__" : Str)) = false := by decide) :
    PE X (.Call (.Attribute (.Name x pos) "get" apos) [e, f] [] cpos) (tWGet X.K X.w ty tx d) := by
  refine ⟨fun pins s σ H Q I h => ?_⟩
  obtain ⟨es, n, D⟩ := D
  refine wpAny_Call_method m.base m.few m.line PySem.F.plainAttrs_dict PySem.F.slot_dict_get PySem.F.type_dict_get (thn ((pe_glob (X := X) (v := .ref d) hg hm rfl hd).run pins s σ H (fun v H' => v = .ref d ∧ H' = H) I ⟨rfl, rfl⟩) fun u s1 ⟨v, H1, I1, rx, e1, e2⟩ => ?_)
  subst e1
  subst e2
  obtain rfl : u = Value.ref d := rx
  have hm0 := PySem.W.mapOf_K (prog := X.prog) (w := X.w) I1.kIn D.at_ D.lit
  refine ⟨hm0.typeIs, fun b eb => ?_, ?_⟩
  · cases eb
    exact ⟨_, I1.kIn _ _ D.at_, rfl⟩
  rw [m.trees]
  refine Calls.callWith_builtin rfl (Calls.evalArgs_plain (Calls.spliced_cons (thn (he.run pins s1 σ H1 _ I1 h) fun iv s2 ⟨y, H2, I2, ry, q2⟩ => Calls.spliced_cons (thn (hf.run pins s2 σ H2 _ I2 q2) fun fv s3 ⟨z, H3, I3, rz, q3⟩ => Calls.spliced_nil ?_))))
  obtain ⟨x0, es', n', ey, D', q⟩ := q3
  subst ey
  obtain ⟨t, rfl⟩ := (show ∃ t, iv = Value.str x0 t from ry)
  have hm3 := PySem.W.mapOf_K (prog := X.prog) (w := X.w) I3.kIn D'.at_ D'.lit
  refine call_meetsIn PySem.F.slot_dict_get hm3.typeIs PySem.F.entry_dict_get (PySem.F.args_dict_get_3 _ _ _) (meets_dict_get_default (strKind X.prog X.w) d (strKind_is X.prog X.w x0 t) D'.low fv) ⟨_, hm3, ?_⟩
  rcases q with ⟨u0, v0, hq, rv, q⟩ | ⟨hq, q⟩
  · rw [hq]
    exact ⟨v0, H3, I3.tok _, rv, q⟩
  · rw [hq]
    exact ⟨z, H3, I3.tok _, rz, q⟩
/-- a module's number, whatever token it bears -/
theorem pe_globI {x : Str} {i : Int} {pos : Pos} (hg : Gl X x) (hm : ∃ t, X.mg x = some (.int i t)) (hd : (x == ("__debug__" : Str)) = false := by decide) : PE X (.Name x pos) (tC (.int i)) := by
  obtain ⟨t, hm⟩ := hm
  exact pe_glob hg hm ⟨t, rfl⟩ hd
end
section
variable {K : PySem.W.Frag} {l : List Nat} {te : TE} {g : TG} {tb : TS} {s : Nat} {σ : L2.St} {H H1 : Hp} {D : Addr} {Qd : Hp → Prop} {En : Ends}
theorem for_text (Pv : Nat → L2.St → Hp → Prop) (h0 : Pv 0 σ H)
    (hs : ∀ (i : Nat) c σ H, l[i]? = some c → Pv i σ H → g (.str (S [c])) σ H fun σ2 H2 => tb { En with nx := Pv (i + 1), ct := Pv (i + 1), bk := En.nx } σ2 H2) (hd : ∀ σ H, Pv l.length σ H → En.nx σ H) :
    ∃ W : Nat → Nat → L2.St → Hp → Prop, (∃ m, W 0 m σ H) ∧ ∀ i m σ H, W i m σ H →
      ((Its (S l)).stop i H ∧ En.nx σ H) ∨ ((Its (S l)).go i H ∧ ∃ N : L2.St → Hp → Prop, (∀ σ' H', N σ' H' → ∃ m', m' < m ∧ W (i + 1) m' σ' H') ∧ ∀ x H', (Its (S l)).yld i H x H' → g x σ H' fun σ2 H2 => tb { En with nx := N, ct := N, bk := En.nx } σ2 H2) := by
  have sz : (S l).cps.size = l.length := by simp [S]
  refine ⟨fun i m σ H => m = l.length - i ∧ i ≤ l.length ∧ Pv i σ H, ⟨l.length, by simp, Nat.zero_le _, h0⟩, ?_⟩
  rintro i m σ H ⟨rfl, hi, p⟩
  by_cases hlt : i < l.length
  · refine .inr ⟨by show i < (S l).cps.size; omega, Pv (i + 1), fun σ' H' p' => ⟨l.length - (i + 1), by omega, rfl, hlt, p'⟩, fun x H' y => ?_⟩
    obtain ⟨e, c, hc, ex⟩ := y
    subst e
    subst ex
    exact hs i c σ _ (S_at hc) p
  · have e : i = l.length := by omega
    subst e
    exact .inl ⟨by show (S l).cps.size ≤ _; omega, hd σ H p⟩
theorem lc_text (Pv : Nat → Hp → Prop) (h0 : Pv 0 (upd H1 D (.lst [])))
    (hs : ∀ (i : Nat) c H, l[i]? = some c → Pv i H → gName s (.str (S [c])) (wipe σ [s]) H fun σ2 H2 => wipe σ2 [s] = wipe σ [s] ∧ tYes σ2 H2 fun b H3 =>
      if b = true then te σ2 H3 fun y H4 => ∃ acc, H4 D = some (.lst acc) ∧ acc.length < sizeLine ∧ Pv (i + 1) (upd H4 D (.lst (acc ++ [y]))) else Pv (i + 1) H3) (hd : ∀ H, Pv l.length H → Qd H) :
    ∃ W : Nat → Nat → Hp → Prop, (∃ m, W 0 m (upd H1 D (.lst []))) ∧ ∀ i m H, W i m H →
      ((Its (S l)).stop i H ∧ Qd H) ∨ ((Its (S l)).go i H ∧ ∃ Nx : Hp → Prop, (∀ H', Nx H' → ∃ m', m' < m ∧ W (i + 1) m' H') ∧ ∀ x H', (Its (S l)).yld i H x H' → gName s x (wipe σ [s]) H' fun σ2 H2 => wipe σ2 [s] = wipe σ [s] ∧ tYes σ2 H2 fun b H3 =>
        if b = true then te σ2 H3 fun y H4 => ∃ acc, H4 D = some (.lst acc) ∧ acc.length < sizeLine ∧ Nx (upd H4 D (.lst (acc ++ [y]))) else Nx H3) := by
  have sz : (S l).cps.size = l.length := by simp [S]
  refine ⟨fun i m H => m = l.length - i ∧ i ≤ l.length ∧ Pv i H, ⟨l.length, by simp, Nat.zero_le _, h0⟩, ?_⟩
  rintro i m H ⟨rfl, hi, p⟩
  by_cases hlt : i < l.length
  · refine .inr ⟨by show i < (S l).cps.size; omega, Pv (i + 1), fun H' p' => ⟨l.length - (i + 1), by omega, rfl, hlt, p'⟩, fun x H' y => ?_⟩
    obtain ⟨e, c, hc, ex⟩ := y
    subst e
    subst ex
    exact hs i c _ (S_at hc) p
  · have e : i = l.length := by omega
    subst e
    exact .inl ⟨by show (S l).cps.size ≤ _; omega, hd H p⟩
/-- [f(c) for c in text], f a value that hangs on the sign alone -/
theorem map_text (f : Nat → V) (hz : l.length ≤ sizeLine) (fresh : H1 D = none)
    (elt : ∀ (i : Nat) c, l[i]? = some c → ∀ H, Same H1 H → ∀ Q' : VK, (∀ H', Same H H' → Q' (f c) H') → te ((σ.set s none).set s (some (.str (S [c])))) H Q')
    (hd : ∀ H, Same H1 H → H D = some (.lst (l.map f)) → Qd H) :
    ∃ W : Nat → Nat → Hp → Prop, (∃ m, W 0 m (upd H1 D (.lst []))) ∧ ∀ i m H, W i m H →
      ((Its (S l)).stop i H ∧ Qd H) ∨ ((Its (S l)).go i H ∧ ∃ Nx : Hp → Prop, (∀ H', Nx H' → ∃ m', m' < m ∧ W (i + 1) m' H') ∧ ∀ x H', (Its (S l)).yld i H x H' → gName s x (wipe σ [s]) H' fun σ2 H2 => wipe σ2 [s] = wipe σ [s] ∧ tYes σ2 H2 fun b H3 =>
        if b = true then te σ2 H3 fun y H4 => ∃ acc, H4 D = some (.lst acc) ∧ acc.length < sizeLine ∧ Nx (upd H4 D (.lst (acc ++ [y]))) else Nx H3) :=
  lc_text (CompSo (fun i v _ => ∃ c, l[i]? = some c ∧ v = f c) H1 D) (comp_start fresh)
    (fun i c H hc so => comp_turn (fun _ _ _ _ h _ => h) hz fresh (List.getElem?_eq_some_iff.mp hc).1 so fun H sm Q' hQ => elt i c hc H sm Q' fun H' sm' => hQ _ H' sm' ⟨c, hc, rfl⟩)
    fun H ⟨sm, ys, hD, hlen, hP⟩ => hd H sm (by rw [← eq_map hlen hP]; exact hD)
end
end Cs

set_option maxRecDepth 100000
set_option maxHeartbeats 4000000
/-! widths of texts -/
namespace Cs
open PySem PySem.Spec PyProof.Rows L2
def alpha : List Nat := (Str.ofString " !\"#$&'()*+,-./0123456789:;<=>?@ABCDEFGHIJKLMNOPQRSTUVWXYZ[\\]^_`" ++ Str.ofString "abcdefghijklmnopqrstuvwxyz{|}~").cps.toList
theorem alpha_len : alpha.length = 94 := by decide +kernel
theorem alpha_small : ∀ c ∈ alpha, c < 128 := by decide +kernel
/-- the width of the sign with the code c -/
def gw (c : Nat) : Int :=
  if c ∈ (Str.ofString "!'.:i|").cps.toList then 1
  else if c ∈ (Str.ofString "(),;[]jl`").cps.toList then 2
  else if c ∈ (Str.ofString " \"*-/1<>I\\^frt{}").cps.toList then 3
  else if c ∈ (Str.ofString "$023456789=?J_abcdeghknopqsuvxyz").cps.toList then 4
  else 5
theorem gw_pos (c : Nat) : 1 ≤ gw c := by unfold gw; split <;> (try decide); split <;> (try decide); split <;> (try decide); split <;> decide
theorem gw_le (c : Nat) : gw c ≤ 5 := by unfold gw; split <;> (try decide); split <;> (try decide); split <;> (try decide); split <;> decide
/-- a text of such signs -/
def Word (l : List Nat) : Prop := ∀ c ∈ l, c ∈ alpha
theorem Word.nil : Word [] := fun _ h => absurd h List.not_mem_nil
theorem Word.app {l m : List Nat} (a : Word l) (b : Word m) : Word (l ++ m) := fun c h => (List.mem_append.mp h).elim (a c) (b c)
theorem Word.one {c : Nat} (h : c ∈ alpha) : Word [c] := fun d hd => by rw [List.mem_singleton.mp hd]; exact h
def tw (l : List Nat) : Int := if l = [] then 0 else (l.map gw).sum + l.length - 1
theorem sum_gw : ∀ l : List Nat, (l.length : Int) ≤ (l.map gw).sum ∧ (l.map gw).sum ≤ 5 * l.length
  | [] => by simp
  | c :: r => by
    have := sum_gw r
    have := gw_pos c
    have := gw_le c
    rw [List.map_cons, List.sum_cons, List.length_cons]
    omega
theorem tw_nn (l : List Nat) : 0 ≤ tw l := by
  unfold tw
  split
  · exact Int.le_refl _
  · have := (sum_gw l).1
    have : 0 < l.length := List.length_pos_iff.mpr (by assumption)
    omega
theorem tw_le (l : List Nat) : tw l ≤ 6 * l.length := by
  unfold tw
  split
  · omega
  · have := (sum_gw l).2
    omega
theorem sum_gw1 : ∀ l : List Nat, (l.map fun c => 1 + gw c).sum = (l.map gw).sum + l.length
  | [] => by simp
  | c :: r => by
    have := sum_gw1 r
    rw [List.map_cons, List.sum_cons, List.map_cons, List.sum_cons, List.length_cons]
    omega
theorem tw_law (l : List Nat) : max ((l.map fun c => 1 + gw c).sum - 1) 0 = tw l := by
  rw [sum_gw1]
  unfold tw
  split
  · rename_i h
    subst h
    show max ((0 : Int) + 0 - 1) 0 = 0
    decide
  · have := (sum_gw l).1
    have : 0 < l.length := List.length_pos_iff.mpr (by assumption)
    omega
theorem tw_app (l m : List Nat) (h1 : l ≠ []) (h2 : m ≠ []) : tw (l ++ m) = tw l + 1 + tw m := by
  unfold tw
  rw [if_neg h1, if_neg h2, if_neg (by simp [h1]), List.map_append, List.sum_append, List.length_append]
  omega
theorem sum_take_map {f : Nat → Int} {l : List Nat} {i : Nat} {c : Nat} (h : l[i]? = some c) : ((l.take (i + 1)).map f).sum = ((l.take i).map f).sum + f c := by
  rw [List.take_add_one, h, List.map_append, List.sum_append]
  simp
/-- the column x is one of a sign's, the first sign at left -/
def ink : List Nat → Int → Int → Bool
  | [], _, _ => false
  | c :: r, left, x => if x < left + gw c then decide (left ≤ x) && !decide (c = 32) else ink r (left + gw c + 1) x
theorem ink_cons (c : Nat) (r : List Nat) (left x : Int) : ink (c :: r) left x = if x < left + gw c then decide (left ≤ x) && !decide (c = 32) else ink r (left + gw c + 1) x := rfl
theorem ink_off : ∀ (l : List Nat) (left x : Int), x < left → ink l left x = false
  | [], _, _, _ => rfl
  | c :: r, left, x, h => by
    have := gw_pos c
    unfold ink
    rw [if_pos (by omega), decide_eq_false (by omega)]
    rfl
/-- .. as the law asks it -/
def ink2 : List Nat → Int → Int → Bool
  | [], _, _ => false
  | c :: r, left, x => if left ≤ x ∧ x < left + gw c then !decide (c = 32) else ink2 r (left + gw c + 1) x
theorem ink2_cons (c : Nat) (r : List Nat) (left x : Int) : ink2 (c :: r) left x = if left ≤ x ∧ x < left + gw c then !decide (c = 32) else ink2 r (left + gw c + 1) x := rfl
theorem ink2_off : ∀ (l : List Nat) (left x : Int), x < left → ink2 l left x = false
  | [], _, _, _ => rfl
  | c :: r, left, x, h => by
    have := gw_pos c
    unfold ink2
    rw [if_neg (by omega)]
    exact ink2_off r _ _ (by omega)
theorem ink_eq : ∀ (l : List Nat) (left x : Int), ink2 l left x = ink l left x
  | [], _, _ => rfl
  | c :: r, left, x => by
    have := gw_pos c
    unfold ink2 ink
    by_cases h : x < left + gw c
    · rw [if_pos h]
      by_cases h2 : left ≤ x
      · rw [if_pos ⟨h2, h⟩, decide_eq_true h2]; rfl
      · rw [if_neg (by omega), decide_eq_false h2, ink2_off r _ _ (by omega)]; rfl
    · rw [if_neg h, if_neg (by omega)]
      exact ink_eq r _ _
def inkT (l : List Nat) (x y : Int) : Bool := (decide (0 ≤ y) && decide (y < 7)) && ink l 0 x
theorem drop_cons {l : List Nat} {i : Nat} {c : Nat} (h : l[i]? = some c) : l.drop i = c :: l.drop (i + 1) := by
  obtain ⟨hi, e⟩ := List.getElem?_eq_some_iff.mp h
  rw [List.drop_eq_getElem_cons hi, e]
/-- the written table of widths -/
structure Glyphs (K : PySem.W.Frag) (w : World) (mg : Str → Option Value) : Prop where
  tab : ∃ (d : Addr) (es : Array DictEntry) (n : Nat), mg "GLYPH_WIDTHS" = some (.ref d) ∧ KDict K w d es n ∧ ∀ c ∈ alpha, (∃ t, findBy Value.isStrOf es (S [c]) = some (.int (gw c) t)) ∨ (findBy Value.isStrOf es (S [c]) = none ∧ gw c = 5)
  other : ∃ t, mg "OTHER_WIDTH" = some (.int 5 t)
  height : ∃ t, mg "TEXT_HEIGHT" = some (.int 7 t)
/-- the check of the table, to be run -/
def tabB (es : Array DictEntry) : Bool := alpha.all fun c => match findBy Value.isStrOf es (S [c]) with
  | some (.int i _) => decide (i = gw c)
  | none => decide (gw c = 5)
  | _ => false
theorem tab_of {es : Array DictEntry} (h : tabB es = true) : ∀ c ∈ alpha, (∃ t, findBy Value.isStrOf es (S [c]) = some (.int (gw c) t)) ∨ (findBy Value.isStrOf es (S [c]) = none ∧ gw c = 5) := fun c hc => by
  have q := List.all_eq_true.mp h c hc
  split at q
  · rename_i i t e
    exact .inl ⟨t, by rw [e, of_decide_eq_true q]⟩
  · rename_i e
    exact .inr ⟨e, of_decide_eq_true q⟩
  · cases q
def sp_glyph_width (K : PySem.W.Frag) : Sp := fun vs H Q _ => ∃ c, vs = [.str (S [c])] ∧ c ∈ alpha ∧ Q (.int (gw c)) H
def sp_text_width (K : PySem.W.Frag) : Sp := fun vs H Q _ => ∃ l, vs = [.str (S l)] ∧ Word l ∧ l.length ≤ 100000 ∧ ∀ H', Same H H' → Q (.int (tw l)) H'
def sp_inked (K : PySem.W.Frag) : Sp := fun vs H Q _ => ∃ l x y, vs = [.str (S l), .int x, .int y] ∧ Word l ∧ Q (.bl (inkT l x y)) H
def sp_law_sign_width (K : PySem.W.Frag) : Sp := fun vs H Q _ => ∃ c, vs = [.str (S [c])] ∧ Q (.int (gw c)) H
def sp_law_width (K : PySem.W.Frag) : Sp := fun vs H Q _ => ∃ l, vs = [.str (S l)] ∧ Q (.int (tw l)) H
def sp_law_inked (K : PySem.W.Frag) : Sp := fun vs H Q _ => ∃ l x y, vs = [.str (S l), .int x, .int y] ∧ Q (.bl (inkT l x y)) H
def sp_law_word (K : PySem.W.Frag) : Sp := fun vs H Q _ => ∃ (t l : Addr), vs = [.ref t] ∧ TapeAt H t l ∧ ∀ m H', TapeAt H' t l → Gr t H H' → Word m → m.length ≤ 5 → Q (.str (S m)) H'
theorem S_lit : S [] = Str.ofString "" := by decide +kernel
theorem S_sp : S [32] = Str.ofString " " := by decide +kernel
theorem S_sp_iff {c : Nat} : (S [c] = Str.ofString " ") ↔ c = 32 := by
  rw [← S_sp]
  constructor
  · intro h
    have := S_inj h
    simpa using this
  · intro h; rw [h]
end Cs

set_option maxRecDepth 100000
set_option maxHeartbeats 4000000
/-! t[a::2] of a tuple -/
namespace Cs
open PySem PySem.Spec PyProof.Rows L2
/-- every other item, from the first on -/
def ev {α : Type} : List α → List α
  | [] => []
  | [a] => [a]
  | a :: _ :: r => a :: ev r
theorem ev_vals : ∀ {xs : List V} {us : List Value}, Vals xs us → Vals (ev xs) (ev us)
  | _, _, .nil => .nil
  | _, _, .cons h .nil => .cons h .nil
  | _, _, .cons h (.cons _ t) => .cons h (ev_vals t)
theorem ev_len {α : Type} : ∀ l : List α, (ev l).length ≤ l.length
  | [] => Nat.le_refl _
  | [_] => Nat.le_refl _
  | _ :: _ :: r => by have := ev_len r; show (ev r).length + 1 ≤ r.length + 1 + 1; omega
theorem ev_pick {α : Type} : ∀ l : List α, ((List.range ((l.length + 1) / 2)).filterMap fun m => l[2 * m]?) = ev l
  | [] => by simp [ev]
  | [a] => by simp [ev]
  | a :: b :: r => by
    have e : ((a :: b :: r).length + 1) / 2 = (r.length + 1) / 2 + 1 := by
      show (r.length + 1 + 1 + 1) / 2 = _
      omega
    rw [e, List.range_succ_eq_map, List.filterMap_cons, List.filterMap_map]
    have e2 : ((fun m => (a :: b :: r)[2 * m]?) ∘ Nat.succ) = fun m => r[2 * m]? := by
      funext m
      show (a :: b :: r)[2 * (m + 1)]? = _
      rw [show 2 * (m + 1) = 2 * m + 1 + 1 from by omega, List.getElem?_cons_succ, List.getElem?_cons_succ]
    rw [e2, ev_pick r]
    rfl
section
variable {prog : Program} {w : World} {A : Around} {E : Value → Shared → Prop} {s : Shared}
theorem slice_two {sl : Addr} {vl : Value} {u : Tok} {lo : Option Int} {n : Nat} {Q : Int × Int × Nat → Shared → Prop} (hs : s.heap.IsSliceOf sl vl .none (.int 2 u)) (pl : IsPart vl lo)
    (h : Q (((HT.sIx n 0 lo : Nat) : Int), 2, (n - HT.sIx n 0 lo + 1) / 2) s) : wpAny (model prog w) A (Builtin.Slice.sliceApplied (.ref sl) (pure (n : Int))) Q E s := by
  obtain ⟨os, hos, hcs, hds⟩ := id hs
  unfold Builtin.Slice.sliceApplied Builtin.Slice.sliceFields
  refine wpAny_bind (wpAny_bind (wpAny_field hos hds (x := vl) rfl (wpAny_bind (wpAny_field hos hds (x := .none) rfl (wpAny_bind (wpAny_field hos hds (x := .int 2 u) rfl (wpAny_pure ?_)))))))
  refine wpAny_bind (HT.slicePart_ (.int 2 u) ?_)
  show wpAny _ _ (if ((2 : Int) == 0) = true then _ else _) _ _ s
  rw [if_neg (by decide)]
  refine wpAny_bind (HT.slicePart_ pl (wpAny_bind (HT.slicePart_ .none (wpAny_bind (wpAny_pure ?_)))))
  have e1 : Builtin.Slice.sliceAdjust lo none 2 (n : Int) = (((HT.sIx n 0 lo : Nat) : Int), (n : Int)) := by
    unfold Builtin.Slice.sliceAdjust
    simp only [show ¬ ((2 : Int) < 0) from by omega, if_false]
    refine Prod.ext ?_ rfl
    cases lo with
    | none => rfl
    | some v => exact HT.clip_eq v n 0
  have hle : HT.sIx n 0 lo ≤ n := HT.sIx_le n 0 (Nat.zero_le _) lo
  have e2 : Builtin.Slice.slicePlaces ((HT.sIx n 0 lo : Nat) : Int) (n : Int) 2 = (n - HT.sIx n 0 lo + 1) / 2 := by
    unfold Builtin.Slice.slicePlaces
    simp only [show (2 : Int) > 0 from by omega, if_true]
    split <;> omega
  show wpAny _ _ (match Builtin.Slice.sliceAdjust lo none 2 (n : Int) with | (lo, hi) => pure (lo, (2 : Int), Builtin.Slice.slicePlaces lo hi 2)) _ _ s
  rw [e1]
  show wpAny _ _ (pure (((HT.sIx n 0 lo : Nat) : Int), (2 : Int), Builtin.Slice.slicePlaces ((HT.sIx n 0 lo : Nat) : Int) (n : Int) 2)) _ _ s
  rw [e2]
  exact wpAny_pure h
theorem pick_two (xs : Array Value) (i : Nat) : ((List.range ((xs.size - i + 1) / 2)).filterMap fun (m : Nat) => xs[((i : Int) + (m : Int) * 2).toNat]?).toArray = (ev (xs.toList.drop i)).toArray := by
  have e : (fun (m : Nat) => xs[((i : Int) + (m : Int) * 2).toNat]?) = fun m => (xs.toList.drop i)[2 * m]? := by
    funext m
    rw [List.getElem?_drop, Array.getElem?_toList]
    congr 1
    omega
  rw [e, ← ev_pick (xs.toList.drop i), List.length_drop, Array.length_toList]
theorem item_two {t sl : Addr} {items : Array Value} {vl : Value} {u : Tok} {lo : Option Int} {Q : Value → Shared → Prop} (ht : IsTup s.heap t items) (hs : s.heap.IsSliceOf sl vl .none (.int 2 u)) (pl : IsPart vl lo)
    (h : Q (.ref s.heap.objs.size) { s with heap := s.heap.push { cls := .type "tuple", data := .seq (ev (items.toList.drop (HT.sIx items.size 0 lo))).toArray } })
    (hsz : items.size ≤ sizeLine) : wpAny (model prog w) A (getItem (.ref t) (.ref sl)) Q E s := by
  have ok : sizeOk (.seq (ev (items.toList.drop (HT.sIx items.size 0 lo))).toArray) := by
    show (ev (items.toList.drop (HT.sIx items.size 0 lo))).toArray.size ≤ sizeLine
    have := ev_len (items.toList.drop (HT.sIx items.size 0 lo))
    rw [List.length_drop] at this
    have e : items.toList.length = items.size := Array.length_toList
    rw [List.size_toArray]
    omega
  obtain ⟨os, hos, hcs, hds⟩ := id hs
  have hTs : s.TypeIs (.ref sl) "slice" := ⟨os, hos, hcs⟩
  unfold getItem
  try with_reducible refine wpAny_holding ?_
  first | refine wpAny_bind (wpAny_pure ?_) | skip
  refine wpAny_bind (wpAny_sequenceKey ht.typeIs (by decide) ?_)
  refine wpAny_bind (wpAny_callSpecial?_slot (name := Str.ofString "__getitem__") ht.typeIs PyProof.Rows.slot_tuple_getitem (wpAny_call_entry PyProof.Rows.slot_tuple_getitem ht.typeIs entry_tuple_getitem ?_ (args_tuple_getitem _ _)))
  show wpAny _ _ (Builtin.Tuple.tupleItemsOf (.ref t) >>= _) _ _ s
  refine wpAny_bind (tupleItemsOf_ ht (wpAny_bind (wpAny_typeOf hTs ?_)))
  rw [if_pos (by decide)]
  refine wpAny_bind (slice_two hs pl ?_)
  have hno : ¬ ((((HT.sIx items.size 0 lo : Nat) : Int) == 0 && (2 : Int) == 1 && ((items.size - HT.sIx items.size 0 lo + 1) / 2) == items.size) = true) := by
    intro q
    rw [Bool.and_eq_true, Bool.and_eq_true] at q
    exact absurd q.1.2 (by decide)
  show wpAny _ _ (if (((HT.sIx items.size 0 lo : Nat) : Int) == 0 && (2 : Int) == 1 && ((items.size - HT.sIx items.size 0 lo + 1) / 2) == items.size) = true then _ else _) _ _ s
  rw [if_neg hno, pick_two]
  first
    | exact wpAny_bind (m := Builtin.Tuple.tupleExact _) (wpAny_newObj_type (wpAny_pure ⟨_, rfl, wpAny_pure h⟩) ok)
    | exact wpAny_bind (m := Builtin.Tuple.tupleExact _) (wpAny_newObj_type (wpAny_bind (wpAny_pure (wpAny_pure ⟨_, rfl, wpAny_pure h⟩))) ok)
    | exact wpAny_bind (wpAny_bind (m := Builtin.Tuple.tupleExact _) (wpAny_newObj_type (wpAny_pure (wpAny_pure ⟨_, rfl, wpAny_pure h⟩)) ok))
    | exact wpAny_bind (wpAny_bind (m := Builtin.Tuple.tupleExact _) (wpAny_newObj_type (wpAny_pure ⟨_, rfl, wpAny_pure h⟩) ok))
end
section
variable {X : Cx} {e : Expr} {te : TE} {lo : Option Expr} {tl : TO} {pos p2 p3 : Pos} {j : Nat}
def tSl2 (K : PySem.W.Frag) (te : TE) (tl : TO) : TE := fun σ H Q => te σ H fun x H1 => tl σ H1 fun l H2 => ∃ a xs, x = .ref a ∧ SqT K H2 a xs ∧ ∀ p, H2 p = none → Q (.ref p) (upd H2 p (.tup (ev (xs.drop (HT.sIx xs.length 0 l)))))
theorem pe_sl2 (K : PySem.W.Frag) (he : PE X e te) (hl : PO X lo tl) (hK : X.K = K := by rfl) : PE X (.Subscript e (.Slice lo none (some (.Constant (.int 2) j p3)) p2) pos) (tSl2 K te tl) := by
  subst hK
  refine ⟨fun pins s σ H Q I h => ?_⟩
  refine Subscript_ (thn (he.run pins s σ H _ I h) fun v s1 ⟨x, H1, I1, r1, q1⟩ => ?_)
  refine wpAny_Slice (thn (hl.run pins s1 σ H1 _ I1 q1) fun vl s2 ⟨l, H2, I2, pl, q2⟩ => ?_)
  rw [evalPart_none]
  refine wpAny_pure (thn ((pe_int (X := X) (i := 2) (j := j) (pos := p3)).run pins s2 σ H2 (fun v H' => v = .int 2 ∧ H' = H2) I2 ⟨rfl, rfl⟩) fun vs s3 ⟨y, H3, I3, ry, e1, e2⟩ => ?_)
  subst e1
  subst e2
  obtain ⟨u, rfl⟩ := (show ∃ t, vs = Value.int 2 t from ry)
  obtain ⟨a, xs, ex, hx, q⟩ := q2
  subst ex
  obtain rfl : v = Value.ref a := r1
  have I4 : Inv X pins σ H3 { s3 with heap := s3.heap.push { cls := .type "slice", data := .fields #[vl, .none, .int 2 u] } } := I3.kept (t' := s3.toks) fun b ob q => Heap.get?_push_of_some _ q
  obtain ⟨its, r, ht, hz⟩ := I4.tuple hx
  have hlen : its.toArray.size = xs.length := by rw [List.size_toArray]; exact r.length.symm
  show wpAny (model X.prog X.w) X.A (subscriptTail e (.Slice lo none (some (.Constant (.int 2) j p3)) p2) (.ref a) (.ref s3.heap.objs.size)) (EP X pins σ Q) X.xe { s3 with heap := s3.heap.push { cls := .type "slice", data := .fields #[vl, .none, .int 2 u] } }
  refine tail_any (ops := [.ref a, .ref s3.heap.objs.size]) ht.typeIs PyProof.Rows.slot_tuple_getitem.lookup ?_ (by with_unfolding_all rfl)
  refine item_two ht (Heap.IsSliceOf.new ..) pl ?_ (by rw [hlen]; exact hz)
  rw [hlen]
  refine ⟨.ref _, _, I4.laid (t' := s3.toks) (o := .tup (ev (xs.drop (HT.sIx xs.length 0 l)))) (fun b ob q => Heap.get?_push_of_some _ q) (Nat.le_refl _) ?_, rfl, q _ (I4.hok.fresh (Nat.le_refl _))⟩
  exact ⟨Nat.le_trans (ev_len _) (by rw [List.length_drop]; omega), _, ev_vals (r.drop (HT.sIx xs.length 0 l)), IsTup.new _ _⟩
end
end Cs

set_option maxRecDepth 100000
set_option maxHeartbeats 4000000
/-! shapes -/
namespace Cs
open PySem PySem.Spec PyProof.Rows L2
/-- v is a tuple of vs -/
def Tup (K : PySem.W.Frag) (H : Hp) (v : V) (vs : List V) : Prop := ∃ a, v = .ref a ∧ SqT K H a vs
theorem Tup.im {K : PySem.W.Frag} {H H' : Hp} {v : V} {vs : List V} (h : Tup K H v vs) (e : Im H H') : Tup K H' v vs := let ⟨a, h1, h2⟩ := h; ⟨a, h1, e.sqT h2⟩
theorem Tup.same {K : PySem.W.Frag} {H H' : Hp} {v : V} {vs : List V} (h : Tup K H v vs) (e : Same H H') : Tup K H' v vs := h.im (Im.same e)
inductive Sh where
  | rect (x y w h : Int)
  | line (x y u v : Int)
  | poly (p : Int × Int) (ps : List (Int × Int))
  | circ (x y r : Int)
  | tS (x y : Int) (l : List Nat)
  | tM (x y : Int) (l : List Nat)
  | tE (x y : Int) (l : List Nat)
def flat : List (Int × Int) → List Int
  | [] => []
  | p :: r => p.1 :: p.2 :: flat r
def Sh.name : Sh → Str
  | .rect .. => Str.ofString "rectangle"
  | .line .. => Str.ofString "line"
  | .poly .. => Str.ofString "polyline"
  | .circ .. => Str.ofString "circle"
  | .tS .. => Str.ofString "text start"
  | .tM .. => Str.ofString "text middle"
  | .tE .. => Str.ofString "text end"
def Sh.pts : Sh → List Int
  | .rect x y w h => [x, y, w, h]
  | .line x y u v => [x, y, u, v]
  | .poly p ps => flat (p :: ps)
  | .circ x y r => [x, y, r]
  | .tS x y _ => [x, y]
  | .tM x y _ => [x, y]
  | .tE x y _ => [x, y]
def Sh.txt : Sh → List Nat
  | .tS _ _ l => l
  | .tM _ _ l => l
  | .tE _ _ l => l
  | _ => []
/-- its corners (of a line, a polyline) -/
def Sh.cor : Sh → List (Int × Int)
  | .line x y u v => [(x, y), (u, v)]
  | .poly p ps => p :: ps
  | _ => []
/-- r is the least rectangle that holds the pixels ps -/
structure IsBB (ps : List (Int × Int)) (r : R) : Prop where
  l1 : r.l ∈ ps.map (·.1)
  l2 : ∀ p ∈ ps, r.l ≤ p.1
  t1 : r.t ∈ ps.map (·.2)
  t2 : ∀ p ∈ ps, r.t ≤ p.2
  r1 : r.l + r.w - 1 ∈ ps.map (·.1)
  r2 : ∀ p ∈ ps, p.1 ≤ r.l + r.w - 1
  b1 : r.t + r.h - 1 ∈ ps.map (·.2)
  b2 : ∀ p ∈ ps, p.2 ≤ r.t + r.h - 1
theorem IsBB.one {ps : List (Int × Int)} {a b : R} (h : IsBB ps a) (k : IsBB ps b) : a = b := by
  have el : a.l = b.l := by
    obtain ⟨p, p1, p2⟩ := List.mem_map.mp h.l1
    obtain ⟨q, q1, q2⟩ := List.mem_map.mp k.l1
    have := h.l2 q q1; have := k.l2 p p1; omega
  have et : a.t = b.t := by
    obtain ⟨p, p1, p2⟩ := List.mem_map.mp h.t1
    obtain ⟨q, q1, q2⟩ := List.mem_map.mp k.t1
    have := h.t2 q q1; have := k.t2 p p1; omega
  have er : a.l + a.w - 1 = b.l + b.w - 1 := by
    obtain ⟨p, p1, p2⟩ := List.mem_map.mp h.r1
    obtain ⟨q, q1, q2⟩ := List.mem_map.mp k.r1
    have := h.r2 q q1; have := k.r2 p p1; omega
  have eb : a.t + a.h - 1 = b.t + b.h - 1 := by
    obtain ⟨p, p1, p2⟩ := List.mem_map.mp h.b1
    obtain ⟨q, q1, q2⟩ := List.mem_map.mp k.b1
    have := h.b2 q q1; have := k.b2 p p1; omega
  obtain ⟨l, t, w, h'⟩ := a
  obtain ⟨l2, t2, w2, h2⟩ := b
  simp only at el et er eb
  subst el et
  have : w = w2 := by omega
  have : h' = h2 := by omega
  simp [*]
/-- r is the rectangle around s -/
def IsBox : Sh → R → Prop
  | .rect x y w h, r => r = ⟨x, y, w, h⟩
  | .line x y u v, r => IsBB [(x, y), (u, v)] r
  | .poly p ps, r => IsBB (p :: ps) r
  | .circ x y q, r => r = ⟨x - q, y - q, 2 * q + 1, 2 * q + 1⟩
  | .tS x y l, r => r = ⟨x, y, tw l, 7⟩
  | .tM x y l, r => r = ⟨x - tw l / 2, y, tw l, 7⟩
  | .tE x y l, r => r = ⟨x - tw l, y, tw l, 7⟩
theorem IsBox.one {s : Sh} {a b : R} (h : IsBox s a) (k : IsBox s b) : a = b := by
  cases s with
  | line x y u v => exact IsBB.one h k
  | poly p ps => exact IsBB.one h k
  | rect x y w h' => exact Eq.trans h (Eq.symm k)
  | circ x y q => exact Eq.trans h (Eq.symm k)
  | tS x y l => exact Eq.trans h (Eq.symm k)
  | tM x y l => exact Eq.trans h (Eq.symm k)
  | tE x y l => exact Eq.trans h (Eq.symm k)
theorem flat_ev : ∀ ps : List (Int × Int), ev (flat ps) = ps.map (·.1)
  | [] => rfl
  | p :: r => by show p.1 :: ev (flat r) = _; rw [flat_ev r]; rfl
theorem flat_od : ∀ ps : List (Int × Int), ev ((flat ps).drop 1) = ps.map (·.2)
  | [] => rfl
  | [p] => rfl
  | p :: q :: r => by
    have := flat_od (q :: r)
    show p.2 :: ev (q.2 :: flat r) = _
    have e : ev (q.2 :: flat r) = ev ((flat (q :: r)).drop 1) := rfl
    rw [e, this]
    rfl
theorem flat_len : ∀ ps : List (Int × Int), (flat ps).length = 2 * ps.length
  | [] => rfl
  | p :: r => by show (flat r).length + 1 + 1 = _; rw [flat_len r, List.length_cons]; omega
theorem flat_app : ∀ a b : List (Int × Int), flat (a ++ b) = flat a ++ flat b
  | [], b => rfl
  | p :: r, b => by show p.1 :: p.2 :: flat (r ++ b) = _; rw [flat_app r b]; rfl
theorem flat_at : ∀ (ps : List (Int × Int)) (i : Nat) (p : Int × Int), ps[i]? = some p → (flat ps)[2 * i]? = some p.1 ∧ (flat ps)[2 * i + 1]? = some p.2
  | [], i, p, h => by simp at h
  | q :: r, 0, p, h => by
    have e : q = p := Option.some.inj h
    subst e
    exact ⟨rfl, rfl⟩
  | q :: r, i + 1, p, h => by
    have := flat_at r i p h
    show (q.1 :: q.2 :: flat r)[2 * (i + 1)]? = _ ∧ (q.1 :: q.2 :: flat r)[2 * (i + 1) + 1]? = _
    rw [show 2 * (i + 1) = 2 * i + 1 + 1 from by omega, List.getElem?_cons_succ, List.getElem?_cons_succ, List.getElem?_cons_succ, List.getElem?_cons_succ]
    exact this
theorem ev_map {α β : Type} (f : α → β) : ∀ l : List α, ev (l.map f) = (ev l).map f
  | [] => rfl
  | [_] => rfl
  | a :: b :: r => by show f a :: ev (r.map f) = _; rw [ev_map f r]; rfl
theorem Sh.pts_cor {s : Sh} (h : s.cor ≠ []) : s.pts = flat s.cor := by
  cases s <;> first | rfl | exact absurd rfl h
theorem bb_of {ps : List (Int × Int)} {L T Rt B : Int} (h1 : L ∈ ps.map (·.1)) (h1' : ∀ z, z ∈ ps.map (·.1) → L ≤ z) (h2 : T ∈ ps.map (·.2)) (h2' : ∀ z, z ∈ ps.map (·.2) → T ≤ z)
    (h3 : Rt ∈ ps.map (·.1)) (h3' : ∀ z, z ∈ ps.map (·.1) → z ≤ Rt) (h4 : B ∈ ps.map (·.2)) (h4' : ∀ z, z ∈ ps.map (·.2) → z ≤ B) : IsBB ps ⟨L, T, Rt - L + 1, B - T + 1⟩ := by
  have e1 : L + (Rt - L + 1) - 1 = Rt := by omega
  have e2 : T + (B - T + 1) - 1 = B := by omega
  refine ⟨h1, fun p hp => h1' _ (List.mem_map.mpr ⟨p, hp, rfl⟩), h2, fun p hp => h2' _ (List.mem_map.mpr ⟨p, hp, rfl⟩), ?_, fun p hp => ?_, ?_, fun p hp => ?_⟩
  · show L + (Rt - L + 1) - 1 ∈ _
    rw [e1]; exact h3
  · show _ ≤ L + (Rt - L + 1) - 1
    rw [e1]; exact h3' _ (List.mem_map.mpr ⟨p, hp, rfl⟩)
  · show T + (B - T + 1) - 1 ∈ _
    rw [e2]; exact h4
  · show _ ≤ T + (B - T + 1) - 1
    rw [e2]; exact h4' _ (List.mem_map.mpr ⟨p, hp, rfl⟩)
def iv (l : List Int) : List V := l.map V.int
structure ShOk (s : Sh) : Prop where
  word : Word s.txt
  tlen : s.txt.length ≤ 1000
  plen : s.pts.length ≤ 1000
def sp_around_points (K : PySem.W.Frag) : Sp := fun vs H Q _ => ∃ (v : V) (ps : List (Int × Int)), vs = [v] ∧ Tup K H v (iv (flat ps)) ∧ ps ≠ [] ∧ ps.length ≤ 1000 ∧ ∀ x r H', Same H H' → IsBB ps r → Rc K H' x r → Q x H'
def sp_around_text (K : PySem.W.Frag) : Sp := fun vs H Q _ => ∃ (s : Sh) (v : V), vs = [.str s.name, v, .str (S s.txt)] ∧ Tup K H v (iv s.pts) ∧ ShOk s ∧ (∃ x y l, s = .tS x y l ∨ s = .tM x y l ∨ s = .tE x y l) ∧ ∀ x r H', Same H H' → IsBox s r → Rc K H' x r → Q x H'
def sp_around (K : PySem.W.Frag) : Sp := fun vs H Q _ => ∃ (s : Sh) (v : V), vs = [.str s.name, v, .str (S s.txt)] ∧ Tup K H v (iv s.pts) ∧ ShOk s ∧ ∀ x r H', Same H H' → IsBox s r → Rc K H' x r → Q x H'
def sp_law_around (K : PySem.W.Frag) : Sp := sp_around K
end Cs

set_option maxRecDepth 100000
set_option maxHeartbeats 4000000
/-! min and max of a tuple of ints -/
namespace Cs
open PySem PySem.Spec PyProof.Rows L2
section
variable {prog : Program} {w : World} {A : Around} {E : Value → Shared → Prop} {s : Shared} {l : Addr} {xs : Array (Int × Tok)} {Q : Value → Shared → Prop}
theorem walk_tup (hl : s.heap.IsTuple l (intItems xs))
    (h : ∀ s₂ : Shared, s₂ = { s with heap := s.heap.push { cls := .type "tuple_iterator", data := .fields #[.ref l, .int 0 0] } } →
      (s₂.heap.IsTupleIter s.heap.objs.size l 0 ∧ s₂.heap.IsTuple l (intItems xs)) → (∀ b ∈ [s.heap.objs.size, l], b < s₂.heap.objs.size) → l ≠ s.heap.objs.size → Q (.ref s.heap.objs.size) s₂) :
    wpAny (model prog w) A (pyIter (.ref l)) Q E s := by
  have hlt : l < s.heap.objs.size := by
    obtain ⟨_, e, _⟩ := hl
    exact Heap.lt_size e
  refine wpAny_pyIter_tuple hl (h _ rfl ⟨⟨_, Heap.get?_push_size _ rfl, rfl, rfl⟩, hl.push _⟩ (fun b hb => ?_) (Nat.ne_of_lt hlt))
  show b < (s.heap.push _).objs.size
  rw [Heap.size_push]
  rcases List.mem_cons.mp hb with rfl | hb
  · exact Nat.lt_succ_self _
  · rw [List.mem_singleton.mp hb]
    exact Nat.lt_succ_of_lt hlt
theorem tup_old {h' : Heap} (hk : ∀ b o, b ∉ [s.heap.objs.size] → (s.heap.push { cls := .type "tuple_iterator", data := .fields #[.ref l, .int 0 0] }).get? b = some o → h'.get? b = some o) :
    ∀ b o, s.heap.get? b = some o → h'.get? b = some o := fun b o e => by
  refine hk b o (fun hm => ?_) (Heap.get?_push_of_some _ e)
  have := Heap.lt_size e
  rw [List.mem_singleton.mp hm] at this
  exact absurd this (Nat.lt_irrefl _)
theorem max_tup (hh : A.handled = none) (hl : s.heap.IsTuple l (intItems xs)) (hne : 0 < xs.size)
    (h : ∀ v h' tk, (intItems xs)[argBest (fun i j => decide (numAt xs i > numAt xs j)) (xs.size - 1)]? = some v → (∀ b o, s.heap.get? b = some o → h'.get? b = some o) → Q v { s with heap := h', toks := tk }) :
    wpAny (model prog w) A (call (.builtin "max") [.ref l]) Q E s := by
  refine call_max_walk (walk_tup hl fun s₂ e st hfp hlI => ?_)
  subst e
  refine ⟨_, _, _, _, _, _, _, rfl, Walks.tuple (A := A.in1) hh _ l hlI (intItems xs), st, hfp, by simpa [intItems] using hne, CmpOf.ints_gt (numAt xs) (fun _ _ => intItems_at), fun v h' tk hP hk => ?_⟩
  exact h v h' tk (by simpa [intItems] using hP) (tup_old hk)
theorem min_tup (hh : A.handled = none) (hl : s.heap.IsTuple l (intItems xs)) (hne : 0 < xs.size)
    (h : ∀ v h' tk, (intItems xs)[argBest (fun i j => decide (numAt xs i < numAt xs j)) (xs.size - 1)]? = some v → (∀ b o, s.heap.get? b = some o → h'.get? b = some o) → Q v { s with heap := h', toks := tk }) :
    wpAny (model prog w) A (call (.builtin "min") [.ref l]) Q E s := by
  refine call_min_walk (walk_tup hl fun s₂ e st hfp hlI => ?_)
  subst e
  refine ⟨_, _, _, _, _, _, _, rfl, Walks.tuple (A := A.in1) hh _ l hlI (intItems xs), st, hfp, by simpa [intItems] using hne, CmpOf.ints_lt (numAt xs) (fun _ _ => intItems_at), fun v h' tk hP hk => ?_⟩
  exact h v h' tk (by simpa [intItems] using hP) (tup_old hk)
end
section
variable {X : Cx}
def rMaxT (K : PySem.W.Frag) : List V → Hp → VK → Prop := fun vs H Q => ∃ (a : Addr) (ns : List Int), vs = [V.ref a] ∧ SqT K H a (ns.map V.int) ∧ 0 < ns.length ∧ ∀ m, m ∈ ns → (∀ y, y ∈ ns → y ≤ m) → Q (.int m) H
def rMinT (K : PySem.W.Frag) : List V → Hp → VK → Prop := fun vs H Q => ∃ (a : Addr) (ns : List Int), vs = [V.ref a] ∧ SqT K H a (ns.map V.int) ∧ 0 < ns.length ∧ ∀ m, m ∈ ns → (∀ y, y ∈ ns → m ≤ y) → Q (.int m) H
theorem cr_maxT (hc : X.calm = true) : CallR X (.builtin "max") (rMaxT X.K) := by
  intro pins s σ H vs us Q I r h
  obtain ⟨a, ns, rfl, hs, hne, q⟩ := h
  obtain ⟨its, rv, hl, _⟩ := I.tuple hs
  rw [Vals.ref1 r]
  have hi := rv.ints
  obtain ⟨xs, e⟩ := hi.allInts.items
  have hn : numsOf (intItems xs).toList = ns := by rw [← e]; exact hi.numsOf
  rw [nums_intItems] at hn
  subst hn
  rw [e] at hl
  have hsz : 0 < xs.size := by simpa using hne
  refine max_tup (I.ok.hd hc) hl hsz fun v h' tk hv hk => ?_
  obtain ⟨t, rfl⟩ := intItems_at hv
  obtain ⟨h1, h2⟩ := argBest_gt (numAt xs) (xs.size - 1)
  refine ⟨.int _, H, I.kept hk, ⟨_, rfl⟩, q _ ?_ fun a ha => ?_⟩
  · rw [numAt_eq]; exact PySem.getD_mem (by rw [List.length_map, Array.length_toList]; omega)
  · obtain ⟨j, hj, rfl⟩ := mem_getD ha
    rw [List.length_map, Array.length_toList] at hj
    rw [← numAt_eq]; exact h2 j (by omega)
theorem cr_minT (hc : X.calm = true) : CallR X (.builtin "min") (rMinT X.K) := by
  intro pins s σ H vs us Q I r h
  obtain ⟨a, ns, rfl, hs, hne, q⟩ := h
  obtain ⟨its, rv, hl, _⟩ := I.tuple hs
  rw [Vals.ref1 r]
  have hi := rv.ints
  obtain ⟨xs, e⟩ := hi.allInts.items
  have hn : numsOf (intItems xs).toList = ns := by rw [← e]; exact hi.numsOf
  rw [nums_intItems] at hn
  subst hn
  rw [e] at hl
  have hsz : 0 < xs.size := by simpa using hne
  refine min_tup (I.ok.hd hc) hl hsz fun v h' tk hv hk => ?_
  obtain ⟨t, rfl⟩ := intItems_at hv
  obtain ⟨h1, h2⟩ := argBest_lt (numAt xs) (xs.size - 1)
  refine ⟨.int _, H, I.kept hk, ⟨_, rfl⟩, q _ ?_ fun a ha => ?_⟩
  · rw [numAt_eq]; exact PySem.getD_mem (by rw [List.length_map, Array.length_toList]; omega)
  · obtain ⟨j, hj, rfl⟩ := mem_getD ha
    rw [List.length_map, Array.length_toList] at hj
    rw [← numAt_eq]; exact h2 j (by omega)
theorem minT (K : PySem.W.Frag) (hc : X.calm = true) (h : X.K = K := by rfl) : CallR X (.builtin "min") (rMinT K) := h ▸ cr_minT hc
theorem maxT (K : PySem.W.Frag) (hc : X.calm = true) (h : X.K = K := by rfl) : CallR X (.builtin "max") (rMaxT K) := h ▸ cr_maxT hc
end
end Cs

set_option maxRecDepth 100000
set_option maxHeartbeats 4000000
/-! comprehensions over a stepped range; shapes moved -/
namespace Cs
open PySem PySem.Spec PyProof.Rows L2
section
variable {g : TG} {te : TE} {s : Nat} {σ : L2.St} {H1 : Hp} {D : Addr} {Qd : Hp → Prop} {lo c : Int} {n : Nat}
theorem lc_step (Pv : Nat → Hp → Prop) (h0 : Pv 0 (upd H1 D (.lst [])))
    (hs : ∀ i H, i < n → Pv i H → gName s (.int (lo + (i : Nat) * c)) (wipe σ [s]) H fun σ2 H2 => wipe σ2 [s] = wipe σ [s] ∧ tYes σ2 H2 fun b H3 =>
      if b = true then te σ2 H3 fun y H4 => ∃ acc, H4 D = some (.lst acc) ∧ acc.length < sizeLine ∧ Pv (i + 1) (upd H4 D (.lst (acc ++ [y]))) else Pv (i + 1) H3) (hd : ∀ H, Pv n H → Qd H) :
    ∃ W : Nat → Nat → Hp → Prop, (∃ m, W 0 m (upd H1 D (.lst []))) ∧ ∀ i m H, W i m H →
      ((Itc lo c n).stop i H ∧ Qd H) ∨ ((Itc lo c n).go i H ∧ ∃ Nx : Hp → Prop, (∀ H', Nx H' → ∃ m', m' < m ∧ W (i + 1) m' H') ∧ ∀ x H', (Itc lo c n).yld i H x H' → gName s x (wipe σ [s]) H' fun σ2 H2 => wipe σ2 [s] = wipe σ [s] ∧ tYes σ2 H2 fun b H3 =>
        if b = true then te σ2 H3 fun y H4 => ∃ acc, H4 D = some (.lst acc) ∧ acc.length < sizeLine ∧ Nx (upd H4 D (.lst (acc ++ [y]))) else Nx H3) := by
  refine ⟨fun i m H => m = n - i ∧ i ≤ n ∧ Pv i H, ⟨n, by simp, Nat.zero_le _, h0⟩, ?_⟩
  rintro i m H ⟨rfl, hi, p⟩
  by_cases hlt : i < n
  · refine .inr ⟨hlt, Pv (i + 1), fun H' p' => ⟨n - (i + 1), by omega, rfl, hlt, p'⟩, fun x H' y => ?_⟩
    obtain ⟨e, ex⟩ := y
    subst e
    subst ex
    exact hs i _ hlt p
  · have e : i = n := by omega
    subst e
    exact .inl ⟨Nat.le_refl _, hd H p⟩
/-- [… for k in range(lo, …, c)], whose items are xs, one after another -/
theorem map_step (xs : List V) (hn : xs.length = n) (hz : n ≤ sizeLine) (fresh : H1 D = none)
    (elt : ∀ (i : Nat) v, xs[i]? = some v → ∀ H, Same H1 H → ∀ Q' : VK, (∀ H', Same H H' → Q' v H') → te ((σ.set s none).set s (some (.int (lo + (i : Nat) * c)))) H Q')
    (hd : ∀ H, Same H1 H → H D = some (.lst xs) → Qd H) :
    ∃ W : Nat → Nat → Hp → Prop, (∃ m, W 0 m (upd H1 D (.lst []))) ∧ ∀ i m H, W i m H →
      ((Itc lo c n).stop i H ∧ Qd H) ∨ ((Itc lo c n).go i H ∧ ∃ Nx : Hp → Prop, (∀ H', Nx H' → ∃ m', m' < m ∧ W (i + 1) m' H') ∧ ∀ x H', (Itc lo c n).yld i H x H' → gName s x (wipe σ [s]) H' fun σ2 H2 => wipe σ2 [s] = wipe σ [s] ∧ tYes σ2 H2 fun b H3 =>
        if b = true then te σ2 H3 fun y H4 => ∃ acc, H4 D = some (.lst acc) ∧ acc.length < sizeLine ∧ Nx (upd H4 D (.lst (acc ++ [y]))) else Nx H3) :=
  lc_step (CompSo (fun i v _ => xs[i]? = some v) H1 D) (comp_start fresh)
    (fun i H hi so => comp_turn (fun _ _ _ _ h _ => h) hz fresh hi so fun H sm Q' hQ => by
      have hx : xs[i]? = some xs[i] := List.getElem?_eq_getElem (by omega)
      exact elt i _ hx H sm Q' fun H' sm' => hQ _ H' sm' hx)
    fun H ⟨sm, ys, hD, hlen, hP⟩ => hd H sm (by
      have e : ys = xs := by
        refine List.ext_getElem? fun i => ?_
        cases q : ys[i]? with
        | none =>
          have := List.getElem?_eq_none_iff.mp q
          exact (List.getElem?_eq_none (by omega)).symm
        | some v => exact (hP i v q).symm
      rw [← e]
      exact hD)
end
theorem rg0 {m : Nat} (h : m ≤ 1000000) : RgC 0 ((2 * m : Nat) : Int) 2 m := by
  have hs : Builtin.Range.rangeSize 0 ((2 * m : Nat) : Int) 2 = m := by
    unfold Builtin.Range.rangeSize
    rw [if_pos (by decide)]
    split <;> omega
  refine ⟨by decide, by decide, ?_, hs⟩
  unfold Builtin.Range.small
  rw [hs]
  have j1 : (0 : Int) ≤ ((2 * m : Nat) : Int) := by omega
  have j2 : ((2 * m : Nat) : Int) ≤ 2000000 := by omega
  have m1 : (0 : Int) ≤ (m : Int) := by omega
  have m2 : (m : Int) ≤ 1000000 := by omega
  clear hs
  generalize ((2 * m : Nat) : Int) = j at *
  generalize (m : Int) = k at *
  simp only [Builtin.Range.rangeFitsLong, Bool.and_eq_true, Bool.or_eq_true, decide_eq_true_eq, beq_iff_eq, show (2 : Int) > 0 by decide, if_true]
  omega
theorem rg1 {m : Nat} (h : m ≤ 1000000) : RgC 1 ((2 * m : Nat) : Int) 2 m := by
  have hs : Builtin.Range.rangeSize 1 ((2 * m : Nat) : Int) 2 = m := by
    unfold Builtin.Range.rangeSize
    rw [if_pos (by decide)]
    split <;> omega
  refine ⟨by decide, by decide, ?_, hs⟩
  unfold Builtin.Range.small
  rw [hs]
  have j1 : (0 : Int) ≤ ((2 * m : Nat) : Int) := by omega
  have j2 : ((2 * m : Nat) : Int) ≤ 2000000 := by omega
  have m1 : (0 : Int) ≤ (m : Int) := by omega
  have m2 : (m : Int) ≤ 1000000 := by omega
  clear hs
  generalize ((2 * m : Nat) : Int) = j at *
  generalize (m : Int) = k at *
  simp only [Builtin.Range.rangeFitsLong, Bool.and_eq_true, Bool.or_eq_true, decide_eq_true_eq, beq_iff_eq, show (2 : Int) > 0 by decide, if_true]
  omega
/-- a shape moved -/
def Sh.mv (dx dy : Int) : Sh → Sh
  | .rect x y w h => .rect (x + dx) (y + dy) w h
  | .line x y u v => .line (x + dx) (y + dy) (u + dx) (v + dy)
  | .poly p ps => .poly (p.1 + dx, p.2 + dy) (ps.map fun q => (q.1 + dx, q.2 + dy))
  | .circ x y r => .circ (x + dx) (y + dy) r
  | .tS x y l => .tS (x + dx) (y + dy) l
  | .tM x y l => .tM (x + dx) (y + dy) l
  | .tE x y l => .tE (x + dx) (y + dy) l
theorem Sh.mv_name {s : Sh} {dx dy : Int} : (s.mv dx dy).name = s.name := by cases s <;> rfl
theorem Sh.mv_txt {s : Sh} {dx dy : Int} : (s.mv dx dy).txt = s.txt := by cases s <;> rfl
theorem Sh.mv_cor {s : Sh} {dx dy : Int} : (s.mv dx dy).cor = s.cor.map fun q => (q.1 + dx, q.2 + dy) := by cases s <;> rfl
theorem Sh.mv_len {s : Sh} {dx dy : Int} : (s.mv dx dy).pts.length = s.pts.length := by
  cases s <;> first | rfl | skip
  rename_i p ps
  show (flat (_ :: _)).length = (flat (p :: ps)).length
  rw [flat_len, flat_len, List.length_cons, List.length_cons, List.length_map]
theorem ShOk.mv {s : Sh} {dx dy : Int} (h : ShOk s) : ShOk (s.mv dx dy) := ⟨by rw [Sh.mv_txt]; exact h.word, by rw [Sh.mv_txt]; exact h.tlen, by rw [Sh.mv_len]; exact h.plen⟩
theorem IsBB.mv {ps : List (Int × Int)} {r : R} {dx dy : Int} (h : IsBB ps r) : IsBB (ps.map fun q => (q.1 + dx, q.2 + dy)) ⟨r.l + dx, r.t + dy, r.w, r.h⟩ := by
  obtain ⟨h1, h2, h3, h4, h5, h6, h7, h8⟩ := h
  refine ⟨?_, ?_, ?_, ?_, ?_, ?_, ?_, ?_⟩
  · obtain ⟨p, a, b⟩ := List.mem_map.mp h1
    exact List.mem_map.mpr ⟨_, List.mem_map.mpr ⟨p, a, rfl⟩, by show p.1 + dx = r.l + dx; omega⟩
  · intro q hq
    obtain ⟨p, a, rfl⟩ := List.mem_map.mp hq
    have := h2 p a
    show r.l + dx ≤ p.1 + dx
    omega
  · obtain ⟨p, a, b⟩ := List.mem_map.mp h3
    exact List.mem_map.mpr ⟨_, List.mem_map.mpr ⟨p, a, rfl⟩, by show p.2 + dy = r.t + dy; omega⟩
  · intro q hq
    obtain ⟨p, a, rfl⟩ := List.mem_map.mp hq
    have := h4 p a
    show r.t + dy ≤ p.2 + dy
    omega
  · obtain ⟨p, a, b⟩ := List.mem_map.mp h5
    exact List.mem_map.mpr ⟨_, List.mem_map.mpr ⟨p, a, rfl⟩, by show p.1 + dx = r.l + dx + r.w - 1; omega⟩
  · intro q hq
    obtain ⟨p, a, rfl⟩ := List.mem_map.mp hq
    have := h6 p a
    show p.1 + dx ≤ r.l + dx + r.w - 1
    omega
  · obtain ⟨p, a, b⟩ := List.mem_map.mp h7
    exact List.mem_map.mpr ⟨_, List.mem_map.mpr ⟨p, a, rfl⟩, by show p.2 + dy = r.t + dy + r.h - 1; omega⟩
  · intro q hq
    obtain ⟨p, a, rfl⟩ := List.mem_map.mp hq
    have := h8 p a
    show p.2 + dy ≤ r.t + dy + r.h - 1
    omega
theorem IsBox.mv {s : Sh} {r : R} {dx dy : Int} (h : IsBox s r) : IsBox (s.mv dx dy) ⟨r.l + dx, r.t + dy, r.w, r.h⟩ := by
  cases s with
  | line x y u v => exact IsBB.mv h
  | poly p ps => exact IsBB.mv h
  | rect x y w k => rw [show r = _ from h] <;> rfl
  | circ x y q => rw [show r = _ from h]; show R.mk _ _ _ _ = R.mk _ _ _ _; congr 1 <;> simp only <;> omega
  | tS x y l => rw [show r = _ from h] <;> rfl
  | tM x y l => rw [show r = _ from h]; show R.mk _ _ _ _ = R.mk _ _ _ _; congr 1 <;> simp only <;> omega
  | tE x y l => rw [show r = _ from h]; show R.mk _ _ _ _ = R.mk _ _ _ _; congr 1 <;> simp only <;> omega
def sp_law_shifted (K : PySem.W.Frag) : Sp := fun vs H Q _ => ∃ (s : Sh) (v : V) (dx dy : Int), vs = [.str s.name, v, .int dx, .int dy] ∧ Tup K H v (iv s.pts) ∧ s.pts.length ≤ 1000 ∧ ∀ x H', Same H H' → Tup K H' x (iv (s.mv dx dy).pts) → Q x H'
/-- a drawn form: its three parts, and what is known of its size -/
structure Drawn (K : PySem.W.Frag) (H : Hp) (x : V) (s : Sh) : Prop where
  ok : ShOk s
  sm : ∀ z ∈ s.pts, -1000 ≤ z ∧ z ≤ 1000
  at_ : ∃ (a : Addr) (v : V), x = .ref a ∧ SqT K H a [.str s.name, v, .str (S s.txt)] ∧ Tup K H v (iv s.pts)
def sp_law_form (K : PySem.W.Frag) : Sp := fun vs H Q _ => ∃ (t l : Addr) (m : Int), vs = [.ref t, .int m] ∧ TapeAt H t l ∧ 1 ≤ m ∧ m ≤ 100 ∧ ∀ x s H', TapeAt H' t l → Gr t H H' → Drawn K H' x s → Q x H'
theorem small_box {s : Sh} {r : R} (h : IsBox s r) (ok : ShOk s) (sm : ∀ z ∈ s.pts, -1000 ≤ z ∧ z ≤ 1000) : ∀ z ∈ [r.l, r.t, r.w, r.h], -1000000 ≤ z ∧ z ≤ 1000000 := by
  have hc : ∀ ps : List (Int × Int), (∀ z ∈ flat ps, -1000 ≤ z ∧ z ≤ 1000) → ∀ p ∈ ps, (-1000 ≤ p.1 ∧ p.1 ≤ 1000) ∧ (-1000 ≤ p.2 ∧ p.2 ≤ 1000) := by
    intro ps
    induction ps with
    | nil => intro _ p hp; cases hp
    | cons q r ih =>
      intro hz p hp
      rcases List.mem_cons.mp hp with rfl | hp
      · exact ⟨hz _ (List.mem_cons_self ..), hz _ (List.mem_cons_of_mem _ (List.mem_cons_self ..))⟩
      · exact ih (fun z hz' => hz z (List.mem_cons_of_mem _ (List.mem_cons_of_mem _ hz'))) p hp
  have hb : ∀ ps : List (Int × Int), (∀ z ∈ flat ps, -1000 ≤ z ∧ z ≤ 1000) → IsBB ps r → ∀ z ∈ [r.l, r.t, r.w, r.h], -1000000 ≤ z ∧ z ≤ 1000000 := by
    intro ps hz b
    have hc := hc ps hz
    obtain ⟨p1, a1, b1⟩ := List.mem_map.mp b.l1
    obtain ⟨p2, a2, b2⟩ := List.mem_map.mp b.t1
    obtain ⟨p3, a3, b3⟩ := List.mem_map.mp b.r1
    obtain ⟨p4, a4, b4⟩ := List.mem_map.mp b.b1
    have := hc _ a1; have := hc _ a2; have := hc _ a3; have := hc _ a4
    intro z hz
    simp only [List.mem_cons, List.not_mem_nil, or_false] at hz
    omega
  cases s with
  | line x y u v => exact hb [(x, y), (u, v)] sm h
  | poly p ps => exact hb (p :: ps) sm h
  | rect x y w k => rw [show r = _ from h]; exact fun z hz => by have := sm z hz; omega
  | circ x y q =>
    rw [show r = _ from h]
    have a1 := sm x (by simp [Sh.pts]); have a2 := sm y (by simp [Sh.pts]); have a3 := sm q (by simp [Sh.pts])
    intro z hz
    simp only [List.mem_cons, List.not_mem_nil, or_false] at hz
    omega
  | tS x y l =>
    rw [show r = _ from h]
    have a1 := sm x (by simp [Sh.pts]); have a2 := sm y (by simp [Sh.pts])
    have := tw_nn l; have := tw_le l; have := ok.tlen; simp only [Sh.txt] at this
    intro z hz
    simp only [List.mem_cons, List.not_mem_nil, or_false] at hz
    omega
  | tM x y l =>
    rw [show r = _ from h]
    have a1 := sm x (by simp [Sh.pts]); have a2 := sm y (by simp [Sh.pts])
    have := tw_nn l; have := tw_le l; have := ok.tlen; simp only [Sh.txt] at this
    intro z hz
    simp only [List.mem_cons, List.not_mem_nil, or_false] at hz
    omega
  | tE x y l =>
    rw [show r = _ from h]
    have a1 := sm x (by simp [Sh.pts]); have a2 := sm y (by simp [Sh.pts])
    have := tw_nn l; have := tw_le l; have := ok.tlen; simp only [Sh.txt] at this
    intro z hz
    simp only [List.mem_cons, List.not_mem_nil, or_false] at hz
    omega
theorem rgf0 {ps : List (Int × Int)} (h : (flat ps).length ≤ 1000) : RgC 0 ((iv (flat ps)).length : Int) 2 ps.length := by
  have := flat_len ps
  rw [show (iv (flat ps)).length = 2 * ps.length from by rw [iv, List.length_map, flat_len]]
  exact rg0 (by omega)
theorem rgf1 {ps : List (Int × Int)} (h : (flat ps).length ≤ 1000) : RgC 1 ((iv (flat ps)).length : Int) 2 ps.length := by
  have := flat_len ps
  rw [show (iv (flat ps)).length = 2 * ps.length from by rw [iv, List.length_map, flat_len]]
  exact rg1 (by omega)
theorem fx {ps : List (Int × Int)} {i : Nat} {v : V} (h : ((ps.map (·.1)).map V.int)[i]? = some v) : atI (iv (flat ps)) (0 + (i : Int) * 2) = some v := by
  rw [List.getElem?_map, List.getElem?_map] at h
  cases q : ps[i]? with
  | none => rw [q] at h; cases h
  | some p =>
    rw [q] at h
    rw [show (0 : Int) + (i : Int) * 2 = ((2 * i : Nat) : Int) from by omega]
    refine atI_nat ?_
    rw [iv, List.getElem?_map, (flat_at ps i p q).1]
    exact h
theorem fy {ps : List (Int × Int)} {i : Nat} {v : V} (h : ((ps.map (·.2)).map V.int)[i]? = some v) : atI (iv (flat ps)) (1 + (i : Int) * 2) = some v := by
  rw [List.getElem?_map, List.getElem?_map] at h
  cases q : ps[i]? with
  | none => rw [q] at h; cases h
  | some p =>
    rw [q] at h
    rw [show (1 : Int) + (i : Int) * 2 = ((2 * i + 1 : Nat) : Int) from by omega]
    refine atI_nat ?_
    rw [iv, List.getElem?_map, (flat_at ps i p q).2]
    exact h
def Sh.tag : Sh → Nat
  | .rect .. => 0
  | .line .. => 1
  | .poly .. => 2
  | .circ .. => 3
  | .tS .. => 4
  | .tM .. => 5
  | .tE .. => 6
theorem nm0 {s : Sh} : s.name = Str.ofString "rectangle" ↔ s.tag = 0 := by
  cases s <;> first | exact ⟨fun _ => rfl, fun _ => rfl⟩ | exact ⟨fun h => absurd h (by show ¬ Str.ofString _ = Str.ofString _; decide +kernel), fun h => by cases h⟩
theorem nm1 {s : Sh} : s.name = Str.ofString "line" ↔ s.tag = 1 := by
  cases s <;> first | exact ⟨fun _ => rfl, fun _ => rfl⟩ | exact ⟨fun h => absurd h (by show ¬ Str.ofString _ = Str.ofString _; decide +kernel), fun h => by cases h⟩
theorem nm2 {s : Sh} : s.name = Str.ofString "polyline" ↔ s.tag = 2 := by
  cases s <;> first | exact ⟨fun _ => rfl, fun _ => rfl⟩ | exact ⟨fun h => absurd h (by show ¬ Str.ofString _ = Str.ofString _; decide +kernel), fun h => by cases h⟩
theorem nm3 {s : Sh} : s.name = Str.ofString "circle" ↔ s.tag = 3 := by
  cases s <;> first | exact ⟨fun _ => rfl, fun _ => rfl⟩ | exact ⟨fun h => absurd h (by show ¬ Str.ofString _ = Str.ofString _; decide +kernel), fun h => by cases h⟩
theorem nm4 {s : Sh} : s.name = Str.ofString "text start" ↔ s.tag = 4 := by
  cases s <;> first | exact ⟨fun _ => rfl, fun _ => rfl⟩ | exact ⟨fun h => absurd h (by show ¬ Str.ofString _ = Str.ofString _; decide +kernel), fun h => by cases h⟩
theorem nm5 {s : Sh} : s.name = Str.ofString "text middle" ↔ s.tag = 5 := by
  cases s <;> first | exact ⟨fun _ => rfl, fun _ => rfl⟩ | exact ⟨fun h => absurd h (by show ¬ Str.ofString _ = Str.ofString _; decide +kernel), fun h => by cases h⟩
theorem nm6 {s : Sh} : s.name = Str.ofString "text end" ↔ s.tag = 6 := by
  cases s <;> first | exact ⟨fun _ => rfl, fun _ => rfl⟩ | exact ⟨fun h => absurd h (by show ¬ Str.ofString _ = Str.ofString _; decide +kernel), fun h => by cases h⟩
theorem inK {X : Cx} (K : PySem.W.Frag) (h : X.K = K := by rfl) : OpR X (compareOp .In) (rIn K false) := h ▸ op_in_seq
theorem notInK {X : Cx} (K : PySem.W.Frag) (h : X.K = K := by rfl) : OpR X (compareOp .NotIn) (rIn K true) := h ▸ op_notIn_seq
theorem in_lp {s : Sh} : inV (.str s.name) [.str (Str.ofString "line"), .str (Str.ofString "polyline")] = decide (s.cor ≠ []) := by
  cases s with
  | line x y u v => rw [decide_eq_true (by intro h; cases h)]; show inV (.str (Str.ofString _)) _ = true; decide +kernel
  | poly p ps => rw [decide_eq_true (by intro h; cases h)]; show inV (.str (Str.ofString _)) _ = true; decide +kernel
  | rect _ _ _ _ => rw [decide_eq_false (fun h => h rfl)]; show inV (.str (Str.ofString _)) _ = false; decide +kernel
  | circ _ _ _ => rw [decide_eq_false (fun h => h rfl)]; show inV (.str (Str.ofString _)) _ = false; decide +kernel
  | tS _ _ _ => rw [decide_eq_false (fun h => h rfl)]; show inV (.str (Str.ofString _)) _ = false; decide +kernel
  | tM _ _ _ => rw [decide_eq_false (fun h => h rfl)]; show inV (.str (Str.ofString _)) _ = false; decide +kernel
  | tE _ _ _ => rw [decide_eq_false (fun h => h rfl)]; show inV (.str (Str.ofString _)) _ = false; decide +kernel
theorem IsBox.cor {s : Sh} {r : R} (h : s.cor ≠ []) (b : IsBB s.cor r) : IsBox s r := by
  cases s <;> first | exact b | exact absurd rfl h
theorem tag_cor {s : Sh} : (s.tag = 1 ∨ s.tag = 2) ↔ s.cor ≠ [] := by
  cases s <;> simp [Sh.tag, Sh.cor]
theorem Drawn.of {K : PySem.W.Frag} {H : Hp} {p q : Addr} {s : Sh} (ok : ShOk s) (sm : ∀ z ∈ s.pts, -1000 ≤ z ∧ z ≤ 1000) (hS : SqT K H p (iv s.pts)) (hq : H q = none) : Drawn K (upd H q (.tup [.str s.name, .ref p, .str (S s.txt)])) (.ref q) s :=
  ⟨ok, sm, q, .ref p, rfl, SqT.of upd_same, p, rfl, (Im.new hq).sqT hS⟩
theorem Drawn.of0 {K : PySem.W.Frag} {H : Hp} {p q : Addr} {s : Sh} (e : s.txt = []) (hl : s.pts.length ≤ 1000) (sm : ∀ z ∈ s.pts, -1000 ≤ z ∧ z ≤ 1000) (hS : SqT K H p (iv s.pts)) (hq : H q = none) : Drawn K (upd H q (.tup [.str s.name, .ref p, .str (Str.ofString "")])) (.ref q) s := by
  have := Drawn.of (s := s) ⟨by rw [e]; exact Word.nil, by rw [e]; exact Nat.zero_le _, hl⟩ sm hS hq
  rw [e, S_lit] at this
  exact this
theorem all4 {a b c d : Int} {P : Int → Prop} (h1 : P a) (h2 : P b) (h3 : P c) (h4 : P d) : ∀ z ∈ [a, b, c, d], P z := by
  intro z hz
  simp only [List.mem_cons, List.not_mem_nil, or_false] at hz
  rcases hz with rfl | rfl | rfl | rfl <;> assumption
theorem all3 {a b c : Int} {P : Int → Prop} (h1 : P a) (h2 : P b) (h3 : P c) : ∀ z ∈ [a, b, c], P z := by
  intro z hz
  simp only [List.mem_cons, List.not_mem_nil, or_false] at hz
  rcases hz with rfl | rfl | rfl <;> assumption
theorem all2 {a b : Int} {P : Int → Prop} (h1 : P a) (h2 : P b) : ∀ z ∈ [a, b], P z := by
  intro z hz
  simp only [List.mem_cons, List.not_mem_nil, or_false] at hz
  rcases hz with rfl | rfl <;> assumption
def sp_law_holds (K : PySem.W.Frag) : Sp := sp_contains K
theorem cut4 {s : Sh} : cutS s.name none (some 4) = Str.ofString "text" ↔ s.cor = [] ∧ s.tag ≠ 0 ∧ s.tag ≠ 3 := by
  cases s with
  | line _ _ _ _ => exact ⟨fun h => absurd h (by show ¬ cutS (Str.ofString _) _ _ = _; decide +kernel), fun h => by cases h.1⟩
  | poly _ _ => exact ⟨fun h => absurd h (by show ¬ cutS (Str.ofString _) _ _ = _; decide +kernel), fun h => by cases h.1⟩
  | rect _ _ _ _ => exact ⟨fun h => absurd h (by show ¬ cutS (Str.ofString _) _ _ = _; decide +kernel), fun h => absurd rfl h.2.1⟩
  | circ _ _ _ => exact ⟨fun h => absurd h (by show ¬ cutS (Str.ofString _) _ _ = _; decide +kernel), fun h => absurd rfl h.2.2⟩
  | tS _ _ _ => exact ⟨fun _ => ⟨rfl, (by intro h; cases h), (by intro h; cases h)⟩, fun _ => by show cutS (Str.ofString _) _ _ = _; decide +kernel⟩
  | tM _ _ _ => exact ⟨fun _ => ⟨rfl, (by intro h; cases h), (by intro h; cases h)⟩, fun _ => by show cutS (Str.ofString _) _ _ = _; decide +kernel⟩
  | tE _ _ _ => exact ⟨fun _ => ⟨rfl, (by intro h; cases h), (by intro h; cases h)⟩, fun _ => by show cutS (Str.ofString _) _ _ = _; decide +kernel⟩
theorem nocor {s : Sh} {dx dy : Int} (h : s.cor = []) : ∃ x y r, s.pts = x :: y :: r ∧ (s.mv dx dy).pts = (x + dx) :: (y + dy) :: r := by
  cases s with
  | line _ _ _ _ => cases h
  | poly _ _ => cases h
  | rect x y w k => exact ⟨x, y, [w, k], rfl, rfl⟩
  | circ x y q => exact ⟨x, y, [q], rfl, rfl⟩
  | tS x y l => exact ⟨x, y, [], rfl, rfl⟩
  | tM x y l => exact ⟨x, y, [], rfl, rfl⟩
  | tE x y l => exact ⟨x, y, [], rfl, rfl⟩
theorem cut_2 {a b : V} {r : List V} : cutV (a :: b :: r) (some 2) none = r := by rw [cut_from (by decide)] <;> rfl
theorem six2 {n : Nat} : HT.sIx (n + 2) 0 (some 2) = 2 := by
  rw [show (2 : Int) = ((2 : Nat) : Int) from rfl, HT.sIx_nat]
  omega
theorem nm_len (s : Sh) : s.name.length ≤ 16 := by cases s <;> (show (Str.ofString _).length ≤ 16; decide +kernel)
theorem fx1 {ps : List (Int × Int)} {i : Nat} {q : Int × Int} (h : ps[i]? = some q) : atI (iv (flat ps)) (0 + (i : Int) * 2) = some (V.int q.1) := fx (by rw [List.getElem?_map, List.getElem?_map, h]; rfl)
theorem fy1 {ps : List (Int × Int)} {i : Nat} {q : Int × Int} (h : ps[i]? = some q) : atI (iv (flat ps)) (0 + (i : Int) * 2 + 1) = some (V.int q.2) := by
  rw [show (0 : Int) + (i : Int) * 2 + 1 = 1 + (i : Int) * 2 from by omega]
  exact fy (by rw [List.getElem?_map, List.getElem?_map, h]; rfl)
theorem flat_take {ps : List (Int × Int)} {i : Nat} {q : Int × Int} {f : Int × Int → Int × Int} (h : ps[i]? = some q) : iv (flat ((ps.take (i + 1)).map f)) = iv (flat ((ps.take i).map f)) ++ [V.int (f q).1, V.int (f q).2] := by
  rw [List.take_add_one, h, List.map_append, flat_app, iv, List.map_append]
  rfl
end Cs

set_option maxRecDepth 100000
set_option maxHeartbeats 4000000
/-! what shapes cover -/
namespace Cs
open PySem PySem.Spec PyProof.Rows L2
def ab (i : Int) : Int := if i < 0 then -i else i
/-- how far (x, y) is from the line, times its size -/
def off (p q : Int × Int) (x y : Int) : Int := (y - p.2) * (q.1 - p.1) - (x - p.1) * (q.2 - p.2)
def near (p q : Int × Int) (x y : Int) : Bool := decide (2 * ab (off p q x y) ≤ max (ab (q.1 - p.1)) (ab (q.2 - p.2)))
def between (p q : Int × Int) (x y : Int) : Bool := decide (min p.1 q.1 ≤ x ∧ x ≤ max p.1 q.1 ∧ min p.2 q.2 ≤ y ∧ y ≤ max p.2 q.2)
def onl (p q : Int × Int) (x y : Int) : Bool := between p q x y && near p q x y
theorem ab_nn (i : Int) : 0 ≤ ab i := by unfold ab; split <;> omega
theorem ab_neg (i : Int) : ab (-i) = ab i := by unfold ab; split <;> split <;> omega
theorem off_swap (p q : Int × Int) (x y : Int) : off q p x y = - off p q x y := by
  unfold off
  grind
theorem onl_swap (p q : Int × Int) (x y : Int) : onl q p x y = onl p q x y := by
  have e1 : between q p x y = between p q x y := by
    unfold between
    rw [Int.min_comm, Int.max_comm, Int.min_comm q.2, Int.max_comm q.2]
  have e2 : near q p x y = near p q x y := by
    unfold near
    rw [off_swap, ab_neg, show p.1 - q.1 = -(q.1 - p.1) from by omega, show p.2 - q.2 = -(q.2 - p.2) from by omega, ab_neg, ab_neg]
  unfold onl
  rw [e1, e2]
theorem onl_end (p q : Int × Int) : onl p q p.1 p.2 = true := by
  have e : off p q p.1 p.2 = 0 := by unfold off; rw [Int.sub_self, Int.sub_self, Int.zero_mul, Int.zero_mul]; rfl
  unfold onl between near
  rw [e]
  have := ab_nn (q.1 - p.1)
  have h0 : ab 0 = 0 := rfl
  rw [h0, Bool.and_eq_true, decide_eq_true_eq, decide_eq_true_eq]
  omega
theorem has_bb {p q : Int × Int} {r : R} (h : IsBB [p, q] r) (x y : Int) : has r x y = between p q x y := by
  have a1 := h.l1; have a2 := h.t1; have a3 := h.r1; have a4 := h.b1
  have b1 := h.l2 p (by simp); have b2 := h.l2 q (by simp); have b3 := h.t2 p (by simp); have b4 := h.t2 q (by simp)
  have b5 := h.r2 p (by simp); have b6 := h.r2 q (by simp); have b7 := h.b2 p (by simp); have b8 := h.b2 q (by simp)
  simp only [List.map_cons, List.map_nil, List.mem_cons, List.not_mem_nil, or_false] at a1 a2 a3 a4
  rw [Bool.eq_iff_iff]
  simp only [has, between, Bool.and_eq_true, decide_eq_true_eq]
  omega
theorem onl_same {p : Int × Int} (x y : Int) : onl p p x y = decide (p = (x, y)) := by
  obtain ⟨a, b⟩ := p
  rw [Bool.eq_iff_iff]
  unfold onl between near off
  simp only [Bool.and_eq_true, decide_eq_true_eq, Prod.mk.injEq]
  constructor
  · rintro ⟨h, _⟩; omega
  · rintro ⟨rfl, rfl⟩
    refine ⟨by omega, ?_⟩
    simp [ab]
/-- one of the lines from point to point -/
def chain : List (Int × Int) → Int → Int → Bool
  | p :: q :: r, x, y => onl p q x y || chain (q :: r) x y
  | _, _, _ => false
def pol (p : Int × Int) (ps : List (Int × Int)) (x y : Int) : Bool := if ps = [] then decide (p = (x, y)) else chain (p :: ps) x y
def cov : Sh → Int → Int → Bool
  | .rect a b u v, x, y => has ⟨a, b, u, v⟩ x y
  | .line a b c d, x, y => onl (a, b) (c, d) x y
  | .poly p ps, x, y => pol p ps x y
  | .circ a b q, x, y => decide ((x - a) ^ 2 + (y - b) ^ 2 ≤ q * q + q)
  | .tS a b l, x, y => inkT l (x - a) (y - b)
  | .tM a b l, x, y => inkT l (x - (a - tw l / 2)) (y - b)
  | .tE a b l, x, y => inkT l (x - (a - tw l)) (y - b)
/-- of a size at which all products stay small -/
def Nr (z : Int) : Prop := -1000000000 ≤ z ∧ z ≤ 1000000000
def sp_line_covers (K : PySem.W.Frag) : Sp := fun vs H Q _ => ∃ (v : V) (p q : Int × Int) (x y : Int), vs = [v, .int x, .int y] ∧ Tup K H v (iv (flat [p, q])) ∧ (∀ z ∈ flat [p, q], Nr z) ∧ Nr x ∧ Nr y ∧ ∀ H', Same H H' → Q (.bl (onl p q x y)) H'
def sp_law_on_line (K : PySem.W.Frag) : Sp := sp_line_covers K
def sp_polyline_covers (K : PySem.W.Frag) : Sp := fun vs H Q _ => ∃ (v : V) (p : Int × Int) (ps : List (Int × Int)) (x y : Int), vs = [v, .int x, .int y] ∧ Tup K H v (iv (flat (p :: ps))) ∧ (flat (p :: ps)).length ≤ 1000 ∧ (∀ z ∈ flat (p :: ps), Nr z) ∧ Nr x ∧ Nr y ∧ ∀ H', Same H H' → Q (.bl (pol p ps x y)) H'
def sp_circle_covers (K : PySem.W.Frag) : Sp := fun vs H Q _ => ∃ (v : V) (a b q x y : Int), vs = [v, .int x, .int y] ∧ Tup K H v (iv [a, b, q]) ∧ Nr a ∧ Nr b ∧ Nr q ∧ Nr x ∧ Nr y ∧ ∀ H', Same H H' → Q (.bl (decide ((x - a) ^ 2 + (y - b) ^ 2 ≤ q * q + q))) H'
def sp_covers (K : PySem.W.Frag) : Sp := fun vs H Q _ => ∃ (s : Sh) (v : V) (x y : Int), vs = [.str s.name, v, .str (S s.txt), .int x, .int y] ∧ Tup K H v (iv s.pts) ∧ ShOk s ∧ (∀ z ∈ s.pts, Nr z) ∧ Nr x ∧ Nr y ∧ ∀ H', Same H H' → Q (.bl (cov s x y)) H'
def sp_law_covers (K : PySem.W.Frag) : Sp := sp_covers K
theorem pol_cor {s : Sh} (h : s.cor ≠ []) : ∃ p ps, s.cor = p :: ps ∧ ∀ x y, cov s x y = pol p ps x y := by
  cases s with
  | line a b c d =>
    refine ⟨(a, b), [(c, d)], rfl, fun x y => ?_⟩
    show onl (a, b) (c, d) x y = if [(c, d)] = [] then _ else (onl (a, b) (c, d) x y || false)
    rw [if_neg (by intro h; cases h), Bool.or_false]
  | poly p ps => exact ⟨p, ps, rfl, fun x y => rfl⟩
  | rect _ _ _ _ => exact absurd rfl h
  | circ _ _ _ => exact absurd rfl h
  | tS _ _ _ => exact absurd rfl h
  | tM _ _ _ => exact absurd rfl h
  | tE _ _ _ => exact absurd rfl h
theorem rg1_ : RgC 0 1 2 1 := ⟨by decide, by decide, by decide +kernel, by decide +kernel⟩
end Cs

set_option maxRecDepth 100000
set_option maxHeartbeats 4000000
/-! a polyline, line by line, as the law walks it -/
namespace Cs
open PySem PySem.Spec PyProof.Rows L2
theorem chain_one {l : List (Int × Int)} (h : l.length ≤ 1) (x y : Int) : chain l x y = false := by
  match l, h with
  | [], _ => rfl
  | [_], _ => rfl
  | _ :: _ :: _, h => simp only [List.length_cons] at h; omega
def gst (p : Int × Int) (ps : List (Int × Int)) (x y : Int) (i : Nat) : Bool := if ps = [] then (if i = 0 then onl p p x y else false) else chain ((p :: ps).drop i) x y
def gm (ps : List (Int × Int)) : Nat := if ps = [] then 1 else ps.length
theorem gst0 (p : Int × Int) (ps : List (Int × Int)) (x y : Int) : gst p ps x y 0 = pol p ps x y := by
  unfold gst pol
  by_cases h : ps = []
  · rw [if_pos h, if_pos h, if_pos rfl, onl_same]
  · rw [if_neg h, if_neg h, List.drop_zero]
theorem gst_end (p : Int × Int) (ps : List (Int × Int)) (x y : Int) : gst p ps x y (gm ps) = false := by
  unfold gst gm
  by_cases h : ps = []
  · rw [if_pos h, if_pos h, if_neg (by decide)]
  · rw [if_neg h, if_neg h]
    exact chain_one (by rw [List.length_drop, List.length_cons]; omega) x y
theorem iv_len (p : Int × Int) (ps : List (Int × Int)) : ((iv (flat (p :: ps))).length : Int) - 2 = 2 * (ps.length : Int) := by
  rw [iv, List.length_map, flat_len, List.length_cons]
  omega
theorem gst_step {p : Int × Int} {ps : List (Int × Int)} {x y : Int} {i : Nat} (h : i < gm ps) :
    ∃ (u v : Int × Int) (j : Nat), (p :: ps)[i]? = some u ∧ (p :: ps)[j]? = some v ∧ (if ((iv (flat (p :: ps))).length : Int) - 2 < 0 + (i : Int) * 2 + 2 then ((iv (flat (p :: ps))).length : Int) - 2 else 0 + (i : Int) * 2 + 2) = 0 + (j : Int) * 2 ∧ gst p ps x y i = (onl u v x y || gst p ps x y (i + 1)) := by
  rw [iv_len]
  unfold gm at h
  by_cases e : ps = []
  · rw [if_pos e] at h
    have : i = 0 := by omega
    subst this
    subst e
    refine ⟨p, p, 0, rfl, rfl, by rw [if_pos (by simp)]; simp, ?_⟩
    unfold gst
    simp
  · rw [if_neg e] at h
    have h1 : i < (p :: ps).length := by rw [List.length_cons]; omega
    have h2 : i + 1 < (p :: ps).length := by rw [List.length_cons]; omega
    refine ⟨(p :: ps)[i], (p :: ps)[i + 1], i + 1, List.getElem?_eq_getElem h1, List.getElem?_eq_getElem h2, by rw [if_neg (by omega)]; omega, ?_⟩
    unfold gst
    rw [if_neg e, if_neg e, List.drop_eq_getElem_cons h1, List.drop_eq_getElem_cons h2]
    rfl
theorem gst_rg {p : Int × Int} {ps : List (Int × Int)} (h : (flat (p :: ps)).length ≤ 1000) : RgC 0 (if (1 : Int) > ((iv (flat (p :: ps))).length : Int) - 2 then 1 else ((iv (flat (p :: ps))).length : Int) - 2) 2 (gm ps) := by
  rw [iv_len]
  rw [flat_len, List.length_cons] at h
  unfold gm
  by_cases e : ps = []
  · subst e
    rw [if_pos (by simp), if_pos rfl]
    exact rg1_
  · have : ps.length ≠ 0 := fun z => e (List.length_eq_zero_iff.mp z)
    rw [if_neg e, if_neg (by omega), show 2 * (ps.length : Int) = ((2 * ps.length : Nat) : Int) from by omega]
    exact rg0 (by omega)
theorem nr_at {ps : List (Int × Int)} {i : Nat} {u : Int × Int} (h : ps[i]? = some u) (nz : ∀ z ∈ flat ps, Nr z) : Nr u.1 ∧ Nr u.2 := by
  obtain ⟨a, b⟩ := flat_at ps i u h
  exact ⟨nz _ (List.mem_of_getElem? a), nz _ (List.mem_of_getElem? b)⟩
theorem not_cor {s : Sh} (hc : ¬ s.cor ≠ []) (e0 : ¬ s.tag = 0) (e3 : ¬ s.tag = 3) : ∃ x y l, s = .tS x y l ∨ s = .tM x y l ∨ s = .tE x y l := by
  cases s with
  | rect _ _ _ _ => exact absurd rfl e0
  | line _ _ _ _ => exact absurd (by intro h; cases h) hc
  | poly _ _ => exact absurd (by intro h; cases h) hc
  | circ _ _ _ => exact absurd rfl e3
  | tS x y l => exact ⟨x, y, l, Or.inl rfl⟩
  | tM x y l => exact ⟨x, y, l, Or.inr (Or.inl rfl)⟩
  | tE x y l => exact ⟨x, y, l, Or.inr (Or.inr rfl)⟩
theorem cov_text {s : Sh} {r : R} (hs : ∃ x y l, s = .tS x y l ∨ s = .tM x y l ∨ s = .tE x y l) (hb : IsBox s r) (x y : Int) : inkT s.txt (x - r.l) (y - r.t) = cov s x y := by
  obtain ⟨a1, a2, l, hs⟩ := hs
  rcases hs with rfl | rfl | rfl <;> (rw [show r = _ from hb]; rfl)
theorem wide_box {s : Sh} {r : R} (h : IsBox s r) (ok : ShOk s) (sm : ∀ z ∈ s.pts, -30000 ≤ z ∧ z ≤ 30000) : ∀ z ∈ [r.l, r.t, r.w, r.h], -1000000 ≤ z ∧ z ≤ 1000000 := by
  have hc : ∀ ps : List (Int × Int), (∀ z ∈ flat ps, -30000 ≤ z ∧ z ≤ 30000) → ∀ p ∈ ps, (-30000 ≤ p.1 ∧ p.1 ≤ 30000) ∧ (-30000 ≤ p.2 ∧ p.2 ≤ 30000) := by
    intro ps
    induction ps with
    | nil => intro _ p hp; cases hp
    | cons q r ih =>
      intro hz p hp
      rcases List.mem_cons.mp hp with rfl | hp
      · exact ⟨hz _ (List.mem_cons_self ..), hz _ (List.mem_cons_of_mem _ (List.mem_cons_self ..))⟩
      · exact ih (fun z hz' => hz z (List.mem_cons_of_mem _ (List.mem_cons_of_mem _ hz'))) p hp
  have hb : ∀ ps : List (Int × Int), (∀ z ∈ flat ps, -30000 ≤ z ∧ z ≤ 30000) → IsBB ps r → ∀ z ∈ [r.l, r.t, r.w, r.h], -1000000 ≤ z ∧ z ≤ 1000000 := by
    intro ps hz b
    have hc := hc ps hz
    obtain ⟨p1, a1, b1⟩ := List.mem_map.mp b.l1
    obtain ⟨p2, a2, b2⟩ := List.mem_map.mp b.t1
    obtain ⟨p3, a3, b3⟩ := List.mem_map.mp b.r1
    obtain ⟨p4, a4, b4⟩ := List.mem_map.mp b.b1
    have := hc _ a1; have := hc _ a2; have := hc _ a3; have := hc _ a4
    intro z hz
    simp only [List.mem_cons, List.not_mem_nil, or_false] at hz
    omega
  cases s with
  | line x y u v => exact hb [(x, y), (u, v)] sm h
  | poly p ps => exact hb (p :: ps) sm h
  | rect x y w k => rw [show r = _ from h]; exact fun z hz => by have := sm z hz; omega
  | circ x y q =>
    rw [show r = _ from h]
    have a1 := sm x (by simp [Sh.pts]); have a2 := sm y (by simp [Sh.pts]); have a3 := sm q (by simp [Sh.pts])
    intro z hz
    simp only [List.mem_cons, List.not_mem_nil, or_false] at hz
    omega
  | tS x y l =>
    rw [show r = _ from h]
    have a1 := sm x (by simp [Sh.pts]); have a2 := sm y (by simp [Sh.pts])
    have := tw_nn l; have := tw_le l; have := ok.tlen; simp only [Sh.txt] at this
    intro z hz
    simp only [List.mem_cons, List.not_mem_nil, or_false] at hz
    omega
  | tM x y l =>
    rw [show r = _ from h]
    have a1 := sm x (by simp [Sh.pts]); have a2 := sm y (by simp [Sh.pts])
    have := tw_nn l; have := tw_le l; have := ok.tlen; simp only [Sh.txt] at this
    intro z hz
    simp only [List.mem_cons, List.not_mem_nil, or_false] at hz
    omega
  | tE x y l =>
    rw [show r = _ from h]
    have a1 := sm x (by simp [Sh.pts]); have a2 := sm y (by simp [Sh.pts])
    have := tw_nn l; have := tw_le l; have := ok.tlen; simp only [Sh.txt] at this
    intro z hz
    simp only [List.mem_cons, List.not_mem_nil, or_false] at hz
    omega

theorem flat_mv {dx dy : Int} (hx : -19001 ≤ dx ∧ dx ≤ 19001) (hy : -19001 ≤ dy ∧ dy ≤ 19001) : ∀ ps : List (Int × Int), (∀ z ∈ flat ps, -1000 ≤ z ∧ z ≤ 1000) → ∀ z ∈ flat (ps.map fun q => (q.1 + dx, q.2 + dy)), -30000 ≤ z ∧ z ≤ 30000
  | [], _, z, hz => by cases hz
  | p :: r, h, z, hz => by
    have h1 := h p.1 (List.mem_cons_self ..)
    have h2 := h p.2 (List.mem_cons_of_mem _ (List.mem_cons_self ..))
    rcases List.mem_cons.mp hz with e | hz
    · have : z = p.1 + dx := e
      omega
    rcases List.mem_cons.mp hz with e | hz
    · have : z = p.2 + dy := e
      omega
    exact flat_mv hx hy r (fun w hw => h w (List.mem_cons_of_mem _ (List.mem_cons_of_mem _ hw))) z hz
theorem mv_sm {s : Sh} {dx dy : Int} (sm : ∀ z ∈ s.pts, -1000 ≤ z ∧ z ≤ 1000) (hx : -19001 ≤ dx ∧ dx ≤ 19001) (hy : -19001 ≤ dy ∧ dy ≤ 19001) : ∀ z ∈ (s.mv dx dy).pts, -30000 ≤ z ∧ z ≤ 30000 := by
  cases s with
  | poly p ps => exact flat_mv hx hy (p :: ps) sm
  | line x y u v => exact flat_mv hx hy [(x, y), (u, v)] sm
  | rect x y u v =>
    have a1 := sm x (by simp [Sh.pts]); have a2 := sm y (by simp [Sh.pts]); have a3 := sm u (by simp [Sh.pts]); have a4 := sm v (by simp [Sh.pts])
    exact all4 (by omega) (by omega) (by omega) (by omega)
  | circ x y u =>
    have a1 := sm x (by simp [Sh.pts]); have a2 := sm y (by simp [Sh.pts]); have a3 := sm u (by simp [Sh.pts])
    exact all3 (by omega) (by omega) (by omega)
  | tS x y l =>
    have a1 := sm x (by simp [Sh.pts]); have a2 := sm y (by simp [Sh.pts])
    exact all2 (by omega) (by omega)
  | tM x y l =>
    have a1 := sm x (by simp [Sh.pts]); have a2 := sm y (by simp [Sh.pts])
    exact all2 (by omega) (by omega)
  | tE x y l =>
    have a1 := sm x (by simp [Sh.pts]); have a2 := sm y (by simp [Sh.pts])
    exact all2 (by omega) (by omega)
theorem cov_back (a b c d x y : Int) : cov (.line c d a b) x y = cov (.line a b c d) x y := onl_swap (a, b) (c, d) x y
theorem cov_e1 (a b c d : Int) : cov (.line a b c d) a b = true := onl_end (a, b) (c, d)
theorem cov_e2 (a b c d : Int) : cov (.line a b c d) c d = true := (onl_swap (c, d) (a, b) c d).trans (onl_end (c, d) (a, b))
theorem line_vs {a b c d : Int} {v x y : V} : [V.str (Str.ofString "line"), v, V.str (Str.ofString ""), x, y] = [V.str (Sh.line a b c d).name, v, V.str (S (Sh.line a b c d).txt), x, y] := by
  rw [show S (Sh.line a b c d).txt = Str.ofString "" from S_lit]
  rfl
theorem line_ok {a b c d : Int} : ShOk (.line a b c d) := ⟨Word.nil, Nat.zero_le _, (show 4 ≤ 1000 by decide)⟩
end Cs

set_option maxRecDepth 100000
set_option maxHeartbeats 4000000

namespace Cs
open PySem PySem.Spec PyProof.Rows L2
local macro_rules | `(tactic| walk_at "sets") => `(tactic| (repeat (first | exact set_0 | apply set_s)))
local macro_rules | `(tactic| walk_at "sts") => `(tactic| (repeat (first | exact rep_0 | apply rep_s | apply app_cons | apply app_nil)))
local macro_rules | `(tactic| walk_at "sql") => `(tactic| first
  | exact SqL.of (by assumption)
  | exact SqL.of upd_same
  | assumption)
local macro_rules | `(tactic| walk_at "sqt") => `(tactic| first
  | exact SqT.of (by assumption)
  | exact SqT.of upd_same
  | assumption)
local macro_rules | `(tactic| walk_at "rd1") => `(tactic| first
  | ((with_reducible show gName _ _ _ _ _); refine gset (by walk_at "sets") ?_)
  | refine ⟨_, rfl, ?_⟩
  | refine ⟨rfl, ?_⟩
  | refine ⟨_, _, rfl, rfl, (show CMul _ _ from Or.inr ⟨by decide, by decide⟩), ?_⟩
  | refine ⟨_, _, rfl, rfl, (show CMul _ _ from Or.inl ⟨by decide, by decide⟩), ?_⟩
  | refine ⟨_, _, rfl, rfl, (show (0 : Int) < _ by first | decide | omega), ?_⟩
  | refine ⟨_, _, rfl, rfl, (show CDiv _ _ from ⟨by omega, by omega⟩), ?_⟩
  | refine ⟨_, _, rfl, rfl, (show CPow _ _ from ⟨by decide, by decide, by decide⟩), ?_⟩
  | refine ⟨_, _, rfl, rfl, ?_⟩
  | refine ⟨_, _, _, _, rfl, rfl, (show SqL _ _ _ _ by walk_at "sql"), rfl, ?_⟩
  | refine ⟨_, _, _, _, rfl, rfl, (show SqT _ _ _ _ by walk_at "sqt"), rfl, ?_⟩
  | refine ⟨_, _, _, _, rfl, rfl, (by assumption), rfl, ?_⟩
  | refine ⟨_, _, _, _, rfl, rfl, upd_same, rfl, ?_⟩
  | refine ⟨_, _, rfl, (show LenV _ _ _ _ from Or.inl ⟨_, (by walk_at "sql"), rfl⟩), ?_⟩
  | refine ⟨_, _, rfl, (show LenV _ _ _ _ from Or.inr ⟨_, (by walk_at "sqt"), rfl⟩), ?_⟩
  | refine ⟨_, (show TruV _ _ _ _ from Or.inl ⟨_, (by walk_at "sql"), rfl⟩), ?_⟩
  | refine ⟨_, (show TruV _ _ _ _ from Or.inr (Or.inl ⟨_, (by walk_at "sqt"), rfl⟩)), ?_⟩
  | refine Or.inl ⟨_, rfl, ?_⟩
  | refine ⟨_, _, rfl, ?_⟩)

def top (i : Nat) : Stmt := PySem.Challenge.pw_chartspec_k42_pixels_that_shapes_cover.main.body.getD i (.Pass ⟨0, 0, 0, 0⟩)
abbrev s_contains : Stmt := top 1
theorem sc_contains : FnScope ["rectangle", "x", "y", "left", "top", "width", "height"] ["rectangle", "x", "y"] (defScope s_contains) := ⟨rfl, rfl, rfl, by decide +kernel, rfl, by decide +kernel, by decide +kernel⟩
abbrev s_glyph_width : Stmt := top 6
theorem sc_glyph_width : FnScope ["character"] ["character"] (defScope s_glyph_width) := ⟨rfl, rfl, rfl, by decide +kernel, rfl, by decide +kernel, by decide +kernel⟩
abbrev s_text_width : Stmt := top 7
theorem sc_text_width : FnScope ["text", "character"] ["text"] (defScope s_text_width) := ⟨rfl, rfl, rfl, by decide +kernel, rfl, by decide +kernel, by decide +kernel⟩
abbrev s_inked : Stmt := top 8
theorem sc_inked : FnScope ["text", "x", "y", "left", "character", "after"] ["text", "x", "y"] (defScope s_inked) := ⟨rfl, rfl, rfl, by decide +kernel, rfl, by decide +kernel, by decide +kernel⟩
abbrev s_around_points : Stmt := top 10
theorem sc_around_points : FnScope ["points", "columns", "lines", "left", "top"] ["points"] (defScope s_around_points) := ⟨rfl, rfl, rfl, by decide +kernel, rfl, by decide +kernel, by decide +kernel⟩
abbrev s_around_text : Stmt := top 11
theorem sc_around_text : FnScope ["shape", "points", "text", "x", "y", "width"] ["shape", "points", "text"] (defScope s_around_text) := ⟨rfl, rfl, rfl, by decide +kernel, rfl, by decide +kernel, by decide +kernel⟩
abbrev s_covers : Stmt := top 12
theorem sc_covers : FnScope ["shape", "points", "text", "x", "y", "left", "top", "_"] ["shape", "points", "text", "x", "y"] (defScope s_covers) := ⟨rfl, rfl, rfl, by decide +kernel, rfl, by decide +kernel, by decide +kernel⟩
abbrev s_line_covers : Stmt := top 13
theorem sc_line_covers : FnScope ["ends", "x", "y", "x1", "y1", "x2", "y2", "across", "down"] ["ends", "x", "y"] (defScope s_line_covers) := ⟨rfl, rfl, rfl, by decide +kernel, rfl, by decide +kernel, by decide +kernel⟩
abbrev s_polyline_covers : Stmt := top 14
theorem sc_polyline_covers : FnScope ["points", "x", "y", "start"] ["points", "x", "y"] (defScope s_polyline_covers) := ⟨rfl, rfl, rfl, by decide +kernel, rfl, by decide +kernel, by decide +kernel⟩
abbrev s_circle_covers : Stmt := top 15
theorem sc_circle_covers : FnScope ["points", "x", "y", "x0", "y0", "radius"] ["points", "x", "y"] (defScope s_circle_covers) := ⟨rfl, rfl, rfl, by decide +kernel, rfl, by decide +kernel, by decide +kernel⟩
abbrev s_law_tape : Stmt := top 17
theorem sc_law_tape : FnScope ["script", "total", "cell"] ["script"] (defScope s_law_tape) := ⟨rfl, rfl, rfl, by decide +kernel, rfl, by decide +kernel, by decide +kernel⟩
abbrev s_law_draw : Stmt := top 18
theorem sc_law_draw : FnScope ["tape", "many", "place", "number"] ["tape", "many"] (defScope s_law_draw) := ⟨rfl, rfl, rfl, by decide +kernel, rfl, by decide +kernel, by decide +kernel⟩
abbrev s_law_holds : Stmt := top 19
theorem sc_law_holds : FnScope ["one", "x", "y"] ["one", "x", "y"] (defScope s_law_holds) := ⟨rfl, rfl, rfl, by decide +kernel, rfl, by decide +kernel, by decide +kernel⟩
abbrev s_law_sign_width : Stmt := top 20
theorem sc_law_sign_width : FnScope ["sign"] ["sign"] (defScope s_law_sign_width) := ⟨rfl, rfl, rfl, by decide +kernel, rfl, by decide +kernel, by decide +kernel⟩
abbrev s_law_width : Stmt := top 21
theorem sc_law_width : FnScope ["text", "total", "sign"] ["text"] (defScope s_law_width) := ⟨rfl, rfl, rfl, by decide +kernel, rfl, by decide +kernel, by decide +kernel⟩
abbrev s_law_inked : Stmt := top 22
theorem sc_law_inked : FnScope ["text", "x", "y", "left", "sign", "width"] ["text", "x", "y"] (defScope s_law_inked) := ⟨rfl, rfl, rfl, by decide +kernel, rfl, by decide +kernel, by decide +kernel⟩
abbrev s_law_around : Stmt := top 23
theorem sc_law_around : FnScope ["shape", "points", "text", "size", "across", "k", "down", "width", "left"] ["shape", "points", "text"] (defScope s_law_around) := ⟨rfl, rfl, rfl, by decide +kernel, rfl, by decide +kernel, by decide +kernel⟩
abbrev s_law_on_line : Stmt := top 24
theorem sc_law_on_line : FnScope ["ends", "x", "y", "wide", "high"] ["ends", "x", "y"] (defScope s_law_on_line) := ⟨rfl, rfl, rfl, by decide +kernel, rfl, by decide +kernel, by decide +kernel⟩
abbrev s_law_covers : Stmt := top 25
theorem sc_law_covers : FnScope ["shape", "points", "text", "x", "y", "last", "k", "end", "rectangle"] ["shape", "points", "text", "x", "y"] (defScope s_law_covers) := ⟨rfl, rfl, rfl, by decide +kernel, rfl, by decide +kernel, by decide +kernel⟩
abbrev s_law_word : Stmt := top 26
theorem sc_law_word : FnScope ["tape", "signs", "word", "k"] ["tape"] (defScope s_law_word) := ⟨rfl, rfl, rfl, by decide +kernel, rfl, by decide +kernel, by decide +kernel⟩
abbrev s_law_form : Stmt := top 27
theorem sc_law_form : FnScope ["tape", "room", "x", "y", "kind", "points", "k"] ["tape", "room"] (defScope s_law_form) := ⟨rfl, rfl, rfl, by decide +kernel, rfl, by decide +kernel, by decide +kernel⟩
abbrev s_law_shifted : Stmt := top 28
theorem sc_law_shifted : FnScope ["shape", "points", "x", "y", "shifted", "k"] ["shape", "points", "x", "y"] (defScope s_law_shifted) := ⟨rfl, rfl, rfl, by decide +kernel, rfl, by decide +kernel, by decide +kernel⟩
abbrev s_law : Stmt := top 29
theorem sc_law : FnScope ["script", "tape", "form", "x", "points", "box", "j", "i", "told"] ["script"] (defScope s_law) := ⟨rfl, rfl, rfl, by decide +kernel, rfl, by decide +kernel, by decide +kernel⟩
structure Blt (mg : Str → Option Value) : Prop where
  abs : mg "abs" = none
  bool : mg "bool" = none
  int : mg "int" = none
  isinstance : mg "isinstance" = none
  len : mg "len" = none
  list : mg "list" = none
  max : mg "max" = none
  min : mg "min" = none
  range : mg "range" = none
  sum : mg "sum" = none

section
variable {P : Program} {w : World} {K : PySem.W.Frag} {mg : Str → Option Value} {base : Heap}
theorem df_glyph_width (M : Blt mg) (A : At K mg "glyph_width" s_glyph_width) (G : Glyphs K w mg) : Df P w K mg base 1 "glyph_width" ["character"] (sp_glyph_width K) := by
  have nd := sc_glyph_width.nd
  refine Df.of A (fun _ _ _ _ _ _ us hl => match us, hl with | [_], _ => rfl) sc_glyph_width (fun vs H Q E h => ?_) (fun cdv A out f s H vs Q E hr hgd h => ?_)
  · obtain ⟨c, rfl, _⟩ := h
    rfl
  · obtain ⟨c, rfl, hc, k⟩ := h
    obtain ⟨d, es, n, hd, hD, ht⟩ := G.tab
    refine ⟨_, (pss_one (ps_ret (pe_wget (d := d) rfl hd ⟨_, _, hD⟩ (pv 0) (pe_globI rfl G.other) ⟨rfl, rfl, rfl, rfl⟩))), at_start (st_of (k := 0) rfl (by walk_at "sts")) ?_⟩
    refine ⟨_, rfl, S [c], es, n, rfl, hD, ?_⟩
    rcases ht c hc with ⟨t, e⟩ | ⟨e, e5⟩
    · exact Or.inl ⟨_, .int (gw c), e, ⟨t, rfl⟩, k⟩
    · exact Or.inr ⟨e, by rw [← e5]; exact k⟩
theorem df_text_width (M : Blt mg) (A : At K mg "text_width" s_text_width) (D_glyph_width : Df P w K mg base 1 "glyph_width" ["character"] (sp_glyph_width K)) : Df P w K mg base 2 "text_width" ["text"] (sp_text_width K) := by
  have nd := sc_text_width.nd
  refine Df.of A (fun _ _ _ _ _ _ us hl => match us, hl with | [_], _ => rfl) sc_text_width (fun vs H Q E h => ?_) (fun cdv A out f s H vs Q E hr hgd h => ?_)
  · obtain ⟨l, rfl, _⟩ := h
    rfl
  · obtain ⟨l, rfl, hw, hl, k⟩ := h
    have h16 : sizeLine = 16777216 := by decide
    refine ⟨_, (pss_cons (ps_if (pt_cmpR op_eq (pv 0) pe_str (nomark _)) (pss_one (ps_ret pe_int)) pss_nil)
      (pss_one (ps_ret (pe_op op_sub (pe_op op_add (pe_callB (sumK K rfl) (by rfl) M.sum (by decide +kernel) (pa_cons (pe_lc (own := [("character", 1)]) (g := (gName 1)) (tt := tYes) rfl nd (pi_str (pv 0)) (blkOk_by (N := ["text", "character"]) (sc := defScope s_text_width) (by decide +kernel)) (fun _ _ _ _ _ => pg_name (i := 1) nd rfl (Or.inl rfl)) (fun _ _ _ _ _ => pts_nil) (fun _ _ _ _ _ => (pe_df D_glyph_width (hr.mono (by decide)) hgd rfl (pa_cons (pv 1) pa_nil)))) pa_nil)) (pe_callB (lenK K) (by rfl) M.len (by decide +kernel) (pa_cons (pv 0) pa_nil))) pe_int)))), at_start (st_of (k := 1) rfl (by walk_at "sts")) ?_⟩
    repeat walk_at "rd1"
    refine if_str (fun e => ?_) (fun e => ?_)
    · have e0 : l = [] := S_inj (e.trans S_lit.symm)
      subst e0
      exact k H (Same.refl _)
    · have ne : l ≠ [] := fun q => e (by rw [q]; exact S_lit)
      refine ⟨_, rfl, S l, rfl, fun D hD => map_text (fun c => V.int (gw c)) (by omega) hD (fun i c hc H1 sm Q' hQ => ?_) fun H1 sm hD1 => ?_⟩
      · exact ⟨_, rfl, c, rfl, hw c (List.mem_of_getElem? hc), hQ _ (Same.refl _)⟩
      · have e1 : (l.map fun c => V.int (gw c)) = (l.map gw).map V.int := by rw [List.map_map]; rfl
        rw [e1] at hD1
        refine ⟨D, _, rfl, SqL.of hD1, _, rfl, _, _, rfl, (show LenV K (.str (S l)) H1 l.length from ⟨by rw [S_len]; omega, (S_len l).symm⟩), _, _, rfl, rfl, _, _, rfl, rfl, ?_⟩
        have e2 : tw l = (l.map gw).sum + (l.length : Int) - 1 := if_neg ne
        show Q (.int ((l.map gw).sum + (l.length : Int) - 1)) H1
        rw [← e2]
        exact k H1 sm
theorem df_inked (M : Blt mg) (A : At K mg "inked" s_inked) (G : Glyphs K w mg) (D_glyph_width : Df P w K mg base 1 "glyph_width" ["character"] (sp_glyph_width K)) : Df P w K mg base 2 "inked" ["text", "x", "y"] (sp_inked K) := by
  have nd := sc_inked.nd
  refine Df.of A (fun _ _ _ _ _ _ us hl => match us, hl with | [_, _, _], _ => rfl) sc_inked (fun vs H Q E h => ?_) (fun cdv A out f s H vs Q E hr hgd h => ?_)
  · obtain ⟨l, x, y, rfl, _⟩ := h
    rfl
  · obtain ⟨l, x, y, rfl, hw, k⟩ := h
    have k' : ∀ c, inkT l x y = c → Q (.bl c) H := fun c e => by rw [← e]; exact k
    refine ⟨_, (pss_cons (ps_if (pt_not (pt_chain op_le op_lt pe_int (pv 2) (pe_globI rfl G.height))) (pss_one (ps_ret pe_bl)) pss_nil)
      (pss_cons (ps_set (i := 3) nd rfl (Or.inl rfl) pe_int)
      (pss_cons (ps_for PassesOwn.never rfl (pi_str (pv 0)) (pg_name (i := 4) nd rfl (Or.inl rfl)) (pss_cons (ps_set (i := 5) nd rfl (Or.inl rfl) (pe_op op_add (pv 3) (pe_df D_glyph_width (hr.mono (by decide)) hgd rfl (pa_cons (pv 4) pa_nil))))
      (pss_cons (ps_if (pt_cmpR op_lt (pv 1) (pv 5) (nomark _)) (pss_one (ps_ret (pe_and (pe_cmpR op_le (pv 3) (pv 1) (nomark _)) (pe_one (pe_cmpR op_ne (pv 4) pe_str (nomark _)))))) pss_nil)
      (pss_one (ps_set (i := 3) nd rfl (Or.inl rfl) (pe_op op_add (pv 5) pe_int))))))
      (pss_one (ps_ret pe_bl))))), at_start (st_of (k := 3) rfl (by walk_at "sts")) ?_⟩
    repeat walk_at "rd1"
    refine if_dec (fun c1 => ?_) (fun c1 => ⟨false, rfl, iteT (k' _ (by simp [inkT, c1]))⟩)
    repeat walk_at "rd1"
    by_cases c2 : y < 7
    · rw [decide_eq_true c2]
      refine iteF ?_
      repeat walk_at "rd1"
      refine for_text (fun i σ H' => H' = H ∧ ∃ (left : Int) (v4 v5 : Option V), σ = [some (.str (S l)), some (.int x), some (.int y), some (.int left), v4, v5] ∧ ink l 0 x = ink (l.drop i) left x) ⟨rfl, 0, _, _, rfl, by rw [List.drop_zero]⟩ ?_ ?_
      · rintro i c σ H' hc ⟨rfl, left, v4, v5, rfl, e⟩
        rw [drop_cons hc, ink_cons] at e
        repeat walk_at "rd1"
        refine ⟨hw c (List.mem_of_getElem? hc), ?_⟩
        repeat walk_at "rd1"
        refine if_dec (fun c3 => ?_) (fun c3 => ?_)
        · rw [if_pos c3] at e
          repeat walk_at "rd1"
          refine if_dec (fun c4 => ?_) (fun c4 => ?_)
          · repeat walk_at "rd1"
            have e9 : (!decide (V.str (S [c]) = V.str (Str.ofString " "))) = (!decide (c = 32)) := by
              by_cases q : c = 32
              · rw [decide_eq_true q, decide_eq_true (by rw [S_sp_iff.mpr q])]
              · rw [decide_eq_false q, decide_eq_false (fun h => q (S_sp_iff.mp (V.str.inj h)))]
            show Q (.bl (!decide (V.str (S [c]) = V.str (Str.ofString " ")))) H'
            rw [e9]
            exact k' _ (by rw [inkT, e, decide_eq_true c1, decide_eq_true c2, decide_eq_true c4]; rfl)
          · exact k' _ (by rw [inkT, e, decide_eq_false c4]; simp)
        · rw [if_neg c3] at e
          repeat walk_at "rd1"
          exact ⟨_, _, _, rfl, e⟩
      · rintro σ H' ⟨rfl, left, v4, v5, rfl, e⟩
        rw [List.drop_length] at e
        exact k' _ (by rw [inkT, e]; simp [ink])
    · rw [decide_eq_false c2]
      exact iteT (k' _ (by simp [inkT, c2]))
theorem df_law_sign_width (M : Blt mg) (A : At K mg "_law_sign_width" s_law_sign_width) : Df P w K mg base 1 "_law_sign_width" ["sign"] (sp_law_sign_width K) := by
  have nd := sc_law_sign_width.nd
  refine Df.of A (fun _ _ _ _ _ _ us hl => match us, hl with | [_], _ => rfl) sc_law_sign_width (fun vs H Q E h => ?_) (fun cdv A out f s H vs Q E hr hgd h => ?_)
  · obtain ⟨c, rfl, _⟩ := h
    rfl
  · obtain ⟨c, rfl, k⟩ := h
    refine ⟨_, (pss_cons (ps_if (pt_cmpR op_in_sign (pv 0) pe_str rfl) (pss_one (ps_ret pe_int)) pss_nil)
      (pss_cons (ps_if (pt_cmpR op_in_sign (pv 0) pe_str rfl) (pss_one (ps_ret pe_int)) pss_nil)
      (pss_cons (ps_if (pt_cmpR op_in_sign (pv 0) pe_str rfl) (pss_one (ps_ret pe_int)) pss_nil)
      (pss_cons (ps_if (pt_cmpR op_in_sign (pv 0) pe_str rfl) (pss_one (ps_ret pe_int)) pss_nil)
      (pss_one (ps_ret pe_int)))))), at_start (st_of (k := 0) rfl (by walk_at "sts")) ?_⟩
    have k' : ∀ i, gw c = i → Q (.int i) H := fun i e => by rw [← e]; exact k
    refine ⟨_, rfl, c, _, rfl, rfl, _, rfl, if_dec (fun c1 => k' _ (by simp only [gw, if_pos c1])) (fun c1 => ?_)⟩
    refine ⟨_, rfl, c, _, rfl, rfl, _, rfl, if_dec (fun c2 => k' _ (by simp only [gw, if_neg c1, if_pos c2])) (fun c2 => ?_)⟩
    refine ⟨_, rfl, c, _, rfl, rfl, _, rfl, if_dec (fun c3 => k' _ (by simp only [gw, if_neg c1, if_neg c2, if_pos c3])) (fun c3 => ?_)⟩
    refine ⟨_, rfl, c, _, rfl, rfl, _, rfl, if_dec (fun c4 => k' _ (by simp only [gw, if_neg c1, if_neg c2, if_neg c3, if_pos c4])) (fun c4 => ?_)⟩
    exact k' _ (by simp only [gw, if_neg c1, if_neg c2, if_neg c3, if_neg c4])
theorem df_law_width (M : Blt mg) (A : At K mg "_law_width" s_law_width) (D_law_sign_width : Df P w K mg base 1 "_law_sign_width" ["sign"] (sp_law_sign_width K)) : Df P w K mg base 2 "_law_width" ["text"] (sp_law_width K) := by
  have nd := sc_law_width.nd
  refine Df.of A (fun _ _ _ _ _ _ us hl => match us, hl with | [_], _ => rfl) sc_law_width (fun vs H Q E h => ?_) (fun cdv A out f s H vs Q E hr hgd h => ?_)
  · obtain ⟨l, rfl, _⟩ := h
    rfl
  · obtain ⟨l, rfl, k⟩ := h
    refine ⟨_, (pss_cons (ps_set (i := 1) nd rfl (Or.inl rfl) pe_int)
      (pss_cons (ps_for PassesOwn.never rfl (pi_str (pv 0)) (pg_name (i := 2) nd rfl (Or.inl rfl)) (pss_one (ps_set (i := 1) nd rfl (Or.inl rfl) (pe_op op_add (pe_op op_add (pv 1) pe_int) (pe_df D_law_sign_width (hr.mono (by decide)) hgd rfl (pa_cons (pv 2) pa_nil))))))
      (pss_one (ps_ret (pe_callB (call_max2 rfl) (by rfl) M.max (by decide +kernel) (pa_cons (pe_op op_sub (pv 1) pe_int) (pa_cons pe_int pa_nil))))))), at_start (st_of (k := 2) rfl (by walk_at "sts")) ?_⟩
    repeat walk_at "rd1"
    refine for_text (fun i σ H' => H' = H ∧ ∃ (v2 : Option V), σ = [some (.str (S l)), some (.int ((l.take i).map fun c => 1 + gw c).sum), v2]) ⟨rfl, _, rfl⟩ ?_ ?_
    · rintro i c σ H' hc ⟨rfl, v2, rfl⟩
      repeat walk_at "rd1"
      exact ⟨_, by rw [sum_take_map hc, ← Int.add_assoc]⟩
    · rintro σ H' ⟨rfl, v2, rfl⟩
      repeat walk_at "rd1"
      rw [List.take_length]
      show Q (.int (if 0 > (l.map fun c => 1 + gw c).sum - 1 then 0 else (l.map fun c => 1 + gw c).sum - 1)) H'
      rw [max_if, tw_law]
      exact k
theorem df_law_inked (M : Blt mg) (A : At K mg "_law_inked" s_law_inked) (D_law_sign_width : Df P w K mg base 1 "_law_sign_width" ["sign"] (sp_law_sign_width K)) : Df P w K mg base 2 "_law_inked" ["text", "x", "y"] (sp_law_inked K) := by
  have nd := sc_law_inked.nd
  refine Df.of A (fun _ _ _ _ _ _ us hl => match us, hl with | [_, _, _], _ => rfl) sc_law_inked (fun vs H Q E h => ?_) (fun cdv A out f s H vs Q E hr hgd h => ?_)
  · obtain ⟨l, x, y, rfl, _⟩ := h
    rfl
  · obtain ⟨l, x, y, rfl, k⟩ := h
    have k' : ∀ c, inkT l x y = c → Q (.bl c) H := fun c e => by rw [← e]; exact k
    refine ⟨_, (pss_cons (ps_set (i := 3) nd rfl (Or.inl rfl) pe_int)
      (pss_cons (ps_for PassesOwn.never rfl (pi_str (pv 0)) (pg_name (i := 4) nd rfl (Or.inl rfl)) (pss_cons (ps_set (i := 5) nd rfl (Or.inl rfl) (pe_df D_law_sign_width (hr.mono (by decide)) hgd rfl (pa_cons (pv 4) pa_nil)))
      (pss_cons (ps_if (PW.pt (pw_and (pt_cmpR op_le (pv 3) (pv 1) (nomark _)) (pw_and1 (pt_cmpR op_lt (pv 1) (pe_op op_add (pv 3) (pv 5)) (nomark _))))) (pss_one (ps_ret (pe_and (pe_cmpR op_ne (pv 4) pe_str (nomark _)) (pe_and (pe_cmpR op_le pe_int (pv 2) (nomark _)) (pe_one (pe_cmpR op_lt (pv 2) pe_int (nomark _))))))) pss_nil)
      (pss_one (ps_set (i := 3) nd rfl (Or.inl rfl) (pe_op op_add (pe_op op_add (pv 3) (pv 5)) pe_int))))))
      (pss_one (ps_ret pe_bl)))), at_start (st_of (k := 3) rfl (by walk_at "sts")) ?_⟩
    repeat walk_at "rd1"
    refine for_text (fun i σ H' => H' = H ∧ ∃ (left : Int) (v4 v5 : Option V), σ = [some (.str (S l)), some (.int x), some (.int y), some (.int left), v4, v5] ∧ ink l 0 x = ink2 (l.drop i) left x) ⟨rfl, 0, _, _, rfl, by rw [List.drop_zero, ink_eq]⟩ ?_ ?_
    · rintro i c σ H' hc ⟨rfl, left, v4, v5, rfl, e⟩
      rw [drop_cons hc, ink2_cons] at e
      repeat walk_at "rd1"
      refine if_dec (fun c1 => ?_) (fun c1 => ?_)
      · repeat walk_at "rd1"
        refine if_dec (fun c2 => ?_) (fun c2 => ?_)
        · rw [if_pos ⟨c1, c2⟩] at e
          repeat walk_at "rd1"
          have e9 : (!decide (V.str (S [c]) = V.str (Str.ofString " "))) = (!decide (c = 32)) := by
            by_cases q : c = 32
            · rw [decide_eq_true q, decide_eq_true (by rw [S_sp_iff.mpr q])]
            · rw [decide_eq_false q, decide_eq_false (fun h => q (S_sp_iff.mp (V.str.inj h)))]
          show if (!decide (V.str (S [c]) = V.str (Str.ofString " "))) = true then _ else _
          rw [e9]
          refine if_ndec (fun c3 => ?_) (fun c3 => k' _ (by rw [inkT, e, decide_eq_true c3]; simp))
          repeat walk_at "rd1"
          refine if_dec (fun c4 => ?_) (fun c4 => k' _ (by simp [inkT, c4]))
          repeat walk_at "rd1"
          exact k' _ (by rw [inkT, e, decide_eq_true c4, decide_eq_false c3]; simp)
        · rw [if_neg (fun h => c2 h.2)] at e
          repeat walk_at "rd1"
          exact ⟨_, _, _, rfl, e⟩
      · rw [if_neg (fun h => c1 h.1)] at e
        refine iteF ?_
        repeat walk_at "rd1"
        exact ⟨_, _, _, rfl, e⟩
    · rintro σ H' ⟨rfl, left, v4, v5, rfl, e⟩
      rw [List.drop_length] at e
      exact k' _ (by rw [inkT, e]; simp [ink2])
theorem df_law_word (M : Blt mg) (A : At K mg "_law_word" s_law_word) (D_law_draw : Df P w K mg base 1 "_law_draw" ["tape", "many"] (sp_law_draw K)) : Df P w K mg base 2 "_law_word" ["tape"] (sp_law_word K) := by
  have nd := sc_law_word.nd
  refine Df.of A (fun _ _ _ _ _ _ us hl => match us, hl with | [_], _ => rfl) sc_law_word (fun vs H Q E h => ?_) (fun cdv A out f s H vs Q E hr hgd h => ?_)
  · obtain ⟨t, l, rfl, _⟩ := h
    rfl
  · obtain ⟨t, l, rfl, T, k⟩ := h
    refine ⟨_, (pss_cons (ps_set (i := 1) nd rfl (Or.inl rfl) pe_str)
      (pss_cons (ps_set (i := 1) nd rfl (Or.inl rfl) (pe_op op_add_str (pv 1) pe_str))
      (pss_cons (ps_set (i := 2) nd rfl (Or.inl rfl) pe_str)
      (pss_cons (ps_for PassesOwn.never rfl (pi_range1 rfl M.range (pa_cons (pe_ix (ixL K) (pe_lst (pa_cons pe_int (pa_cons pe_int (pa_cons pe_int (pa_cons pe_int (pa_cons pe_int (pa_cons pe_int pa_nil))))))) (pe_df D_law_draw (hr.mono (by decide)) hgd rfl (pa_cons (pv 0) (pa_cons pe_int pa_nil))) (fun _ _ => rfl)) pa_nil)) (pg_name (i := 3) nd rfl (Or.inl rfl)) (pss_one (ps_set (i := 2) nd rfl (Or.inl rfl) (pe_op op_add_str (pv 2) (pe_ix ix_str (pv 1) (pe_df D_law_draw (hr.mono (by decide)) hgd rfl (pa_cons (pv 0) (pa_cons pe_int pa_nil))) (fun _ _ => rfl))))))
      (pss_one (ps_ret (pv 2))))))), at_start (st_of (k := 3) rfl (by walk_at "sts")) ?_⟩
    repeat walk_at "rd1"
    refine ⟨(by decide +kernel), ?_⟩
    repeat walk_at "rd1"
    refine ⟨(show 6 ≤ sizeLine by decide), fun b hb => ?_⟩
    repeat walk_at "rd1"
    refine ⟨t, l, _, rfl, T.new hb, by decide, fun c H2 T2 a2 c1 c2 => ?_⟩
    obtain ⟨z, z1, _, z3⟩ := atI_mem (xs := [V.int 0, V.int 1, V.int 1, V.int 2, V.int 3, V.int 5]) c1 (by show c < 6; omega)
    obtain ⟨n, rfl, n0, n5⟩ : ∃ n : Int, z = V.int n ∧ 0 ≤ n ∧ n ≤ 5 := by
      simp at z3
      rcases z3 with rfl | rfl | rfl | rfl | rfl
      · exact ⟨0, rfl, by decide, by decide⟩
      · exact ⟨1, rfl, by decide, by decide⟩
      · exact ⟨2, rfl, by decide, by decide⟩
      · exact ⟨3, rfl, by decide, by decide⟩
      · exact ⟨5, rfl, by decide, by decide⟩
    have g2 : Gr t H H2 := (Gr.new hb).trans a2.gr
    refine ⟨b, _, _, _, rfl, rfl, SqL.of (a2.at_ (T.ne_t hb) upd_same), z1, n, rfl, by omega, by omega, for_range (lo := 0) (n := n.toNat) (fun i σ H' => ∃ (m : List Nat) (v3 : Option V), σ = [some (.ref t), some (.str (Str.ofString " !\"#$&'()*+,-./0123456789:;<=>?@ABCDEFGHIJKLMNOPQRSTUVWXYZ[\\]^_`" ++ Str.ofString "abcdefghijklmnopqrstuvwxyz{|}~")), some (.str (S m)), v3] ∧ TapeAt H' t l ∧ Gr t H H' ∧ Word m ∧ m.length ≤ i) ⟨[], none, by rw [S_lit]; rfl, T2, g2, Word.nil, Nat.le_refl _⟩ ?_ ?_⟩
    · rintro i σ H' hi ⟨m, v3, rfl, T', g', wm, lm⟩
      repeat walk_at "rd1"
      refine ⟨t, l, _, rfl, T', by decide, fun d H3 T3 a3 d1 d2 => ?_⟩
      obtain ⟨e, e1, _, e3⟩ := atI_mem (xs := alpha) d1 (by rw [alpha_len]; omega)
      refine ⟨_, _, e, rfl, rfl, (by decide +kernel), e1, _, _, rfl, rfl, (by rw [S_len]; show m.length + 1 ≤ sizeLine; have : sizeLine = 16777216 := (by decide); omega), ?_⟩
      have es : S m ++ (⟨#[e]⟩ : Str) = S (m ++ [e]) := S_app m [e]
      rw [es]
      exact ⟨m ++ [e], _, rfl, T3, g'.trans a3.gr, wm.app (Word.one e3), by rw [List.length_append]; show _ + 1 ≤ _; omega⟩
    · rintro σ H' ⟨m, v3, rfl, T', g', wm, lm⟩
      exact ⟨_, rfl, k m H' T' g' wm (by omega)⟩
end

section
variable {P : Program} {w : World} {K : PySem.W.Frag} {mg : Str → Option Value} {base : Heap}
theorem df_law_tape (M : Blt mg) (A : At K mg "_law_tape" s_law_tape) : Df P w K mg base 1 "_law_tape" ["script"] (sp_law_tape K) := by
  have nd := sc_law_tape.nd
  refine Df.of A (fun _ _ _ _ _ _ us hl => match us, hl with | [_], _ => rfl) sc_law_tape (fun vs H Q E h => ?_) (fun cdv A out f s H vs Q E hr hgd h => ?_)
  · obtain ⟨a, ns, rfl, _⟩ := h
    rfl
  · obtain ⟨a, ns, rfl, hS, hl, k⟩ := h
    refine ⟨_, (pss_cons (ps_set (i := 1) nd rfl (Or.inl rfl) pe_int)
      (pss_cons (ps_for PassesOwn.never rfl (pi_list (pv 0)) (pg_name (i := 2) nd rfl (Or.inl rfl)) (pss_one (ps_set (i := 1) nd rfl (Or.inl rfl) (pe_op op_mod (pe_callTy call_int1 (by rfl) M.int (by decide +kernel) (pa_cons (pe_op op_add (pe_op op_mul (pv 1) pe_int) (pe_callB call_abs (by rfl) M.abs (by decide +kernel) (pa_cons (pe_callTy call_int1 (by rfl) M.int (by decide +kernel) (pa_cons (pv 2) pa_nil)) pa_nil))) pa_nil)) pe_int))))
      (pss_one (ps_ret (pe_lst (pa_cons (pe_callTy (listK K) (by rfl) M.list (by decide +kernel) (pa_cons (pv 0) pa_nil)) (pa_cons pe_int (pa_cons pe_int (pa_cons (pv 1) pa_nil))))))))), at_start (st_of (k := 2) rfl (by walk_at "sts")) ?_⟩
    refine ⟨_, rfl, a, rfl, ⟨_, hS⟩, for_list (K := K) (a := a) (xs := ns.map V.int) (fun i σ H2 => H2 = H ∧ ∃ (z : Int) (v : Option V), σ = [some (.ref a), some (.int z), v] ∧ 0 ≤ z) ⟨rfl, 7, none, rfl, by decide⟩ (fun i σ H2 _ e => by rw [e.1]; exact hS) ?_ ?_⟩
    · rintro i y σ H2 hi ⟨rfl, z, v, rfl, hz⟩
      obtain ⟨n, rfl⟩ := int_at hi
      repeat walk_at "rd1"
      exact Int.emod_nonneg _ (by decide)
    · rintro σ H2 ⟨rfl, z, v, rfl, hz⟩
      refine ⟨_, rfl, a, _, rfl, Or.inl hS, fun l hl => ?_⟩
      repeat walk_at "rd1"
      refine ⟨(by show 4 ≤ sizeLine; decide), fun t ht => ?_⟩
      have nlt : l ≠ t := ne_of_none upd_same ht
      refine k t l _ (fun b o e => ?_) ⟨⟨ns, 0, 0, z, upd_same, by rw [upd_ne nlt]; exact upd_same, by decide, by decide, hz⟩, nlt⟩ ((Same.new hl).free ht) hl
      rw [upd_ne (ne_of_none (Same.new hl _ _ e) ht), upd_ne (ne_of_none e hl)]
      exact e
theorem df_law_draw (M : Blt mg) (A : At K mg "_law_draw" s_law_draw) : Df P w K mg base 1 "_law_draw" ["tape", "many"] (sp_law_draw K) := by
  have nd := sc_law_draw.nd
  refine Df.of A (fun _ _ _ _ _ _ us hl => match us, hl with | [_, _], _ => rfl) sc_law_draw (fun vs H Q E h => ?_) (fun cdv A out f s H vs Q E hr hgd h => ?_)
  · obtain ⟨t, l, m, rfl, _⟩ := h
    rfl
  · obtain ⟨t, l, m, rfl, T, hm, k⟩ := h
    obtain ⟨⟨ns, p, r, s, h1, h2, p0, r0, s0⟩, nlt⟩ := id T
    refine ⟨_, (pss_cons (ps_if (pt_cmpR op_eq (pe_ix (ixL K) (pv 0) pe_int (fun _ _ => rfl)) pe_int (nomark _)) (pss_cons (ps_set (i := 2) nd rfl (Or.inl rfl) (pe_ix (ixL K) (pv 0) pe_int (fun _ _ => rfl)))
      (pss_cons (ps_set (i := 3) nd rfl (Or.inl rfl) pe_int)
      (pss_cons (ps_if (pt_cmpR op_lt (pv 2) (pe_callB (lenK K) (by rfl) M.len (by decide +kernel) (pa_cons (pe_ix (ixL K) (pv 0) pe_int (fun _ _ => rfl)) pa_nil)) (nomark _)) (pss_one (ps_set (i := 3) nd rfl (Or.inl rfl) (pe_callB call_abs (by rfl) M.abs (by decide +kernel) (pa_cons (pe_callTy call_int1 (by rfl) M.int (by decide +kernel) (pa_cons (pe_ix (ixL K) (pe_ix (ixL K) (pv 0) pe_int (fun _ _ => rfl)) (pv 2) (fun _ _ => rfl)) pa_nil)) pa_nil)))) (pss_cons (ps_asg (pe_op op_mod (pe_callTy call_int1 (by rfl) M.int (by decide +kernel) (pa_cons (pe_op op_add (pe_op op_add (pe_op op_mul (pe_ix (ixL K) (pv 0) pe_int (fun _ _ => rfl)) pe_int) (pv 2)) pe_int) pa_nil)) pe_int) (pg_sub (pv 0) pe_int set_list))
      (pss_one (ps_set (i := 3) nd rfl (Or.inl rfl) (pe_ix (ixL K) (pv 0) pe_int (fun _ _ => rfl))))))
      (pss_cons (ps_asg (pe_op op_add (pv 2) pe_int) (pg_sub (pv 0) pe_int set_list))
      (pss_cons (ps_if (pt_cmpR op_lt (pv 3) (pe_op op_pow pe_int pe_int) (nomark _)) (pss_cons (ps_set (i := 3) nd rfl (Or.inl rfl) (pe_op op_mod (pe_callTy call_int1 (by rfl) M.int (by decide +kernel) (pa_cons (pe_op op_add (pe_op op_add (pe_op op_mul (pv 3) pe_int) (pe_op op_mul (pv 2) pe_int)) pe_int) pa_nil)) pe_int))
      (pss_cons (ps_set (i := 3) nd rfl (Or.inl rfl) (pe_op op_mod (pe_callTy call_int1 (by rfl) M.int (by decide +kernel) (pa_cons (pe_op op_mul (pv 3) pe_int) pa_nil)) pe_int))
      (pss_one (ps_ret (pe_op op_mod (pe_callTy call_int1 (by rfl) M.int (by decide +kernel) (pa_cons (pv 3) pa_nil)) (pe_callB (call_max2 rfl) (by rfl) M.max (by decide +kernel) (pa_cons (pv 1) (pa_cons pe_int pa_nil)))))))) pss_nil)
      (pss_one (ps_asg (pv 3) (pg_sub (pv 0) pe_int set_list)))))))) pss_nil)
      (pss_cons (ps_set (i := 3) nd rfl (Or.inl rfl) (pe_ix (ixL K) (pv 0) pe_int (fun _ _ => rfl)))
      (pss_cons (ps_asg (pe_op op_fdiv (pv 3) (pe_callB (call_max2 rfl) (by rfl) M.max (by decide +kernel) (pa_cons (pv 1) (pa_cons pe_int pa_nil)))) (pg_sub (pv 0) pe_int set_list))
      (pss_one (ps_ret (pe_op op_mod (pe_callTy call_int1 (by rfl) M.int (by decide +kernel) (pa_cons (pv 3) pa_nil)) (pe_callB (call_max2 rfl) (by rfl) M.max (by decide +kernel) (pa_cons (pv 1) (pa_cons pe_int pa_nil))))))))), at_start (st_of (k := 2) rfl (by walk_at "sts")) ?_⟩
    have fin : ∀ (n : Int) (H1 : Hp) (p' r' s' : Int), H1 t = some (.lst [.ref l, .int p', .int r', .int s']) → Al t H H1 → 0 ≤ p' → 0 ≤ r' → 0 ≤ s' → Q (.int (n % (if (1 : Int) > m then (1 : Int) else m))) H1 := by
      intro n H1 p' r' s' e1 a1 hp hr' hs
      rw [max_one]
      refine k _ H1 ⟨⟨ns, p', r', s', e1, by rw [a1 l nlt]; exact h2, hp, hr', hs⟩, nlt⟩ a1 (Int.emod_nonneg _ (by omega)) (Int.emod_lt_of_pos _ (by omega))
    repeat walk_at "rd1"
    refine if_int (fun hr0 => ?_) (fun hr0 => ?_)
    · subst hr0
      repeat walk_at "rd1"
      refine if_dec (fun hpl => ?_) (fun hpl => ?_)
      · rw [List.length_map] at hpl
        obtain ⟨n, hn⟩ := at_int p0 hpl
        refine ⟨_, rfl, _, _, _, _, rfl, rfl, SqL.of h1, rfl, _, rfl, _, _, _, _, rfl, rfl, SqL.of h2, hn, ?_⟩
        repeat walk_at "rd1"
        refine if_dec (fun h18 => ?_) (fun h18 => ?_)
        · repeat walk_at "rd1"
          exact fin _ _ (p + 1) 0 s upd_same Al.upd (by omega) (by decide) s0
        · repeat walk_at "rd1"
          exact fin _ _ (p + 1) _ s upd_same ((Al.upd.trans Al.upd).trans Al.upd) (by omega) (Int.ediv_nonneg (by split <;> omega) (by split <;> omega)) s0
      · repeat walk_at "rd1"
        refine if_dec (fun h18 => ?_) (fun h18 => ?_)
        · repeat walk_at "rd1"
          exact fin _ _ (p + 1) 0 _ upd_same (Al.upd.trans Al.upd) (by omega) (by decide) (Int.emod_nonneg _ (by decide))
        · repeat walk_at "rd1"
          exact fin _ _ (p + 1) _ _ upd_same (((Al.upd.trans Al.upd).trans Al.upd).trans Al.upd) (by omega) (Int.ediv_nonneg (Int.emod_nonneg _ (by decide)) (by split <;> omega)) (Int.emod_nonneg _ (by decide))
    · repeat walk_at "rd1"
      exact fin _ _ p _ s upd_same Al.upd p0 (Int.ediv_nonneg r0 (by split <;> omega)) s0
end

section
variable {P : Program} {w : World} {K : PySem.W.Frag} {mg : Str → Option Value} {base : Heap}
theorem df_contains (M : Blt mg) (A : At K mg "contains" s_contains) : Df P w K mg base 1 "contains" ["rectangle", "x", "y"] (sp_contains K) := by
  have nd := sc_contains.nd
  refine Df.of A (fun _ _ _ _ _ _ us hl => match us, hl with | [_, _, _], _ => rfl) sc_contains (fun vs H Q E h => ?_) (fun cdv A out f s H vs Q E hr hgd h => ?_)
  · obtain ⟨v, r, x, y, rfl, _⟩ := h
    rfl
  · obtain ⟨_, r, x, y, rfl, ⟨a, rfl, hS⟩, k⟩ := h
    refine ⟨_, (pss_cons (ps_asg (pv 0) (pg_tup rfl (pgs_cons (pg_name (i := 3) nd rfl (Or.inl rfl)) (pgs_cons (pg_name (i := 4) nd rfl (Or.inl rfl)) (pgs_cons (pg_name (i := 5) nd rfl (Or.inl rfl)) (pgs_cons (pg_name (i := 6) nd rfl (Or.inl rfl)) pgs_nil))))))
      (pss_one (ps_ret (pe_and (pe_chain op_le op_lt (pv 3) (pv 1) (pe_op op_add (pv 3) (pv 5))) (pe_one (pe_chain op_le op_lt (pv 4) (pv 2) (pe_op op_add (pv 4) (pv 6)))))))), at_start (st_of (k := 4) rfl (by walk_at "sts")) ?_⟩
    refine ⟨_, rfl, a, _, rfl, hS, rfl, ?_⟩
    repeat walk_at "rd1"
    have k' : ∀ c, has r x y = c → Q (.bl c) H := fun c e => by rw [← e]; exact k
    refine if_dec (fun c1 => ?_) (fun c1 => ⟨_, rfl, iteF (k' _ (by simp [has, c1]))⟩)
    repeat walk_at "rd1"
    refine if_dec (fun c2 => ?_) (fun c2 => k' _ (by simp [has, c2]))
    repeat walk_at "rd1"
    refine if_dec (fun c3 => ?_) (fun c3 => k' _ (by simp [has, c3]))
    repeat walk_at "rd1"
    exact k' _ (by simp [has, c1, c2, c3])
end

section
variable {P : Program} {w : World} {K : PySem.W.Frag} {mg : Str → Option Value} {base : Heap}
theorem df_around_points (M : Blt mg) (A : At K mg "around_points" s_around_points) : Df P w K mg base 1 "around_points" ["points"] (sp_around_points K) := by
  have nd := sc_around_points.nd
  refine Df.of A (fun _ _ _ _ _ _ us hl => match us, hl with | [_], _ => rfl) sc_around_points (fun vs H Q E h => ?_) (fun cdv A out f s H vs Q E hr hgd h => ?_)
  · obtain ⟨v, ps, rfl, _⟩ := h
    rfl
  · obtain ⟨_, ps, rfl, ⟨a, rfl, hS⟩, ne, hl, k⟩ := h
    have h16 : sizeLine = 16777216 := by decide
    refine ⟨_, (pss_cons (par2 (ps_par (i := 1) (j := 2) (by rfl) nd rfl rfl (by decide) rfl rfl (pa_cons (pe_sl2 K (pv 0) po_none) (pa_cons (pe_sl2 K (pv 0) (po_some pe_int)) pa_nil)) (by rfl)))
      (pss_cons (par2 (ps_par (i := 3) (j := 4) (by rfl) nd rfl rfl (by decide) rfl rfl (pa_cons (pe_callB (minT K rfl) (by rfl) M.min (by decide +kernel) (pa_cons (pv 1) pa_nil)) (pa_cons (pe_callB (minT K rfl) (by rfl) M.min (by decide +kernel) (pa_cons (pv 2) pa_nil)) pa_nil)) (by rfl)))
      (pss_one (ps_ret (pe_tup (pa_cons (pv 3) (pa_cons (pv 4) (pa_cons (pe_op op_add (pe_op op_sub (pe_callB (maxT K rfl) (by rfl) M.max (by decide +kernel) (pa_cons (pv 1) pa_nil)) (pv 3)) pe_int) (pa_cons (pe_op op_add (pe_op op_sub (pe_callB (maxT K rfl) (by rfl) M.max (by decide +kernel) (pa_cons (pv 2) pa_nil)) (pv 4)) pe_int) pa_nil))))))))), at_start (st_of (k := 4) rfl (by walk_at "sts")) ?_⟩
    have e1 : ev ((iv (flat ps)).drop 0) = (ps.map (·.1)).map V.int := by rw [List.drop_zero, iv, ev_map, flat_ev]
    have e2 : ev ((iv (flat ps)).drop (HT.sIx (iv (flat ps)).length 0 (some 1))) = (ps.map (·.2)).map V.int := by
      have : HT.sIx (iv (flat ps)).length 0 (some ((1 : Nat) : Int)) = 1 := by
        rw [HT.sIx_nat]
        have := List.length_pos_iff.mpr ne
        have : (iv (flat ps)).length = 2 * ps.length := by rw [iv, List.length_map, flat_len]
        omega
      rw [show (1 : Int) = ((1 : Nat) : Int) from rfl, this, iv, ← List.map_drop, ev_map, flat_od]
    refine ⟨_, rfl, a, _, rfl, hS, fun p hp => ?_⟩
    rw [HT.sIx_none, e1]
    refine ⟨_, rfl, _, rfl, a, _, rfl, (Im.new hp).sqT hS, fun q hq => ⟨_, _, rfl, ?_⟩⟩
    rw [e2]
    have im : Same H (upd (upd H p (.tup ((ps.map (·.1)).map V.int))) q (.tup ((ps.map (·.2)).map V.int))) := (Same.new hp).trans (Same.new hq)
    have npq : p ≠ q := ne_of_none upd_same hq
    have c1 : (upd (upd H p (.tup ((ps.map (·.1)).map V.int))) q (.tup ((ps.map (·.2)).map V.int))) p = some (.tup ((ps.map (·.1)).map V.int)) := by rw [upd_ne npq]; exact upd_same
    have c2 : (upd (upd H p (.tup ((ps.map (·.1)).map V.int))) q (.tup ((ps.map (·.2)).map V.int))) q = some (.tup ((ps.map (·.2)).map V.int)) := upd_same
    generalize (upd (upd H p (.tup ((ps.map (·.1)).map V.int))) q (.tup ((ps.map (·.2)).map V.int))) = H1 at *
    repeat walk_at "rd1"
    have lp : 0 < (ps.map (·.1)).length := by rw [List.length_map]; exact List.length_pos_iff.mpr ne
    have lq : 0 < (ps.map (·.2)).length := by rw [List.length_map]; exact List.length_pos_iff.mpr ne
    refine ⟨p, _, rfl, SqT.of c1, lp, fun L h1 h1' => ?_⟩
    repeat walk_at "rd1"
    refine ⟨q, _, rfl, SqT.of c2, lq, fun T h2 h2' => ?_⟩
    repeat walk_at "rd1"
    refine ⟨p, _, rfl, SqT.of c1, lp, fun Rt h3 h3' => ?_⟩
    repeat walk_at "rd1"
    refine ⟨q, _, rfl, SqT.of c2, lq, fun B h4 h4' => ?_⟩
    repeat walk_at "rd1"
    exact ⟨(show 4 ≤ sizeLine by decide), fun r hr => k _ _ _ (im.trans (Same.new hr)) (bb_of h1 h1' h2 h2' h3 h3' h4 h4') ⟨_, rfl, SqT.of upd_same⟩⟩
theorem df_around_text (M : Blt mg) (A : At K mg "around_text" s_around_text) (G : Glyphs K w mg) (D_text_width : Df P w K mg base 2 "text_width" ["text"] (sp_text_width K)) : Df P w K mg base 3 "around_text" ["shape", "points", "text"] (sp_around_text K) := by
  have nd := sc_around_text.nd
  refine Df.of A (fun _ _ _ _ _ _ us hl => match us, hl with | [_, _, _], _ => rfl) sc_around_text (fun vs H Q E h => ?_) (fun cdv A out f s H vs Q E hr hgd h => ?_)
  · obtain ⟨s, v, rfl, _⟩ := h
    rfl
  · obtain ⟨s, v, rfl, ⟨a, rfl, hS⟩, ok, hs, k⟩ := h
    have h16 : sizeLine = 16777216 := by decide
    refine ⟨_, (pss_cons (ps_asg (pv 1) (pg_tup rfl (pgs_cons (pg_name (i := 3) nd rfl (Or.inl rfl)) (pgs_cons (pg_name (i := 4) nd rfl (Or.inl rfl)) pgs_nil))))
      (pss_cons (ps_set (i := 5) nd rfl (Or.inl rfl) (pe_df D_text_width (hr.mono (by decide)) hgd rfl (pa_cons (pv 2) pa_nil)))
      (C8.pss_cut (ps_if (pt_cmpR op_eq (pv 0) pe_str (nomark _)) (pss_one (ps_set (i := 3) nd rfl (Or.inl rfl) (pe_op op_sub (pv 3) (pe_op op_fdiv (pv 5) pe_int)))) (pss_one (ps_if (pt_cmpR op_eq (pv 0) pe_str (nomark _)) (pss_one (ps_set (i := 3) nd rfl (Or.inl rfl) (pe_op op_sub (pv 3) (pv 5)))) pss_nil)))
      (pss_one (ps_ret (pe_tup (pa_cons (pv 3) (pa_cons (pv 4) (pa_cons (pv 5) (pa_cons (pe_globI rfl G.height) pa_nil)))))))))), at_start (st_of (k := 3) rfl (by walk_at "sts")) ?_⟩
    have tl := ok.tlen
    obtain ⟨x, y, l, hs⟩ := hs
    have ep : s.pts = [x, y] ∧ s.txt = l := by rcases hs with rfl | rfl | rfl <;> exact ⟨rfl, rfl⟩
    rw [ep.1] at hS
    refine ⟨_, rfl, a, _, rfl, hS, rfl, ?_⟩
    repeat walk_at "rd1"
    refine ⟨ok.word, (by omega), fun H1 s1 => ?_⟩
    repeat walk_at "rd1"
    rw [ep.2]
    refine ⟨fun σ H' => ∃ z, σ = [some (.str s.name), some (.ref a), some (.str (S s.txt)), some (.int z), some (.int y), some (.int (tw l))] ∧ H' = H1 ∧ IsBox s ⟨z, y, tw l, 7⟩, ?_, ?_⟩
    · repeat walk_at "rd1"
      refine if_str (fun e => ?_) (fun e => ?_)
      · have e' := nm5.mp e
        rcases hs with rfl | rfl | rfl
        · simp [Sh.tag] at e'
        · repeat walk_at "rd1"
          exact rfl
        · simp [Sh.tag] at e'
      · repeat walk_at "rd1"
        refine if_str (fun e2 => ?_) (fun e2 => ?_)
        · have e' := nm6.mp e2
          rcases hs with rfl | rfl | rfl
          · simp [Sh.tag] at e'
          · simp [Sh.tag] at e'
          · repeat walk_at "rd1"
            exact rfl
        · rcases hs with rfl | rfl | rfl
          · exact ⟨_, rfl, rfl, rfl⟩
          · exact absurd (nm5.mpr rfl) e
          · exact absurd (nm6.mpr rfl) e2
    · rintro σ H2 ⟨z, rfl, rfl, hb⟩
      repeat walk_at "rd1"
      exact ⟨(show 4 ≤ sizeLine by decide), fun r hr => k _ _ _ (s1.trans (Same.new hr)) hb ⟨_, rfl, SqT.of upd_same⟩⟩
theorem df_law_around (M : Blt mg) (A : At K mg "_law_around" s_law_around) (D_law_width : Df P w K mg base 2 "_law_width" ["text"] (sp_law_width K)) : Df P w K mg base 3 "_law_around" ["shape", "points", "text"] (sp_law_around K) := by
  have nd := sc_law_around.nd
  refine Df.of A (fun _ _ _ _ _ _ us hl => match us, hl with | [_, _, _], _ => rfl) sc_law_around (fun vs H Q E h => ?_) (fun cdv A out f s H vs Q E hr hgd h => ?_)
  · obtain ⟨s, v, rfl, _⟩ := h
    rfl
  · obtain ⟨s, v, rfl, ⟨a, rfl, hS⟩, ok, k⟩ := h
    have h16 : sizeLine = 16777216 := by decide
    refine ⟨_, (pss_cons (ps_if (pt_cmpR op_eq (pv 0) pe_str (nomark _)) (pss_one (ps_ret (pv 1))) pss_nil)
      (pss_cons (ps_if (pt_cmpR op_eq (pv 0) pe_str (nomark _)) (pss_cons (ps_set (i := 3) nd rfl (Or.inl rfl) (pe_op op_add (pe_op op_mul pe_int (pe_ix (ixT K) (pv 1) pe_int (fun _ _ => rfl))) pe_int))
      (pss_one (ps_ret (pe_tup (pa_cons (pe_op op_sub (pe_ix (ixT K) (pv 1) pe_int (fun _ _ => rfl)) (pe_ix (ixT K) (pv 1) pe_int (fun _ _ => rfl))) (pa_cons (pe_op op_sub (pe_ix (ixT K) (pv 1) pe_int (fun _ _ => rfl)) (pe_ix (ixT K) (pv 1) pe_int (fun _ _ => rfl))) (pa_cons (pv 3) (pa_cons (pv 3) pa_nil)))))))) pss_nil)
      (pss_cons (ps_if (PW.pt (pw_or (pt_cmpR op_eq (pv 0) pe_str (nomark _)) (pw_or1 (pt_cmpR op_eq (pv 0) pe_str (nomark _))))) (pss_cons (ps_setLc (i := 4) (own := [("k", 5)]) (g := (gName 5)) (tt := tYes) rfl nd rfl rfl (sw_true rfl rfl rfl (by decide +kernel)) (pi_range3 rfl M.range (pa_cons pe_int (pa_cons (pe_callB (lenK K) (by rfl) M.len (by decide +kernel) (pa_cons (pv 1) pa_nil)) (pa_cons pe_int pa_nil)))) (blkOk_by (N := ["shape", "points", "text", "size", "across", "k", "down", "width", "left"]) (sc := defScope s_law_around) (by decide +kernel)) (fun _ _ _ _ _ => pg_name (i := 5) nd rfl (Or.inl rfl)) (fun _ _ _ _ _ => pts_nil) (fun _ _ _ _ _ => (pe_ix (ixT K) (pv 1) (pv 5) (fun _ _ => rfl))))
      (pss_cons (ps_setLc (i := 6) (own := [("k", 5)]) (g := (gName 5)) (tt := tYes) rfl nd rfl rfl (sw_true rfl rfl rfl (by decide +kernel)) (pi_range3 rfl M.range (pa_cons pe_int (pa_cons (pe_callB (lenK K) (by rfl) M.len (by decide +kernel) (pa_cons (pv 1) pa_nil)) (pa_cons pe_int pa_nil)))) (blkOk_by (N := ["shape", "points", "text", "size", "across", "k", "down", "width", "left"]) (sc := defScope s_law_around) (by decide +kernel)) (fun _ _ _ _ _ => pg_name (i := 5) nd rfl (Or.inl rfl)) (fun _ _ _ _ _ => pts_nil) (fun _ _ _ _ _ => (pe_ix (ixT K) (pv 1) (pv 5) (fun _ _ => rfl))))
      (pss_one (ps_ret (pe_tup (pa_cons (pe_callB (minK K rfl) (by rfl) M.min (by decide +kernel) (pa_cons (pv 4) pa_nil)) (pa_cons (pe_callB (minK K rfl) (by rfl) M.min (by decide +kernel) (pa_cons (pv 6) pa_nil)) (pa_cons (pe_op op_add (pe_op op_sub (pe_callB (maxK K rfl) (by rfl) M.max (by decide +kernel) (pa_cons (pv 4) pa_nil)) (pe_callB (minK K rfl) (by rfl) M.min (by decide +kernel) (pa_cons (pv 4) pa_nil))) pe_int) (pa_cons (pe_op op_add (pe_op op_sub (pe_callB (maxK K rfl) (by rfl) M.max (by decide +kernel) (pa_cons (pv 6) pa_nil)) (pe_callB (minK K rfl) (by rfl) M.min (by decide +kernel) (pa_cons (pv 6) pa_nil))) pe_int) pa_nil))))))))) pss_nil)
      (pss_cons (ps_set (i := 7) nd rfl (Or.inl rfl) (pe_df D_law_width (hr.mono (by decide)) hgd rfl (pa_cons (pv 2) pa_nil)))
      (pss_cons (ps_set (i := 8) nd rfl (Or.inl rfl) (pe_ix (ixT K) (pv 1) pe_int (fun _ _ => rfl)))
      (C8.pss_cut (ps_if (pt_cmpR op_eq (pv 0) pe_str (nomark _)) (pss_one (ps_set (i := 8) nd rfl (Or.inl rfl) (pe_op op_sub (pv 8) (pe_op op_fdiv (pv 7) pe_int)))) pss_nil)
      (C8.pss_cut (ps_if (pt_cmpR op_eq (pv 0) pe_str (nomark _)) (pss_one (ps_set (i := 8) nd rfl (Or.inl rfl) (pe_op op_sub (pv 8) (pv 7)))) pss_nil)
      (pss_one (ps_ret (pe_tup (pa_cons (pv 8) (pa_cons (pe_ix (ixT K) (pv 1) pe_int (fun _ _ => rfl)) (pa_cons (pv 7) (pa_cons pe_int pa_nil)))))))))))))), at_start (st_of (k := 6) rfl (by walk_at "sts")) ?_⟩
    repeat walk_at "rd1"
    refine if_str (fun e => ?_) (fun e0 => ?_)
    · have e' := nm0.mp e
      cases s <;> first | (simp [Sh.tag] at e'; done) | skip
      repeat walk_at "rd1"
      exact k _ _ _ (Same.refl _) rfl ⟨_, rfl, hS⟩
    repeat walk_at "rd1"
    refine if_str (fun e => ?_) (fun e3 => ?_)
    · have e' := nm3.mp e
      cases s <;> first | (simp [Sh.tag] at e'; done) | skip
      repeat walk_at "rd1"
      exact ⟨(show 4 ≤ sizeLine by decide), fun r hr => k _ _ _ (Same.new hr) rfl ⟨_, rfl, SqT.of upd_same⟩⟩
    by_cases hc : s.cor ≠ []
    · have pl := ok.plen
      rw [Sh.pts_cor hc] at pl hS
      have lp : 0 < (s.cor.map (·.1)).length := by rw [List.length_map]; exact List.length_pos_iff.mpr hc
      have lq : 0 < (s.cor.map (·.2)).length := by rw [List.length_map]; exact List.length_pos_iff.mpr hc
      have pl2 := flat_len s.cor
      repeat walk_at "rd1"
      refine if_str (fun e => ?_) (fun e1 => ?_)
      rotate_left 1
      repeat walk_at "rd1"
      refine if_str (fun e => ?_) (fun e2 => absurd (tag_cor.mpr hc) (by intro h; rcases h with h | h; exact e1 (nm1.mpr h); exact e2 (nm2.mpr h)))
      all_goals
        try refine iteT ?_
        repeat walk_at "rd1"
        refine ⟨_, _, _, _, rfl, rgf0 pl, fun D hD => map_step ((s.cor.map (·.1)).map V.int) (by rw [List.length_map, List.length_map]) (by omega) hD (fun i v hv H1 s1 Q' hQ => ?_) fun H1 s1 hD1 => ?_⟩
        · refine ⟨_, rfl, _, rfl, a, _, _, _, rfl, rfl, (Im.same s1).sqT hS, fx hv, hQ _ (Same.refl _)⟩
        · have hS1 := (Im.same s1).sqT hS
          repeat walk_at "rd1"
          refine ⟨_, _, _, _, rfl, rgf1 pl, fun E hE => map_step ((s.cor.map (·.2)).map V.int) (by rw [List.length_map, List.length_map]) (by omega) hE (fun i v hv H2 s2 Q' hQ => ?_) fun H2 s2 hE2 => ?_⟩
          · refine ⟨_, rfl, _, rfl, a, _, _, _, rfl, rfl, (Im.same s2).sqT hS1, fy hv, hQ _ (Same.refl _)⟩
          · have hD2 := s2 _ _ hD1
            repeat walk_at "rd1"
            refine ⟨D, _, rfl, SqL.of hD2, lp, fun L h1 h1' => ?_⟩
            repeat walk_at "rd1"
            refine ⟨E, _, rfl, SqL.of hE2, lq, fun T h2 h2' => ?_⟩
            repeat walk_at "rd1"
            refine ⟨D, _, rfl, SqL.of hD2, lp, fun Rt h3 h3' => ?_⟩
            repeat walk_at "rd1"
            refine ⟨D, _, rfl, SqL.of hD2, lp, fun L2 h5 h5' => ?_⟩
            have e5 : L2 = L := by have := h5' _ h1; have := h1' _ h5; omega
            subst e5
            repeat walk_at "rd1"
            refine ⟨E, _, rfl, SqL.of hE2, lq, fun B h4 h4' => ?_⟩
            repeat walk_at "rd1"
            refine ⟨E, _, rfl, SqL.of hE2, lq, fun T2 h6 h6' => ?_⟩
            have e6 : T2 = T := by have := h6' _ h2; have := h2' _ h6; omega
            subst e6
            repeat walk_at "rd1"
            exact ⟨(show 4 ≤ sizeLine by decide), fun r hr => k _ _ _ ((s1.trans s2).trans (Same.new hr)) (IsBox.cor hc (bb_of h1 h1' h2 h2' h3 h3' h4 h4')) ⟨_, rfl, SqT.of upd_same⟩⟩
    · have hn : ∀ n, n = 1 ∨ n = 2 → ¬ s.tag = n := fun n hn e => hc (tag_cor.mp (by rw [e]; exact hn))
      repeat walk_at "rd1"
      refine if_str (fun e => absurd (nm1.mp e) (hn 1 (Or.inl rfl))) (fun _ => ?_)
      repeat walk_at "rd1"
      refine if_str (fun e => absurd (nm2.mp e) (hn 2 (Or.inr rfl))) (fun _ => ?_)
      have hs : ∃ x y l, s = .tS x y l ∨ s = .tM x y l ∨ s = .tE x y l := by
        cases s with
        | rect _ _ _ _ => exact absurd (nm0.mpr rfl) e0
        | line _ _ _ _ => exact absurd (by intro h; cases h) hc
        | poly _ _ => exact absurd (by intro h; cases h) hc
        | circ _ _ _ => exact absurd (nm3.mpr rfl) e3
        | tS x y l => exact ⟨x, y, l, Or.inl rfl⟩
        | tM x y l => exact ⟨x, y, l, Or.inr (Or.inl rfl)⟩
        | tE x y l => exact ⟨x, y, l, Or.inr (Or.inr rfl)⟩
      obtain ⟨x, y, l, hs⟩ := hs
      have ep : s.pts = [x, y] ∧ s.txt = l := by rcases hs with rfl | rfl | rfl <;> exact ⟨rfl, rfl⟩
      rw [ep.1] at hS
      repeat walk_at "rd1"
      rw [ep.2]
      refine ⟨fun σ H' => σ = [some (.str s.name), some (.ref a), some (.str (S l)), none, none, none, none, some (.int (tw l)), some (.int (if s.tag = 5 then x - tw l / 2 else x))] ∧ H' = H, ?_, ?_⟩
      · repeat walk_at "rd1"
        refine if_str (fun e => ?_) (fun e => ?_)
        · have e' := nm5.mp e
          repeat walk_at "rd1"
          rw [if_pos e']
          try exact ⟨rfl, rfl⟩
        · rw [if_neg (fun h => e (nm5.mpr h))]
          exact ⟨rfl, rfl⟩
      rintro σ H2 ⟨rfl, rfl⟩
      refine ⟨fun σ H' => σ = [some (.str s.name), some (.ref a), some (.str (S l)), none, none, none, none, some (.int (tw l)), some (.int (if s.tag = 6 then x - tw l else if s.tag = 5 then x - tw l / 2 else x))] ∧ H' = H2, ?_, ?_⟩
      · repeat walk_at "rd1"
        refine if_str (fun e => ?_) (fun e => ?_)
        · have e' := nm6.mp e
          repeat walk_at "rd1"
          rw [if_pos e', if_neg (by omega)]
          try exact ⟨rfl, rfl⟩
        · rw [if_neg (c := s.tag = 6) (fun h => e (nm6.mpr h))]
          exact ⟨rfl, rfl⟩
      rintro σ H3 ⟨rfl, rfl⟩
      have hb : IsBox s ⟨(if s.tag = 6 then x - tw l else if s.tag = 5 then x - tw l / 2 else x), y, tw l, 7⟩ := by
        rcases hs with rfl | rfl | rfl <;> exact rfl
      repeat walk_at "rd1"
      exact ⟨(show 4 ≤ sizeLine by decide), fun r hr => k _ _ _ (Same.new hr) hb ⟨_, rfl, SqT.of upd_same⟩⟩
end

section
variable {P : Program} {w : World} {K : PySem.W.Frag} {mg : Str → Option Value} {base : Heap}
theorem df_law_form (M : Blt mg) (A : At K mg "_law_form" s_law_form) (D_law_draw : Df P w K mg base 1 "_law_draw" ["tape", "many"] (sp_law_draw K)) (D_law_word : Df P w K mg base 2 "_law_word" ["tape"] (sp_law_word K)) : Df P w K mg base 3 "_law_form" ["tape", "room"] (sp_law_form K) := by
  have nd := sc_law_form.nd
  refine Df.of A (fun _ _ _ _ _ _ us hl => match us, hl with | [_, _], _ => rfl) sc_law_form (fun vs H Q E h => ?_) (fun cdv A out f s H vs Q E hr hgd h => ?_)
  · obtain ⟨t, l, m, rfl, _⟩ := h
    rfl
  · obtain ⟨t, l, m, rfl, T, m1, m2, k⟩ := h
    have h16 : sizeLine = 16777216 := by decide
    refine ⟨_, (pss_cons (ps_set (i := 2) nd rfl (Or.inl rfl) (pe_op op_sub (pe_df D_law_draw (hr.mono (by decide)) hgd rfl (pa_cons (pv 0) (pa_cons (pe_op op_add (pv 1) pe_int) pa_nil))) pe_int))
      (pss_cons (ps_set (i := 3) nd rfl (Or.inl rfl) (pe_op op_sub (pe_df D_law_draw (hr.mono (by decide)) hgd rfl (pa_cons (pv 0) (pa_cons (pe_op op_add (pv 1) pe_int) pa_nil))) pe_int))
      (pss_cons (ps_set (i := 4) nd rfl (Or.inl rfl) (pe_df D_law_draw (hr.mono (by decide)) hgd rfl (pa_cons (pv 0) (pa_cons pe_int pa_nil))))
      (pss_cons (ps_if (pt_cmpR op_lt (pv 4) pe_int (nomark _)) (pss_one (ps_ret (pe_tup (pa_cons pe_str (pa_cons (pe_tup (pa_cons (pv 2) (pa_cons (pv 3) (pa_cons (pe_df D_law_draw (hr.mono (by decide)) hgd rfl (pa_cons (pv 0) (pa_cons (pv 1) pa_nil))) (pa_cons (pe_df D_law_draw (hr.mono (by decide)) hgd rfl (pa_cons (pv 0) (pa_cons (pv 1) pa_nil))) pa_nil))))) (pa_cons pe_str pa_nil)))))) pss_nil)
      (pss_cons (ps_if (pt_cmpR op_eq (pv 4) pe_int (nomark _)) (pss_one (ps_ret (pe_tup (pa_cons pe_str (pa_cons (pe_tup (pa_cons (pv 2) (pa_cons (pv 3) (pa_cons (pe_op op_sub (pe_df D_law_draw (hr.mono (by decide)) hgd rfl (pa_cons (pv 0) (pa_cons (pe_op op_add (pv 1) pe_int) pa_nil))) pe_int) (pa_cons (pe_op op_sub (pe_df D_law_draw (hr.mono (by decide)) hgd rfl (pa_cons (pv 0) (pa_cons (pe_op op_add (pv 1) pe_int) pa_nil))) pe_int) pa_nil))))) (pa_cons pe_str pa_nil)))))) pss_nil)
      (pss_cons (ps_if (pt_cmpR op_eq (pv 4) pe_int (nomark _)) (pss_cons (ps_set (i := 5) nd rfl (Or.inl rfl) (pe_tup (pa_cons (pv 2) (pa_cons (pv 3) pa_nil))))
      (pss_cons (ps_for PassesOwn.never rfl (pi_range1 rfl M.range (pa_cons (pe_df D_law_draw (hr.mono (by decide)) hgd rfl (pa_cons (pv 0) (pa_cons pe_int pa_nil))) pa_nil)) (pg_name (i := 6) nd rfl (Or.inl rfl)) (pss_one (ps_set (i := 5) nd rfl (Or.inl rfl) (pe_op (catT K) (pv 5) (pe_tup (pa_cons (pe_op op_sub (pe_df D_law_draw (hr.mono (by decide)) hgd rfl (pa_cons (pv 0) (pa_cons (pe_op op_add (pv 1) pe_int) pa_nil))) pe_int) (pa_cons (pe_op op_sub (pe_df D_law_draw (hr.mono (by decide)) hgd rfl (pa_cons (pv 0) (pa_cons (pe_op op_add (pv 1) pe_int) pa_nil))) pe_int) pa_nil)))))))
      (pss_one (ps_ret (pe_tup (pa_cons pe_str (pa_cons (pv 5) (pa_cons pe_str pa_nil)))))))) pss_nil)
      (pss_cons (ps_if (pt_cmpR op_eq (pv 4) pe_int (nomark _)) (pss_one (ps_ret (pe_tup (pa_cons pe_str (pa_cons (pe_tup (pa_cons (pv 2) (pa_cons (pv 3) (pa_cons (pe_df D_law_draw (hr.mono (by decide)) hgd rfl (pa_cons (pv 0) (pa_cons (pe_op op_add (pe_op op_fdiv (pv 1) pe_int) pe_int) pa_nil))) pa_nil)))) (pa_cons pe_str pa_nil)))))) pss_nil)
      (pss_one (ps_ret (pe_tup (pa_cons (pe_ix (ixL K) (pe_lst (pa_cons pe_str (pa_cons pe_str (pa_cons pe_str pa_nil)))) (pe_op op_sub (pv 4) pe_int) (fun _ _ => rfl)) (pa_cons (pe_tup (pa_cons (pv 2) (pa_cons (pv 3) pa_nil))) (pa_cons (pe_df D_law_word (hr.mono (by decide)) hgd rfl (pa_cons (pv 0) pa_nil)) pa_nil))))))))))))), at_start (st_of (k := 5) rfl (by walk_at "sts")) ?_⟩
    repeat walk_at "rd1"
    refine ⟨t, l, _, rfl, T, (by omega), fun x H1 T1 a1 x1 x2 => ?_⟩
    repeat walk_at "rd1"
    refine ⟨t, l, _, rfl, T1, (by omega), fun y H2 T2 a2 y1 y2 => ?_⟩
    repeat walk_at "rd1"
    refine ⟨t, l, _, rfl, T2, (by omega), fun kd H3 T3 a3 c1 c2 => ?_⟩
    have g3 : Gr t H H3 := ((a1.trans a2).trans a3).gr
    have bx : -1000 ≤ x - 4 ∧ x - 4 ≤ 1000 := by omega
    have by_ : -1000 ≤ y - 4 ∧ y - 4 ≤ 1000 := by omega
    clear a1 a2 a3 T1 T2
    repeat walk_at "rd1"
    refine if_dec (fun k1 => ?_) (fun k1 => ?_)
    · repeat walk_at "rd1"
      refine ⟨t, l, _, rfl, T3, (by omega), fun u H4 T4 a4 u1 u2 => ?_⟩
      repeat walk_at "rd1"
      refine ⟨t, l, _, rfl, T4, (by omega), fun v H5 T5 a5 v1 v2 => ?_⟩
      repeat walk_at "rd1"
      refine ⟨(show 4 ≤ sizeLine by decide), fun p hp => ?_⟩
      repeat walk_at "rd1"
      refine ⟨(show 3 ≤ sizeLine by decide), fun q hq => ?_⟩
      exact k _ (.rect (x - 4) (y - 4) u v) _ ((T5.new hp).new hq) (((g3.trans a4.gr).trans a5.gr).trans ((Gr.new hp).trans (Gr.new hq))) (Drawn.of0 (s := .rect (x - 4) (y - 4) u v) rfl (show 4 ≤ 1000 by decide) (all4 bx by_ (by omega) (by omega)) (SqT.of upd_same) hq)
    repeat walk_at "rd1"
    refine if_int (fun k2 => ?_) (fun k2 => ?_)
    · repeat walk_at "rd1"
      refine ⟨t, l, _, rfl, T3, (by omega), fun u H4 T4 a4 u1 u2 => ?_⟩
      repeat walk_at "rd1"
      refine ⟨t, l, _, rfl, T4, (by omega), fun v H5 T5 a5 v1 v2 => ?_⟩
      repeat walk_at "rd1"
      refine ⟨(show 4 ≤ sizeLine by decide), fun p hp => ?_⟩
      repeat walk_at "rd1"
      refine ⟨(show 3 ≤ sizeLine by decide), fun q hq => ?_⟩
      exact k _ (.line (x - 4) (y - 4) (u - 4) (v - 4)) _ ((T5.new hp).new hq) (((g3.trans a4.gr).trans a5.gr).trans ((Gr.new hp).trans (Gr.new hq))) (Drawn.of0 (s := .line (x - 4) (y - 4) (u - 4) (v - 4)) rfl (show 4 ≤ 1000 by decide) (all4 bx by_ (by omega) (by omega)) (SqT.of upd_same) hq)
    repeat walk_at "rd1"
    refine if_int (fun k3 => ?_) (fun k3 => ?_)
    · repeat walk_at "rd1"
      refine ⟨(show 2 ≤ sizeLine by decide), fun p hp => ?_⟩
      repeat walk_at "rd1"
      refine ⟨t, l, _, rfl, T3.new hp, (by omega), fun u H4 T4 a4 u1 u2 => ?_⟩
      repeat walk_at "rd1"
      have np : p ≠ t := T3.ne_t hp
      refine ⟨by omega, by omega, for_range (lo := 0) (n := u.toNat) (fun i σ H' => ∃ (p : Addr) (ps : List (Int × Int)) (v6 : Option V), σ = [some (.ref t), some (.int m), some (.int (x - 4)), some (.int (y - 4)), some (.int kd), some (.ref p), v6] ∧ TapeAt H' t l ∧ Gr t H3 H' ∧ SqT K H' p (iv (flat ((x - 4, y - 4) :: ps))) ∧ ps.length ≤ i ∧ ∀ z ∈ flat ((x - 4, y - 4) :: ps), -1000 ≤ z ∧ z ≤ 1000) ⟨p, [], none, rfl, T4, (Gr.new hp).trans a4.gr, SqT.of (a4.at_ np upd_same), Nat.le_refl _, (all2 (P := fun z => -1000 ≤ z ∧ z ≤ 1000) bx by_ : ∀ z ∈ [x - 4, y - 4], -1000 ≤ z ∧ z ≤ 1000)⟩ ?_ ?_⟩
      · rintro i σ H5 hi ⟨p, ps, v6, rfl, T5, g5, s5, l5, b5⟩
        repeat walk_at "rd1"
        refine ⟨t, l, _, rfl, T5, (by omega), fun u H6 T6 a6 u1 u2 => ?_⟩
        repeat walk_at "rd1"
        refine ⟨t, l, _, rfl, T6, (by omega), fun v H7 T7 a7 v1 v2 => ?_⟩
        repeat walk_at "rd1"
        refine ⟨(show 2 ≤ sizeLine by decide), fun q hq => ?_⟩
        have s7 : SqT K H7 p (iv (flat ((x - 4, y - 4) :: ps))) := ((T5.im (a6.trans a7).gr).sqT s5)
        have f7 : flat ((x - 4, y - 4) :: (ps ++ [(u - 4, v - 4)])) = flat ((x - 4, y - 4) :: ps) ++ [u - 4, v - 4] := by
          rw [← List.cons_append, flat_app]
          rfl
        refine ⟨_, _, _, _, rfl, rfl, (Im.new hq).sqT s7, SqT.of upd_same, (by rw [iv, List.length_map, flat_len, List.length_cons]; show _ + 2 ≤ _; omega), (fun e => by cases e), (fun _ e => by cases e), fun _ _ r hr => ?_⟩
        refine ⟨r, ps ++ [(u - 4, v - 4)], _, rfl, (T7.new hq).new hr, (g5.trans (a6.trans a7).gr).trans ((Gr.new hq).trans (Gr.new hr)), ?_, ?_, ?_⟩
        · have e7 : iv (flat ((x - 4, y - 4) :: ps) ++ [u - 4, v - 4]) = iv (flat ((x - 4, y - 4) :: ps)) ++ [V.int (u - 4), V.int (v - 4)] := by
            rw [iv, List.map_append]
            rfl
          rw [f7, e7]
          exact SqT.of upd_same
        · rw [List.length_append]
          show ps.length + 1 ≤ i + 1
          omega
        · rw [f7]
          intro z hz
          rcases List.mem_append.mp hz with h | h
          · exact b5 z h
          · exact (all2 (P := fun z => -1000 ≤ z ∧ z ≤ 1000) (by omega) (by omega)) z h
      · rintro σ H5 ⟨p, ps, v6, rfl, T5, g5, s5, l5, b5⟩
        repeat walk_at "rd1"
        refine ⟨(show 3 ≤ sizeLine by decide), fun q hq => ?_⟩
        exact k _ (.poly (x - 4, y - 4) ps) _ (T5.new hq) ((g3.trans g5).trans (Gr.new hq)) (Drawn.of0 (s := .poly (x - 4, y - 4) ps) rfl (by show (flat ((x - 4, y - 4) :: ps)).length ≤ 1000; rw [flat_len, List.length_cons]; omega) b5 s5 hq)
    repeat walk_at "rd1"
    refine if_int (fun k4 => ?_) (fun k4 => ?_)
    · repeat walk_at "rd1"
      refine ⟨t, l, _, rfl, T3, (by omega), fun u H4 T4 a4 u1 u2 => ?_⟩
      repeat walk_at "rd1"
      refine ⟨(show 3 ≤ sizeLine by decide), fun p hp => ?_⟩
      repeat walk_at "rd1"
      refine ⟨(show 3 ≤ sizeLine by decide), fun q hq => ?_⟩
      exact k _ (.circ (x - 4) (y - 4) u) _ ((T4.new hp).new hq) ((g3.trans a4.gr).trans ((Gr.new hp).trans (Gr.new hq))) (Drawn.of0 (s := .circ (x - 4) (y - 4) u) rfl (show 3 ≤ 1000 by decide) (all3 bx by_ (by omega)) (SqT.of upd_same) hq)
    obtain ⟨f, n, hf, hn⟩ : ∃ (f : List Nat → Sh) (n : Str), (∀ w, (f w).name = n ∧ (f w).pts = [x - 4, y - 4] ∧ (f w).txt = w) ∧ atI [V.str (Str.ofString "text start"), V.str (Str.ofString "text middle"), V.str (Str.ofString "text end")] (kd - 5) = some (.str n) := by
      have : kd = 5 ∨ kd = 6 ∨ kd = 7 := by omega
      rcases this with rfl | rfl | rfl
      · exact ⟨.tS (x - 4) (y - 4), _, fun w => ⟨rfl, rfl, rfl⟩, rfl⟩
      · exact ⟨.tM (x - 4) (y - 4), _, fun w => ⟨rfl, rfl, rfl⟩, rfl⟩
      · exact ⟨.tE (x - 4) (y - 4), _, fun w => ⟨rfl, rfl, rfl⟩, rfl⟩
    repeat walk_at "rd1"
    refine ⟨(show 3 ≤ sizeLine by decide), fun b hb => ?_⟩
    repeat walk_at "rd1"
    refine ⟨b, _, _, _, rfl, rfl, SqL.of upd_same, hn, ?_⟩
    repeat walk_at "rd1"
    refine ⟨(show 2 ≤ sizeLine by decide), fun p hp => ?_⟩
    repeat walk_at "rd1"
    refine ⟨t, l, rfl, (T3.new hb).new hp, fun w H5 T5 g5 ww wl => ?_⟩
    have np : p ≠ t := (T3.new hb).ne_t hp
    repeat walk_at "rd1"
    refine ⟨(show 3 ≤ sizeLine by decide), fun q hq => ?_⟩
    obtain ⟨f1, f2, f3⟩ := hf w
    have D := Drawn.of (K := K) (s := f w) (p := p) (H := H5) ⟨by rw [f3]; exact ww, by rw [f3]; omega, by rw [f2]; exact (show 2 ≤ 1000 by decide)⟩ (by rw [f2]; exact all2 (P := fun z => -1000 ≤ z ∧ z ≤ 1000) bx by_) (by rw [f2]; exact SqT.of (g5 _ _ upd_same np)) hq
    rw [f1, f3] at D
    exact k _ (f w) _ (T5.new hq) (((g3.trans ((Gr.new hb).trans (Gr.new hp))).trans g5).trans (Gr.new hq)) D
theorem df_law_holds (M : Blt mg) (A : At K mg "_law_holds" s_law_holds) : Df P w K mg base 1 "_law_holds" ["one", "x", "y"] (sp_law_holds K) := by
  have nd := sc_law_holds.nd
  refine Df.of A (fun _ _ _ _ _ _ us hl => match us, hl with | [_, _, _], _ => rfl) sc_law_holds (fun vs H Q E h => ?_) (fun cdv A out f s H vs Q E hr hgd h => ?_)
  · obtain ⟨v, r, x, y, rfl, _⟩ := h
    rfl
  · obtain ⟨_, r, x, y, rfl, ⟨a, rfl, hS⟩, k⟩ := h
    refine ⟨_, (pss_one (ps_ret (pe_and (pe_cmpR op_le (pe_ix (ixT K) (pv 0) pe_int (fun _ _ => rfl)) (pv 1) (nomark _)) (pe_and (pe_cmpR op_lt (pv 1) (pe_op op_add (pe_ix (ixT K) (pv 0) pe_int (fun _ _ => rfl)) (pe_ix (ixT K) (pv 0) pe_int (fun _ _ => rfl))) (nomark _)) (pe_and (pe_cmpR op_le (pe_ix (ixT K) (pv 0) pe_int (fun _ _ => rfl)) (pv 2) (nomark _)) (pe_one (pe_cmpR op_lt (pv 2) (pe_op op_add (pe_ix (ixT K) (pv 0) pe_int (fun _ _ => rfl)) (pe_ix (ixT K) (pv 0) pe_int (fun _ _ => rfl))) (nomark _)))))))), at_start (st_of (k := 0) rfl (by walk_at "sts")) ?_⟩
    unfold R.vs at hS
    have k' : ∀ c, has r x y = c → Q (.bl c) H := fun c e => by rw [← e]; exact k
    repeat walk_at "rd1"
    refine if_dec (fun c1 => ?_) (fun c1 => k' _ (by simp [has, c1]))
    repeat walk_at "rd1"
    refine if_dec (fun c2 => ?_) (fun c2 => k' _ (by simp [has, c2]))
    repeat walk_at "rd1"
    refine if_dec (fun c3 => ?_) (fun c3 => k' _ (by simp [has, c3]))
    repeat walk_at "rd1"
    exact k' _ (by simp [has, c1, c2, c3])
theorem df_law_shifted (M : Blt mg) (A : At K mg "_law_shifted" s_law_shifted) : Df P w K mg base 1 "_law_shifted" ["shape", "points", "x", "y"] (sp_law_shifted K) := by
  have nd := sc_law_shifted.nd
  refine Df.of A (fun _ _ _ _ _ _ us hl => match us, hl with | [_, _, _, _], _ => rfl) sc_law_shifted (fun vs H Q E h => ?_) (fun cdv A out f s H vs Q E hr hgd h => ?_)
  · obtain ⟨s, v, dx, dy, rfl, _⟩ := h
    rfl
  · obtain ⟨s, v, dx, dy, rfl, ⟨a, rfl, hS⟩, pl, k⟩ := h
    have h16 : sizeLine = 16777216 := by decide
    refine ⟨_, (pss_cons (ps_if (PW.pt (pw_or (pt_cmpR op_eq (pv 0) pe_str (nomark _)) (pw_or (pt_cmpR op_eq (pv 0) pe_str (nomark _)) (pw_or1 (pt_cmpR op_eq (pe_slice sl_str (pv 0) po_none (po_some pe_int)) pe_str (nomark _)))))) (pss_one (ps_ret (pe_op (catT K) (pe_tup (pa_cons (pe_op op_add (pe_ix (ixT K) (pv 1) pe_int (fun _ _ => rfl)) (pv 2)) (pa_cons (pe_op op_add (pe_ix (ixT K) (pv 1) pe_int (fun _ _ => rfl)) (pv 3)) pa_nil))) (pe_slice (slT K) (pv 1) (po_some pe_int) po_none)))) pss_nil)
      (pss_cons (ps_set (i := 4) nd rfl (Or.inl rfl) (pe_tup pa_nil))
      (pss_cons (ps_for PassesOwn.never rfl (pi_range3 rfl M.range (pa_cons pe_int (pa_cons (pe_callB (lenK K) (by rfl) M.len (by decide +kernel) (pa_cons (pv 1) pa_nil)) (pa_cons pe_int pa_nil)))) (pg_name (i := 5) nd rfl (Or.inl rfl)) (pss_one (ps_set (i := 4) nd rfl (Or.inl rfl) (pe_op (catT K) (pv 4) (pe_tup (pa_cons (pe_op op_add (pe_ix (ixT K) (pv 1) (pv 5) (fun _ _ => rfl)) (pv 2)) (pa_cons (pe_op op_add (pe_ix (ixT K) (pv 1) (pe_op op_add (pv 5) pe_int) (fun _ _ => rfl)) (pv 3)) pa_nil)))))))
      (pss_one (ps_ret (pv 4)))))), at_start (st_of (k := 2) rfl (by walk_at "sts")) ?_⟩
    by_cases hc : s.cor = []
    · obtain ⟨x0, y0, r0, e1, e2⟩ := nocor (s := s) (dx := dx) (dy := dy) hc
      rw [e1] at hS pl
      rw [e2] at k
      replace hS : SqT K H a (V.int x0 :: V.int y0 :: iv r0) := hS
      have i0 : atI (V.int x0 :: V.int y0 :: iv r0) 0 = some (V.int x0) := atI_nat (j := 0) rfl
      have i1 : atI (V.int x0 :: V.int y0 :: iv r0) 1 = some (V.int y0) := atI_nat (j := 1) rfl
      have pl' : r0.length ≤ 998 := by simp only [List.length_cons] at pl; omega
      have pl2 : (iv r0).length ≤ 998 := by rw [iv, List.length_map]; exact pl'
      repeat walk_at "rd1"
      refine if_str (fun _ => ?_) (fun n1 => ?_)
      rotate_left 1
      repeat walk_at "rd1"
      refine if_str (fun _ => ?_) (fun n2 => ?_)
      rotate_left 1
      repeat walk_at "rd1"
      refine ⟨(by have := nm_len s; omega), ?_⟩
      repeat walk_at "rd1"
      refine if_str (fun _ => ?_) (fun n3 => absurd (cut4.mpr ⟨hc, (fun e => n1 (nm0.mpr e)), (fun e => n2 (nm3.mpr e))⟩) n3)
      all_goals
        try refine iteT ?_
        repeat walk_at "rd1"
        refine ⟨a, _, _, _, rfl, rfl, hS, i0, ?_⟩
        repeat walk_at "rd1"
        refine ⟨a, _, _, _, rfl, rfl, hS, i1, ?_⟩
        repeat walk_at "rd1"
        refine ⟨(show 2 ≤ sizeLine by decide), fun p hp => ?_⟩
        repeat walk_at "rd1"
        refine ⟨a, _, rfl, (Im.new hp).sqT hS, (fun h => absurd h.1 (by rw [show (V.int x0 :: V.int y0 :: iv r0).length = (iv r0).length + 2 from rfl, six2]; decide)), fun _ q hq => ?_⟩
        rw [cut_2]
        refine ⟨p, q, _, _, rfl, rfl, (Im.new hq).sqT (SqT.of upd_same), SqT.of upd_same, (by show 2 + (iv r0).length ≤ sizeLine; omega), (fun e => by cases e), (fun _ e => ?_), (fun _ _ r hr => ?_)⟩
        · refine k _ _ ((Same.new hp).trans (Same.new hq)) ⟨p, rfl, (Im.new hq).sqT ?_⟩
          have e9 : iv ((x0 + dx) :: (y0 + dy) :: r0) = [V.int (x0 + dx), V.int (y0 + dy)] ++ iv r0 := rfl
          rw [e9, e]
          exact SqT.of upd_same
        · exact k _ _ (((Same.new hp).trans (Same.new hq)).trans (Same.new hr)) ⟨r, rfl, SqT.of upd_same⟩
    · have pp := Sh.pts_cor hc
      rw [pp] at hS pl
      have pl2 := flat_len s.cor
      have hn : ∀ n, n ≠ 1 → n ≠ 2 → ¬ s.tag = n := fun n h1 h2 e => by
        rcases tag_cor.mpr hc with h | h
        · exact h1 (by rw [← e, h])
        · exact h2 (by rw [← e, h])
      repeat walk_at "rd1"
      refine if_str (fun e => absurd (nm0.mp e) (hn 0 (by decide) (by decide))) (fun _ => ?_)
      repeat walk_at "rd1"
      refine if_str (fun e => absurd (nm3.mp e) (hn 3 (by decide) (by decide))) (fun _ => ?_)
      repeat walk_at "rd1"
      refine ⟨(by have := nm_len s; omega), ?_⟩
      repeat walk_at "rd1"
      refine if_str (fun e => absurd (cut4.mp e).1 hc) (fun _ => ?_)
      repeat walk_at "rd1"
      refine ⟨(show 0 ≤ sizeLine by decide), fun p hp => ?_⟩
      have hS0 := (Im.new (o := .tup []) hp).sqT hS
      repeat walk_at "rd1"
      refine ⟨_, _, _, _, rfl, rgf0 pl, for_rangeC (fun i σ H' => ∃ (p : Addr) (v5 : Option V), σ = [some (.str s.name), some (.ref a), some (.int dx), some (.int dy), some (.ref p), v5] ∧ Same H H' ∧ SqT K H' p (iv (flat ((s.cor.take i).map fun q => (q.1 + dx, q.2 + dy))))) ⟨p, none, rfl, Same.new hp, SqT.of upd_same⟩ ?_ ?_⟩
      · rintro i σ H1 hi ⟨p, v5, rfl, s1, hp1⟩
        have hq0 : s.cor[i]? = some s.cor[i] := List.getElem?_eq_getElem hi
        have hS1 := (Im.same s1).sqT hS
        repeat walk_at "rd1"
        refine ⟨a, _, _, _, rfl, rfl, hS1, fx1 hq0, ?_⟩
        repeat walk_at "rd1"
        refine ⟨a, _, _, _, rfl, rfl, hS1, fy1 hq0, ?_⟩
        repeat walk_at "rd1"
        refine ⟨(show 2 ≤ sizeLine by decide), fun b hb => ?_⟩
        have hl : (iv (flat ((s.cor.take i).map fun q => (q.1 + dx, q.2 + dy)))).length + 2 ≤ sizeLine := by
          rw [iv, List.length_map, flat_len, List.length_map, List.length_take]
          omega
        have ft := flat_take (f := fun q => (q.1 + dx, q.2 + dy)) hq0
        refine ⟨p, b, _, _, rfl, rfl, (Im.new hb).sqT hp1, SqT.of upd_same, hl, (fun e => ?_), (fun _ e => by cases e), (fun _ _ r hr => ?_)⟩
        · refine ⟨b, _, rfl, s1.trans (Same.new hb), ?_⟩
          rw [ft, e]
          exact SqT.of upd_same
        · refine ⟨r, _, rfl, (s1.trans (Same.new hb)).trans (Same.new hr), ?_⟩
          rw [ft]
          exact SqT.of upd_same
      · rintro σ H1 ⟨p, v5, rfl, s1, hp1⟩
        refine ⟨_, rfl, k _ _ s1 ⟨p, rfl, ?_⟩⟩
        rw [Sh.pts_cor (by rw [Sh.mv_cor]; intro h; exact hc (List.map_eq_nil_iff.mp h)), Sh.mv_cor]
        rw [List.take_length] at hp1
        exact hp1
end

theorem flat_drop : ∀ (ps : List (Int × Int)) (i : Nat), (flat ps).drop (2 * i) = flat (ps.drop i)
  | ps, 0 => by rw [Nat.mul_zero, List.drop_zero, List.drop_zero]
  | [], i + 1 => by rw [List.drop_nil]; exact List.drop_nil
  | p :: r, i + 1 => by
    rw [show 2 * (i + 1) = 2 * i + 1 + 1 from by omega]
    show (flat r).drop (2 * i) = flat (r.drop i)
    exact flat_drop r i
theorem whole_cut {xs : List V} {lo hi : Option Int} (h : HT.sIx xs.length 0 lo = 0 ∧ HT.sIx xs.length xs.length hi = xs.length) : cutV xs lo hi = xs := by
  unfold cutV
  rw [h.1, h.2, List.drop_zero, Nat.sub_zero, List.take_length]
theorem cut_pair {ps : List (Int × Int)} {i : Nat} {u v : Int × Int} {r : List (Int × Int)} (h : ps.drop i = u :: v :: r) : cutV (iv (flat ps)) (some (0 + (i : Int) * 2)) (some (0 + (i : Int) * 2 + 4)) = iv (flat [u, v]) := by
  have hl : ps.length = i + (r.length + 2) := by
    have h1 := congrArg List.length h
    rw [List.length_drop, List.length_cons, List.length_cons] at h1
    omega
  have el : (iv (flat ps)).length = 2 * ps.length := by rw [iv, List.length_map, flat_len]
  rw [show (0 : Int) + (i : Int) * 2 = ((2 * i : Nat) : Int) from by omega, show ((2 * i : Nat) : Int) + 4 = ((2 * i + 4 : Nat) : Int) from by omega]
  unfold cutV
  rw [HT.sIx_nat, HT.sIx_nat, Nat.min_eq_left (by omega), Nat.min_eq_left (by omega), show 2 * i + 4 - 2 * i = 4 from by omega, iv, ← List.map_drop, flat_drop, h, ← List.map_take]
  rfl
theorem Dp2 {K : PySem.W.Frag} {H : Hp} {a : Addr} {x y : Int} (h : SqT K H a [V.int x, V.int y]) : Dp K H (.ref a) (.tuple [.int x, .int y]) := .tup h (.cons (.int _) (.cons (.int _) .nil))
theorem eqv2 (a b c d : Int) : PyData.eqv (.tuple [.int a, .int b]) (.tuple [.int c, .int d]) = decide ((a, b) = (c, d)) := by
  rw [Bool.eq_iff_iff]
  simp [PyData.eqv, PyData.eqvAll]
section
variable {P : Program} {w : World} {K : PySem.W.Frag} {mg : Str → Option Value} {base : Heap}
theorem df_line_covers (M : Blt mg) (A : At K mg "line_covers" s_line_covers) (D_contains : Df P w K mg base 1 "contains" ["rectangle", "x", "y"] (sp_contains K)) (D_around_points : Df P w K mg base 1 "around_points" ["points"] (sp_around_points K)) : Df P w K mg base 2 "line_covers" ["ends", "x", "y"] (sp_line_covers K) := by
  have nd := sc_line_covers.nd
  refine Df.of A (fun _ _ _ _ _ _ us hl => match us, hl with | [_, _, _], _ => rfl) sc_line_covers (fun vs H Q E h => ?_) (fun cdv A out f s H vs Q E hr hgd h => ?_)
  · obtain ⟨v, p, q, x, y, rfl, _⟩ := h
    rfl
  · obtain ⟨_, p, q, x, y, rfl, ⟨a, rfl, hS⟩, nz, nx, ny, k⟩ := h
    refine ⟨_, (pss_cons (ps_if (pt_not (pt_val (pe_df D_contains (hr.mono (by decide)) hgd rfl (pa_cons (pe_df D_around_points (hr.mono (by decide)) hgd rfl (pa_cons (pv 0) pa_nil)) (pa_cons (pv 1) (pa_cons (pv 2) pa_nil)))))) (pss_one (ps_ret pe_bl)) pss_nil)
      (pss_cons (ps_asg (pv 0) (pg_tup rfl (pgs_cons (pg_name (i := 3) nd rfl (Or.inl rfl)) (pgs_cons (pg_name (i := 4) nd rfl (Or.inl rfl)) (pgs_cons (pg_name (i := 5) nd rfl (Or.inl rfl)) (pgs_cons (pg_name (i := 6) nd rfl (Or.inl rfl)) pgs_nil))))))
      (pss_cons (par2 (ps_par (i := 7) (j := 8) (by rfl) nd rfl rfl (by decide) rfl rfl (pa_cons (pe_op op_sub (pv 5) (pv 3)) (pa_cons (pe_op op_sub (pv 6) (pv 4)) pa_nil)) (by rfl)))
      (pss_one (ps_ret (pe_cmpR op_le (pe_op op_mul pe_int (pe_callB call_abs (by rfl) M.abs (by decide +kernel) (pa_cons (pe_op op_sub (pe_op op_mul (pe_op op_sub (pv 2) (pv 4)) (pv 7)) (pe_op op_mul (pe_op op_sub (pv 1) (pv 3)) (pv 8))) pa_nil))) (pe_callB (call_max2 rfl) (by rfl) M.max (by decide +kernel) (pa_cons (pe_callB call_abs (by rfl) M.abs (by decide +kernel) (pa_cons (pv 7) pa_nil)) (pa_cons (pe_callB call_abs (by rfl) M.abs (by decide +kernel) (pa_cons (pv 8) pa_nil)) pa_nil))) (nomark _))))))), at_start (st_of (k := 6) rfl (by walk_at "sts")) ?_⟩
    have z1 := nz p.1 (by simp [flat]); have z2 := nz p.2 (by simp [flat]); have z3 := nz q.1 (by simp [flat]); have z4 := nz q.2 (by simp [flat])
    unfold Nr at z1 z2 z3 z4 nx ny
    repeat walk_at "rd1"
    refine ⟨_, [p, q], rfl, ⟨a, rfl, hS⟩, (by intro h; cases h), (show 2 ≤ 1000 by decide), fun u r H1 s1 hb hr => ?_⟩
    have hS1 := (Im.same s1).sqT hS
    refine ⟨_, rfl, _, rfl, u, r, _, _, rfl, hr, ?_⟩
    rw [has_bb hb]
    have k' : ∀ c, onl p q x y = c → Q (.bl c) H1 := fun c e => by rw [← e]; exact k _ s1
    refine ⟨_, rfl, if_nbool (fun c1 => k' _ (by rw [onl, c1]; rfl)) (fun c1 => ?_)⟩
    refine ⟨_, rfl, a, _, rfl, hS1, rfl, ?_⟩
    repeat walk_at "rd1"
    refine ⟨Or.inr ⟨by omega, by omega⟩, ?_⟩
    repeat walk_at "rd1"
    refine ⟨Or.inr ⟨by omega, by omega⟩, ?_⟩
    repeat walk_at "rd1"
    have e9 : ∀ c d : Int, (if c > d then c else d) = max d c := fun c d => by split <;> omega
    rw [e9]
    exact k' _ (by rw [onl, c1]; rfl)
theorem df_circle_covers (M : Blt mg) (A : At K mg "circle_covers" s_circle_covers) : Df P w K mg base 1 "circle_covers" ["points", "x", "y"] (sp_circle_covers K) := by
  have nd := sc_circle_covers.nd
  refine Df.of A (fun _ _ _ _ _ _ us hl => match us, hl with | [_, _, _], _ => rfl) sc_circle_covers (fun vs H Q E h => ?_) (fun cdv A out f s H vs Q E hr hgd h => ?_)
  · obtain ⟨v, a, b, q, x, y, rfl, _⟩ := h
    rfl
  · obtain ⟨_, a, b, q, x, y, rfl, ⟨c, rfl, hS⟩, na, nb, nq, nx, ny, k⟩ := h
    refine ⟨_, (pss_cons (ps_asg (pv 0) (pg_tup rfl (pgs_cons (pg_name (i := 3) nd rfl (Or.inl rfl)) (pgs_cons (pg_name (i := 4) nd rfl (Or.inl rfl)) (pgs_cons (pg_name (i := 5) nd rfl (Or.inl rfl)) pgs_nil)))))
      (pss_one (ps_ret (pe_cmpR op_le (pe_op op_add (pe_op op_pow (pe_op op_sub (pv 1) (pv 3)) pe_int) (pe_op op_pow (pe_op op_sub (pv 2) (pv 4)) pe_int)) (pe_op op_add (pe_op op_mul (pv 5) (pv 5)) (pv 5)) (nomark _))))), at_start (st_of (k := 3) rfl (by walk_at "sts")) ?_⟩
    unfold Nr at na nb nq nx ny
    refine ⟨_, rfl, c, _, rfl, hS, rfl, ?_⟩
    repeat walk_at "rd1"
    refine ⟨⟨by decide, by decide, by omega⟩, ?_⟩
    repeat walk_at "rd1"
    refine ⟨⟨by decide, by decide, by omega⟩, ?_⟩
    repeat walk_at "rd1"
    refine ⟨Or.inl ⟨by omega, by omega⟩, ?_⟩
    repeat walk_at "rd1"
    exact k _ (Same.refl _)
theorem df_polyline_covers (M : Blt mg) (A : At K mg "polyline_covers" s_polyline_covers) (D_line_covers : Df P w K mg base 2 "line_covers" ["ends", "x", "y"] (sp_line_covers K)) : Df P w K mg base 3 "polyline_covers" ["points", "x", "y"] (sp_polyline_covers K) := by
  have nd := sc_polyline_covers.nd
  refine Df.of A (fun _ _ _ _ _ _ us hl => match us, hl with | [_, _, _], _ => rfl) sc_polyline_covers (fun vs H Q E h => ?_) (fun cdv A out f s H vs Q E hr hgd h => ?_)
  · obtain ⟨v, p, ps, x, y, rfl, _⟩ := h
    rfl
  · obtain ⟨_, p, ps, x, y, rfl, ⟨a, rfl, hS⟩, pl, nz, nx, ny, k⟩ := h
    have h16 : sizeLine = 16777216 := by decide
    refine ⟨_, (pss_cons (ps_if (pt_cmpR op_eq (pe_callB (lenK K) (by rfl) M.len (by decide +kernel) (pa_cons (pv 0) pa_nil)) pe_int (nomark _)) (pss_one (ps_ret (pe_cmpR (eqK K hr.units) (pv 0) (pe_tup (pa_cons (pv 1) (pa_cons (pv 2) pa_nil))) (nomark _)))) pss_nil)
      (pss_cons (ps_for PassesOwn.never rfl (pi_range3 rfl M.range (pa_cons pe_int (pa_cons (pe_op op_sub (pe_callB (lenK K) (by rfl) M.len (by decide +kernel) (pa_cons (pv 0) pa_nil)) pe_int) (pa_cons pe_int pa_nil)))) (pg_name (i := 3) nd rfl (Or.inl rfl)) (pss_one (ps_if (pt_val (pe_df D_line_covers (hr.mono (by decide)) hgd rfl (pa_cons (pe_slice (slT K) (pv 0) (po_some (pv 3)) (po_some (pe_op op_add (pv 3) pe_int))) (pa_cons (pv 1) (pa_cons (pv 2) pa_nil))))) (pss_one (ps_ret pe_bl)) pss_nil)))
      (pss_one (ps_ret pe_bl)))), at_start (st_of (k := 1) rfl (by walk_at "sts")) ?_⟩
    have fl := flat_len (p :: ps)
    have lc : (p :: ps).length = ps.length + 1 := rfl
    have il : (iv (flat (p :: ps))).length = 2 * ps.length + 2 := by rw [iv, List.length_map, fl, List.length_cons]; omega
    repeat walk_at "rd1"
    rw [il]
    refine if_int (fun e => ?_) (fun e => ?_)
    · have e0 : ps = [] := List.length_eq_zero_iff.mp (by omega)
      subst e0
      repeat walk_at "rd1"
      refine ⟨(show 2 ≤ sizeLine by decide), fun b hb => ?_⟩
      refine ⟨_, _, Dp2 ((Im.new hb).sqT hS), Dp2 (SqT.of upd_same), rfl, rfl, ?_⟩
      rw [eqv2]
      exact k _ (Same.new hb)
    · have ne : ps ≠ [] := fun h => e (by rw [h]; rfl)
      have el : ((iv (flat (p :: ps))).length : Int) - 2 = ((2 * ps.length : Nat) : Int) := by rw [il]; omega
      repeat walk_at "rd1"
      have k' : ∀ c H', Same H H' → pol p ps x y = c → Q (.bl c) H' := fun c H' s e => by rw [← e]; exact k _ s
      refine ⟨_, _, _, ps.length, rfl, (by rw [el]; exact rg0 (by omega)), for_rangeC (fun i σ H' => ∃ v3, σ = [some (.ref a), some (.int x), some (.int y), v3] ∧ Same H H' ∧ pol p ps x y = chain ((p :: ps).drop i) x y) ⟨none, rfl, Same.refl _, by rw [pol, if_neg ne]; rfl⟩ ?_ ?_⟩
      · rintro i σ H1 hi ⟨v3, rfl, s1, e1⟩
        have hS1 := (Im.same s1).sqT hS
        obtain ⟨u, v, r, hd⟩ : ∃ u v r, (p :: ps).drop i = u :: v :: r := by
          have hi1 : i < (p :: ps).length := by rw [List.length_cons]; omega
          have hi2 : i + 1 < (p :: ps).length := by rw [List.length_cons]; omega
          exact ⟨_, _, _, by rw [List.drop_eq_getElem_cons hi1, List.drop_eq_getElem_cons hi2]⟩
        have hd1 : (p :: ps).drop (i + 1) = v :: r := by
          rw [← List.drop_drop, hd]
          rfl
        have nz' : ∀ z ∈ flat [u, v], Nr z := by
          intro z hz
          refine nz z ?_
          have : z ∈ (flat (p :: ps)).drop (2 * i) := by
            rw [flat_drop, hd]
            simp only [flat, List.mem_cons, List.not_mem_nil, or_false] at hz ⊢
            rcases hz with h | h | h | h
            · exact Or.inl h
            · exact Or.inr (Or.inl h)
            · exact Or.inr (Or.inr (Or.inl h))
            · exact Or.inr (Or.inr (Or.inr (Or.inl h)))
          exact List.mem_of_mem_drop this
        rw [hd, chain] at e1
        repeat walk_at "rd1"
        refine ⟨a, _, rfl, hS1, (fun hw => ?_), (fun _ c hc => ?_)⟩
        · have ew := (whole_cut hw).symm.trans (cut_pair hd)
          rw [ew] at hS1
          refine ⟨_, rfl, _, rfl, .ref a, u, v, x, y, rfl, ⟨a, rfl, hS1⟩, nz', nx, ny, fun H2 s2 => ⟨_, rfl, if_bool (fun t => ?_) (fun f => ?_)⟩⟩
          · exact k' _ _ (s1.trans s2) (by rw [e1, t]; rfl)
          · exact ⟨_, rfl, s1.trans s2, by rw [e1, f, hd1]; rfl⟩
        · rw [cut_pair hd]
          refine ⟨_, rfl, _, rfl, .ref c, u, v, x, y, rfl, ⟨c, rfl, SqT.of upd_same⟩, nz', nx, ny, fun H2 s2 => ⟨_, rfl, if_bool (fun t => ?_) (fun f => ?_)⟩⟩
          · exact k' _ _ ((s1.trans (Same.new hc)).trans s2) (by rw [e1, t]; rfl)
          · exact ⟨_, rfl, (s1.trans (Same.new hc)).trans s2, by rw [e1, f, hd1]; rfl⟩
      · rintro σ H1 ⟨v3, rfl, s1, e1⟩
        refine k' _ _ s1 ?_
        rw [e1]
        exact chain_one (by rw [List.length_drop]; omega) x y
theorem df_covers (M : Blt mg) (A : At K mg "covers" s_covers) (G : Glyphs K w mg) (D_around_text : Df P w K mg base 3 "around_text" ["shape", "points", "text"] (sp_around_text K)) (D_inked : Df P w K mg base 2 "inked" ["text", "x", "y"] (sp_inked K)) (D_contains : Df P w K mg base 1 "contains" ["rectangle", "x", "y"] (sp_contains K)) (D_line_covers : Df P w K mg base 2 "line_covers" ["ends", "x", "y"] (sp_line_covers K)) (D_polyline_covers : Df P w K mg base 3 "polyline_covers" ["points", "x", "y"] (sp_polyline_covers K)) (D_circle_covers : Df P w K mg base 1 "circle_covers" ["points", "x", "y"] (sp_circle_covers K)) : Df P w K mg base 4 "covers" ["shape", "points", "text", "x", "y"] (sp_covers K) := by
  have nd := sc_covers.nd
  refine Df.of A (fun _ _ _ _ _ _ us hl => match us, hl with | [_, _, _, _, _], _ => rfl) sc_covers (fun vs H Q E h => ?_) (fun cdv A out f s H vs Q E hr hgd h => ?_)
  · obtain ⟨s, v, x, y, rfl, _⟩ := h
    rfl
  · obtain ⟨s, _, x, y, rfl, ⟨a, rfl, hS⟩, ok, nz, nx, ny, k⟩ := h
    refine ⟨_, (pss_cons (ps_if (pt_cmpR op_eq (pv 0) pe_str (nomark _)) (pss_one (ps_ret (pe_df D_contains (hr.mono (by decide)) hgd rfl (pa_cons (pv 1) (pa_cons (pv 3) (pa_cons (pv 4) pa_nil)))))) pss_nil)
      (pss_cons (ps_if (pt_cmpR op_eq (pv 0) pe_str (nomark _)) (pss_one (ps_ret (pe_df D_line_covers (hr.mono (by decide)) hgd rfl (pa_cons (pv 1) (pa_cons (pv 3) (pa_cons (pv 4) pa_nil)))))) pss_nil)
      (pss_cons (ps_if (pt_cmpR op_eq (pv 0) pe_str (nomark _)) (pss_one (ps_ret (pe_df D_polyline_covers (hr.mono (by decide)) hgd rfl (pa_cons (pv 1) (pa_cons (pv 3) (pa_cons (pv 4) pa_nil)))))) pss_nil)
      (pss_cons (ps_if (pt_cmpR op_eq (pv 0) pe_str (nomark _)) (pss_one (ps_ret (pe_df D_circle_covers (hr.mono (by decide)) hgd rfl (pa_cons (pv 1) (pa_cons (pv 3) (pa_cons (pv 4) pa_nil)))))) pss_nil)
      (pss_cons (ps_asg (pe_df D_around_text (hr.mono (by decide)) hgd rfl (pa_cons (pv 0) (pa_cons (pv 1) (pa_cons (pv 2) pa_nil)))) (pg_tup rfl (pgs_cons (pg_name (i := 5) nd rfl (Or.inl rfl)) (pgs_cons (pg_name (i := 6) nd rfl (Or.inl rfl)) (pgs_cons (pg_name (i := 7) nd rfl (Or.inl rfl)) (pgs_cons (pg_name (i := 7) nd rfl (Or.inl rfl)) pgs_nil))))))
      (pss_one (ps_ret (pe_df D_inked (hr.mono (by decide)) hgd rfl (pa_cons (pv 2) (pa_cons (pe_op op_sub (pv 3) (pv 5)) (pa_cons (pe_op op_sub (pv 4) (pv 6)) pa_nil))))))))))), at_start (st_of (k := 3) rfl (by walk_at "sts")) ?_⟩
    repeat walk_at "rd1"
    refine if_str (fun e => ?_) (fun e0 => ?_)
    · have e' := nm0.mp e
      cases s <;> first | (simp [Sh.tag] at e'; done) | skip
      rename_i a1 a2 a3 a4
      exact ⟨_, rfl, _, rfl, _, rfl, .ref a, ⟨a1, a2, a3, a4⟩, x, y, rfl, ⟨a, rfl, hS⟩, k _ (Same.refl _)⟩
    repeat walk_at "rd1"
    refine if_str (fun e => ?_) (fun e1 => ?_)
    · have e' := nm1.mp e
      cases s <;> first | (simp [Sh.tag] at e'; done) | skip
      rename_i a1 a2 a3 a4
      exact ⟨_, rfl, _, rfl, _, rfl, .ref a, (a1, a2), (a3, a4), x, y, rfl, ⟨a, rfl, hS⟩, nz, nx, ny, k⟩
    repeat walk_at "rd1"
    refine if_str (fun e => ?_) (fun e2 => ?_)
    · have e' := nm2.mp e
      cases s <;> first | (simp [Sh.tag] at e'; done) | skip
      rename_i p ps
      exact ⟨_, rfl, _, rfl, _, rfl, .ref a, p, ps, x, y, rfl, ⟨a, rfl, hS⟩, ok.plen, nz, nx, ny, k⟩
    repeat walk_at "rd1"
    refine if_str (fun e => ?_) (fun e3 => ?_)
    · have e' := nm3.mp e
      cases s <;> first | (simp [Sh.tag] at e'; done) | skip
      rename_i a1 a2 a3
      exact ⟨_, rfl, _, rfl, _, rfl, .ref a, a1, a2, a3, x, y, rfl, ⟨a, rfl, hS⟩, nz _ (by simp [Sh.pts]), nz _ (by simp [Sh.pts]), nz _ (by simp [Sh.pts]), nx, ny, k⟩
    have hs : ∃ x y l, s = .tS x y l ∨ s = .tM x y l ∨ s = .tE x y l := by
      cases s with
      | rect _ _ _ _ => exact absurd (nm0.mpr rfl) e0
      | line _ _ _ _ => exact absurd (nm1.mpr rfl) e1
      | poly _ _ => exact absurd (nm2.mpr rfl) e2
      | circ _ _ _ => exact absurd (nm3.mpr rfl) e3
      | tS x y l => exact ⟨x, y, l, Or.inl rfl⟩
      | tM x y l => exact ⟨x, y, l, Or.inr (Or.inl rfl)⟩
      | tE x y l => exact ⟨x, y, l, Or.inr (Or.inr rfl)⟩
    repeat walk_at "rd1"
    refine ⟨⟨a, rfl, hS⟩, ok, hs, fun u r H1 s1 hb ⟨b, eb, hr⟩ => ?_⟩
    subst eb
    unfold R.vs at hr
    refine ⟨b, _, rfl, hr, rfl, ?_⟩
    repeat walk_at "rd1"
    refine ⟨s.txt, _, _, rfl, ok.word, ?_⟩
    have e9 : inkT s.txt (x - r.l) (y - r.t) = cov s x y := by
      obtain ⟨a1, a2, l, hs⟩ := hs
      rcases hs with rfl | rfl | rfl <;> (rw [show r = _ from hb]; rfl)
    show Q (.bl (inkT s.txt (x - r.l) (y - r.t))) H1
    rw [e9]
    exact k _ s1
theorem df_law_on_line (M : Blt mg) (A : At K mg "_law_on_line" s_law_on_line) : Df P w K mg base 1 "_law_on_line" ["ends", "x", "y"] (sp_law_on_line K) := by
  have nd := sc_law_on_line.nd
  refine Df.of A (fun _ _ _ _ _ _ us hl => match us, hl with | [_, _, _], _ => rfl) sc_law_on_line (fun vs H Q E h => ?_) (fun cdv A out f s H vs Q E hr hgd h => ?_)
  · obtain ⟨v, p, q, x, y, rfl, _⟩ := h
    rfl
  · obtain ⟨_, p, q, x, y, rfl, ⟨a, rfl, hS⟩, nz, nx, ny, k⟩ := h
    refine ⟨_, (pss_cons (ps_set (i := 3) nd rfl (Or.inl rfl) (pe_op op_sub (pe_ix (ixT K) (pv 0) pe_int (fun _ _ => rfl)) (pe_ix (ixT K) (pv 0) pe_int (fun _ _ => rfl))))
      (pss_cons (ps_set (i := 4) nd rfl (Or.inl rfl) (pe_op op_sub (pe_ix (ixT K) (pv 0) pe_int (fun _ _ => rfl)) (pe_ix (ixT K) (pv 0) pe_int (fun _ _ => rfl))))
      (pss_cons (ps_if (PW.pt (pw_or (pt_cmpR op_lt (pv 1) (pe_callB (call_min2 rfl) (by rfl) M.min (by decide +kernel) (pa_cons (pe_ix (ixT K) (pv 0) pe_int (fun _ _ => rfl)) (pa_cons (pe_ix (ixT K) (pv 0) pe_int (fun _ _ => rfl)) pa_nil))) (nomark _)) (pw_or1 (pt_cmpR op_gt (pv 1) (pe_callB (call_max2 rfl) (by rfl) M.max (by decide +kernel) (pa_cons (pe_ix (ixT K) (pv 0) pe_int (fun _ _ => rfl)) (pa_cons (pe_ix (ixT K) (pv 0) pe_int (fun _ _ => rfl)) pa_nil))) (nomark _))))) (pss_one (ps_ret pe_bl)) pss_nil)
      (pss_cons (ps_if (PW.pt (pw_or (pt_cmpR op_lt (pv 2) (pe_callB (call_min2 rfl) (by rfl) M.min (by decide +kernel) (pa_cons (pe_ix (ixT K) (pv 0) pe_int (fun _ _ => rfl)) (pa_cons (pe_ix (ixT K) (pv 0) pe_int (fun _ _ => rfl)) pa_nil))) (nomark _)) (pw_or1 (pt_cmpR op_gt (pv 2) (pe_callB (call_max2 rfl) (by rfl) M.max (by decide +kernel) (pa_cons (pe_ix (ixT K) (pv 0) pe_int (fun _ _ => rfl)) (pa_cons (pe_ix (ixT K) (pv 0) pe_int (fun _ _ => rfl)) pa_nil))) (nomark _))))) (pss_one (ps_ret pe_bl)) pss_nil)
      (pss_one (ps_ret (pe_cmpR op_le (pe_op op_mul pe_int (pe_callB call_abs (by rfl) M.abs (by decide +kernel) (pa_cons (pe_op op_sub (pe_op op_mul (pe_op op_sub (pv 2) (pe_ix (ixT K) (pv 0) pe_int (fun _ _ => rfl))) (pv 3)) (pe_op op_mul (pe_op op_sub (pv 1) (pe_ix (ixT K) (pv 0) pe_int (fun _ _ => rfl))) (pv 4))) pa_nil))) (pe_callB (call_max2 rfl) (by rfl) M.max (by decide +kernel) (pa_cons (pe_callB call_abs (by rfl) M.abs (by decide +kernel) (pa_cons (pv 3) pa_nil)) (pa_cons (pe_callB call_abs (by rfl) M.abs (by decide +kernel) (pa_cons (pv 4) pa_nil)) pa_nil))) (nomark _)))))))), at_start (st_of (k := 2) rfl (by walk_at "sts")) ?_⟩
    have z1 := nz p.1 (by simp [flat]); have z2 := nz p.2 (by simp [flat]); have z3 := nz q.1 (by simp [flat]); have z4 := nz q.2 (by simp [flat])
    unfold Nr at z1 z2 z3 z4 nx ny
    have k' : ∀ c, onl p q x y = c → Q (.bl c) H := fun c e => by rw [← e]; exact k _ (Same.refl _)
    have e9 : ∀ c d : Int, (if c > d then c else d) = max d c := fun c d => by split <;> omega
    have e8 : ∀ c d : Int, (if c < d then c else d) = min d c := fun c d => by split <;> omega
    have nb : ¬ (min p.1 q.1 ≤ x ∧ x ≤ max p.1 q.1 ∧ min p.2 q.2 ≤ y ∧ y ≤ max p.2 q.2) → onl p q x y = false := fun h => by rw [onl, between, decide_eq_false h]; rfl
    replace hS : SqT K H a [.int p.1, .int p.2, .int q.1, .int q.2] := hS
    repeat walk_at "rd1"
    rw [e8]
    refine if_dec (fun c => ?_) (fun c1 => ?_)
    · refine iteT ?_
      repeat walk_at "rd1"
      exact k' _ (nb (by omega))
    repeat walk_at "rd1"
    rw [e9]
    refine if_dec (fun c => k' _ (nb (by omega))) (fun c2 => ?_)
    repeat walk_at "rd1"
    rw [e8]
    refine if_dec (fun c => ?_) (fun c3 => ?_)
    · refine iteT ?_
      repeat walk_at "rd1"
      exact k' _ (nb (by omega))
    repeat walk_at "rd1"
    rw [e9]
    refine if_dec (fun c => k' _ (nb (by omega))) (fun c4 => ?_)
    repeat walk_at "rd1"
    refine ⟨Or.inr ⟨by omega, by omega⟩, ?_⟩
    repeat walk_at "rd1"
    refine ⟨Or.inr ⟨by omega, by omega⟩, ?_⟩
    repeat walk_at "rd1"
    rw [e9]
    exact k' _ (by rw [onl, between, decide_eq_true (by omega)]; rfl)
end
section
variable {P : Program} {w : World} {K : PySem.W.Frag} {mg : Str → Option Value} {base : Heap}
theorem df_law_covers (M : Blt mg) (A : At K mg "_law_covers" s_law_covers) (D_law_around : Df P w K mg base 3 "_law_around" ["shape", "points", "text"] (sp_law_around K)) (D_law_inked : Df P w K mg base 2 "_law_inked" ["text", "x", "y"] (sp_law_inked K)) (D_law_holds : Df P w K mg base 1 "_law_holds" ["one", "x", "y"] (sp_law_holds K)) (D_law_on_line : Df P w K mg base 1 "_law_on_line" ["ends", "x", "y"] (sp_law_on_line K)) : Df P w K mg base 4 "_law_covers" ["shape", "points", "text", "x", "y"] (sp_law_covers K) := by
  have nd := sc_law_covers.nd
  refine Df.of A (fun _ _ _ _ _ _ us hl => match us, hl with | [_, _, _, _, _], _ => rfl) sc_law_covers (fun vs H Q E h => ?_) (fun cdv A out f s H vs Q E hr hgd h => ?_)
  · obtain ⟨s, v, x, y, rfl, _⟩ := h
    rfl
  · obtain ⟨s, _, x, y, rfl, ⟨a, rfl, hS⟩, ok, nz, nx, ny, k⟩ := h
    refine ⟨_, (pss_cons (ps_if (pt_cmpR op_eq (pv 0) pe_str (nomark _)) (pss_one (ps_ret (pe_df D_law_holds (hr.mono (by decide)) hgd rfl (pa_cons (pv 1) (pa_cons (pv 3) (pa_cons (pv 4) pa_nil)))))) pss_nil)
      (pss_cons (ps_if (pt_cmpR op_eq (pv 0) pe_str (nomark _)) (pss_one (ps_ret (pe_cmpR op_le (pe_op op_add (pe_op op_pow (pe_op op_sub (pv 3) (pe_ix (ixT K) (pv 1) pe_int (fun _ _ => rfl))) pe_int) (pe_op op_pow (pe_op op_sub (pv 4) (pe_ix (ixT K) (pv 1) pe_int (fun _ _ => rfl))) pe_int)) (pe_op op_add (pe_op op_mul (pe_ix (ixT K) (pv 1) pe_int (fun _ _ => rfl)) (pe_ix (ixT K) (pv 1) pe_int (fun _ _ => rfl))) (pe_ix (ixT K) (pv 1) pe_int (fun _ _ => rfl))) (nomark _)))) pss_nil)
      (pss_cons (ps_if (PW.pt (pw_or (pt_cmpR op_eq (pv 0) pe_str (nomark _)) (pw_or1 (pt_cmpR op_eq (pv 0) pe_str (nomark _))))) (pss_cons (ps_set (i := 5) nd rfl (Or.inl rfl) (pe_op op_sub (pe_callB (lenK K) (by rfl) M.len (by decide +kernel) (pa_cons (pv 1) pa_nil)) pe_int))
      (pss_cons (ps_for PassesOwn.never rfl (pi_range3 rfl M.range (pa_cons pe_int (pa_cons (pe_callB (call_max2 rfl) (by rfl) M.max (by decide +kernel) (pa_cons (pv 5) (pa_cons pe_int pa_nil))) (pa_cons pe_int pa_nil)))) (pg_name (i := 6) nd rfl (Or.inl rfl)) (pss_cons (ps_set (i := 7) nd rfl (Or.inl rfl) (pe_callB (call_min2 rfl) (by rfl) M.min (by decide +kernel) (pa_cons (pe_op op_add (pv 6) pe_int) (pa_cons (pv 5) pa_nil))))
      (pss_one (ps_if (pt_val (pe_df D_law_on_line (hr.mono (by decide)) hgd rfl (pa_cons (pe_tup (pa_cons (pe_ix (ixT K) (pv 1) (pv 6) (fun _ _ => rfl)) (pa_cons (pe_ix (ixT K) (pv 1) (pe_op op_add (pv 6) pe_int) (fun _ _ => rfl)) (pa_cons (pe_ix (ixT K) (pv 1) (pv 7) (fun _ _ => rfl)) (pa_cons (pe_ix (ixT K) (pv 1) (pe_op op_add (pv 7) pe_int) (fun _ _ => rfl)) pa_nil))))) (pa_cons (pv 3) (pa_cons (pv 4) pa_nil))))) (pss_one (ps_ret pe_bl)) pss_nil))))
      (pss_one (ps_ret pe_bl)))) pss_nil)
      (pss_cons (ps_set (i := 8) nd rfl (Or.inl rfl) (pe_df D_law_around (hr.mono (by decide)) hgd rfl (pa_cons (pv 0) (pa_cons (pv 1) (pa_cons (pv 2) pa_nil)))))
      (pss_one (ps_ret (pe_df D_law_inked (hr.mono (by decide)) hgd rfl (pa_cons (pv 2) (pa_cons (pe_op op_sub (pv 3) (pe_ix (ixT K) (pv 8) pe_int (fun _ _ => rfl))) (pa_cons (pe_op op_sub (pv 4) (pe_ix (ixT K) (pv 8) pe_int (fun _ _ => rfl))) pa_nil)))))))))), at_start (st_of (k := 4) rfl (by walk_at "sts")) ?_⟩
    have h16 : sizeLine = 16777216 := by decide
    repeat walk_at "rd1"
    refine if_str (fun e => ?_) (fun e0 => ?_)
    · have e' := nm0.mp e
      cases s <;> first | (simp [Sh.tag] at e'; done) | skip
      rename_i a1 a2 a3 a4
      exact ⟨_, rfl, _, rfl, _, rfl, .ref a, ⟨a1, a2, a3, a4⟩, x, y, rfl, ⟨a, rfl, hS⟩, k _ (Same.refl _)⟩
    repeat walk_at "rd1"
    refine if_str (fun e => ?_) (fun e3 => ?_)
    · have e' := nm3.mp e
      cases s <;> first | (simp [Sh.tag] at e'; done) | skip
      rename_i a1 a2 a3
      have n1 := nz a1 (by simp [Sh.pts]); have n2 := nz a2 (by simp [Sh.pts]); have n3 := nz a3 (by simp [Sh.pts])
      unfold Nr at n1 n2 n3 nx ny
      replace hS : SqT K H a [.int a1, .int a2, .int a3] := hS
      repeat walk_at "rd1"
      refine ⟨⟨by decide, by decide, by omega⟩, ?_⟩
      repeat walk_at "rd1"
      refine ⟨⟨by decide, by decide, by omega⟩, ?_⟩
      repeat walk_at "rd1"
      refine ⟨Or.inl ⟨by omega, by omega⟩, ?_⟩
      repeat walk_at "rd1"
      exact k _ (Same.refl _)
    by_cases hc : s.cor ≠ []
    · obtain ⟨p, ps, ec, ev⟩ := pol_cor hc
      have pl := ok.plen
      rw [Sh.pts_cor hc, ec] at pl hS nz
      repeat walk_at "rd1"
      refine if_str (fun e => ?_) (fun e1 => ?_)
      rotate_left 1
      repeat walk_at "rd1"
      refine if_str (fun e => ?_) (fun e2 => absurd (tag_cor.mpr hc) (by intro h; rcases h with h | h; exact e1 (nm1.mpr h); exact e2 (nm2.mpr h)))
      all_goals
        try refine iteT ?_
        repeat walk_at "rd1"
        refine ⟨_, _, _, gm ps, rfl, gst_rg pl, for_rangeC (fun i σ H' => ∃ v6 v7, σ = [some (.str s.name), some (.ref a), some (.str (S s.txt)), some (.int x), some (.int y), some (.int (((iv (flat (p :: ps))).length : Int) - 2)), v6, v7, none] ∧ Same H H' ∧ cov s x y = gst p ps x y i) ⟨_, _, rfl, Same.refl _, by rw [ev, gst0]⟩ ?_ ?_⟩
        · rintro i σ H1 hi ⟨v6, v7, rfl, s1, eg⟩
          obtain ⟨u, v, j, hu, hv, ej, est⟩ := gst_step (p := p) (x := x) (y := y) hi
          have hS1 := (Im.same s1).sqT hS
          have nu := nr_at hu nz
          have nv := nr_at hv nz
          have gx := fx1 hv
          have gy := fy1 hv
          rw [← ej] at gx gy
          repeat walk_at "rd1"
          refine ⟨a, _, _, _, rfl, rfl, hS1, fx1 hu, ?_⟩
          repeat walk_at "rd1"
          refine ⟨a, _, _, _, rfl, rfl, hS1, fy1 hu, ?_⟩
          repeat walk_at "rd1"
          refine ⟨a, _, _, _, rfl, rfl, hS1, gx, ?_⟩
          repeat walk_at "rd1"
          refine ⟨a, _, _, _, rfl, rfl, hS1, gy, ?_⟩
          repeat walk_at "rd1"
          refine ⟨(show 4 ≤ sizeLine by decide), fun b hb => ?_⟩
          refine ⟨_, rfl, _, rfl, .ref b, u, v, x, y, rfl, ⟨b, rfl, SqT.of upd_same⟩, all4 nu.1 nu.2 nv.1 nv.2, nx, ny, fun H2 s2 => ⟨_, rfl, if_bool (fun t => ?_) (fun f => ?_)⟩⟩
          · have : cov s x y = true := by rw [eg, est, t]; rfl
            repeat walk_at "rd1"
            rw [← this]
            exact k _ ((s1.trans (Same.new hb)).trans s2)
          · exact ⟨_, _, rfl, (s1.trans (Same.new hb)).trans s2, by rw [eg, est, f]; rfl⟩
        · rintro σ H1 ⟨v6, v7, rfl, s1, eg⟩
          repeat walk_at "rd1"
          have : cov s x y = false := by rw [eg, gst_end]
          rw [← this]
          exact k _ s1
    · have hs := not_cor hc (fun h => e0 (nm0.mpr h)) (fun h => e3 (nm3.mpr h))
      have hn : ∀ n, n = 1 ∨ n = 2 → ¬ s.tag = n := fun n hn e => hc (tag_cor.mp (by rw [e]; exact hn))
      repeat walk_at "rd1"
      refine if_str (fun e => absurd (nm1.mp e) (hn 1 (Or.inl rfl))) (fun _ => ?_)
      repeat walk_at "rd1"
      refine if_str (fun e => absurd (nm2.mp e) (hn 2 (Or.inr rfl))) (fun _ => ?_)
      repeat walk_at "rd1"
      refine ⟨⟨a, rfl, hS⟩, ok, fun u r H1 s1 hb ⟨b, eb, hr⟩ => ?_⟩
      subst eb
      unfold R.vs at hr
      repeat walk_at "rd1"
      refine ⟨s.txt, _, _, rfl, ?_⟩
      show Q (.bl (inkT s.txt (x - r.l) (y - r.t))) H1
      rw [cov_text hs hb]
      exact k _ s1
end

theorem pick2 {u e : Int} (h0 : 0 ≤ e) (h1 : e < 2) (u1 : -19000 ≤ u) (u2 : u ≤ 19001) : ∃ z, atI [V.int 0, V.int u] e = some (V.int z) ∧ -19000 ≤ z ∧ z ≤ 19001 := by
  have : e = 0 ∨ e = 1 := by omega
  rcases this with rfl | rfl
  · exact ⟨0, rfl, by decide, by decide⟩
  · exact ⟨u, rfl, u1, u2⟩
section
variable {P : Program} {w : World} {K : PySem.W.Frag} {mg : Str → Option Value} {base : Heap}
theorem fn_law {f : Addr} {fd : FuncData} (M : Blt mg) (F : Fun K "law" "law" s_law f fd) (D_law_tape : Df P w K mg base 1 "_law_tape" ["script"] (sp_law_tape K)) (D_law_form : Df P w K mg base 3 "_law_form" ["tape", "room"] (sp_law_form K)) (D_law_shifted : Df P w K mg base 1 "_law_shifted" ["shape", "points", "x", "y"] (sp_law_shifted K)) (D_law_around : Df P w K mg base 3 "_law_around" ["shape", "points", "text"] (sp_law_around K)) (D_law_draw : Df P w K mg base 1 "_law_draw" ["tape", "many"] (sp_law_draw K)) (D_covers : Df P w K mg base 4 "covers" ["shape", "points", "text", "x", "y"] (sp_covers K)) (D_law_covers : Df P w K mg base 4 "_law_covers" ["shape", "points", "text", "x", "y"] (sp_law_covers K)) : FnG P w K mg base 5 f fd ["script"] (spLaw K) := by
  have nd := sc_law.nd
  refine FnG.of F sc_law (fun vs H Q E h => ?_) (fun cdv A out s H vs Q E hr hgd h => ?_)
  · obtain ⟨a, ns, rfl, _⟩ := h
    rfl
  · obtain ⟨a, ns, rfl, hS, hlen, k⟩ := h
    have h16 : sizeLine = 16777216 := by decide
    refine ⟨_, (pss_cons (ps_set (i := 1) nd rfl (Or.inl rfl) (pe_df D_law_tape (hr.mono (by decide)) hgd rfl (pa_cons (pv 0) pa_nil)))
      (pss_cons (ps_set (i := 2) nd rfl (Or.inl rfl) (pe_df D_law_form (hr.mono (by decide)) hgd rfl (pa_cons (pv 1) (pa_cons pe_int pa_nil))))
      (C8.pss_cut (ps_if (PW.pt (pw_and (pt_cmpR op_eq (pe_ix (ixT K) (pv 2) pe_int (fun _ _ => rfl)) pe_str (nomark _)) (pw_and1 (pt_cmpR op_eq (pe_df D_law_draw (hr.mono (by decide)) hgd rfl (pa_cons (pv 1) (pa_cons pe_int pa_nil))) pe_int (nomark _))))) (pss_one (ps_set (i := 2) nd rfl (Or.inl rfl) (pe_tup (pa_cons (pe_ix (ixT K) (pv 2) pe_int (fun _ _ => rfl)) (pa_cons (pe_tup (pa_cons (pe_ix (ixT K) (pe_ix (ixT K) (pv 2) pe_int (fun _ _ => rfl)) pe_int (fun _ _ => rfl)) (pa_cons (pe_ix (ixT K) (pe_ix (ixT K) (pv 2) pe_int (fun _ _ => rfl)) pe_int (fun _ _ => rfl)) (pa_cons (pe_df D_law_draw (hr.mono (by decide)) hgd rfl (pa_cons (pv 1) (pa_cons pe_int pa_nil))) pa_nil)))) (pa_cons pe_str pa_nil)))))) pss_nil)
      (pss_cons (ps_set (i := 3) nd rfl (Or.inl rfl) (pe_ix (ixL K) (pe_lst (pa_cons pe_int (pa_cons (pe_op op_sub (pe_df D_law_draw (hr.mono (by decide)) hgd rfl (pa_cons (pv 1) (pa_cons pe_int pa_nil))) pe_int) pa_nil))) (pe_df D_law_draw (hr.mono (by decide)) hgd rfl (pa_cons (pv 1) (pa_cons pe_int pa_nil))) (fun _ _ => rfl)))
      (pss_cons (ps_set (i := 4) nd rfl (Or.inl rfl) (pe_df D_law_shifted (hr.mono (by decide)) hgd rfl (pa_cons (pe_ix (ixT K) (pv 2) pe_int (fun _ _ => rfl)) (pa_cons (pe_ix (ixT K) (pv 2) pe_int (fun _ _ => rfl)) (pa_cons (pv 3) (pa_cons (pe_op op_sub pe_int (pv 3)) pa_nil))))))
      (pss_cons (ps_set (i := 5) nd rfl (Or.inl rfl) (pe_df D_law_around (hr.mono (by decide)) hgd rfl (pa_cons (pe_ix (ixT K) (pv 2) pe_int (fun _ _ => rfl)) (pa_cons (pv 4) (pa_cons (pe_ix (ixT K) (pv 2) pe_int (fun _ _ => rfl)) pa_nil)))))
      (C8.pss_cut (ps_for PassesOwn.never rfl (pi_range2 rfl M.range (pa_cons (pe_op op_sub (pe_ix (ixT K) (pv 5) pe_int (fun _ _ => rfl)) pe_int) (pa_cons (pe_op op_add (pe_op op_add (pe_ix (ixT K) (pv 5) pe_int (fun _ _ => rfl)) (pe_ix (ixT K) (pv 5) pe_int (fun _ _ => rfl))) pe_int) pa_nil))) (pg_name (i := 6) nd rfl (Or.inl rfl)) (pss_one (ps_for PassesOwn.never rfl (pi_range2 rfl M.range (pa_cons (pe_op op_sub (pe_ix (ixT K) (pv 5) pe_int (fun _ _ => rfl)) pe_int) (pa_cons (pe_op op_add (pe_op op_add (pe_ix (ixT K) (pv 5) pe_int (fun _ _ => rfl)) (pe_ix (ixT K) (pv 5) pe_int (fun _ _ => rfl))) pe_int) pa_nil))) (pg_name (i := 7) nd rfl (Or.inl rfl)) (pss_cons (ps_set (i := 8) nd rfl (Or.inl rfl) (pe_df D_covers (hr.mono (by decide)) hgd rfl (pa_cons (pe_ix (ixT K) (pv 2) pe_int (fun _ _ => rfl)) (pa_cons (pv 4) (pa_cons (pe_ix (ixT K) (pv 2) pe_int (fun _ _ => rfl)) (pa_cons (pv 7) (pa_cons (pv 6) pa_nil)))))))
      (pss_cons (ps_if (PW.pt (pw_or (pt_not (pt_val (pe_callB call_isi (by rfl) M.isinstance (by decide +kernel) (pa_cons (pv 8) (pa_cons (pe_bltn (v := .ty "bool") (u := .type "bool") (by rfl) M.bool (by decide +kernel) rfl) pa_nil))))) (pw_or1 (pt_cmpR op_ne (pv 8) (pe_df D_law_covers (hr.mono (by decide)) hgd rfl (pa_cons (pe_ix (ixT K) (pv 2) pe_int (fun _ _ => rfl)) (pa_cons (pv 4) (pa_cons (pe_ix (ixT K) (pv 2) pe_int (fun _ _ => rfl)) (pa_cons (pv 7) (pa_cons (pv 6) pa_nil)))))) (nomark _))))) (pss_one (ps_ret pe_bl)) pss_nil)
      (pss_one (ps_if (PW.pt (pw_and (pt_cmpR op_eq (pe_ix (ixT K) (pv 2) pe_int (fun _ _ => rfl)) pe_str (nomark _)) (pw_and1 (pt_cmpR op_ne (pe_df D_covers (hr.mono (by decide)) hgd rfl (pa_cons pe_str (pa_cons (pe_op (catT K) (pe_slice (slT K) (pv 4) (po_some pe_int) po_none) (pe_slice (slT K) (pv 4) po_none (po_some pe_int))) (pa_cons pe_str (pa_cons (pv 7) (pa_cons (pv 6) pa_nil)))))) (pv 8) (nomark _))))) (pss_one (ps_ret pe_bl)) pss_nil)))))))
      (pss_cons (ps_if (pt_cmpR op_eq (pe_ix (ixT K) (pv 2) pe_int (fun _ _ => rfl)) pe_str (nomark _)) (pss_one (ps_ret (pe_and (pe_df D_covers (hr.mono (by decide)) hgd rfl (pa_cons pe_str (pa_cons (pv 4) (pa_cons pe_str (pa_cons (pe_ix (ixT K) (pv 4) pe_int (fun _ _ => rfl)) (pa_cons (pe_ix (ixT K) (pv 4) pe_int (fun _ _ => rfl)) pa_nil)))))) (pe_one (pe_df D_covers (hr.mono (by decide)) hgd rfl (pa_cons pe_str (pa_cons (pv 4) (pa_cons pe_str (pa_cons (pe_ix (ixT K) (pv 4) pe_int (fun _ _ => rfl)) (pa_cons (pe_ix (ixT K) (pv 4) pe_int (fun _ _ => rfl)) pa_nil)))))))))) pss_nil)
      (pss_one (ps_ret pe_bl)))))))))), at_start (st_of (k := 8) rfl (by walk_at "sts")) ?_⟩
    refine ⟨_, rfl, a, ns, rfl, hS, hlen, fun t l H1 sm0 T1 ht hl => ?_⟩
    repeat walk_at "rd1"
    refine ⟨t, l, _, rfl, T1, by decide, by decide, fun xf s H2 T2 g2 dr => ?_⟩
    obtain ⟨ok, sm, q, v, rfl, hq, c, rfl, hv⟩ := dr
    repeat walk_at "rd1"
    -- perhaps a greater circle
    refine ⟨fun σ H' => ∃ (q c : Addr) (s : Sh), σ = [some (.ref a), some (.ref t), some (.ref q), none, none, none, none, none, none] ∧ TapeAt H' t l ∧ ShOk s ∧ (∀ z ∈ s.pts, -1000 ≤ z ∧ z ≤ 1000) ∧ SqT K H' q [.str s.name, .ref c, .str (S s.txt)] ∧ SqT K H' c (iv s.pts), ?_, ?_⟩
    · repeat walk_at "rd1"
      refine if_str (fun e => ?_) (fun e => ?_)
      · have e' := nm3.mp e
        cases s <;> first | (simp [Sh.tag] at e'; done) | skip
        rename_i a1 a2 a3
        have n1 := sm a1 (by simp [Sh.pts]); have n2 := sm a2 (by simp [Sh.pts])
        repeat walk_at "rd1"
        refine ⟨t, l, _, rfl, T2, by decide, fun d H3 T3 a3' d1 d2 => ?_⟩
        replace hq := (T2.im a3'.gr).sqT hq
        replace hv := (T2.im a3'.gr).sqT hv
        repeat walk_at "rd1"
        refine if_int (fun _ => ?_) (fun _ => ?_)
        · have hv2 : SqT K H3 c [.int a1, .int a2, .int a3] := hv
          repeat walk_at "rd1"
          refine ⟨t, l, _, rfl, T3, by decide, fun g H4 T4 a4 g1 g2 => ?_⟩
          repeat walk_at "rd1"
          refine ⟨(show 3 ≤ sizeLine by decide), fun p hp => ?_⟩
          repeat walk_at "rd1"
          refine ⟨(show 3 ≤ sizeLine by decide), fun q2 hq2 => ?_⟩
          repeat walk_at "rd1"
          have el : S (Sh.circ a1 a2 g).txt = Str.ofString "" := S_lit
          refine ⟨q2, p, .circ a1 a2 g, rfl, (T4.new hp).new hq2, ⟨Word.nil, Nat.zero_le _, (show 3 ≤ 1000 by decide)⟩, all3 n1 n2 (by omega), (by rw [el]; exact SqT.of upd_same), (Im.new hq2).sqT (SqT.of upd_same)⟩
        · exact ⟨q, c, .circ a1 a2 a3, rfl, T3, ok, sm, hq, hv⟩
      · refine iteF ?_
        exact ⟨q, c, s, rfl, T2, ok, sm, hq, hv⟩
    clear T2 g2 hq hv ok sm
    rintro σ H2 ⟨q, c, s, rfl, T2, ok, sm, hq, hv⟩
    repeat walk_at "rd1"
    refine ⟨t, l, _, rfl, T2, by decide, fun u H3 T3 a3 u1 u2 => ?_⟩
    repeat walk_at "rd1"
    refine ⟨(show 2 ≤ sizeLine by decide), fun b hb => ?_⟩
    repeat walk_at "rd1"
    refine ⟨t, l, _, rfl, T3.new hb, by decide, fun e H4 T4 a4 e1 e2 => ?_⟩
    obtain ⟨X, x0, x1, x2⟩ := pick2 (u := u - 19000) e1 (by omega) (by omega) (by omega)
    refine ⟨b, _, _, _, rfl, rfl, SqL.of (a4.at_ (T3.ne_t hb) upd_same), x0, ?_⟩
    have g4 : Gr t H2 H4 := (a3.gr.trans (Gr.new hb)).trans a4.gr
    replace hq := (T2.im g4).sqT hq
    replace hv := (T2.im g4).sqT hv
    clear a3 T3 a4 T2 T1 g4
    repeat walk_at "rd1"
    refine ⟨s, .ref c, X, 0 - X, rfl, ⟨c, rfl, hv⟩, ok.plen, fun y H5 s5 hy => ?_⟩
    replace hq := (Im.same s5).sqT hq
    have ok' := ok.mv (dx := X) (dy := 0 - X)
    have sm' := mv_sm (dx := X) (dy := 0 - X) sm (by omega) (by omega)
    have en : (s.mv X (0 - X)).name = s.name := Sh.mv_name
    have et : (s.mv X (0 - X)).txt = s.txt := Sh.mv_txt
    rw [← en, ← et] at hq
    generalize s.mv X (0 - X) = z at *
    clear ok sm en et hv s5
    obtain ⟨d, rfl, hd⟩ := hy
    repeat walk_at "rd1"
    refine ⟨⟨d, rfl, hd⟩, ok', fun u r H6 s6 hb ⟨b, eb, hr⟩ => ?_⟩
    subst eb
    have wb := wide_box hb ok' sm'
    have w1 := wb r.l (by simp); have w2 := wb r.t (by simp); have w3 := wb r.w (by simp); have w4 := wb r.h (by simp)
    have nz : ∀ q ∈ z.pts, Nr q := fun q h => by have := sm' q h; unfold Nr; omega
    replace hq := (Im.same s6).sqT hq
    replace hd := (Im.same s6).sqT hd
    unfold R.vs at hr
    clear s6 T4 hb wb sm'
    repeat walk_at "rd1"
    refine ⟨fun σ H' => ∃ v6 v7 v8, σ = [some (.ref a), some (.ref t), some (.ref q), some (.int X), some (.ref d), some (.ref b), v6, v7, v8] ∧ Same H6 H', ?_, ?_⟩
    · repeat walk_at "rd1"
      refine ⟨⟨by omega, by omega, by omega, by omega⟩, for_range (fun i σ H' => ∃ v6 v7 v8, σ = [some (.ref a), some (.ref t), some (.ref q), some (.int X), some (.ref d), some (.ref b), v6, v7, v8] ∧ Same H6 H') ⟨_, _, _, rfl, Same.refl _⟩ ?_ ?_⟩
      · rintro jj σ H7 hj ⟨v6, v7, v8, rfl, s7⟩
        have hr7 := (Im.same s7).sqT hr
        repeat walk_at "rd1"
        refine ⟨⟨by omega, by omega, by omega, by omega⟩, for_range (fun i σ H' => ∃ v7 v8, σ = [some (.ref a), some (.ref t), some (.ref q), some (.int X), some (.ref d), some (.ref b), some (.int (r.t - 2 + (jj : Int))), v7, v8] ∧ Same H6 H') ⟨_, _, rfl, s7⟩ ?_ ?_⟩
        · rintro ii σ H8 hi ⟨v7, v8, rfl, s8⟩
          have hq8 := (Im.same s8).sqT hq
          have hd8 := (Im.same s8).sqT hd
          have nx : Nr (r.l - 2 + (ii : Int)) := by unfold Nr; omega
          have ny : Nr (r.t - 2 + (jj : Int)) := by unfold Nr; omega
          repeat walk_at "rd1"
          refine ⟨z, .ref d, _, _, rfl, ⟨d, rfl, hd8⟩, ok', nz, nx, ny, fun H9 s9 => ?_⟩
          have hq9 := (Im.same s9).sqT hq8
          have hd9 := (Im.same s9).sqT hd8
          have e9 : ∀ b : Bool, (!decide (V.bl b = V.bl b)) = false := fun b => by rw [decide_eq_true rfl]; rfl
          repeat walk_at "rd1"
          refine ⟨.bl _, .ty "bool", .type "bool", .type "bool", true, rfl, .ty _, .base (.bl _), kit_ty (by decide +kernel), true, rfl, ?_⟩
          refine iteF ?_
          repeat walk_at "rd1"
          refine ⟨z, .ref d, _, _, rfl, ⟨d, rfl, hd9⟩, ok', nz, nx, ny, fun H10 s10 => ?_⟩
          have hq10 := (Im.same s10).sqT hq9
          have hd10 := (Im.same s10).sqT hd9
          repeat walk_at "rd1"
          show if (!decide (V.bl _ = V.bl _)) = true then _ else _
          rw [e9]
          refine iteF ?_
          repeat walk_at "rd1"
          refine if_str (fun e => ?_) (fun e => ?_)
          · have e' := nm1.mp e
            cases z <;> first | (simp [Sh.tag] at e'; done) | skip
            rename_i a1 a2 a3 a4
            have hd11 : SqT K H10 d [.int a1, .int a2, .int a3, .int a4] := hd10
            repeat walk_at "rd1"
            refine ⟨d, _, rfl, hd11, (fun h => absurd h.1 (show ¬ HT.sIx 4 0 (some 2) = 0 by decide)), fun _ p1 hp1 => ?_⟩
            have hd12 := (Im.new (o := .tup (cutV [.int a1, .int a2, .int a3, .int a4] (some 2) none)) hp1).sqT hd11
            repeat walk_at "rd1"
            refine ⟨d, _, rfl, hd12, (fun h => absurd h.2 (show ¬ HT.sIx 4 4 (some 2) = 4 by decide)), fun _ p2 hp2 => ?_⟩
            rw [show cutV [V.int a1, .int a2, .int a3, .int a4] (some 2) none = [.int a3, .int a4] from rfl] at hp2 ⊢
            rw [show cutV [V.int a1, .int a2, .int a3, .int a4] none (some 2) = [.int a1, .int a2] from rfl]
            refine ⟨p1, p2, [.int a3, .int a4], [.int a1, .int a2], rfl, rfl, (Im.new hp2).sqT (SqT.of upd_same), SqT.of upd_same, (show 4 ≤ sizeLine by decide), (fun e => by cases e), (fun _ e => by cases e), fun _ _ p3 hp3 => ?_⟩
            repeat walk_at "rd1"
            refine ⟨.line a3 a4 a1 a2, .ref p3, _, _, line_vs, ⟨p3, rfl, SqT.of upd_same⟩, line_ok, all4 (nz a3 (by simp [Sh.pts])) (nz a4 (by simp [Sh.pts])) (nz a1 (by simp [Sh.pts])) (nz a2 (by simp [Sh.pts])), nx, ny, fun H11 s11 => ?_⟩
            rw [cov_back]
            repeat walk_at "rd1"
            show if (!decide (V.bl _ = V.bl _)) = true then _ else _
            rw [e9]
            exact iteF ⟨_, _, rfl, ((((((s8.trans s9).trans s10).trans (Same.new hp1)).trans (Same.new hp2)).trans (Same.new hp3)).trans s11)⟩
          · refine iteF ?_
            exact ⟨_, _, rfl, (s8.trans s9).trans s10⟩
        · rintro σ H8 ⟨v7, v8, rfl, s8⟩
          exact ⟨_, _, _, rfl, s8⟩
      · rintro σ H8 ⟨v6, v7, v8, rfl, s8⟩
        exact ⟨_, _, _, rfl, s8⟩
    rintro σ H7 ⟨v6, v7, v8, rfl, s7⟩
    replace hq := (Im.same s7).sqT hq
    replace hd := (Im.same s7).sqT hd
    repeat walk_at "rd1"
    refine if_str (fun e => ?_) (fun e => ?_)
    · have e' := nm1.mp e
      cases z <;> first | (simp [Sh.tag] at e'; done) | skip
      rename_i a1 a2 a3 a4
      have n1 := nz a1 (by simp [Sh.pts]); have n2 := nz a2 (by simp [Sh.pts]); have n3 := nz a3 (by simp [Sh.pts]); have n4 := nz a4 (by simp [Sh.pts])
      have hd1 : SqT K H7 d [.int a1, .int a2, .int a3, .int a4] := hd
      repeat walk_at "rd1"
      refine ⟨.line a1 a2 a3 a4, .ref d, a1, a2, line_vs, ⟨d, rfl, hd⟩, ok', nz, n1, n2, fun H8 s8 => ?_⟩
      have hd2 := (Im.same s8).sqT hd1
      have hd := (Im.same s8).sqT hd
      rw [cov_e1]
      repeat walk_at "rd1"
      refine ⟨.line a1 a2 a3 a4, .ref d, a3, a4, line_vs, ⟨d, rfl, hd⟩, ok', nz, n3, n4, fun H9 s9 => ?_⟩
      rw [cov_e2]
      exact k _
    · repeat walk_at "rd1"
      exact k _
end
theorem all_mk {l : PySem.W.OpenLaw} {w : World} {K : PySem.W.Frag} {h : Heap} {mg : Str → Option Value} {fa : Addr} (X : K.In h) (G : h.Ns mainGlobals mg) (hfa : mg "law" = some (.ref fa))
    {f_contains f_glyph_width f_text_width f_inked f_around_points f_around_text f_covers f_line_covers f_polyline_covers f_circle_covers f_law_tape f_law_draw f_law_holds f_law_sign_width f_law_width f_law_inked f_law_around f_law_on_line f_law_covers f_law_word f_law_form f_law_shifted f_law : Addr}
    {od_contains an_contains : Option Addr} {sl_contains : Array (Option Value)} {oc_contains kV_contains dc_contains pm_contains cd_contains ct_contains : Value}
    {od_glyph_width an_glyph_width : Option Addr} {sl_glyph_width : Array (Option Value)} {oc_glyph_width kV_glyph_width dc_glyph_width pm_glyph_width cd_glyph_width ct_glyph_width : Value}
    {od_text_width an_text_width : Option Addr} {sl_text_width : Array (Option Value)} {oc_text_width kV_text_width dc_text_width pm_text_width cd_text_width ct_text_width : Value}
    {od_inked an_inked : Option Addr} {sl_inked : Array (Option Value)} {oc_inked kV_inked dc_inked pm_inked cd_inked ct_inked : Value}
    {od_around_points an_around_points : Option Addr} {sl_around_points : Array (Option Value)} {oc_around_points kV_around_points dc_around_points pm_around_points cd_around_points ct_around_points : Value}
    {od_around_text an_around_text : Option Addr} {sl_around_text : Array (Option Value)} {oc_around_text kV_around_text dc_around_text pm_around_text cd_around_text ct_around_text : Value}
    {od_covers an_covers : Option Addr} {sl_covers : Array (Option Value)} {oc_covers kV_covers dc_covers pm_covers cd_covers ct_covers : Value}
    {od_line_covers an_line_covers : Option Addr} {sl_line_covers : Array (Option Value)} {oc_line_covers kV_line_covers dc_line_covers pm_line_covers cd_line_covers ct_line_covers : Value}
    {od_polyline_covers an_polyline_covers : Option Addr} {sl_polyline_covers : Array (Option Value)} {oc_polyline_covers kV_polyline_covers dc_polyline_covers pm_polyline_covers cd_polyline_covers ct_polyline_covers : Value}
    {od_circle_covers an_circle_covers : Option Addr} {sl_circle_covers : Array (Option Value)} {oc_circle_covers kV_circle_covers dc_circle_covers pm_circle_covers cd_circle_covers ct_circle_covers : Value}
    {od_law_tape an_law_tape : Option Addr} {sl_law_tape : Array (Option Value)} {oc_law_tape kV_law_tape dc_law_tape pm_law_tape cd_law_tape ct_law_tape : Value}
    {od_law_draw an_law_draw : Option Addr} {sl_law_draw : Array (Option Value)} {oc_law_draw kV_law_draw dc_law_draw pm_law_draw cd_law_draw ct_law_draw : Value}
    {od_law_holds an_law_holds : Option Addr} {sl_law_holds : Array (Option Value)} {oc_law_holds kV_law_holds dc_law_holds pm_law_holds cd_law_holds ct_law_holds : Value}
    {od_law_sign_width an_law_sign_width : Option Addr} {sl_law_sign_width : Array (Option Value)} {oc_law_sign_width kV_law_sign_width dc_law_sign_width pm_law_sign_width cd_law_sign_width ct_law_sign_width : Value}
    {od_law_width an_law_width : Option Addr} {sl_law_width : Array (Option Value)} {oc_law_width kV_law_width dc_law_width pm_law_width cd_law_width ct_law_width : Value}
    {od_law_inked an_law_inked : Option Addr} {sl_law_inked : Array (Option Value)} {oc_law_inked kV_law_inked dc_law_inked pm_law_inked cd_law_inked ct_law_inked : Value}
    {od_law_around an_law_around : Option Addr} {sl_law_around : Array (Option Value)} {oc_law_around kV_law_around dc_law_around pm_law_around cd_law_around ct_law_around : Value}
    {od_law_on_line an_law_on_line : Option Addr} {sl_law_on_line : Array (Option Value)} {oc_law_on_line kV_law_on_line dc_law_on_line pm_law_on_line cd_law_on_line ct_law_on_line : Value}
    {od_law_covers an_law_covers : Option Addr} {sl_law_covers : Array (Option Value)} {oc_law_covers kV_law_covers dc_law_covers pm_law_covers cd_law_covers ct_law_covers : Value}
    {od_law_word an_law_word : Option Addr} {sl_law_word : Array (Option Value)} {oc_law_word kV_law_word dc_law_word pm_law_word cd_law_word ct_law_word : Value}
    {od_law_form an_law_form : Option Addr} {sl_law_form : Array (Option Value)} {oc_law_form kV_law_form dc_law_form pm_law_form cd_law_form ct_law_form : Value}
    {od_law_shifted an_law_shifted : Option Addr} {sl_law_shifted : Array (Option Value)} {oc_law_shifted kV_law_shifted dc_law_shifted pm_law_shifted cd_law_shifted ct_law_shifted : Value}
    {od_law an_law : Option Addr} {sl_law : Array (Option Value)} {oc_law kV_law dc_law pm_law cd_law ct_law : Value}
    (a_contains : PySem.W.nsIn K mainGlobals "contains" = some (some (.ref f_contains))) (l_contains : K.lookup f_contains = some ⟨oc_contains, od_contains, .func (PySem.W.fnOf "contains" "contains" (defArgs s_contains) (defBody s_contains) (defScope s_contains) .none kV_contains dc_contains pm_contains an_contains cd_contains ct_contains), sl_contains⟩) (c_contains : PySem.W.codeIn K cd_contains "contains" = true) (k_contains : PySem.W.keepIn K (.ref f_contains) = true)
    (a_glyph_width : PySem.W.nsIn K mainGlobals "glyph_width" = some (some (.ref f_glyph_width))) (l_glyph_width : K.lookup f_glyph_width = some ⟨oc_glyph_width, od_glyph_width, .func (PySem.W.fnOf "glyph_width" "glyph_width" (defArgs s_glyph_width) (defBody s_glyph_width) (defScope s_glyph_width) .none kV_glyph_width dc_glyph_width pm_glyph_width an_glyph_width cd_glyph_width ct_glyph_width), sl_glyph_width⟩) (c_glyph_width : PySem.W.codeIn K cd_glyph_width "glyph_width" = true) (k_glyph_width : PySem.W.keepIn K (.ref f_glyph_width) = true)
    (a_text_width : PySem.W.nsIn K mainGlobals "text_width" = some (some (.ref f_text_width))) (l_text_width : K.lookup f_text_width = some ⟨oc_text_width, od_text_width, .func (PySem.W.fnOf "text_width" "text_width" (defArgs s_text_width) (defBody s_text_width) (defScope s_text_width) .none kV_text_width dc_text_width pm_text_width an_text_width cd_text_width ct_text_width), sl_text_width⟩) (c_text_width : PySem.W.codeIn K cd_text_width "text_width" = true) (k_text_width : PySem.W.keepIn K (.ref f_text_width) = true)
    (a_inked : PySem.W.nsIn K mainGlobals "inked" = some (some (.ref f_inked))) (l_inked : K.lookup f_inked = some ⟨oc_inked, od_inked, .func (PySem.W.fnOf "inked" "inked" (defArgs s_inked) (defBody s_inked) (defScope s_inked) .none kV_inked dc_inked pm_inked an_inked cd_inked ct_inked), sl_inked⟩) (c_inked : PySem.W.codeIn K cd_inked "inked" = true) (k_inked : PySem.W.keepIn K (.ref f_inked) = true)
    (a_around_points : PySem.W.nsIn K mainGlobals "around_points" = some (some (.ref f_around_points))) (l_around_points : K.lookup f_around_points = some ⟨oc_around_points, od_around_points, .func (PySem.W.fnOf "around_points" "around_points" (defArgs s_around_points) (defBody s_around_points) (defScope s_around_points) .none kV_around_points dc_around_points pm_around_points an_around_points cd_around_points ct_around_points), sl_around_points⟩) (c_around_points : PySem.W.codeIn K cd_around_points "around_points" = true) (k_around_points : PySem.W.keepIn K (.ref f_around_points) = true)
    (a_around_text : PySem.W.nsIn K mainGlobals "around_text" = some (some (.ref f_around_text))) (l_around_text : K.lookup f_around_text = some ⟨oc_around_text, od_around_text, .func (PySem.W.fnOf "around_text" "around_text" (defArgs s_around_text) (defBody s_around_text) (defScope s_around_text) .none kV_around_text dc_around_text pm_around_text an_around_text cd_around_text ct_around_text), sl_around_text⟩) (c_around_text : PySem.W.codeIn K cd_around_text "around_text" = true) (k_around_text : PySem.W.keepIn K (.ref f_around_text) = true)
    (a_covers : PySem.W.nsIn K mainGlobals "covers" = some (some (.ref f_covers))) (l_covers : K.lookup f_covers = some ⟨oc_covers, od_covers, .func (PySem.W.fnOf "covers" "covers" (defArgs s_covers) (defBody s_covers) (defScope s_covers) .none kV_covers dc_covers pm_covers an_covers cd_covers ct_covers), sl_covers⟩) (c_covers : PySem.W.codeIn K cd_covers "covers" = true) (k_covers : PySem.W.keepIn K (.ref f_covers) = true)
    (a_line_covers : PySem.W.nsIn K mainGlobals "line_covers" = some (some (.ref f_line_covers))) (l_line_covers : K.lookup f_line_covers = some ⟨oc_line_covers, od_line_covers, .func (PySem.W.fnOf "line_covers" "line_covers" (defArgs s_line_covers) (defBody s_line_covers) (defScope s_line_covers) .none kV_line_covers dc_line_covers pm_line_covers an_line_covers cd_line_covers ct_line_covers), sl_line_covers⟩) (c_line_covers : PySem.W.codeIn K cd_line_covers "line_covers" = true) (k_line_covers : PySem.W.keepIn K (.ref f_line_covers) = true)
    (a_polyline_covers : PySem.W.nsIn K mainGlobals "polyline_covers" = some (some (.ref f_polyline_covers))) (l_polyline_covers : K.lookup f_polyline_covers = some ⟨oc_polyline_covers, od_polyline_covers, .func (PySem.W.fnOf "polyline_covers" "polyline_covers" (defArgs s_polyline_covers) (defBody s_polyline_covers) (defScope s_polyline_covers) .none kV_polyline_covers dc_polyline_covers pm_polyline_covers an_polyline_covers cd_polyline_covers ct_polyline_covers), sl_polyline_covers⟩) (c_polyline_covers : PySem.W.codeIn K cd_polyline_covers "polyline_covers" = true) (k_polyline_covers : PySem.W.keepIn K (.ref f_polyline_covers) = true)
    (a_circle_covers : PySem.W.nsIn K mainGlobals "circle_covers" = some (some (.ref f_circle_covers))) (l_circle_covers : K.lookup f_circle_covers = some ⟨oc_circle_covers, od_circle_covers, .func (PySem.W.fnOf "circle_covers" "circle_covers" (defArgs s_circle_covers) (defBody s_circle_covers) (defScope s_circle_covers) .none kV_circle_covers dc_circle_covers pm_circle_covers an_circle_covers cd_circle_covers ct_circle_covers), sl_circle_covers⟩) (c_circle_covers : PySem.W.codeIn K cd_circle_covers "circle_covers" = true) (k_circle_covers : PySem.W.keepIn K (.ref f_circle_covers) = true)
    (a_law_tape : PySem.W.nsIn K mainGlobals "_law_tape" = some (some (.ref f_law_tape))) (l_law_tape : K.lookup f_law_tape = some ⟨oc_law_tape, od_law_tape, .func (PySem.W.fnOf "_law_tape" "_law_tape" (defArgs s_law_tape) (defBody s_law_tape) (defScope s_law_tape) .none kV_law_tape dc_law_tape pm_law_tape an_law_tape cd_law_tape ct_law_tape), sl_law_tape⟩) (c_law_tape : PySem.W.codeIn K cd_law_tape "_law_tape" = true) (k_law_tape : PySem.W.keepIn K (.ref f_law_tape) = true)
    (a_law_draw : PySem.W.nsIn K mainGlobals "_law_draw" = some (some (.ref f_law_draw))) (l_law_draw : K.lookup f_law_draw = some ⟨oc_law_draw, od_law_draw, .func (PySem.W.fnOf "_law_draw" "_law_draw" (defArgs s_law_draw) (defBody s_law_draw) (defScope s_law_draw) .none kV_law_draw dc_law_draw pm_law_draw an_law_draw cd_law_draw ct_law_draw), sl_law_draw⟩) (c_law_draw : PySem.W.codeIn K cd_law_draw "_law_draw" = true) (k_law_draw : PySem.W.keepIn K (.ref f_law_draw) = true)
    (a_law_holds : PySem.W.nsIn K mainGlobals "_law_holds" = some (some (.ref f_law_holds))) (l_law_holds : K.lookup f_law_holds = some ⟨oc_law_holds, od_law_holds, .func (PySem.W.fnOf "_law_holds" "_law_holds" (defArgs s_law_holds) (defBody s_law_holds) (defScope s_law_holds) .none kV_law_holds dc_law_holds pm_law_holds an_law_holds cd_law_holds ct_law_holds), sl_law_holds⟩) (c_law_holds : PySem.W.codeIn K cd_law_holds "_law_holds" = true) (k_law_holds : PySem.W.keepIn K (.ref f_law_holds) = true)
    (a_law_sign_width : PySem.W.nsIn K mainGlobals "_law_sign_width" = some (some (.ref f_law_sign_width))) (l_law_sign_width : K.lookup f_law_sign_width = some ⟨oc_law_sign_width, od_law_sign_width, .func (PySem.W.fnOf "_law_sign_width" "_law_sign_width" (defArgs s_law_sign_width) (defBody s_law_sign_width) (defScope s_law_sign_width) .none kV_law_sign_width dc_law_sign_width pm_law_sign_width an_law_sign_width cd_law_sign_width ct_law_sign_width), sl_law_sign_width⟩) (c_law_sign_width : PySem.W.codeIn K cd_law_sign_width "_law_sign_width" = true) (k_law_sign_width : PySem.W.keepIn K (.ref f_law_sign_width) = true)
    (a_law_width : PySem.W.nsIn K mainGlobals "_law_width" = some (some (.ref f_law_width))) (l_law_width : K.lookup f_law_width = some ⟨oc_law_width, od_law_width, .func (PySem.W.fnOf "_law_width" "_law_width" (defArgs s_law_width) (defBody s_law_width) (defScope s_law_width) .none kV_law_width dc_law_width pm_law_width an_law_width cd_law_width ct_law_width), sl_law_width⟩) (c_law_width : PySem.W.codeIn K cd_law_width "_law_width" = true) (k_law_width : PySem.W.keepIn K (.ref f_law_width) = true)
    (a_law_inked : PySem.W.nsIn K mainGlobals "_law_inked" = some (some (.ref f_law_inked))) (l_law_inked : K.lookup f_law_inked = some ⟨oc_law_inked, od_law_inked, .func (PySem.W.fnOf "_law_inked" "_law_inked" (defArgs s_law_inked) (defBody s_law_inked) (defScope s_law_inked) .none kV_law_inked dc_law_inked pm_law_inked an_law_inked cd_law_inked ct_law_inked), sl_law_inked⟩) (c_law_inked : PySem.W.codeIn K cd_law_inked "_law_inked" = true) (k_law_inked : PySem.W.keepIn K (.ref f_law_inked) = true)
    (a_law_around : PySem.W.nsIn K mainGlobals "_law_around" = some (some (.ref f_law_around))) (l_law_around : K.lookup f_law_around = some ⟨oc_law_around, od_law_around, .func (PySem.W.fnOf "_law_around" "_law_around" (defArgs s_law_around) (defBody s_law_around) (defScope s_law_around) .none kV_law_around dc_law_around pm_law_around an_law_around cd_law_around ct_law_around), sl_law_around⟩) (c_law_around : PySem.W.codeIn K cd_law_around "_law_around" = true) (k_law_around : PySem.W.keepIn K (.ref f_law_around) = true)
    (a_law_on_line : PySem.W.nsIn K mainGlobals "_law_on_line" = some (some (.ref f_law_on_line))) (l_law_on_line : K.lookup f_law_on_line = some ⟨oc_law_on_line, od_law_on_line, .func (PySem.W.fnOf "_law_on_line" "_law_on_line" (defArgs s_law_on_line) (defBody s_law_on_line) (defScope s_law_on_line) .none kV_law_on_line dc_law_on_line pm_law_on_line an_law_on_line cd_law_on_line ct_law_on_line), sl_law_on_line⟩) (c_law_on_line : PySem.W.codeIn K cd_law_on_line "_law_on_line" = true) (k_law_on_line : PySem.W.keepIn K (.ref f_law_on_line) = true)
    (a_law_covers : PySem.W.nsIn K mainGlobals "_law_covers" = some (some (.ref f_law_covers))) (l_law_covers : K.lookup f_law_covers = some ⟨oc_law_covers, od_law_covers, .func (PySem.W.fnOf "_law_covers" "_law_covers" (defArgs s_law_covers) (defBody s_law_covers) (defScope s_law_covers) .none kV_law_covers dc_law_covers pm_law_covers an_law_covers cd_law_covers ct_law_covers), sl_law_covers⟩) (c_law_covers : PySem.W.codeIn K cd_law_covers "_law_covers" = true) (k_law_covers : PySem.W.keepIn K (.ref f_law_covers) = true)
    (a_law_word : PySem.W.nsIn K mainGlobals "_law_word" = some (some (.ref f_law_word))) (l_law_word : K.lookup f_law_word = some ⟨oc_law_word, od_law_word, .func (PySem.W.fnOf "_law_word" "_law_word" (defArgs s_law_word) (defBody s_law_word) (defScope s_law_word) .none kV_law_word dc_law_word pm_law_word an_law_word cd_law_word ct_law_word), sl_law_word⟩) (c_law_word : PySem.W.codeIn K cd_law_word "_law_word" = true) (k_law_word : PySem.W.keepIn K (.ref f_law_word) = true)
    (a_law_form : PySem.W.nsIn K mainGlobals "_law_form" = some (some (.ref f_law_form))) (l_law_form : K.lookup f_law_form = some ⟨oc_law_form, od_law_form, .func (PySem.W.fnOf "_law_form" "_law_form" (defArgs s_law_form) (defBody s_law_form) (defScope s_law_form) .none kV_law_form dc_law_form pm_law_form an_law_form cd_law_form ct_law_form), sl_law_form⟩) (c_law_form : PySem.W.codeIn K cd_law_form "_law_form" = true) (k_law_form : PySem.W.keepIn K (.ref f_law_form) = true)
    (a_law_shifted : PySem.W.nsIn K mainGlobals "_law_shifted" = some (some (.ref f_law_shifted))) (l_law_shifted : K.lookup f_law_shifted = some ⟨oc_law_shifted, od_law_shifted, .func (PySem.W.fnOf "_law_shifted" "_law_shifted" (defArgs s_law_shifted) (defBody s_law_shifted) (defScope s_law_shifted) .none kV_law_shifted dc_law_shifted pm_law_shifted an_law_shifted cd_law_shifted ct_law_shifted), sl_law_shifted⟩) (c_law_shifted : PySem.W.codeIn K cd_law_shifted "_law_shifted" = true) (k_law_shifted : PySem.W.keepIn K (.ref f_law_shifted) = true)
    (a_law : PySem.W.nsIn K mainGlobals "law" = some (some (.ref f_law))) (l_law : K.lookup f_law = some ⟨oc_law, od_law, .func (PySem.W.fnOf "law" "law" (defArgs s_law) (defBody s_law) (defScope s_law) .none kV_law dc_law pm_law an_law cd_law ct_law), sl_law⟩) (c_law : PySem.W.codeIn K cd_law "law" = true) (k_law : PySem.W.keepIn K (.ref f_law) = true)
    {dT : Addr} {esT : Array DictEntry} {nT : Nat} {tk5 tk7 : Tok} (a_other : PySem.W.nsIn K mainGlobals "OTHER_WIDTH" = some (some (.int 5 tk5))) (a_height : PySem.W.nsIn K mainGlobals "TEXT_HEIGHT" = some (some (.int 7 tk7))) (a_tab : PySem.W.nsIn K mainGlobals "GLYPH_WIDTHS" = some (some (.ref dT))) (l_tab : K.lookup dT = some ⟨.type "dict", none, .dict esT nT, #[]⟩) (k_tab : PySem.W.KeysLit w.params esT.toList) (low_tab : (dT == sysModules) = false) (b_tab : tabB esT = true)
    (z_abs : PySem.W.nsIn K mainGlobals "abs" = some none) (z_bool : PySem.W.nsIn K mainGlobals "bool" = some none) (z_int : PySem.W.nsIn K mainGlobals "int" = some none) (z_isinstance : PySem.W.nsIn K mainGlobals "isinstance" = some none) (z_len : PySem.W.nsIn K mainGlobals "len" = some none) (z_list : PySem.W.nsIn K mainGlobals "list" = some none) (z_max : PySem.W.nsIn K mainGlobals "max" = some none) (z_min : PySem.W.nsIn K mainGlobals "min" = some none) (z_range : PySem.W.nsIn K mainGlobals "range" = some none) (z_sum : PySem.W.nsIn K mainGlobals "sum" = some none) :
    ∃ fd : FuncData, (∀ (s : Shared) (v : Value), BindsTo s fd ⟨[v], []⟩ [("script", v)]) ∧ ∀ base : Heap, K.In base → base.Ns mainGlobals mg → FnG l.prog w K mg base 5 fa fd ["script"] (spLaw K) := by
  have e := hfa.symm.trans (PySem.W.mg_of X G a_law)
  cases e
  have MB : Blt mg := ⟨PySem.W.mg_none_of X G z_abs, PySem.W.mg_none_of X G z_bool, PySem.W.mg_none_of X G z_int, PySem.W.mg_none_of X G z_isinstance, PySem.W.mg_none_of X G z_len, PySem.W.mg_none_of X G z_list, PySem.W.mg_none_of X G z_max, PySem.W.mg_none_of X G z_min, PySem.W.mg_none_of X G z_range, PySem.W.mg_none_of X G z_sum⟩
  have A_contains : At K mg "contains" s_contains := ⟨_, _, PySem.W.mg_of X G a_contains, fun_mk (st := s_contains) l_contains c_contains k_contains⟩
  have A_glyph_width : At K mg "glyph_width" s_glyph_width := ⟨_, _, PySem.W.mg_of X G a_glyph_width, fun_mk (st := s_glyph_width) l_glyph_width c_glyph_width k_glyph_width⟩
  have A_text_width : At K mg "text_width" s_text_width := ⟨_, _, PySem.W.mg_of X G a_text_width, fun_mk (st := s_text_width) l_text_width c_text_width k_text_width⟩
  have A_inked : At K mg "inked" s_inked := ⟨_, _, PySem.W.mg_of X G a_inked, fun_mk (st := s_inked) l_inked c_inked k_inked⟩
  have A_around_points : At K mg "around_points" s_around_points := ⟨_, _, PySem.W.mg_of X G a_around_points, fun_mk (st := s_around_points) l_around_points c_around_points k_around_points⟩
  have A_around_text : At K mg "around_text" s_around_text := ⟨_, _, PySem.W.mg_of X G a_around_text, fun_mk (st := s_around_text) l_around_text c_around_text k_around_text⟩
  have A_covers : At K mg "covers" s_covers := ⟨_, _, PySem.W.mg_of X G a_covers, fun_mk (st := s_covers) l_covers c_covers k_covers⟩
  have A_line_covers : At K mg "line_covers" s_line_covers := ⟨_, _, PySem.W.mg_of X G a_line_covers, fun_mk (st := s_line_covers) l_line_covers c_line_covers k_line_covers⟩
  have A_polyline_covers : At K mg "polyline_covers" s_polyline_covers := ⟨_, _, PySem.W.mg_of X G a_polyline_covers, fun_mk (st := s_polyline_covers) l_polyline_covers c_polyline_covers k_polyline_covers⟩
  have A_circle_covers : At K mg "circle_covers" s_circle_covers := ⟨_, _, PySem.W.mg_of X G a_circle_covers, fun_mk (st := s_circle_covers) l_circle_covers c_circle_covers k_circle_covers⟩
  have A_law_tape : At K mg "_law_tape" s_law_tape := ⟨_, _, PySem.W.mg_of X G a_law_tape, fun_mk (st := s_law_tape) l_law_tape c_law_tape k_law_tape⟩
  have A_law_draw : At K mg "_law_draw" s_law_draw := ⟨_, _, PySem.W.mg_of X G a_law_draw, fun_mk (st := s_law_draw) l_law_draw c_law_draw k_law_draw⟩
  have A_law_holds : At K mg "_law_holds" s_law_holds := ⟨_, _, PySem.W.mg_of X G a_law_holds, fun_mk (st := s_law_holds) l_law_holds c_law_holds k_law_holds⟩
  have A_law_sign_width : At K mg "_law_sign_width" s_law_sign_width := ⟨_, _, PySem.W.mg_of X G a_law_sign_width, fun_mk (st := s_law_sign_width) l_law_sign_width c_law_sign_width k_law_sign_width⟩
  have A_law_width : At K mg "_law_width" s_law_width := ⟨_, _, PySem.W.mg_of X G a_law_width, fun_mk (st := s_law_width) l_law_width c_law_width k_law_width⟩
  have A_law_inked : At K mg "_law_inked" s_law_inked := ⟨_, _, PySem.W.mg_of X G a_law_inked, fun_mk (st := s_law_inked) l_law_inked c_law_inked k_law_inked⟩
  have A_law_around : At K mg "_law_around" s_law_around := ⟨_, _, PySem.W.mg_of X G a_law_around, fun_mk (st := s_law_around) l_law_around c_law_around k_law_around⟩
  have A_law_on_line : At K mg "_law_on_line" s_law_on_line := ⟨_, _, PySem.W.mg_of X G a_law_on_line, fun_mk (st := s_law_on_line) l_law_on_line c_law_on_line k_law_on_line⟩
  have A_law_covers : At K mg "_law_covers" s_law_covers := ⟨_, _, PySem.W.mg_of X G a_law_covers, fun_mk (st := s_law_covers) l_law_covers c_law_covers k_law_covers⟩
  have A_law_word : At K mg "_law_word" s_law_word := ⟨_, _, PySem.W.mg_of X G a_law_word, fun_mk (st := s_law_word) l_law_word c_law_word k_law_word⟩
  have A_law_form : At K mg "_law_form" s_law_form := ⟨_, _, PySem.W.mg_of X G a_law_form, fun_mk (st := s_law_form) l_law_form c_law_form k_law_form⟩
  have A_law_shifted : At K mg "_law_shifted" s_law_shifted := ⟨_, _, PySem.W.mg_of X G a_law_shifted, fun_mk (st := s_law_shifted) l_law_shifted c_law_shifted k_law_shifted⟩
  have A_law : At K mg "law" s_law := ⟨_, _, PySem.W.mg_of X G a_law, fun_mk (st := s_law) l_law c_law k_law⟩
  have GG : Glyphs K w mg := ⟨⟨dT, esT, nT, PySem.W.mg_of X G a_tab, ⟨l_tab, k_tab, low_tab⟩, tab_of b_tab⟩, ⟨_, PySem.W.mg_of X G a_other⟩, ⟨_, PySem.W.mg_of X G a_height⟩⟩
  refine ⟨PySem.W.fnOf "law" "law" (defArgs s_law) (defBody s_law) (defScope s_law) .none kV_law dc_law pm_law an_law cd_law ct_law, fun s v => .of_eq rfl, fun base _ _ => ?_⟩
  have D_contains := df_contains (P := l.prog) (w := w) (base := base) MB A_contains
  have D_glyph_width := df_glyph_width (P := l.prog) (w := w) (base := base) MB A_glyph_width GG
  have D_text_width := df_text_width (P := l.prog) (w := w) (base := base) MB A_text_width D_glyph_width
  have D_inked := df_inked (P := l.prog) (w := w) (base := base) MB A_inked GG D_glyph_width
  have D_around_points := df_around_points (P := l.prog) (w := w) (base := base) MB A_around_points
  have D_around_text := df_around_text (P := l.prog) (w := w) (base := base) MB A_around_text GG D_text_width
  have D_line_covers := df_line_covers (P := l.prog) (w := w) (base := base) MB A_line_covers D_contains D_around_points
  have D_polyline_covers := df_polyline_covers (P := l.prog) (w := w) (base := base) MB A_polyline_covers D_line_covers
  have D_circle_covers := df_circle_covers (P := l.prog) (w := w) (base := base) MB A_circle_covers
  have D_covers := df_covers (P := l.prog) (w := w) (base := base) MB A_covers GG D_around_text D_inked D_contains D_line_covers D_polyline_covers D_circle_covers
  have D_law_tape := df_law_tape (P := l.prog) (w := w) (base := base) MB A_law_tape
  have D_law_draw := df_law_draw (P := l.prog) (w := w) (base := base) MB A_law_draw
  have D_law_holds := df_law_holds (P := l.prog) (w := w) (base := base) MB A_law_holds
  have D_law_sign_width := df_law_sign_width (P := l.prog) (w := w) (base := base) MB A_law_sign_width
  have D_law_width := df_law_width (P := l.prog) (w := w) (base := base) MB A_law_width D_law_sign_width
  have D_law_inked := df_law_inked (P := l.prog) (w := w) (base := base) MB A_law_inked D_law_sign_width
  have D_law_around := df_law_around (P := l.prog) (w := w) (base := base) MB A_law_around D_law_width
  have D_law_on_line := df_law_on_line (P := l.prog) (w := w) (base := base) MB A_law_on_line
  have D_law_covers := df_law_covers (P := l.prog) (w := w) (base := base) MB A_law_covers D_law_around D_law_inked D_law_holds D_law_on_line
  have D_law_word := df_law_word (P := l.prog) (w := w) (base := base) MB A_law_word D_law_draw
  have D_law_form := df_law_form (P := l.prog) (w := w) (base := base) MB A_law_form D_law_draw D_law_word
  have D_law_shifted := df_law_shifted (P := l.prog) (w := w) (base := base) MB A_law_shifted
  exact fn_law MB (fun_mk (st := s_law) l_law c_law k_law) D_law_tape D_law_form D_law_shifted D_law_around D_law_draw D_covers D_law_covers

end Cs
open PySem PySem.W PyProof.Rows
set_option maxRecDepth 100000 in
set_option maxHeartbeats 0 in
theorem PySem.Challenge.cw_chartspec_k42_pixels_that_shapes_cover_holds : PySem.Challenge.rw_chartspec_k42_pixels_that_shapes_cover.Holds := by
  w_on; o_law; k_head; (case hw => w_witness2)
  k_fill
  refine Cs.walkG (k := 5) (x := "script") (sp := Cs.spLaw) (l := PySem.Challenge.rw_chartspec_k42_pixels_that_shapes_cover) rfl (by decide) rfl ⟨rfl, by decide, by decide⟩ (fun w h Y => PySem.W.kIn_of Y) ?F Cs.law_start
  case F =>
    intro w mg fa h KX G hmg
    refine' Cs.all_mk KX G hmg ?a_contains ?l_contains ?c_contains ?k_contains ?a_glyph_width ?l_glyph_width ?c_glyph_width ?k_glyph_width ?a_text_width ?l_text_width ?c_text_width ?k_text_width ?a_inked ?l_inked ?c_inked ?k_inked ?a_around_points ?l_around_points ?c_around_points ?k_around_points ?a_around_text ?l_around_text ?c_around_text ?k_around_text ?a_covers ?l_covers ?c_covers ?k_covers ?a_line_covers ?l_line_covers ?c_line_covers ?k_line_covers ?a_polyline_covers ?l_polyline_covers ?c_polyline_covers ?k_polyline_covers ?a_circle_covers ?l_circle_covers ?c_circle_covers ?k_circle_covers ?a_law_tape ?l_law_tape ?c_law_tape ?k_law_tape ?a_law_draw ?l_law_draw ?c_law_draw ?k_law_draw ?a_law_holds ?l_law_holds ?c_law_holds ?k_law_holds ?a_law_sign_width ?l_law_sign_width ?c_law_sign_width ?k_law_sign_width ?a_law_width ?l_law_width ?c_law_width ?k_law_width ?a_law_inked ?l_law_inked ?c_law_inked ?k_law_inked ?a_law_around ?l_law_around ?c_law_around ?k_law_around ?a_law_on_line ?l_law_on_line ?c_law_on_line ?k_law_on_line ?a_law_covers ?l_law_covers ?c_law_covers ?k_law_covers ?a_law_word ?l_law_word ?c_law_word ?k_law_word ?a_law_form ?l_law_form ?c_law_form ?k_law_form ?a_law_shifted ?l_law_shifted ?c_law_shifted ?k_law_shifted ?a_law ?l_law ?c_law ?k_law ?a_other ?a_height ?a_tab ?l_tab ?k_tab ?low_tab ?b_tab ?z_abs ?z_bool ?z_int ?z_isinstance ?z_len ?z_list ?z_max ?z_min ?z_range ?z_sum
    (case a_contains => k_is)
    (case l_contains => k_is)
    (case c_contains => k_is)
    (case k_contains => k_is)
    (case a_glyph_width => k_is)
    (case l_glyph_width => k_is)
    (case c_glyph_width => k_is)
    (case k_glyph_width => k_is)
    (case a_text_width => k_is)
    (case l_text_width => k_is)
    (case c_text_width => k_is)
    (case k_text_width => k_is)
    (case a_inked => k_is)
    (case l_inked => k_is)
    (case c_inked => k_is)
    (case k_inked => k_is)
    (case a_around_points => k_is)
    (case l_around_points => k_is)
    (case c_around_points => k_is)
    (case k_around_points => k_is)
    (case a_around_text => k_is)
    (case l_around_text => k_is)
    (case c_around_text => k_is)
    (case k_around_text => k_is)
    (case a_covers => k_is)
    (case l_covers => k_is)
    (case c_covers => k_is)
    (case k_covers => k_is)
    (case a_line_covers => k_is)
    (case l_line_covers => k_is)
    (case c_line_covers => k_is)
    (case k_line_covers => k_is)
    (case a_polyline_covers => k_is)
    (case l_polyline_covers => k_is)
    (case c_polyline_covers => k_is)
    (case k_polyline_covers => k_is)
    (case a_circle_covers => k_is)
    (case l_circle_covers => k_is)
    (case c_circle_covers => k_is)
    (case k_circle_covers => k_is)
    (case a_law_tape => k_is)
    (case l_law_tape => k_is)
    (case c_law_tape => k_is)
    (case k_law_tape => k_is)
    (case a_law_draw => k_is)
    (case l_law_draw => k_is)
    (case c_law_draw => k_is)
    (case k_law_draw => k_is)
    (case a_law_holds => k_is)
    (case l_law_holds => k_is)
    (case c_law_holds => k_is)
    (case k_law_holds => k_is)
    (case a_law_sign_width => k_is)
    (case l_law_sign_width => k_is)
    (case c_law_sign_width => k_is)
    (case k_law_sign_width => k_is)
    (case a_law_width => k_is)
    (case l_law_width => k_is)
    (case c_law_width => k_is)
    (case k_law_width => k_is)
    (case a_law_inked => k_is)
    (case l_law_inked => k_is)
    (case c_law_inked => k_is)
    (case k_law_inked => k_is)
    (case a_law_around => k_is)
    (case l_law_around => k_is)
    (case c_law_around => k_is)
    (case k_law_around => k_is)
    (case a_law_on_line => k_is)
    (case l_law_on_line => k_is)
    (case c_law_on_line => k_is)
    (case k_law_on_line => k_is)
    (case a_law_covers => k_is)
    (case l_law_covers => k_is)
    (case c_law_covers => k_is)
    (case k_law_covers => k_is)
    (case a_law_word => k_is)
    (case l_law_word => k_is)
    (case c_law_word => k_is)
    (case k_law_word => k_is)
    (case a_law_form => k_is)
    (case l_law_form => k_is)
    (case c_law_form => k_is)
    (case k_law_form => k_is)
    (case a_law_shifted => k_is)
    (case l_law_shifted => k_is)
    (case c_law_shifted => k_is)
    (case k_law_shifted => k_is)
    (case a_law => k_is)
    (case l_law => k_is)
    (case c_law => k_is)
    (case k_law => k_is)
    (case z_abs => k_is)
    (case z_bool => k_is)
    (case z_int => k_is)
    (case z_isinstance => k_is)
    (case z_len => k_is)
    (case z_list => k_is)
    (case z_max => k_is)
    (case z_min => k_is)
    (case z_range => k_is)
    (case z_sum => k_is)
    (case a_other => k_is)
    (case a_height => k_is)
    (case a_tab => k_is)
    (case l_tab => k_is)
    (case k_tab => k_keys)
    (case low_tab => rfl)
    (case b_tab => kernel_rfl)
#print axioms PySem.Challenge.cw_chartspec_k42_pixels_that_shapes_cover_holds

