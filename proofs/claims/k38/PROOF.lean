import PyProof.Rows.All
import Wide.All
import OpenK.AllK
import Wide.FinOn
import HandS.Base
import HandS.Call
import HandS.List
import HandS.Comp
import HandS.Ends
import HandS.Iter
import HandS.Text
import HandS.Words
import HandS.WordsList
import HandS.TupAny
import HandS.TupLe
import HandS.Rev
import HandS.Style
import HandS.Flow
import HandS.IsInst
import HandS.Codes
import HandS.FStrTup
import PySem.Challenge.RW_chartspec_k38_hull_is_the_least
set_option Elab.async false
set_option linter.all false
set_option maxRecDepth 100000
set_option maxHeartbeats 4000000
/-! The layer's promises with one thing more: no repr is under way (A.guards = some []). -/
namespace Cs
open PySem PySem.Spec PyProof.Rows L2

/-- a def's promise, given where no repr is under way -/
structure FnG (P : Program) (w : World) (K : PySem.W.Frag) (mg : Str → Option Value) (base : Heap) (k : Nat) (f : Addr) (fd : FuncData) (ps : List Str) (sp : Sp) : Prop where
  len : ∀ vs H Q E, sp vs H Q E → vs.length = ps.length
  go : ∀ (A : Around) (out : List Env) (s : Shared) (H : Hp) (args : Args) (us : List Value) (vs : List V) (Q : VK) (E : XK),
    Room k A → A.guards = some [] → Env0 P w K mg base A out s H → BindsTo s fd args (ps.zip us) → Vals vs us → sp vs H Q E →
    codeAny (model P w) A (.call (.ref f) args) (CR CX0 out P w H s Q E) s

section
variable {P : Program} {w : World} {K : PySem.W.Frag} {mg : Str → Option Value} {base : Heap}

/-- the contexts of bodies: as cxOf, nothing leaves the def -/
abbrev cxG (P : Program) (w : World) (K : PySem.W.Frag) (mg : Str → Option Value) (base : Heap) (N : List Str) (qual : Str) (sc : Scope) (f : Addr) (cd : Value) (A : Around) (out : List Env) (s : Shared) (H : Hp) (E : XK) : Cx :=
  (cxOf CX0 P w K mg base N qual sc f cd A out s H E).nox

/-- a def by its body -/
theorem FnG.of {x qual : Str} {st : Stmt} {f : Addr} {fd : FuncData} {N ps : List Str} {k : Nat} {sp : Sp} (F : Fun K x qual st f fd) (S : FnScope N ps (defScope st)) (len : ∀ vs H Q E, sp vs H Q E → vs.length = ps.length)
    (body : ∀ (cdv : Value) (A : Around) (out : List Env) (s : Shared) (H : Hp) (vs : List V) (Q : VK) (E : XK), Room k (A.deeper (envOfC qual (defScope st) s.heap.objs.size f cdv)) → A.guards = some [] → sp vs H Q E →
      ∃ t, PSs (cxG P w K mg base N qual (defScope st) f cdv A out s H E) (defBody st) t ∧ t { nx := fun _ H' => Q .non H', rt := Q } (start N vs) H) :
    FnG P w K mg base (k + 1) f fd ps sp := by
  obtain ⟨oc, od, kV, doc, pm, an, cdv, ct, osl, rfl, lk, hcd⟩ := F.ex
  refine ⟨len, fun A out s H args us vs Q E hr hg e0 hb r hsp => ?_⟩
  have hl := len _ _ _ _ hsp
  have inK : K.In s.heap := e0.mod.kin.keeps fun b o e => (e0.bs b o e).1
  have noL : s.heap.NoLimit := e0.mod.nolimit.keeps fun b o e => (e0.bs b o e).1
  refine codeAny_call_function hr.depth (inK _ _ lk) rfl S.co S.gen rfl (PySem.W.codeRec_of inK hcd) (hb _ _ _ _ ?_)
  refine wpAny_newFunctionEnv_cells S.kind (fun y hy => ?_) fun env he s1 x => ?_
  · rcases S.par y.1 (List.of_mem_zip (show (y.1, y.2) ∈ ps.zip us from hy)).1 with q | q
    · exact Or.inl q
    · exact Or.inr ⟨q, PySem.W.cellsFrom_some _ _ _ (Or.inl q)⟩
  · subst he
    refine ⟨noL.keeps x.toInCall.keep, codeAny_func ?_⟩
    obtain ⟨t, ht, hq⟩ := body cdv A out s H vs Q E (hr.deeper _) hg hsp
    have I : Inv (cxOf CX0 P w K mg base N qual (defScope st) f cdv A out s H E) [] (start N vs) H s1 := inv_start S hr.hd e0 hl r x
    refine wpAny_mono (ht.nox.run [] s1 (start N vs) H _ I hq) (fun fl s' hs => ?_) fun e s' hs => hs
    have fin : ∀ {σ' : L2.St} {H' : Hp} {v : V} {u : Value}, Inv (cxOf CX0 P w K mg base N qual (defScope st) f cdv A out s H E) [] σ' H' s' → RelV v u → Q v H' → CE out P w H s Q u s' :=
      fun {σ' H' v u} J rv q => ⟨v, H', J.os, J.bare, J.base, J.hok, rv, q⟩
    cases fl with
    | next =>
      obtain ⟨σ', H', J, q⟩ := hs
      exact fin (v := V.non) (u := Value.none) J rfl q
    | ret u =>
      obtain ⟨v, σ', H', J, rv, q⟩ := hs
      exact fin J rv q
    | brk =>
      obtain ⟨_, _, _, q⟩ := hs
      exact q.elim
    | cont =>
      obtain ⟨_, _, _, q⟩ := hs
      exact q.elim
end

section
variable {X : Cx} {k : Nat} {f : Addr} {fd : FuncData} {ps : List Str} {sp : Sp} {x : Str} {p pos : Pos} {e : Expr} {es : List Expr} {t : TA}
theorem goFn {pins : List (Addr × Obj)} {σ : L2.St} {H : Hp} {s : Shared} {Q : VK} {us : List Value} {vs : List V} (F : FnG X.prog X.w X.K X.mg X.base k f fd ps sp) (hr : Room k X.A) (hg : X.A.guards = some []) (hb : Binds X.K fd ps [])
    (I : Inv X pins σ H s) (r : Vals vs us) (h : sp vs H Q E0) : wpAny (model X.prog X.w) X.A (call (.ref f) us) (EP X pins σ Q) X.xe s := by
  have hl : (us ++ []).length = ps.length := by rw [List.append_nil, ← r.length]; exact F.len _ _ _ _ h
  have hb' := hb s us I.kIn hl
  rw [List.append_nil] at hb'
  refine wpAny_call (codeAny_mono (F.go X.A X.stack s H ⟨us, []⟩ us vs Q E0 hr hg I.env0 hb' r h) fun r s' hq => ?_)
  match r, hq with
  | .ok (.ret u), hq => exact I.after hq
  | .error e, hq => exact False.elim hq
  | .ok .next, hq => exact False.elim hq
  | .ok .brk, hq => exact False.elim hq
  | .ok .cont, hq => exact False.elim hq
/-- f(a, ..): the callee's promise -/
def tFn (sp : Sp) (t : TA) : TE := fun σ H Q => t σ H fun vs H1 => sp vs H1 Q E0
theorem pe_fn (F : FnG X.prog X.w X.K X.mg X.base k f fd ps sp) (hr : Room k X.A) (hgd : X.A.guards = some []) (hg : Gl X x) (hm : X.mg x = some (.ref f)) (hk : PySem.W.keepIn X.K (.ref f) = true) (hb : Binds X.K fd ps [])
    (ha : PA X (e :: es) t) (hdb : (x == ("__debug__" : Str)) = false := by decide) (he : starEach (e :: es) X.env = (false, eval e X.env) :: starEach es X.env := by rfl) (hpl : (backTo pos (starEach es X.env)).any (·.1) = false := by rfl) :
    PE X (.Call (.Name x p) (e :: es) [] pos) (tFn sp t) := by
  refine ⟨fun pins s σ H Q I h => wpAny_Call_Name_kw (ld_glob I hg hm ?_ hdb)⟩
  refine PySem.W.callWith_K (h₀ := X.base) I.ok.mod.kin hk (thn (ha.run pos pins s σ H _ I h) fun us s1 ⟨vs, H1, I1, r, q⟩ => ⟨I1.kIn, ?_⟩) he hpl
  exact goFn F hr hgd hb I1 r q
theorem pe_fn0 (F : FnG X.prog X.w X.K X.mg X.base k f fd ps sp) (hr : Room k X.A) (hgd : X.A.guards = some []) (hg : Gl X x) (hm : X.mg x = some (.ref f)) (hk : PySem.W.keepIn X.K (.ref f) = true) (hb : Binds X.K fd ps [])
    (hdb : (x == ("__debug__" : Str)) = false := by decide) : PE X (.Call (.Name x p) [] [] pos) (tFn sp tNil) := by
  refine ⟨fun pins s σ H Q I h => wpAny_Call_Name_kw (ld_glob I hg hm ?_ hdb)⟩
  exact PySem.W.callWith_K0 I.kIn hk (goFn (us := []) F hr hgd hb I .nil h)

/-- repr(x) of data: what stands in the text -/
def rRepr (K : PySem.W.Frag) : List V → Hp → VK → Prop := fun vs H Q => ∃ (x : V) (d : PyData), vs = [x] ∧ Dp K H x d ∧ d.showable = true ∧ d.hasDict = false ∧ d.depth ≤ 40 ∧ d.shown.length ≤ sizeLine ∧ Q (.str d.shown) H
theorem call_repr (hu : X.A.units + 64 < cLine) (hg : X.A.guards = some []) : CallR X (.builtin "repr") (rRepr X.K) := by
  intro pins s σ H vs us Q I r h
  obtain ⟨x, d, rfl, hd, sh, nd, dp, sz, q⟩ := h
  cases r with
  | cons r1 rr =>
    cases rr
    rename_i u
    obtain ⟨as, rd⟩ := Dp.reads I d x u hd r1
    cases hd with
    | non =>
      cases r1
      exact PySem.P.repr_of_none ⟨.str _, H, I.tok _, ⟨_, rfl⟩, q⟩
    | bl b =>
      cases r1
      exact PySem.P.repr_of_bool ⟨.str _, H, I.tok _, ⟨_, rfl⟩, q⟩
    | int i =>
      obtain ⟨t, rfl⟩ := r1
      exact PySem.P.repr_of_int (of_decide_eq_true sh) ⟨.str _, H, I.tok _, ⟨_, rfl⟩, q⟩
    | str z =>
      obtain ⟨t, rfl⟩ := r1
      exact PySem.P.repr_of_str ⟨.str _, H, I.tok _, ⟨_, rfl⟩, q⟩ sz
    | lst h1 h2 =>
      cases r1
      exact repr_of_reads' rd sh (PyData.noDict_hsm nd) hg (by omega) (fun _ _ e => e) (fun h1 u tk hk => ⟨.str _, H, I.kept hk, ⟨u, rfl⟩, q⟩) sz
    | tup h1 h2 =>
      cases r1
      exact repr_of_reads' rd sh (PyData.noDict_hsm nd) hg (by omega) (fun _ _ e => e) (fun h1 u tk hk => ⟨.str _, H, I.kept hk, ⟨u, rfl⟩, q⟩) sz
end
end Cs

set_option maxRecDepth 100000
set_option maxHeartbeats 4000000
namespace Cs
open PySem PySem.Spec PyProof.Rows L2

/-- what is tracked at the law's entry: the script, locked -/
def hpOf (a : Addr) (o : Obj) (xs : List V) : Hp := fun b => if b = a then some (.frz o (.lst xs)) else none
theorem hpOf_some {a b : Addr} {o : Obj} {xs : List V} {u : HO} (h : hpOf a o xs b = some u) : b = a ∧ u = .frz o (.lst xs) := by
  unfold hpOf at h
  by_cases e : b = a
  · rw [if_pos e] at h
    exact ⟨e, (Option.some.inj h).symm⟩
  · rw [if_neg e] at h
    cases h
theorem hpOf_at {a : Addr} {o : Obj} {xs : List V} : hpOf a o xs a = some (.frz o (.lst xs)) := if_pos rfl

section
variable {P : Program} {w : World} {K : PySem.W.Frag} {mg mb : Str → Option Value} {k : Nat} {fa a : Addr} {fd : FuncData} {x : Str} {sp : Sp} {s₁ : Shared} {vs : List Value} {ns : List Int}

/-- one run of the law from an abstract heap H that tracks no more than the script -/
theorem law_from (H : Hp) (inK : K.In s₁.heap) (hns : s₁.heap.Ns mainGlobals mg) (hb : s₁.heap.Ns builtinsNs mb) (hbb : ∀ y : Str, y ≠ "__name__" → mb y = bootBuiltins y) (hlim : s₁.heap.NoLimit) (hg : s₁.gens = #[])
    (ha : s₁.heap.get? a = some { cls := .type "list", data := .seq vs.toArray }) (hr : Room k callerA)
    (F : ∀ base : Heap, K.In base → base.Ns mainGlobals mg → FnG P w K mg base k fa fd [x] sp) (hbind : ∀ (s : Shared) (u : Value), BindsTo s fd ⟨[u], []⟩ [(x, u)])
    (hS : sp [.ref a] H (fun v _ => v = .bl true) E0) (hok : HOk P w H s₁.heap) (one : ∀ b u, H b = some u → b = a ∧ ∃ o xs, u = .frz o (.lst xs)) (off : ∀ u, H a = some u → K.lookup a = none) :
    codeAny (model P w) callerA (.call (.ref fa) ⟨[.ref a], []⟩) (fun r s' => r = .ok (.ret (.bool true)) ∧ OldK s₁.heap s'.heap ∧ s'.os = s₁.os ∧ AllBare s'.gens) s₁ := by
  have none_of : ∀ {b : Addr}, b ≠ a → H b = none := fun {b} n => by
    cases e : H b with
    | none => rfl
    | some u => exact absurd (one b u e).1 n
  have ns_keep : ∀ {b : Addr} {m : Str → Option Value}, s₁.heap.Ns b m → (hidT s₁.heap H).Ns b m := fun {b m} ⟨o, es, ep, e, d, q⟩ => by
    refine ⟨o, es, ep, hidT_get e (none_of fun z => ?_), d, q⟩
    rw [z, ha] at e
    cases e
    cases (show Data.seq vs.toArray _ = Data.dict es ep from d)
  have kb : K.In (hidT s₁.heap H) := fun b o e => by
    refine hidT_get (inK b o e) ?_
    cases q : H b with
    | none => rfl
    | some u =>
      obtain ⟨z, _⟩ := one b u q
      rw [z] at q e
      rw [off u q] at e
      cases e
  obtain ⟨mc, c1, c2⟩ := hlim
  have md : Mod K mg (hidT s₁.heap H) := ⟨kb, ns_keep hns, ⟨mb, ns_keep hb, hbb⟩, ⟨mc, ns_keep c1, c2⟩⟩
  have e0 : Env0 P w K mg (hidT s₁.heap H) callerA [] s₁ H :=
    ⟨rfl, md, fun _ _ e => of_hidT e, Nat.le_of_eq (hidT_size _ _), trivial, (fun b hm => absurd (show b ∈ ([] : List Addr) from hm) List.not_mem_nil), hok, .of_eq hg⟩
  refine codeAny_mono ((F _ kb (ns_keep hns)).go callerA [] s₁ H ⟨[.ref a], []⟩ [.ref a] [.ref a] _ _ hr rfl e0 (hbind s₁ (.ref a)) (.cons rfl .nil) hS) fun r s' h => ?_
  match r, h with
  | .error e, h => exact False.elim h
  | .ok .next, h => exact False.elim h
  | .ok .brk, h => exact False.elim h
  | .ok .cont, h => exact False.elim h
  | .ok (.ret u), ⟨v, H', os, bare, un, hok', rv, q⟩ =>
    cases (show v = V.bl true from q)
    cases (show u = Value.bool true from rv)
    refine ⟨rfl, OldK.of_keep fun b o e => ?_, os, bare⟩
    cases q : H b with
    | none => exact un.keep b o e q (fun z => absurd (show b ∈ ([] : List Addr) from z) List.not_mem_nil) (fun z => absurd (show b ∈ ([] : List Addr) from z) List.not_mem_nil)
    | some u =>
      obtain ⟨_, ob, xs, z⟩ := one b u q
      subst z
      obtain ⟨g1, _⟩ := hok b _ q
      obtain ⟨g2, _⟩ := hok' b _ (un.frzs b ob _ q)
      rw [e] at g1
      cases g1
      exact g2

theorem law_run (inK : K.In s₁.heap) (hns : s₁.heap.Ns mainGlobals mg) (hb : s₁.heap.Ns builtinsNs mb) (hbb : ∀ y : Str, y ≠ "__name__" → mb y = bootBuiltins y) (hlim : s₁.heap.NoLimit) (hg : s₁.gens = #[])
    (ha : s₁.heap.get? a = some { cls := .type "list", data := .seq vs.toArray }) (hi : IntsAre vs ns) (hl : ns.length ≤ sizeLine) (hr : Room k callerA)
    (F : ∀ base : Heap, K.In base → base.Ns mainGlobals mg → FnG P w K mg base k fa fd [x] sp) (hbind : ∀ (s : Shared) (u : Value), BindsTo s fd ⟨[u], []⟩ [(x, u)])
    (hsp : ∀ H : Hp, SqL K H a (ns.map V.int) → sp [.ref a] H (fun v _ => v = .bl true) E0) :
    codeAny (model P w) callerA (.call (.ref fa) ⟨[.ref a], []⟩) (fun r s' => r = .ok (.ret (.bool true)) ∧ OldK s₁.heap s'.heap ∧ s'.os = s₁.os ∧ AllBare s'.gens) s₁ := by
  have rv := vals_ints hi
  have hl2 : (ns.map V.int).length ≤ sizeLine := by rw [List.length_map]; exact hl
  have hl3 : vs.length ≤ sizeLine := by rw [← rv.length]; exact hl2
  cases hk : K.lookup a with
  | none =>
    refine law_from (hpOf a { cls := .type "list", data := .seq vs.toArray } (ns.map V.int)) inK hns hb hbb hlim hg ha hr F hbind (hsp _ (.inl (.inr ⟨_, hpOf_at⟩))) (fun b u e => ?_) (fun b u e => ?_) fun _ _ => hk
    · obtain ⟨rfl, rfl⟩ := hpOf_some e
      exact ⟨ha, hl2, vs, _, rv, ha⟩
    · obtain ⟨z, q⟩ := hpOf_some e
      exact ⟨z, _, _, q⟩
  | some o =>
    have e := inK a o hk
    rw [ha] at e
    cases e
    exact law_from (fun _ => none) inK hns hb hbb hlim hg ha hr F hbind (hsp _ (.inr ⟨_, vs.toArray, _, hk, rfl, rfl, rfl, by rw [List.size_toArray]; exact hl3, by simpa using rv⟩)) (fun _ u e => absurd (show (none : Option HO) = some u from e) (by simp)) (fun _ u e => absurd (show (none : Option HO) = some u from e) (by simp)) fun u e => absurd (show (none : Option HO) = some u from e) (by simp)
end

/-- the law's row from the law's promise -/
theorem walkG {l : PySem.W.OpenLaw} {n k : Nat} {q : Program} {loose : List Str} {XP : (Str → Option Value) → Heap → Prop} {YP : World → Heap → Prop} {d : DefRec} {K : Params → PySem.W.Frag} {sp : PySem.W.Frag → Sp} {x : Str}
    (hn : l.most = some n) (hn2 : n ≤ sizeLine) (hdf : d.params.defaults = []) (hr : Room k callerA)
    (hY : ∀ (w : World) (h : Heap), YP w h → (K w.params).In h)
    (F : ∀ (w : World) (mg : Str → Option Value) (fa : Addr) (h : Heap), (K w.params).In h → h.Ns mainGlobals mg → mg d.name = some (.ref fa) →
      ∃ fd : FuncData, (∀ (s : Shared) (u : Value), BindsTo s fd ⟨[u], []⟩ [(x, u)]) ∧
        ∀ base : Heap, (K w.params).In base → base.Ns mainGlobals mg → FnG l.prog w (K w.params) mg base k fa fd [x] (sp (K w.params)))
    (hsp : ∀ (K : PySem.W.Frag) (H : Hp) (a : Addr) (ns : List Int), ns.length ≤ n → SqL K H a (ns.map V.int) → sp K [.ref a] H (fun v _ => v = .bl true) E0) :
    PySem.W.WalkO q loose XP YP l.row.toRowW d [] (fun f vs => PySem.call f vs) := by
  refine Att.attach_call hn hdf fun w s₀ s₁ mg mb fa o pm cd doc a vs ns G Y ho hd hcd hmg hobj hints hlen hg => ?_
  have inK := hY w _ Y
  obtain ⟨fd, hb, hF⟩ := F w mg fa _ inK G.T.g hmg
  exact law_run inK G.T.g G.T.b G.T.builtins G.T.nolimit hg hobj hints (Nat.le_trans hlen hn2) hr hF hb fun H hS => hsp (K w.params) H a ns hlen hS
end Cs

set_option maxRecDepth 100000
set_option maxHeartbeats 4000000
namespace Cs
open PySem PySem.Spec PyProof.Rows L2

/-! ### a def that stands in the text and keeps a promise -/
def At (K : PySem.W.Frag) (mg : Str → Option Value) (x : Str) (st : Stmt) : Prop := ∃ (f : Addr) (fd : FuncData), mg x = some (.ref f) ∧ Fun K x x st f fd
def Df (P : Program) (w : World) (K : PySem.W.Frag) (mg : Str → Option Value) (base : Heap) (k : Nat) (x : Str) (ps : List Str) (sp : Sp) : Prop :=
  ∃ (f : Addr) (fd : FuncData), mg x = some (.ref f) ∧ PySem.W.keepIn K (.ref f) = true ∧ Binds K fd ps [] ∧ FnG P w K mg base k f fd ps sp
section
variable {P : Program} {w : World} {K : PySem.W.Frag} {mg : Str → Option Value} {base : Heap}
theorem Df.of {x : Str} {st : Stmt} {N ps : List Str} {k : Nat} {sp : Sp} (A : At K mg x st)
    (bd : ∀ (kV doc pm : Value) (an : Option Addr) (cdv ct : Value) (us : List Value), us.length = ps.length → bindArgs (PySem.W.fnOf x x (defArgs st) (defBody st) (defScope st) .none kV doc pm an cdv ct) ⟨us, []⟩ = pure (ps.zip us))
    (S : FnScope N ps (defScope st)) (len : ∀ vs H Q E, sp vs H Q E → vs.length = ps.length)
    (body : ∀ (cdv : Value) (A : Around) (out : List Env) (f : Addr) (s : Shared) (H : Hp) (vs : List V) (Q : VK) (E : XK), Room k (A.deeper (envOfC x (defScope st) s.heap.objs.size f cdv)) → A.guards = some [] → sp vs H Q E →
      ∃ t, PSs (cxG P w K mg base N x (defScope st) f cdv A out s H E) (defBody st) t ∧ t { nx := fun _ H' => Q .non H', rt := Q } (start N vs) H) :
    Df P w K mg base (k + 1) x ps sp := by
  obtain ⟨f, fd, m, F⟩ := A
  exact ⟨f, fd, m, F.kp, F.binds bd, FnG.of F S len fun cdv A out s H vs Q E hr hg h => body cdv A out f s H vs Q E hr hg h⟩
end
section
variable {X : Cx} {k : Nat} {ps : List Str} {sp : Sp} {x : Str} {p pos : Pos} {e : Expr} {es : List Expr} {t : TA}
theorem pe_df (D : Df X.prog X.w X.K X.mg X.base k x ps sp) (hr : Room k X.A) (hgd : X.A.guards = some []) (hg : Gl X x)
    (ha : PA X (e :: es) t) (hdb : (x == ("__debug__" : Str)) = false := by decide) (he : starEach (e :: es) X.env = (false, eval e X.env) :: starEach es X.env := by rfl) (hpl : (backTo pos (starEach es X.env)).any (·.1) = false := by rfl) :
    PE X (.Call (.Name x p) (e :: es) [] pos) (tFn sp t) := by
  obtain ⟨f, fd, m, kp, b, G⟩ := D
  exact pe_fn G hr hgd hg m kp b ha hdb he hpl
theorem pe_df0 (D : Df X.prog X.w X.K X.mg X.base k x ps sp) (hr : Room k X.A) (hgd : X.A.guards = some []) (hg : Gl X x) (hdb : (x == ("__debug__" : Str)) = false := by decide) :
    PE X (.Call (.Name x p) [] [] pos) (tFn sp tNil) := by
  obtain ⟨f, fd, m, kp, b, G⟩ := D
  exact pe_fn0 G hr hgd hg m kp b hdb
end

/-! ### heaps -/
/-- all but t is as it was -/
def Al (t : Addr) (H H' : Hp) : Prop := ∀ b, b ≠ t → H' b = H b
/-- all that was tracked, but t, is as it was -/
def Gr (t : Addr) (H H' : Hp) : Prop := ∀ b o, H b = some o → b ≠ t → H' b = some o
theorem Al.gr {t : Addr} {H H' : Hp} (a : Al t H H') : Gr t H H' := fun b o e n => by rw [a b n]; exact e
theorem Al.upd {t : Addr} {H : Hp} {o : HO} : Al t H (upd H t o) := fun b n => upd_ne n
theorem Al.trans {t : Addr} {H H1 H2 : Hp} (a : Al t H H1) (b : Al t H1 H2) : Al t H H2 := fun c n => (b c n).trans (a c n)
theorem Al.free {t b : Addr} {H H' : Hp} (a : Al t H H') (n : b ≠ t) (h : H' b = none) : H b = none := by rw [← a b n]; exact h
theorem Gr.refl (t : Addr) (H : Hp) : Gr t H H := fun _ _ e _ => e
theorem Gr.trans {t : Addr} {H H1 H2 : Hp} (a : Gr t H H1) (b : Gr t H1 H2) : Gr t H H2 := fun c o e n => b c o (a c o e n) n
theorem Gr.of {t : Addr} {H H' : Hp} (a : Same H H') : Gr t H H' := fun b o e _ => a b o e
theorem Gr.free {t b : Addr} {H H' : Hp} (a : Gr t H H') (n : b ≠ t) (h : H' b = none) : H b = none := by
  cases e : H b with
  | none => rfl
  | some o =>
    rw [a b o e n] at h
    cases h
theorem Same.new {p : Addr} {H : Hp} {o : HO} (h : H p = none) : Same H (upd H p o) := fun b u e => by rw [upd_ne (ne_of_none e h)]; exact e
theorem Gr.new {t p : Addr} {H : Hp} {o : HO} (h : H p = none) : Gr t H (upd H p o) := Gr.of (Same.new h)

/-- things that never change are as they were -/
structure Im (H H' : Hp) : Prop where
  tup : ∀ b xs, H b = some (.tup xs) → H' b = some (.tup xs)
  frz : ∀ b o u, H b = some (.frz o u) → H' b = some (.frz o u)
theorem Im.refl (H : Hp) : Im H H := ⟨fun _ _ e => e, fun _ _ _ e => e⟩
theorem Im.trans {H H1 H2 : Hp} (a : Im H H1) (b : Im H1 H2) : Im H H2 := ⟨fun c xs e => b.tup c xs (a.tup c xs e), fun c o u e => b.frz c o u (a.frz c o u e)⟩
theorem Im.same {H H' : Hp} (a : Same H H') : Im H H' := ⟨fun b _ e => a b _ e, fun b _ _ e => a b _ e⟩
theorem Im.new {p : Addr} {H : Hp} {o : HO} (h : H p = none) : Im H (upd H p o) := Im.same (Same.new h)
theorem Im.gr {t : Addr} {H H' : Hp} {xs : List V} (a : Gr t H H') (h : H t = some (.lst xs)) : Im H H' :=
  ⟨fun b ys e => a b _ e fun z => (by subst z; rw [h] at e; cases e), fun b o u e => a b _ e fun z => (by subst z; rw [h] at e; cases e)⟩
theorem Im.set {t : Addr} {H : Hp} {xs : List V} {o : HO} (h : H t = some (.lst xs)) : Im H (upd H t o) := Im.gr (Al.upd.gr) h
theorem Im.sqT {K : PySem.W.Frag} {H H' : Hp} {a : Addr} {xs : List V} (e : Im H H') (h : SqT K H a xs) : SqT K H' a xs := by
  rcases h with (h | ⟨o, h⟩) | h
  · exact .inl (.inl (e.tup _ _ h))
  · exact .inl (.inr ⟨o, e.frz _ _ _ h⟩)
  · exact .inr h

/-! ### the tape -/
structure TapeAt (H : Hp) (t l : Addr) : Prop where
  ex : ∃ (ns : List Int) (p r s : Int), H t = some (.lst [.ref l, .int p, .int r, .int s]) ∧ H l = some (.lst (ns.map V.int)) ∧ 0 ≤ p ∧ 0 ≤ r ∧ 0 ≤ s
  ne : l ≠ t
theorem TapeAt.list {H : Hp} {t l : Addr} (T : TapeAt H t l) : ∃ xs, H t = some (.lst xs) := let ⟨_, _, _, _, h, _⟩ := T.ex; ⟨_, h⟩
theorem TapeAt.list' {H : Hp} {t l : Addr} (T : TapeAt H t l) : ∃ xs, H l = some (.lst xs) := let ⟨_, _, _, _, _, h, _⟩ := T.ex; ⟨_, h⟩
theorem TapeAt.same {H H' : Hp} {t l : Addr} (T : TapeAt H t l) (e : Same H H') : TapeAt H' t l := let ⟨ns, p, r, s, h1, h2, q⟩ := T.ex; ⟨⟨ns, p, r, s, e _ _ h1, e _ _ h2, q⟩, T.ne⟩
theorem TapeAt.new {H : Hp} {t l b : Addr} {o : HO} (T : TapeAt H t l) (h : H b = none) : TapeAt (upd H b o) t l := T.same (Same.new h)
theorem TapeAt.upd {H : Hp} {t l b : Addr} {o : HO} (T : TapeAt H t l) (n1 : b ≠ t) (n2 : b ≠ l) : TapeAt (upd H b o) t l :=
  let ⟨ns, p, r, s, h1, h2, q⟩ := T.ex; ⟨⟨ns, p, r, s, by rw [upd_ne n1.symm]; exact h1, by rw [upd_ne n2.symm]; exact h2, q⟩, T.ne⟩
theorem TapeAt.ne_t {H : Hp} {t l b : Addr} (T : TapeAt H t l) (h : H b = none) : b ≠ t := let ⟨_, e⟩ := T.list; (ne_of_none e h).symm
theorem TapeAt.ne_l {H : Hp} {t l b : Addr} (T : TapeAt H t l) (h : H b = none) : b ≠ l := let ⟨_, e⟩ := T.list'; (ne_of_none e h).symm
theorem TapeAt.im {H H' : Hp} {t l : Addr} (T : TapeAt H t l) (g : Gr t H H') : Im H H' := let ⟨_, e⟩ := T.list; Im.gr g e

/-- the law's own two: a tape is made; a number is drawn -/
def sp_law_tape (K : PySem.W.Frag) : Sp := fun vs H Q _ => ∃ (a : Addr) (ns : List Int), vs = [.ref a] ∧ SqL K H a (ns.map V.int) ∧ ns.length ≤ 63 ∧ ∀ t l H', Same H H' → TapeAt H' t l → H t = none → H l = none → Q (.ref t) H'
def sp_law_draw (K : PySem.W.Frag) : Sp := fun vs H Q _ => ∃ (t l : Addr) (m : Int), vs = [.ref t, .int m] ∧ TapeAt H t l ∧ m ≤ 1000000000 ∧ ∀ v H', TapeAt H' t l → Al t H H' → 0 ≤ v → v < max m 1 → Q (.int v) H'
end Cs

set_option maxRecDepth 100000
set_option maxHeartbeats 4000000
namespace Cs
open PySem PySem.Spec PyProof.Rows L2
/-! ### tests -/
section
variable {A B c : Prop}
theorem if_dec [Decidable c] (h1 : c → A) (h2 : ¬ c → B) : if decide c = true then A else B := by
  by_cases h : c
  · rw [decide_eq_true h, if_pos rfl]; exact h1 h
  · rw [decide_eq_false h, if_neg Bool.false_ne_true]; exact h2 h
theorem if_ndec [Decidable c] (h1 : ¬ c → A) (h2 : c → B) : if (!decide c) = true then A else B := by
  by_cases h : c
  · rw [decide_eq_true h]; exact h2 h
  · rw [decide_eq_false h]; exact h1 h
theorem if_int {i j : Int} (h1 : i = j → A) (h2 : ¬ i = j → B) : if decide (V.int i = V.int j) = true then A else B :=
  if_dec (fun h => h1 (V.int.inj h)) fun h => h2 fun e => h (by rw [e])
theorem if_nint {i j : Int} (h1 : ¬ i = j → A) (h2 : i = j → B) : if (!decide (V.int i = V.int j)) = true then A else B :=
  if_ndec (fun h => h1 fun e => h (by rw [e])) fun h => h2 (V.int.inj h)
theorem if_str {i j : Str} (h1 : i = j → A) (h2 : ¬ i = j → B) : if decide (V.str i = V.str j) = true then A else B :=
  if_dec (fun h => h1 (V.str.inj h)) fun h => h2 fun e => h (by rw [e])
theorem if_nstr {i j : Str} (h1 : ¬ i = j → A) (h2 : i = j → B) : if (!decide (V.str i = V.str j)) = true then A else B :=
  if_ndec (fun h => h1 fun e => h (by rw [e])) fun h => h2 (V.str.inj h)
theorem if_bool {b : Bool} (h1 : b = true → A) (h2 : b = false → B) : if b = true then A else B := by
  cases b with
  | true => exact h1 rfl
  | false => exact h2 rfl
theorem if_nbool {b : Bool} (h1 : b = false → A) (h2 : b = true → B) : if (!b) = true then A else B := by
  cases b with
  | true => exact h2 rfl
  | false => exact h1 rfl
end
theorem int_at {ns : List Int} {i : Nat} {y : V} (h : (ns.map V.int)[i]? = some y) : ∃ n, y = V.int n := by
  rw [List.getElem?_map] at h
  cases e : ns[i]? with
  | none => rw [e] at h; cases h
  | some z => rw [e] at h; exact ⟨z, (Option.some.inj h).symm⟩
theorem at_int {ns : List Int} {i : Int} (h0 : 0 ≤ i) (h : i < ns.length) : ∃ n, atI (ns.map V.int) i = some (V.int n) := by
  obtain ⟨j, rfl⟩ : ∃ j : Nat, i = (j : Int) := ⟨i.toNat, by omega⟩
  have hj : j < ns.length := by omega
  exact ⟨ns[j], atI_nat (by rw [List.getElem?_map, List.getElem?_eq_getElem hj]; rfl)⟩
theorem max_one (m : Int) : (if (1 : Int) > m then (1 : Int) else m) = max m 1 := by
  by_cases h : (1 : Int) > m
  · rw [if_pos h]; omega
  · rw [if_neg h]; omega
end Cs
namespace Cs
open PySem PySem.Spec PyProof.Rows L2
theorem set3 {α : Type} (σ : List α) (s : Nat) (a b c : α) : (((σ.set s a).set s b).set s c) = σ.set s c := by
  rw [List.set_set, List.set_set]
theorem get_snoc {ys : List V} {v u : V} {j : Nat} (e : (ys ++ [v])[j]? = some u) : (j < ys.length ∧ ys[j]? = some u) ∨ (j = ys.length ∧ u = v) := by
  by_cases h : j < ys.length
  · rw [List.getElem?_append_left h] at e
    exact .inl ⟨h, e⟩
  · rw [List.getElem?_append_right (by omega)] at e
    have q : j - ys.length = 0 := by
      by_cases z : j - ys.length = 0
      · exact z
      · rw [List.getElem?_eq_none (by show 1 ≤ _; omega)] at e
        cases e
    rw [q] at e
    exact .inr ⟨by omega, (Option.some.inj e).symm⟩
section
variable {K : PySem.W.Frag} {a : Addr} {xs : List V} {te : TE} {s : Nat} {σ : L2.St} {H1 : Hp} {D : Addr} {Qd : Hp → Prop}
/-- what holds of a comprehension's list under way: its items so far are as P says -/
def CompSo (P : Nat → V → Hp → Prop) (H1 : Hp) (D : Addr) (i : Nat) (H : Hp) : Prop := Same H1 H ∧ ∃ ys, H D = some (.lst ys) ∧ ys.length = i ∧ ∀ j v, ys[j]? = some v → P j v H
theorem comp_turn {P : Nat → V → Hp → Prop} {i n : Nat} {x : V} {H : Hp} (mono : ∀ i v H H', P i v H → Im H H' → P i v H') (hz : n ≤ sizeLine) (fresh : H1 D = none) (hi : i < n) (so : CompSo P H1 D i H)
    (elt : ∀ H, Same H1 H → ∀ Q' : VK, (∀ v H', Same H H' → P i v H' → Q' v H') → te ((σ.set s none).set s (some x)) H Q') :
    gName s x (wipe σ [s]) H fun σ2 H2 => wipe σ2 [s] = wipe σ [s] ∧ tYes σ2 H2 fun b H3 =>
      if b = true then te σ2 H3 fun y H4 => ∃ acc, H4 D = some (.lst acc) ∧ acc.length < sizeLine ∧ CompSo P H1 D (i + 1) (upd H4 D (.lst (acc ++ [y]))) else CompSo P H1 D (i + 1) H3 := by
  obtain ⟨sm, ys, hD, hlen, hP⟩ := so
  refine ⟨set3 σ s none (some x) none, ?_⟩
  unfold tYes
  dsimp only
  rw [if_pos rfl]
  refine elt H sm _ fun v H' sm' pv => ?_
  have hD' := sm' _ _ hD
  have im2 : Im H' (upd H' D (.lst (ys ++ [v]))) := Im.set hD'
  refine ⟨ys, hD', by omega, fun b o e => by rw [upd_ne (ne_of_none e fresh)]; exact sm' _ _ (sm _ _ e), ys ++ [v], upd_same, by rw [List.length_append, hlen]; rfl, fun j u e => ?_⟩
  rcases get_snoc e with ⟨_, e⟩ | ⟨rfl, rfl⟩
  · exact mono _ _ _ _ (hP j u e) ((Im.same sm').trans im2)
  · rw [hlen]
    exact mono _ _ _ _ pv im2
theorem comp_start {P : Nat → V → Hp → Prop} (fresh : H1 D = none) : CompSo P H1 D 0 (upd H1 D (.lst [])) := ⟨Same.new fresh, [], upd_same, rfl, fun j v e => by simp at e⟩
/-- a comprehension over a list, no test: each element of the new list is what P says; nothing that was tracked changes -/
theorem comp_list (P : Nat → V → Hp → Prop) (mono : ∀ i v H H', P i v H → Im H H' → P i v H') (hl : SqL K H1 a xs) (hz : xs.length ≤ sizeLine) (fresh : H1 D = none)
    (elt : ∀ i x, xs[i]? = some x → ∀ H, Same H1 H → ∀ Q' : VK, (∀ v H', Same H H' → P i v H' → Q' v H') → te ((σ.set s none).set s (some x)) H Q')
    (hd : ∀ H ys, Same H1 H → H D = some (.lst ys) → ys.length = xs.length → (∀ i v, ys[i]? = some v → P i v H) → Qd H) :
    ∃ W : Nat → Nat → Hp → Prop, (∃ m, W 0 m (upd H1 D (.lst []))) ∧ ∀ i m H, W i m H →
      ((Itl K a).stop i H ∧ Qd H) ∨ ((Itl K a).go i H ∧ ∃ Nx : Hp → Prop, (∀ H', Nx H' → ∃ m', m' < m ∧ W (i + 1) m' H') ∧ ∀ x H', (Itl K a).yld i H x H' → gName s x (wipe σ [s]) H' fun σ2 H2 => wipe σ2 [s] = wipe σ [s] ∧ tYes σ2 H2 fun b H3 =>
        if b = true then te σ2 H3 fun y H4 => ∃ acc, H4 D = some (.lst acc) ∧ acc.length < sizeLine ∧ Nx (upd H4 D (.lst (acc ++ [y]))) else Nx H3) :=
  lc_list (K := K) (a := a) (xs := xs) (CompSo P H1 D) (comp_start fresh) (fun i H _ h => h.1.seq hl)
    (fun i x H hx so => comp_turn mono hz fresh (List.getElem?_eq_some_iff.mp hx).1 so (elt i x hx)) fun H ⟨sm, ys, hD, hlen, hP⟩ => hd H ys sm hD hlen hP
theorem comp_tup (P : Nat → V → Hp → Prop) (mono : ∀ i v H H', P i v H → Im H H' → P i v H') (hl : SqT K H1 a xs) (hz : xs.length ≤ sizeLine) (fresh : H1 D = none)
    (elt : ∀ i x, xs[i]? = some x → ∀ H, Same H1 H → ∀ Q' : VK, (∀ v H', Same H H' → P i v H' → Q' v H') → te ((σ.set s none).set s (some x)) H Q')
    (hd : ∀ H ys, Same H1 H → H D = some (.lst ys) → ys.length = xs.length → (∀ i v, ys[i]? = some v → P i v H) → Qd H) :
    ∃ W : Nat → Nat → Hp → Prop, (∃ m, W 0 m (upd H1 D (.lst []))) ∧ ∀ i m H, W i m H →
      ((Itt K a).stop i H ∧ Qd H) ∨ ((Itt K a).go i H ∧ ∃ Nx : Hp → Prop, (∀ H', Nx H' → ∃ m', m' < m ∧ W (i + 1) m' H') ∧ ∀ x H', (Itt K a).yld i H x H' → gName s x (wipe σ [s]) H' fun σ2 H2 => wipe σ2 [s] = wipe σ [s] ∧ tYes σ2 H2 fun b H3 =>
        if b = true then te σ2 H3 fun y H4 => ∃ acc, H4 D = some (.lst acc) ∧ acc.length < sizeLine ∧ Nx (upd H4 D (.lst (acc ++ [y]))) else Nx H3) :=
  lc_tup (K := K) (a := a) (xs := xs) (CompSo P H1 D) (comp_start fresh) (fun i H _ h => (Im.same h.1).sqT hl)
    (fun i x H hx so => comp_turn mono hz fresh (List.getElem?_eq_some_iff.mp hx).1 so (elt i x hx)) fun H ⟨sm, ys, hD, hlen, hP⟩ => hd H ys sm hD hlen hP
end
end Cs

namespace Cs
open PySem PySem.Spec PyProof.Rows L2
theorem eq_map {α : Type} {ys : List V} {rs : List α} {f : α → V} (h1 : ys.length = rs.length) (h2 : ∀ (i : Nat) v, ys[i]? = some v → ∃ r, rs[i]? = some r ∧ v = f r) : ys = rs.map f := by
  refine List.ext_getElem? fun i => ?_
  rw [List.getElem?_map]
  cases e : ys[i]? with
  | none =>
    have : rs[i]? = none := List.getElem?_eq_none_iff.mpr (by have := List.getElem?_eq_none_iff.mp e; omega)
    rw [this]; rfl
  | some v =>
    obtain ⟨r, hr, rfl⟩ := h2 i v e
    rw [hr]; rfl
theorem get_len {α β : Type} {xs : List α} {rs : List β} (h : xs.length = rs.length) {i : Nat} {x : α} (e : xs[i]? = some x) : ∃ r, rs[i]? = some r := by
  have hi := (List.getElem?_eq_some_iff.mp e).1
  exact ⟨rs[i]'(by omega), List.getElem?_eq_getElem (by omega)⟩
section
variable {K : PySem.W.Frag} {a : Addr} {xs : List V} {te : TE} {s : Nat} {σ : L2.St} {H1 : Hp} {D : Addr} {Qd : Hp → Prop} {α : Type}
/-- .. where each element is a value that hangs on the datum alone -/
theorem map_list (rs : List α) (f : α → V) (hl : SqL K H1 a xs) (hz : xs.length ≤ sizeLine) (hlen : xs.length = rs.length) (fresh : H1 D = none)
    (elt : ∀ (i : Nat) x r, xs[i]? = some x → rs[i]? = some r → ∀ H, Same H1 H → ∀ Q' : VK, (∀ H', Same H H' → Q' (f r) H') → te ((σ.set s none).set s (some x)) H Q')
    (hd : ∀ H, Same H1 H → H D = some (.lst (rs.map f)) → Qd H) :
    ∃ W : Nat → Nat → Hp → Prop, (∃ m, W 0 m (upd H1 D (.lst []))) ∧ ∀ i m H, W i m H →
      ((Itl K a).stop i H ∧ Qd H) ∨ ((Itl K a).go i H ∧ ∃ Nx : Hp → Prop, (∀ H', Nx H' → ∃ m', m' < m ∧ W (i + 1) m' H') ∧ ∀ x H', (Itl K a).yld i H x H' → gName s x (wipe σ [s]) H' fun σ2 H2 => wipe σ2 [s] = wipe σ [s] ∧ tYes σ2 H2 fun b H3 =>
        if b = true then te σ2 H3 fun y H4 => ∃ acc, H4 D = some (.lst acc) ∧ acc.length < sizeLine ∧ Nx (upd H4 D (.lst (acc ++ [y]))) else Nx H3) :=
  comp_list (K := K) (a := a) (fun i v _ => ∃ r, rs[i]? = some r ∧ v = f r) (fun _ _ _ _ h _ => h) hl hz fresh
    (fun i x hx H sm Q' hQ => by
      obtain ⟨r, hr⟩ := get_len hlen hx
      exact elt i x r hx hr H sm Q' fun H' sm' => hQ _ H' sm' ⟨r, hr, rfl⟩)
    fun H ys sm hD hl2 hP => hd H sm (by rw [← eq_map (hl2.trans hlen) hP]; exact hD)
theorem map_tup (rs : List α) (f : α → V) (hl : SqT K H1 a xs) (hz : xs.length ≤ sizeLine) (hlen : xs.length = rs.length) (fresh : H1 D = none)
    (elt : ∀ (i : Nat) x r, xs[i]? = some x → rs[i]? = some r → ∀ H, Same H1 H → ∀ Q' : VK, (∀ H', Same H H' → Q' (f r) H') → te ((σ.set s none).set s (some x)) H Q')
    (hd : ∀ H, Same H1 H → H D = some (.lst (rs.map f)) → Qd H) :
    ∃ W : Nat → Nat → Hp → Prop, (∃ m, W 0 m (upd H1 D (.lst []))) ∧ ∀ i m H, W i m H →
      ((Itt K a).stop i H ∧ Qd H) ∨ ((Itt K a).go i H ∧ ∃ Nx : Hp → Prop, (∀ H', Nx H' → ∃ m', m' < m ∧ W (i + 1) m' H') ∧ ∀ x H', (Itt K a).yld i H x H' → gName s x (wipe σ [s]) H' fun σ2 H2 => wipe σ2 [s] = wipe σ [s] ∧ tYes σ2 H2 fun b H3 =>
        if b = true then te σ2 H3 fun y H4 => ∃ acc, H4 D = some (.lst acc) ∧ acc.length < sizeLine ∧ Nx (upd H4 D (.lst (acc ++ [y]))) else Nx H3) :=
  comp_tup (K := K) (a := a) (fun i v _ => ∃ r, rs[i]? = some r ∧ v = f r) (fun _ _ _ _ h _ => h) hl hz fresh
    (fun i x hx H sm Q' hQ => by
      obtain ⟨r, hr⟩ := get_len hlen hx
      exact elt i x r hx hr H sm Q' fun H' sm' => hQ _ H' sm' ⟨r, hr, rfl⟩)
    fun H ys sm hD hl2 hP => hd H sm (by rw [← eq_map (hl2.trans hlen) hP]; exact hD)
end
/-! ### rectangles -/
structure R where
  l : Int
  t : Int
  w : Int
  h : Int
  deriving DecidableEq
def R.vs (r : R) : List V := [.int r.l, .int r.t, .int r.w, .int r.h]
def R.es (r : R) : List V := [.int r.l, .int r.t, .int (r.l + r.w), .int (r.t + r.h)]
/-- v is the rectangle r -/
def Rc (K : PySem.W.Frag) (H : Hp) (v : V) (r : R) : Prop := ∃ a, v = .ref a ∧ SqT K H a r.vs
theorem Rc.im {K : PySem.W.Frag} {H H' : Hp} {v : V} {r : R} (h : Rc K H v r) (e : Im H H') : Rc K H' v r := let ⟨a, h1, h2⟩ := h; ⟨a, h1, e.sqT h2⟩
theorem Rc.same {K : PySem.W.Frag} {H H' : Hp} {v : V} {r : R} (h : Rc K H v r) (e : Same H H') : Rc K H' v r := h.im (Im.same e)
/-- xs are the rectangles rs -/
structure Rcs (K : PySem.W.Frag) (H : Hp) (xs : List V) (rs : List R) : Prop where
  len : xs.length = rs.length
  at_ : ∀ (i : Nat) (x : V) (r : R), xs[i]? = some x → rs[i]? = some r → Rc K H x r
theorem Rcs.im {K : PySem.W.Frag} {H H' : Hp} {xs : List V} {rs : List R} (h : Rcs K H xs rs) (e : Im H H') : Rcs K H' xs rs := ⟨h.len, fun i x r h1 h2 => (h.at_ i x r h1 h2).im e⟩
theorem Rcs.nil {K : PySem.W.Frag} {H : Hp} : Rcs K H [] [] := ⟨rfl, fun i x r h => by simp at h⟩
theorem Rcs.snoc {K : PySem.W.Frag} {H : Hp} {xs : List V} {rs : List R} {x : V} {r : R} (h : Rcs K H xs rs) (q : Rc K H x r) : Rcs K H (xs ++ [x]) (rs ++ [r]) := by
  refine ⟨by rw [List.length_append, List.length_append, h.len]; rfl, fun i y s h1 h2 => ?_⟩
  rcases get_snoc h1 with ⟨hi, h1⟩ | ⟨rfl, rfl⟩
  · rw [List.getElem?_append_left (by rw [← h.len]; exact hi)] at h2
    exact h.at_ i y s h1 h2
  · rw [h.len, List.getElem?_append_right (Nat.le_refl _), Nat.sub_self] at h2
    cases (Option.some.inj h2)
    exact q
theorem Rcs.take {K : PySem.W.Frag} {H : Hp} {xs : List V} {rs : List R} (h : Rcs K H xs rs) (n : Nat) : Rcs K H (xs.take n) (rs.take n) := by
  refine ⟨by rw [List.length_take, List.length_take, h.len], fun i y s h1 h2 => ?_⟩
  rw [List.getElem?_take] at h1 h2
  split at h1
  · rw [if_pos (by assumption)] at h2
    exact h.at_ i y s h1 h2
  · cases h1
theorem Rcs.drop {K : PySem.W.Frag} {H : Hp} {xs : List V} {rs : List R} (h : Rcs K H xs rs) (n : Nat) : Rcs K H (xs.drop n) (rs.drop n) := by
  refine ⟨by rw [List.length_drop, List.length_drop, h.len], fun i y s h1 h2 => ?_⟩
  rw [List.getElem?_drop] at h1 h2
  exact h.at_ _ y s h1 h2
theorem Rcs.reverse {K : PySem.W.Frag} {H : Hp} {xs : List V} {rs : List R} (h : Rcs K H xs rs) : Rcs K H xs.reverse rs.reverse := by
  refine ⟨by rw [List.length_reverse, List.length_reverse, h.len], fun i y s h1 h2 => ?_⟩
  have hi : i < xs.length := by have := (List.getElem?_eq_some_iff.mp h1).1; rw [List.length_reverse] at this; exact this
  rw [List.getElem?_reverse hi] at h1
  rw [List.getElem?_reverse (by rw [← h.len]; exact hi), ← h.len] at h2
  exact h.at_ _ y s h1 h2
end Cs

set_option maxRecDepth 100000
set_option maxHeartbeats 4000000
/-! rules with the written part named, so that they stand within comprehensions too -/
namespace Cs
open PySem PySem.Spec PyProof.Rows L2
section
variable {X : Cx} {a b e : Expr} {ta tb te : TE} {pos : Pos}
theorem ixL (K : PySem.W.Frag) (h : X.K = K := by rfl) : IxR X (rIxL K) := h ▸ ix_list
theorem ixT (K : PySem.W.Frag) (h : X.K = K := by rfl) : IxR X (rIxT K) := h ▸ ix_tup
theorem slL (K : PySem.W.Frag) (h : X.K = K := by rfl) : SlR X (rSlL K) := h ▸ sl_list
theorem slT (K : PySem.W.Frag) (h : X.K = K := by rfl) : SlR X (rSlA K) := h ▸ sl_tupA
theorem eqK (K : PySem.W.Frag) (hu : X.A.units + 64 < cLine) (h : X.K = K := by rfl) : OpR X (compareOp .Eq) (rEqD K) := h ▸ op_eqD hu
theorem neK (K : PySem.W.Frag) (hu : X.A.units + 64 < cLine) (h : X.K = K := by rfl) : OpR X (compareOp .NotEq) (rNeD K) := h ▸ op_neD hu
theorem catT (K : PySem.W.Frag) (h : X.K = K := by rfl) : OpR X (binaryOp .Add) (rCatA K) := h ▸ op_catA
def rLen (K : PySem.W.Frag) : List V → Hp → VK → Prop := fun xs H Q => ∃ x n, xs = [x] ∧ LenV K x H n ∧ Q (.int n) H
theorem lenK (K : PySem.W.Frag) (h : X.K = K := by rfl) : CallR X (.builtin "len") (rLen K) := h ▸ call_len
def rListOf (K : PySem.W.Frag) : List V → Hp → VK → Prop := fun xs H Q => ∃ p ys, xs = [.ref p] ∧ (SqL K H p ys ∨ SqT K H p ys) ∧ ∀ l, H l = none → Q (.ref l) (upd H l (.lst ys))
theorem listK (K : PySem.W.Frag) (h : X.K = K := by rfl) : CallR X (.type "list") (rListOf K) := h ▸ call_list_of
def rTupOf (K : PySem.W.Frag) : List V → Hp → VK → Prop := fun xs H Q => ∃ p ys, xs = [.ref p] ∧ ((SqL K H p ys ∧ ∀ l, H l = none → Q (.ref l) (upd H l (.tup ys))) ∨ (SqT K H p ys ∧ Q (.ref p) H))
theorem tupK (K : PySem.W.Frag) (h : X.K = K := by rfl) : CallR X (.type "tuple") (rTupOf K) := h ▸ call_tuple_of
theorem reprK (K : PySem.W.Frag) (hu : X.A.units + 64 < cLine) (hg : X.A.guards = some []) (h : X.K = K := by rfl) : CallR X (.builtin "repr") (rRepr K) := h ▸ call_repr hu hg
theorem minK (K : PySem.W.Frag) (hc : X.calm = true) (h : X.K = K := by rfl) : CallR X (.builtin "min") (rMin K) := h ▸ cr_min hc
theorem maxK (K : PySem.W.Frag) (hc : X.calm = true) (h : X.K = K := by rfl) : CallR X (.builtin "max") (rMax K) := h ▸ cr_max hc
theorem sumK (K : PySem.W.Frag) (hc : X.calm = true) (h : X.K = K := by rfl) : CallR X (.builtin "sum") (rSum K) := h ▸ cr_sum hc
/-- a test by truth -/
def tTru (K : PySem.W.Frag) (ta : TE) : TT := fun σ H Q => ta σ H fun x H' => ∃ k, TruV K x H' k ∧ Q k H'
theorem truK (K : PySem.W.Frag) (ha : PE X a ta) (he : ∀ whole, isTrue a X.env whole = (do let v ← whole; standAt a.pos; holding [v] (truthy v)) := by intro _; rfl) (h : X.K = K := by rfl) : PT X a (tTru K ta) := h ▸ pt_truth ha he
end
theorem atI_mem {α : Type} {xs : List α} {v : Int} (h0 : 0 ≤ v) (h1 : v < xs.length) : ∃ z, atI xs v = some z ∧ xs[v.toNat]? = some z ∧ z ∈ xs := by
  obtain ⟨j, rfl⟩ : ∃ j : Nat, v = (j : Int) := ⟨v.toNat, by omega⟩
  have hj : j < xs.length := by omega
  have e : xs[j]? = some xs[j] := List.getElem?_eq_getElem hj
  exact ⟨xs[j], atI_nat e, by rw [Int.toNat_natCast]; exact e, List.getElem_mem hj⟩
theorem cut_to {xs : List V} {k : Int} (h : 0 ≤ k) : cutV xs none (some k) = xs.take k.toNat := by
  obtain ⟨j, rfl⟩ : ∃ j : Nat, k = (j : Int) := ⟨k.toNat, by omega⟩
  unfold cutV
  rw [HT.sIx_none, HT.sIx_nat, List.drop_zero, Nat.sub_zero, Int.toNat_natCast]
  by_cases h : j ≤ xs.length
  · rw [Nat.min_eq_left h]
  · rw [Nat.min_eq_right (by omega), List.take_length, List.take_of_length_le (by omega)]
theorem cut_from {xs : List V} {k : Int} (h : 0 ≤ k) : cutV xs (some k) none = xs.drop k.toNat := by
  obtain ⟨j, rfl⟩ : ∃ j : Nat, k = (j : Int) := ⟨k.toNat, by omega⟩
  unfold cutV
  rw [HT.sIx_none, HT.sIx_nat, Int.toNat_natCast]
  by_cases h : j ≤ xs.length
  · rw [Nat.min_eq_left h, List.take_of_length_le (by rw [List.length_drop]; omega)]
  · rw [Nat.min_eq_right (by omega), List.drop_of_length_le (Nat.le_refl _), List.drop_of_length_le (by omega), List.take_nil]
theorem Al.at_ {t b : Addr} {H H' : Hp} {o : HO} (a : Al t H H') (n : b ≠ t) (h : H b = some o) : H' b = some o := by rw [a b n]; exact h
theorem Al.none_ {t b : Addr} {H H' : Hp} (a : Al t H H') (n : b ≠ t) (h : H b = none) : H' b = none := by rw [a b n]; exact h
end Cs

set_option maxRecDepth 100000
set_option maxHeartbeats 4000000
/-! how long the text of data may get -/
namespace Cs
open PySem PySem.Spec PyProof.Rows L2
def smallStr (x : Str) : Bool := x.cps.toList.all fun c => decide (c < 16 ^ 8)
theorem smallStr_all {x : Str} (h : smallStr x = true) : ∀ c ∈ x.cps.toList, c < 16 ^ 8 := fun c hc => of_decide_eq_true (List.all_eq_true.mp h c hc)
mutual
/-- no dicts, ints below 2 ^ 1920, texts of codes that can be shown -/
def plainD : PyData → Bool
  | .none => true
  | .bool _ => true
  | .int i => decide (i.natAbs.log2 < 1920)
  | .str x => smallStr x
  | .list xs => plainAll xs
  | .tuple xs => plainAll xs
  | .dict _ => false
def plainAll : List PyData → Bool
  | [] => true
  | x :: xs => plainD x && plainAll xs
end
mutual
def cost : PyData → Nat
  | .none => 4
  | .bool _ => 5
  | .int _ => 1921
  | .str x => 10 * x.length + 2
  | .list xs => costAll xs + 2
  | .tuple xs => costAll xs + 2
  | .dict _ => 0
def costAll : List PyData → Nat
  | [] => 0
  | x :: xs => cost x + 2 + costAll xs
end
theorem list_text (ts : List Str) : (listText ts).length ≤ piled ts + 2 := by
  cases ts with
  | nil => decide +kernel
  | cons t r =>
    have e1 : (listText (t :: r)).length = (textFrom 0 "[" (t :: r)).length + 1 := by
      show (textFrom 0 "[" (t :: r) ++ "]").length = _
      rw [strLen_append]; rfl
    have e2 : (textFrom 0 "[" (t :: r)).length = (textFrom 1 (("[" : Str) ++ (if (0 : Nat) > 0 then ", " else "" : String) ++ t) r).length := rfl
    have e3 : ((("[" : Str) ++ (if (0 : Nat) > 0 then ", " else "" : String) ++ t)).length = 1 + t.length := by
      rw [strLen_append, strLen_append]; rfl
    have h := textFrom_length_pos r 1 (("[" : Str) ++ (if (0 : Nat) > 0 then ", " else "" : String) ++ t) (Nat.succ_pos 0)
    rw [piled_cons]
    omega
mutual
theorem plain_shows : ∀ d : PyData, plainD d = true → d.showable = true ∧ d.hasDict = false ∧ d.shown.length ≤ cost d
  | .none, _ => ⟨by simp only [PyData.showable], by simp only [PyData.hasDict], by simp only [PyData.shown, cost]; decide +kernel⟩
  | .bool b, _ => ⟨by simp only [PyData.showable], by simp only [PyData.hasDict], by simp only [PyData.shown, cost]; cases b <;> decide +kernel⟩
  | .int i, h => by
    simp only [plainD] at h
    exact ⟨by simp only [PyData.showable]; exact h, by simp only [PyData.hasDict], by simp only [PyData.shown, cost]; exact int_text_len_1921 (of_decide_eq_true h)⟩
  | .str x, h => by
    simp only [plainD] at h
    exact ⟨by simp only [PyData.showable], by simp only [PyData.hasDict], by simp only [PyData.shown, cost]; exact StrLaws.reprText_len x (smallStr_all h)⟩
  | .list xs, h => by
    simp only [plainD] at h
    obtain ⟨h1, h2, h3⟩ := plain_showsAll xs h
    refine ⟨by simp only [PyData.showable]; exact h1, by simp only [PyData.hasDict]; exact h2, ?_⟩
    simp only [PyData.shown, cost]
    have := list_text (PyData.shownAll xs)
    omega
  | .tuple xs, h => by
    simp only [plainD] at h
    obtain ⟨h1, h2, h3⟩ := plain_showsAll xs h
    refine ⟨by simp only [PyData.showable]; exact h1, by simp only [PyData.hasDict]; exact h2, ?_⟩
    simp only [PyData.shown, cost]
    have := fmt_text (PyData.shownAll xs)
    omega
  | .dict _, h => by simp [plainD] at h
theorem plain_showsAll : ∀ xs : List PyData, plainAll xs = true → PyData.showableAll xs = true ∧ PyData.hasDictAll xs = false ∧ piled (PyData.shownAll xs) ≤ costAll xs
  | [], _ => ⟨by simp only [PyData.showableAll], by simp only [PyData.hasDictAll], by simp only [PyData.shownAll, costAll]; exact Nat.le_refl _⟩
  | x :: xs, h => by
    simp only [plainAll, Bool.and_eq_true] at h
    obtain ⟨a1, a2, a3⟩ := plain_shows x h.1
    obtain ⟨b1, b2, b3⟩ := plain_showsAll xs h.2
    refine ⟨by simp only [PyData.showableAll, a1, b1, Bool.and_self], by simp only [PyData.hasDictAll, a2, b2, Bool.or_self], ?_⟩
    simp only [PyData.shownAll, costAll, piled_cons]
    omega
end
/-- what repr asks of data -/
def RepOk (d : PyData) : Prop := plainD d = true ∧ d.depth ≤ 40 ∧ cost d ≤ sizeLine
theorem repr_go {K : PySem.W.Frag} {x : V} {d : PyData} {H : Hp} {Q : VK} (hd : Dp K H x d) (ok : RepOk d) (q : Q (.str d.shown) H) : rRepr K [x] H Q := by
  obtain ⟨h1, h2, h3⟩ := plain_shows d ok.1
  exact ⟨x, d, rfl, hd, h1, h2, ok.2.1, Nat.le_trans h3 ok.2.2, q⟩
theorem RepOk.sh {d : PyData} (ok : RepOk d) : d.showable = true := (plain_shows d ok.1).1
theorem RepOk.nd {d : PyData} (ok : RepOk d) : d.hasDict = false := (plain_shows d ok.1).2.1
theorem RepOk.dp {d : PyData} (ok : RepOk d) : d.depth ≤ 40 := ok.2.1
theorem RepOk.sz {d : PyData} (ok : RepOk d) : d.shown.length ≤ sizeLine := Nat.le_trans (plain_shows d ok.1).2.2 ok.2.2
theorem small_int {i : Int} (h1 : -1000000000000000000000000000000 ≤ i) (h2 : i ≤ 1000000000000000000000000000000) : plainD (.int i) = true := by
  simp only [plainD]
  refine decide_eq_true ?_
  by_cases h : i.natAbs = 0
  · rw [h]; decide
  · refine (Nat.log2_lt h).mpr ?_
    have : i.natAbs ≤ 1000000000000000000000000000000 := by omega
    exact Nat.lt_of_le_of_lt this (by decide)
/-- the rectangle as data -/
def R.d (r : R) : PyData := .tuple [.int r.l, .int r.t, .int r.w, .int r.h]
theorem Rc.dp {K : PySem.W.Frag} {H : Hp} {v : V} {r : R} (h : Rc K H v r) : Dp K H v r.d := by
  obtain ⟨a, rfl, h⟩ := h
  exact .tup h (.cons (.int _) (.cons (.int _) (.cons (.int _) (.cons (.int _) .nil))))
theorem R.rep {r : R} (h : ∀ z ∈ [r.l, r.t, r.w, r.h], -1000000000000000000000000000000 ≤ z ∧ z ≤ 1000000000000000000000000000000) : RepOk r.d := by
  refine ⟨?_, by simp [R.d, PyData.depth, PyData.depthAll], ?_⟩
  · have p : ∀ z ∈ [r.l, r.t, r.w, r.h], plainD (.int z) = true := fun z hz => small_int (h z hz).1 (h z hz).2
    simp only [R.d, plainD, plainAll, Bool.and_true, Bool.and_eq_true] at *
    exact ⟨p _ (by simp), p _ (by simp), p _ (by simp), p _ (by simp)⟩
  · simp only [R.d, cost, costAll]
    decide
end Cs

set_option maxRecDepth 100000
set_option maxHeartbeats 4000000

namespace Cs
open PySem PySem.Spec PyProof.Rows L2
local macro_rules | `(tactic| walk_at "sql") => `(tactic| first
  | exact SqL.of (by assumption)
  | exact SqL.of upd_same
  | assumption)
local macro_rules | `(tactic| walk_at "sqt") => `(tactic| first
  | exact SqT.of (by assumption)
  | exact SqT.of upd_same
  | assumption)
local macro_rules | `(tactic| walk_at "rd1") => `(tactic| first
  | refine ⟨_, _, _, _, rfl, rfl, (show SqL _ _ _ _ by walk_at "sql"), rfl, ?_⟩
  | refine ⟨_, _, _, _, rfl, rfl, (show SqT _ _ _ _ by walk_at "sqt"), rfl, ?_⟩
  | refine ⟨_, _, rfl, rfl, (show CMul _ _ from Or.inr ⟨by decide, by decide⟩), ?_⟩
  | refine ⟨_, _, rfl, rfl, (show (0 : Int) < _ by first | decide | omega), ?_⟩
  | refine ⟨_, _, rfl, rfl, (show CDiv _ _ from ⟨by omega, by omega⟩), ?_⟩
  | refine ⟨_, _, rfl, rfl, (show CPow _ _ from ⟨by decide, by decide, by decide⟩), ?_⟩
  | refine ⟨_, _, rfl, rfl, ?_⟩
  | refine ⟨_, _, _, _, rfl, rfl, (by assumption), rfl, ?_⟩
  | refine ⟨_, _, _, _, rfl, rfl, upd_same, rfl, ?_⟩
  | refine ⟨_, _, rfl, (show LenV _ _ _ _ from Or.inl ⟨_, (by walk_at "sql"), rfl⟩), ?_⟩
  | refine ⟨_, _, rfl, (show LenV _ _ _ _ from Or.inr ⟨_, (by walk_at "sqt"), rfl⟩), ?_⟩
  | refine ⟨_, (show TruV _ _ _ _ from Or.inl ⟨_, (by walk_at "sql"), rfl⟩), ?_⟩
  | refine ⟨_, (show TruV _ _ _ _ from Or.inr (Or.inl ⟨_, (by walk_at "sqt"), rfl⟩)), ?_⟩
  | refine Or.inl ⟨_, rfl, ?_⟩
  | refine ⟨_, _, rfl, ?_⟩
  | refine ⟨_, rfl, ?_⟩
  | refine ⟨rfl, ?_⟩)

def top (i : Nat) : Stmt := PySem.Challenge.pw_chartspec_k38_hull_is_the_least.main.body.getD i (.Pass ⟨0, 0, 0, 0⟩)
abbrev s_inside : Stmt := top 1
theorem sc_inside : FnScope ["first", "second", "left", "top", "right", "bottom", "least_left", "least_top", "most_right", "most_bottom"] ["first", "second"] (defScope s_inside) := ⟨rfl, rfl, rfl, by decide +kernel, rfl, by decide +kernel, by decide +kernel⟩
abbrev s_hull : Stmt := top 2
theorem sc_hull : FnScope ["rectangles", "sides", "rectangle", "left", "top", "side", "right", "bottom"] ["rectangles"] (defScope s_hull) := ⟨rfl, rfl, rfl, by decide +kernel, rfl, by decide +kernel, by decide +kernel⟩
abbrev s_edges : Stmt := top 3
theorem sc_edges : FnScope ["rectangle", "left", "top", "width", "height"] ["rectangle"] (defScope s_edges) := ⟨rfl, rfl, rfl, by decide +kernel, rfl, by decide +kernel, by decide +kernel⟩
abbrev s_law_tape : Stmt := top 5
theorem sc_law_tape : FnScope ["script", "total", "cell"] ["script"] (defScope s_law_tape) := ⟨rfl, rfl, rfl, by decide +kernel, rfl, by decide +kernel, by decide +kernel⟩
abbrev s_law_draw : Stmt := top 6
theorem sc_law_draw : FnScope ["tape", "many", "place", "number"] ["tape", "many"] (defScope s_law_draw) := ⟨rfl, rfl, rfl, by decide +kernel, rfl, by decide +kernel, by decide +kernel⟩
abbrev s_law_hull : Stmt := top 7
theorem sc_law_hull : FnScope ["rectangles", "left", "one", "top", "right", "low"] ["rectangles"] (defScope s_law_hull) := ⟨rfl, rfl, rfl, by decide +kernel, rfl, by decide +kernel, by decide +kernel⟩
abbrev s_law : Stmt := top 8
theorem sc_law : FnScope ["script", "tape", "x", "y", "found", "k", "one", "told", "left", "top", "wider", "at", "parts", "part"] ["script"] (defScope s_law) := ⟨rfl, rfl, rfl, by decide +kernel, rfl, by decide +kernel, by decide +kernel⟩
structure Blt (mg : Str → Option Value) : Prop where
  abs : mg "abs" = none
  int : mg "int" = none
  len : mg "len" = none
  list : mg "list" = none
  max : mg "max" = none
  min : mg "min" = none
  range : mg "range" = none
  repr : mg "repr" = none
  reversed : mg "reversed" = none
  tuple : mg "tuple" = none

/-! ### the promises -/
structure IsHull (rs : List R) (r : R) : Prop where
  l1 : r.l ∈ rs.map R.l
  l2 : ∀ s ∈ rs, r.l ≤ s.l
  t1 : r.t ∈ rs.map R.t
  t2 : ∀ s ∈ rs, r.t ≤ s.t
  r1 : r.l + r.w ∈ rs.map fun s => s.l + s.w
  r2 : ∀ s ∈ rs, s.l + s.w ≤ r.l + r.w
  b1 : r.t + r.h ∈ rs.map fun s => s.t + s.h
  b2 : ∀ s ∈ rs, s.t + s.h ≤ r.t + r.h
theorem hull_of {rs : List R} {L T Rt B : Int} (hL1 : L ∈ rs.map R.l) (hL2 : ∀ y, y ∈ rs.map R.l → L ≤ y) (hT1 : T ∈ rs.map R.t) (hT2 : ∀ y, y ∈ rs.map R.t → T ≤ y)
    (hR1 : Rt ∈ rs.map fun r => r.l + r.w) (hR2 : ∀ y, y ∈ (rs.map fun r => r.l + r.w) → y ≤ Rt) (hB1 : B ∈ rs.map fun r => r.t + r.h) (hB2 : ∀ y, y ∈ (rs.map fun r => r.t + r.h) → y ≤ B) : IsHull rs ⟨L, T, Rt - L, B - T⟩ := by
  have e1 : L + (Rt - L) = Rt := by omega
  have e2 : T + (B - T) = B := by omega
  refine ⟨hL1, fun s hs => hL2 _ (List.mem_map_of_mem hs), hT1, fun s hs => hT2 _ (List.mem_map_of_mem hs), ?_, fun s hs => ?_, ?_, fun s hs => ?_⟩
  · show L + (Rt - L) ∈ _
    rw [e1]; exact hR1
  · show _ ≤ L + (Rt - L)
    rw [e1]; exact hR2 _ (List.mem_map.mpr ⟨s, hs, rfl⟩)
  · show T + (B - T) ∈ _
    rw [e2]; exact hB1
  · show _ ≤ T + (B - T)
    rw [e2]; exact hB2 _ (List.mem_map.mpr ⟨s, hs, rfl⟩)
def In (a b : R) : Bool := decide (b.l ≤ a.l) && (decide (b.t ≤ a.t) && (decide (a.l + a.w ≤ b.l + b.w) && decide (a.t + a.h ≤ b.t + b.h)))
def sp_edges (K : PySem.W.Frag) : Sp := fun vs H Q _ => ∃ (v : V) (r : R), vs = [v] ∧ Rc K H v r ∧ ∀ p, H p = none → Q (.ref p) (upd H p (.tup r.es))
def sp_inside (K : PySem.W.Frag) : Sp := fun vs H Q _ => ∃ (u v : V) (a b : R), vs = [u, v] ∧ Rc K H u a ∧ Rc K H v b ∧ ∀ H', Same H H' → Q (.bl (In a b)) H'
def sp_hull (K : PySem.W.Frag) : Sp := fun vs H Q _ => ∃ (a : Addr) (xs : List V) (rs : List R), vs = [.ref a] ∧ SqT K H a xs ∧ Rcs K H xs rs ∧ rs.length ≤ 1000 ∧
  (rs = [] → Q .non H) ∧ (rs ≠ [] → ∀ r p H', IsHull rs r → Same H H' → H' p = some (.tup r.vs) → Q (.ref p) H')
def sp_law_hull (K : PySem.W.Frag) : Sp := fun vs H Q _ => ∃ (a : Addr) (xs : List V) (rs : List R), vs = [.ref a] ∧ SqL K H a xs ∧ Rcs K H xs rs ∧ rs.length ≤ 1000 ∧ rs ≠ [] ∧
  ∀ r p H', IsHull rs r → Same H H' → H' p = some (.tup r.vs) → Q (.ref p) H'
theorem mem_map' {rs : List R} {f : R → Int} {z : Int} (h : z ∈ rs.map f) : ∃ s ∈ rs, f s = z := List.mem_map.mp h
theorem hull_one {rs : List R} {a b : R} (h : IsHull rs a) (k : IsHull rs b) : a = b := by
  have el : a.l = b.l := by
    obtain ⟨s, h1, h2⟩ := mem_map' h.l1
    obtain ⟨u, k1, k2⟩ := mem_map' k.l1
    have := h.l2 u k1; have := k.l2 s h1; omega
  have et : a.t = b.t := by
    obtain ⟨s, h1, h2⟩ := mem_map' h.t1
    obtain ⟨u, k1, k2⟩ := mem_map' k.t1
    have := h.t2 u k1; have := k.t2 s h1; omega
  have er : a.l + a.w = b.l + b.w := by
    obtain ⟨s, h1, h2⟩ := mem_map' h.r1
    obtain ⟨u, k1, k2⟩ := mem_map' k.r1
    have := h.r2 u k1; have := k.r2 s h1; omega
  have eb : a.t + a.h = b.t + b.h := by
    obtain ⟨s, h1, h2⟩ := mem_map' h.b1
    obtain ⟨u, k1, k2⟩ := mem_map' k.b1
    have := h.b2 u k1; have := k.b2 s h1; omega
  obtain ⟨l, t, w, h'⟩ := a
  obtain ⟨l2, t2, w2, h2⟩ := b
  simp only at el et er eb
  subst el et
  have : w = w2 := by omega
  have : h' = h2 := by omega
  simp [*]
theorem hull_rev {rs : List R} {r : R} (h : IsHull rs.reverse r) : IsHull rs r := by
  have m : ∀ {f : R → Int} {z : Int}, z ∈ rs.reverse.map f → z ∈ rs.map f := fun {f z} h => by
    obtain ⟨s, h1, h2⟩ := mem_map' h
    exact List.mem_map.mpr ⟨s, List.mem_reverse.mp h1, h2⟩
  exact ⟨m h.l1, fun s hs => h.l2 s (List.mem_reverse.mpr hs), m h.t1, fun s hs => h.t2 s (List.mem_reverse.mpr hs), m h.r1, fun s hs => h.r2 s (List.mem_reverse.mpr hs), m h.b1, fun s hs => h.b2 s (List.mem_reverse.mpr hs)⟩
def Fit1 (r : R) : Prop := -90000 ≤ r.l ∧ r.l ≤ 90100 ∧ -90000 ≤ r.t ∧ r.t ≤ 90100 ∧ 0 ≤ r.w ∧ r.w ≤ 30 ∧ 0 ≤ r.h ∧ r.h ≤ 30
def Fit (rs : List R) : Prop := ∀ r ∈ rs, Fit1 r
theorem hull_fit {rs : List R} {r : R} (F : Fit rs) (h : IsHull rs r) : ∀ z ∈ [r.l, r.t, r.w, r.h], -1000000000000000000000000000000 ≤ z ∧ z ≤ 1000000000000000000000000000000 := by
  obtain ⟨s1, h1, e1⟩ := mem_map' h.l1
  obtain ⟨s2, h2, e2⟩ := mem_map' h.t1
  obtain ⟨s3, h3, e3⟩ := mem_map' h.r1
  obtain ⟨s4, h4, e4⟩ := mem_map' h.b1
  obtain ⟨a1, a2, a3, a4, a5, a6, a7, a8⟩ := F s1 h1
  obtain ⟨b1, b2, b3, b4, b5, b6, b7, b8⟩ := F s2 h2
  obtain ⟨c1, c2, c3, c4, c5, c6, c7, c8⟩ := F s3 h3
  obtain ⟨d1, d2, d3, d4, d5, d6, d7, d8⟩ := F s4 h4
  intro z hz
  simp at hz
  rcases hz with rfl | rfl | rfl | rfl <;> omega
theorem in_wider {r : R} {a b c d : Int} (h1 : 0 ≤ a) (h2 : 0 ≤ b) (h3 : 0 ≤ c) (h4 : 0 ≤ d) : In r ⟨r.l - a, r.t - b, r.w + a + c, r.h + b + d⟩ = true := by
  unfold In
  simp only [Bool.and_eq_true, decide_eq_true_eq]
  refine ⟨?_, ?_, ?_, ?_⟩ <;> omega
theorem in_hull {rs : List R} {r s : R} (h : IsHull rs r) (hs : s ∈ rs) : In s r = true := by
  unfold In
  simp only [Bool.and_eq_true, decide_eq_true_eq]
  exact ⟨h.l2 s hs, h.t2 s hs, h.r2 s hs, h.b2 s hs⟩
/-- hs: the hulls of those of ps that hold a rectangle -/
structure Parts (ps : List (List R)) (hs : List R) : Prop where
  a : ∀ h ∈ hs, ∃ p ∈ ps, IsHull p h
  b : ∀ p ∈ ps, p ≠ [] → ∃ h ∈ hs, IsHull p h
theorem Parts.nil : Parts [] [] := ⟨fun h hh => absurd hh List.not_mem_nil, fun p hp => absurd hp List.not_mem_nil⟩
theorem Parts.snoc {ps : List (List R)} {hs : List R} {p : List R} {h : R} (P : Parts ps hs) (_ : p ≠ []) (H : IsHull p h) : Parts (ps ++ [p]) (hs ++ [h]) := by
  refine ⟨fun g hg => ?_, fun q hq n => ?_⟩
  · rcases List.mem_append.mp hg with h1 | h1
    · obtain ⟨q, a, b⟩ := P.a g h1
      exact ⟨q, List.mem_append_left _ a, b⟩
    · rw [List.mem_singleton.mp h1]
      exact ⟨p, List.mem_append_right _ (List.mem_singleton.mpr rfl), H⟩
  · rcases List.mem_append.mp hq with h1 | h1
    · obtain ⟨g, a, b⟩ := P.b q h1 n
      exact ⟨g, List.mem_append_left _ a, b⟩
    · rw [List.mem_singleton.mp h1]
      exact ⟨h, List.mem_append_right _ (List.mem_singleton.mpr rfl), H⟩
theorem Parts.skip {ps : List (List R)} {hs : List R} (P : Parts ps hs) : Parts (ps ++ [[]]) hs := by
  refine ⟨fun g hg => ?_, fun q hq n => ?_⟩
  · obtain ⟨q, a, b⟩ := P.a g hg
    exact ⟨q, List.mem_append_left _ a, b⟩
  · rcases List.mem_append.mp hq with h1 | h1
    · exact P.b q h1 n
    · exact absurd (List.mem_singleton.mp h1) n
theorem hull_parts {rs : List R} {ps : List (List R)} {hs : List R} {r : R} (cover : ∀ s ∈ rs, ∃ p ∈ ps, s ∈ p) (sub : ∀ p ∈ ps, ∀ s ∈ p, s ∈ rs) (P : Parts ps hs) (H : IsHull hs r) : IsHull rs r := by
  have up : ∀ (f : R → Int) {z : Int}, (∀ {p h}, IsHull p h → f h ∈ p.map f) → z ∈ hs.map f → z ∈ rs.map f := fun f {z} hf hz => by
    obtain ⟨h, h1, h2⟩ := mem_map' hz
    obtain ⟨p, p1, p2⟩ := P.a h h1
    obtain ⟨s, s1, s2⟩ := mem_map' (hf p2)
    exact List.mem_map.mpr ⟨s, sub p p1 s s1, s2.trans h2⟩
  have dn : ∀ s ∈ rs, ∃ h ∈ hs, ∃ p, IsHull p h ∧ s ∈ p := fun s hs' => by
    obtain ⟨p, p1, p2⟩ := cover s hs'
    obtain ⟨h, h1, h2⟩ := P.b p p1 (List.ne_nil_of_mem p2)
    exact ⟨h, h1, p, h2, p2⟩
  refine ⟨up R.l (fun h => h.l1) H.l1, fun s hs' => ?_, up R.t (fun h => h.t1) H.t1, fun s hs' => ?_, up (fun s => s.l + s.w) (fun h => h.r1) H.r1, fun s hs' => ?_, up (fun s => s.t + s.h) (fun h => h.b1) H.b1, fun s hs' => ?_⟩
  · obtain ⟨h, h1, p, h2, h3⟩ := dn s hs'
    exact Int.le_trans (H.l2 h h1) (h2.l2 s h3)
  · obtain ⟨h, h1, p, h2, h3⟩ := dn s hs'
    exact Int.le_trans (H.t2 h h1) (h2.t2 s h3)
  · obtain ⟨h, h1, p, h2, h3⟩ := dn s hs'
    exact Int.le_trans (h2.r2 s h3) (H.r2 h h1)
  · obtain ⟨h, h1, p, h2, h3⟩ := dn s hs'
    exact Int.le_trans (h2.b2 s h3) (H.b2 h h1)
def spLaw (K : PySem.W.Frag) : Sp := fun vs H Q _ => ∃ (a : Addr) (ns : List Int), vs = [.ref a] ∧ SqL K H a (ns.map V.int) ∧ ns.length ≤ 63 ∧ ∀ H', Q (.bl true) H'
theorem law_start (K : PySem.W.Frag) (H : Hp) (a : Addr) (ns : List Int) (h1 : ns.length ≤ 63) (h2 : SqL K H a (ns.map V.int)) : spLaw K [.ref a] H (fun v _ => v = .bl true) E0 := ⟨a, ns, rfl, h2, h1, fun _ => rfl⟩
theorem map_nil {α : Type} {rs : List α} (f : α → Int) (h : rs ≠ []) : 0 < (rs.map f).length := by
  cases rs with
  | nil => exact absurd rfl h
  | cons _ _ => show 0 < _ + 1; omega
theorem map_vs {α : Type} (rs : List α) (f : α → Int) : rs.map (fun r => V.int (f r)) = (rs.map f).map V.int := by rw [List.map_map]; rfl
section
variable {P : Program} {w : World} {K : PySem.W.Frag} {mg : Str → Option Value} {base : Heap}
theorem df_law_tape (M : Blt mg) (A : At K mg "_law_tape" s_law_tape) : Df P w K mg base 1 "_law_tape" ["script"] (sp_law_tape K) := by
  have nd := sc_law_tape.nd
  refine Df.of A (fun _ _ _ _ _ _ us hl => match us, hl with | [_], _ => rfl) sc_law_tape (fun vs H Q E h => ?_) (fun cdv A out f s H vs Q E hr hgd h => ?_)
  · obtain ⟨a, ns, rfl, _⟩ := h
    rfl
  · obtain ⟨a, ns, rfl, hS, hl, k⟩ := h
    refine ⟨_, (pss_cons (ps_set (i := 1) nd rfl (Or.inl rfl) pe_int)
      (pss_cons (ps_for PassesOwn.never rfl (pi_list (pv 0)) (pg_name (i := 2) nd rfl (Or.inl rfl)) (pss_one (ps_set (i := 1) nd rfl (Or.inl rfl) (pe_op op_mod (pe_callTy call_int1 (by rfl) M.int (by decide +kernel) (pa_cons (pe_op op_add (pe_op op_mul (pv 1) pe_int) (pe_callB call_abs (by rfl) M.abs (by decide +kernel) (pa_cons (pe_callTy call_int1 (by rfl) M.int (by decide +kernel) (pa_cons (pv 2) pa_nil)) pa_nil))) pa_nil)) pe_int))))
      (pss_one (ps_ret (pe_lst (pa_cons (pe_callTy (listK K) (by rfl) M.list (by decide +kernel) (pa_cons (pv 0) pa_nil)) (pa_cons pe_int (pa_cons pe_int (pa_cons (pv 1) pa_nil))))))))), ?_⟩
    refine ⟨_, rfl, a, rfl, ⟨_, hS⟩, for_list (K := K) (a := a) (xs := ns.map V.int) (fun i σ H2 => H2 = H ∧ ∃ (z : Int) (v : Option V), σ = [some (.ref a), some (.int z), v] ∧ 0 ≤ z) ⟨rfl, 7, none, rfl, by decide⟩ (fun i σ H2 _ e => by rw [e.1]; exact hS) ?_ ?_⟩
    · rintro i y σ H2 hi ⟨rfl, z, v, rfl, hz⟩
      obtain ⟨n, rfl⟩ := int_at hi
      repeat walk_at "rd1"
      exact Int.emod_nonneg _ (by decide)
    · rintro σ H2 ⟨rfl, z, v, rfl, hz⟩
      refine ⟨_, rfl, a, _, rfl, Or.inl hS, fun l hl => ?_⟩
      repeat walk_at "rd1"
      refine ⟨(by show 4 ≤ sizeLine; decide), fun t ht => ?_⟩
      have nlt : l ≠ t := ne_of_none upd_same ht
      refine k t l _ (fun b o e => ?_) ⟨⟨ns, 0, 0, z, upd_same, by rw [upd_ne nlt]; exact upd_same, by decide, by decide, hz⟩, nlt⟩ ((Same.new hl).free ht) hl
      rw [upd_ne (ne_of_none (Same.new hl _ _ e) ht), upd_ne (ne_of_none e hl)]
      exact e
theorem df_law_draw (M : Blt mg) (A : At K mg "_law_draw" s_law_draw) : Df P w K mg base 1 "_law_draw" ["tape", "many"] (sp_law_draw K) := by
  have nd := sc_law_draw.nd
  refine Df.of A (fun _ _ _ _ _ _ us hl => match us, hl with | [_, _], _ => rfl) sc_law_draw (fun vs H Q E h => ?_) (fun cdv A out f s H vs Q E hr hgd h => ?_)
  · obtain ⟨t, l, m, rfl, _⟩ := h
    rfl
  · obtain ⟨t, l, m, rfl, T, hm, k⟩ := h
    obtain ⟨⟨ns, p, r, s, h1, h2, p0, r0, s0⟩, nlt⟩ := id T
    refine ⟨_, (pss_cons (ps_if (pt_cmpR op_eq (pe_ix (ixL K) (pv 0) pe_int (fun _ _ => rfl)) pe_int (nomark _)) (pss_cons (ps_set (i := 2) nd rfl (Or.inl rfl) (pe_ix (ixL K) (pv 0) pe_int (fun _ _ => rfl)))
      (pss_cons (ps_set (i := 3) nd rfl (Or.inl rfl) pe_int)
      (pss_cons (ps_if (pt_cmpR op_lt (pv 2) (pe_callB (lenK K) (by rfl) M.len (by decide +kernel) (pa_cons (pe_ix (ixL K) (pv 0) pe_int (fun _ _ => rfl)) pa_nil)) (nomark _)) (pss_one (ps_set (i := 3) nd rfl (Or.inl rfl) (pe_callB call_abs (by rfl) M.abs (by decide +kernel) (pa_cons (pe_callTy call_int1 (by rfl) M.int (by decide +kernel) (pa_cons (pe_ix (ixL K) (pe_ix (ixL K) (pv 0) pe_int (fun _ _ => rfl)) (pv 2) (fun _ _ => rfl)) pa_nil)) pa_nil)))) (pss_cons (ps_asg (pe_op op_mod (pe_callTy call_int1 (by rfl) M.int (by decide +kernel) (pa_cons (pe_op op_add (pe_op op_add (pe_op op_mul (pe_ix (ixL K) (pv 0) pe_int (fun _ _ => rfl)) pe_int) (pv 2)) pe_int) pa_nil)) pe_int) (pg_sub (pv 0) pe_int set_list))
      (pss_one (ps_set (i := 3) nd rfl (Or.inl rfl) (pe_ix (ixL K) (pv 0) pe_int (fun _ _ => rfl))))))
      (pss_cons (ps_asg (pe_op op_add (pv 2) pe_int) (pg_sub (pv 0) pe_int set_list))
      (pss_cons (ps_if (pt_cmpR op_lt (pv 3) (pe_op op_pow pe_int pe_int) (nomark _)) (pss_cons (ps_set (i := 3) nd rfl (Or.inl rfl) (pe_op op_mod (pe_callTy call_int1 (by rfl) M.int (by decide +kernel) (pa_cons (pe_op op_add (pe_op op_add (pe_op op_mul (pv 3) pe_int) (pe_op op_mul (pv 2) pe_int)) pe_int) pa_nil)) pe_int))
      (pss_cons (ps_set (i := 3) nd rfl (Or.inl rfl) (pe_op op_mod (pe_callTy call_int1 (by rfl) M.int (by decide +kernel) (pa_cons (pe_op op_mul (pv 3) pe_int) pa_nil)) pe_int))
      (pss_one (ps_ret (pe_op op_mod (pe_callTy call_int1 (by rfl) M.int (by decide +kernel) (pa_cons (pv 3) pa_nil)) (pe_callB (call_max2 rfl) (by rfl) M.max (by decide +kernel) (pa_cons (pv 1) (pa_cons pe_int pa_nil)))))))) pss_nil)
      (pss_one (ps_asg (pv 3) (pg_sub (pv 0) pe_int set_list)))))))) pss_nil)
      (pss_cons (ps_set (i := 3) nd rfl (Or.inl rfl) (pe_ix (ixL K) (pv 0) pe_int (fun _ _ => rfl)))
      (pss_cons (ps_asg (pe_op op_fdiv (pv 3) (pe_callB (call_max2 rfl) (by rfl) M.max (by decide +kernel) (pa_cons (pv 1) (pa_cons pe_int pa_nil)))) (pg_sub (pv 0) pe_int set_list))
      (pss_one (ps_ret (pe_op op_mod (pe_callTy call_int1 (by rfl) M.int (by decide +kernel) (pa_cons (pv 3) pa_nil)) (pe_callB (call_max2 rfl) (by rfl) M.max (by decide +kernel) (pa_cons (pv 1) (pa_cons pe_int pa_nil))))))))), ?_⟩
    have fin : ∀ (n : Int) (H1 : Hp) (p' r' s' : Int), H1 t = some (.lst [.ref l, .int p', .int r', .int s']) → Al t H H1 → 0 ≤ p' → 0 ≤ r' → 0 ≤ s' → Q (.int (n % (if (1 : Int) > m then (1 : Int) else m))) H1 := by
      intro n H1 p' r' s' e1 a1 hp hr' hs
      rw [max_one]
      refine k _ H1 ⟨⟨ns, p', r', s', e1, by rw [a1 l nlt]; exact h2, hp, hr', hs⟩, nlt⟩ a1 (Int.emod_nonneg _ (by omega)) (Int.emod_lt_of_pos _ (by omega))
    repeat walk_at "rd1"
    refine if_int (fun hr0 => ?_) (fun hr0 => ?_)
    · subst hr0
      repeat walk_at "rd1"
      refine if_dec (fun hpl => ?_) (fun hpl => ?_)
      · rw [List.length_map] at hpl
        obtain ⟨n, hn⟩ := at_int p0 hpl
        refine ⟨_, rfl, _, _, _, _, rfl, rfl, SqL.of h1, rfl, _, rfl, _, _, _, _, rfl, rfl, SqL.of h2, hn, ?_⟩
        repeat walk_at "rd1"
        refine if_dec (fun h18 => ?_) (fun h18 => ?_)
        · repeat walk_at "rd1"
          exact fin _ _ (p + 1) 0 s upd_same Al.upd (by omega) (by decide) s0
        · repeat walk_at "rd1"
          exact fin _ _ (p + 1) _ s upd_same ((Al.upd.trans Al.upd).trans Al.upd) (by omega) (Int.ediv_nonneg (by split <;> omega) (by split <;> omega)) s0
      · repeat walk_at "rd1"
        refine if_dec (fun h18 => ?_) (fun h18 => ?_)
        · repeat walk_at "rd1"
          exact fin _ _ (p + 1) 0 _ upd_same (Al.upd.trans Al.upd) (by omega) (by decide) (Int.emod_nonneg _ (by decide))
        · repeat walk_at "rd1"
          exact fin _ _ (p + 1) _ _ upd_same (((Al.upd.trans Al.upd).trans Al.upd).trans Al.upd) (by omega) (Int.ediv_nonneg (Int.emod_nonneg _ (by decide)) (by split <;> omega)) (Int.emod_nonneg _ (by decide))
    · repeat walk_at "rd1"
      exact fin _ _ p _ s upd_same Al.upd p0 (Int.ediv_nonneg r0 (by split <;> omega)) s0
end

section
variable {P : Program} {w : World} {K : PySem.W.Frag} {mg : Str → Option Value} {base : Heap}
theorem df_edges (M : Blt mg) (A : At K mg "edges" s_edges) : Df P w K mg base 1 "edges" ["rectangle"] (sp_edges K) := by
  have nd := sc_edges.nd
  refine Df.of A (fun _ _ _ _ _ _ us hl => match us, hl with | [_], _ => rfl) sc_edges (fun vs H Q E h => ?_) (fun cdv A out f s H vs Q E hr hgd h => ?_)
  · obtain ⟨v, r, rfl, _⟩ := h
    rfl
  · obtain ⟨_, r, rfl, ⟨a, rfl, hS⟩, k⟩ := h
    refine ⟨_, (pss_cons (ps_asg (pv 0) (pg_tup rfl (pgs_cons (pg_name (i := 1) nd rfl (Or.inl rfl)) (pgs_cons (pg_name (i := 2) nd rfl (Or.inl rfl)) (pgs_cons (pg_name (i := 3) nd rfl (Or.inl rfl)) (pgs_cons (pg_name (i := 4) nd rfl (Or.inl rfl)) pgs_nil))))))
      (pss_one (ps_ret (pe_tup (pa_cons (pv 1) (pa_cons (pv 2) (pa_cons (pe_op op_add (pv 1) (pv 3)) (pa_cons (pe_op op_add (pv 2) (pv 4)) pa_nil)))))))), ?_⟩
    refine ⟨_, rfl, a, _, rfl, hS, rfl, ?_⟩
    repeat walk_at "rd1"
    exact ⟨(show 4 ≤ sizeLine by decide), fun p hp => k p hp⟩
theorem df_inside (M : Blt mg) (A : At K mg "inside" s_inside) (D_edges : Df P w K mg base 1 "edges" ["rectangle"] (sp_edges K)) : Df P w K mg base 2 "inside" ["first", "second"] (sp_inside K) := by
  have nd := sc_inside.nd
  refine Df.of A (fun _ _ _ _ _ _ us hl => match us, hl with | [_, _], _ => rfl) sc_inside (fun vs H Q E h => ?_) (fun cdv A out f s H vs Q E hr hgd h => ?_)
  · obtain ⟨u, v, a, b, rfl, _⟩ := h
    rfl
  · obtain ⟨u, v, a, b, rfl, hu, hv, k⟩ := h
    refine ⟨_, (pss_cons (ps_asg (pe_df D_edges (hr.mono (by decide)) hgd rfl (pa_cons (pv 0) pa_nil)) (pg_tup rfl (pgs_cons (pg_name (i := 2) nd rfl (Or.inl rfl)) (pgs_cons (pg_name (i := 3) nd rfl (Or.inl rfl)) (pgs_cons (pg_name (i := 4) nd rfl (Or.inl rfl)) (pgs_cons (pg_name (i := 5) nd rfl (Or.inl rfl)) pgs_nil))))))
      (pss_cons (ps_asg (pe_df D_edges (hr.mono (by decide)) hgd rfl (pa_cons (pv 1) pa_nil)) (pg_tup rfl (pgs_cons (pg_name (i := 6) nd rfl (Or.inl rfl)) (pgs_cons (pg_name (i := 7) nd rfl (Or.inl rfl)) (pgs_cons (pg_name (i := 8) nd rfl (Or.inl rfl)) (pgs_cons (pg_name (i := 9) nd rfl (Or.inl rfl)) pgs_nil))))))
      (pss_one (ps_ret (pe_and (pe_cmpR op_le (pv 6) (pv 2) (nomark _)) (pe_and (pe_cmpR op_le (pv 7) (pv 3) (nomark _)) (pe_and (pe_cmpR op_le (pv 4) (pv 8) (nomark _)) (pe_one (pe_cmpR op_le (pv 5) (pv 9) (nomark _)))))))))), ?_⟩
    refine ⟨_, rfl, u, a, rfl, hu, fun p hp => ⟨p, _, rfl, SqT.of upd_same, rfl, ?_⟩⟩
    repeat walk_at "rd1"
    refine ⟨v, b, rfl, hv.same (Same.new hp), fun q hq => ⟨q, _, rfl, SqT.of upd_same, rfl, ?_⟩⟩
    repeat walk_at "rd1"
    have sm : Same H (upd (upd H p (.tup a.es)) q (.tup b.es)) := (Same.new hp).trans (Same.new hq)
    have k' : ∀ c, In a b = c → Q (.bl c) (upd (upd H p (.tup a.es)) q (.tup b.es)) := fun c e => by rw [← e]; exact k _ sm
    refine if_dec (fun c1 => ?_) (fun c1 => k' _ (by simp [In, c1]))
    repeat walk_at "rd1"
    refine if_dec (fun c2 => ?_) (fun c2 => k' _ (by simp [In, c2]))
    repeat walk_at "rd1"
    refine if_dec (fun c3 => ?_) (fun c3 => k' _ (by simp [In, c3]))
    repeat walk_at "rd1"
    exact k' _ (by simp [In, c1, c2, c3])
end
section
variable {P : Program} {w : World} {K : PySem.W.Frag} {mg : Str → Option Value} {base : Heap}
theorem df_hull (M : Blt mg) (A : At K mg "hull" s_hull) (D_edges : Df P w K mg base 1 "edges" ["rectangle"] (sp_edges K)) : Df P w K mg base 2 "hull" ["rectangles"] (sp_hull K) := by
  have nd := sc_hull.nd
  refine Df.of A (fun _ _ _ _ _ _ us hl => match us, hl with | [_], _ => rfl) sc_hull (fun vs H Q E h => ?_) (fun cdv A out f s H vs Q E hr hgd h => ?_)
  · obtain ⟨a, xs, rs, rfl, _⟩ := h
    rfl
  · obtain ⟨a, xs, rs, rfl, hS, hR, hn, k0, k1⟩ := h
    refine ⟨_, (pss_cons (ps_if (pt_not (truK K (pv 0))) (pss_one (ps_ret pe_non)) pss_nil)
      (pss_cons (ps_setLc (i := 1) (own := [("rectangle", 2)]) (g := (gName 2)) (tt := tYes) rfl nd rfl rfl (sw_true rfl rfl rfl (by decide +kernel)) (pi_tup (pv 0)) (blkOk_by (N := ["rectangles", "sides", "rectangle", "left", "top", "side", "right", "bottom"]) (sc := defScope s_hull) (by decide +kernel)) (fun _ _ _ _ _ => pg_name (i := 2) nd rfl (Or.inl rfl)) (fun _ _ _ _ _ => pts_nil) (fun _ _ _ _ _ => (pe_df D_edges (hr.mono (by decide)) hgd rfl (pa_cons (pv 2) pa_nil))))
      (pss_cons (ps_par (i := 3) (j := 4) (by rfl) nd rfl rfl (by decide) rfl rfl (pa_cons (pe_callB (minK K rfl) (by rfl) M.min (by decide +kernel) (pa_cons (pe_lc (own := [("side", 5)]) (g := (gName 5)) (tt := tYes) rfl nd (pi_list (pv 1)) (blkOk_by (N := ["rectangles", "sides", "rectangle", "left", "top", "side", "right", "bottom"]) (sc := defScope s_hull) (by decide +kernel)) (fun _ _ _ _ _ => pg_name (i := 5) nd rfl (Or.inl rfl)) (fun _ _ _ _ _ => pts_nil) (fun _ _ _ _ _ => (pe_ix (ixT K) (pv 5) pe_int (fun _ _ => rfl)))) pa_nil)) (pa_cons (pe_callB (minK K rfl) (by rfl) M.min (by decide +kernel) (pa_cons (pe_lc (own := [("side", 5)]) (g := (gName 5)) (tt := tYes) rfl nd (pi_list (pv 1)) (blkOk_by (N := ["rectangles", "sides", "rectangle", "left", "top", "side", "right", "bottom"]) (sc := defScope s_hull) (by decide +kernel)) (fun _ _ _ _ _ => pg_name (i := 5) nd rfl (Or.inl rfl)) (fun _ _ _ _ _ => pts_nil) (fun _ _ _ _ _ => (pe_ix (ixT K) (pv 5) pe_int (fun _ _ => rfl)))) pa_nil)) pa_nil)) (by rfl))
      (pss_cons (ps_par (i := 6) (j := 7) (by rfl) nd rfl rfl (by decide) rfl rfl (pa_cons (pe_callB (maxK K rfl) (by rfl) M.max (by decide +kernel) (pa_cons (pe_lc (own := [("side", 5)]) (g := (gName 5)) (tt := tYes) rfl nd (pi_list (pv 1)) (blkOk_by (N := ["rectangles", "sides", "rectangle", "left", "top", "side", "right", "bottom"]) (sc := defScope s_hull) (by decide +kernel)) (fun _ _ _ _ _ => pg_name (i := 5) nd rfl (Or.inl rfl)) (fun _ _ _ _ _ => pts_nil) (fun _ _ _ _ _ => (pe_ix (ixT K) (pv 5) pe_int (fun _ _ => rfl)))) pa_nil)) (pa_cons (pe_callB (maxK K rfl) (by rfl) M.max (by decide +kernel) (pa_cons (pe_lc (own := [("side", 5)]) (g := (gName 5)) (tt := tYes) rfl nd (pi_list (pv 1)) (blkOk_by (N := ["rectangles", "sides", "rectangle", "left", "top", "side", "right", "bottom"]) (sc := defScope s_hull) (by decide +kernel)) (fun _ _ _ _ _ => pg_name (i := 5) nd rfl (Or.inl rfl)) (fun _ _ _ _ _ => pts_nil) (fun _ _ _ _ _ => (pe_ix (ixT K) (pv 5) pe_int (fun _ _ => rfl)))) pa_nil)) pa_nil)) (by rfl))
      (pss_one (ps_ret (pe_tup (pa_cons (pv 3) (pa_cons (pv 4) (pa_cons (pe_op op_sub (pv 6) (pv 3)) (pa_cons (pe_op op_sub (pv 7) (pv 4)) pa_nil))))))))))), ?_⟩
    have hl := hR.len
    have hz : xs.length ≤ sizeLine := by have : sizeLine = 16777216 := by decide
                                         omega
    refine ⟨_, rfl, _, (show TruV _ _ _ _ from Or.inr (Or.inl ⟨_, hS, rfl⟩)), ?_⟩
    refine if_nbool (fun hb => ?_) (fun hb => ?_)
    · have e : rs = [] := by
        cases xs with
        | nil => exact List.eq_nil_of_length_eq_zero hl.symm
        | cons x xs => cases hb
      exact k0 e
    · have ne : rs ≠ [] := by
        intro e
        subst e
        cases xs with
        | nil => cases hb
        | cons x xs => cases hl
      refine ⟨_, rfl, a, rfl, ⟨_, hS⟩, fun D hD => comp_tup (K := K) (a := a) (fun i v H' => ∃ r p, rs[i]? = some r ∧ v = .ref p ∧ H' p = some (.tup r.es)) (fun i v H1 H2 h im => ?_) hS hz hD (fun i x hx H1 sm Q' hQ => ?_) fun H1 ys sm hys hly hP => ?_⟩
      · obtain ⟨r, p, h1, h2, h3⟩ := h
        exact ⟨r, p, h1, h2, im.tup _ _ h3⟩
      · obtain ⟨r, hr'⟩ := get_len hl hx
        exact ⟨_, rfl, x, r, rfl, (hR.at_ i x r hx hr').same sm, fun p hp => hQ _ _ (Same.new hp) ⟨r, p, hr', rfl, upd_same⟩⟩
      · have hl2 : ys.length = rs.length := hly.trans hl
        have hz2 : ys.length ≤ sizeLine := by rw [hly]; exact hz
        -- one column of the sides
        have col : ∀ {i : Nat} {x : V} {r : R}, ys[i]? = some x → rs[i]? = some r → ∀ {H2 : Hp}, Same H1 H2 → ∃ p, x = .ref p ∧ H2 p = some (.tup r.es) := fun {i x r} h1 h2 {H2} sm2 => by
          obtain ⟨r', p, e1, e2, e3⟩ := hP i x h1
          cases (h2.symm.trans e1)
          exact ⟨p, e2, sm2 _ _ e3⟩
        refine ⟨_, rfl, D, rfl, ⟨_, SqL.of hys⟩, fun D1 hD1 => map_list (K := K) (a := D) rs (fun r => V.int r.l) (SqL.of hys) hz2 hl2 hD1 (fun i x r hx hr' H2 sm2 Q' hQ => ?_) fun H2 sm2 hD2 => ?_⟩
        · obtain ⟨p, rfl, hp⟩ := col hx hr' sm2
          exact ⟨_, rfl, p, _, _, _, rfl, rfl, SqT.of hp, rfl, hQ _ (Same.refl _)⟩
        · rw [map_vs] at hD2
          refine ⟨D1, _, rfl, SqL.of hD2, map_nil _ ne, fun L hL1 hL2 => ?_⟩
          have m2 : Same H1 H2 := sm2
          refine ⟨_, rfl, D, rfl, ⟨_, SqL.of (m2 _ _ hys)⟩, fun D2 hD2' => map_list (K := K) (a := D) rs (fun r => V.int r.t) (SqL.of (m2 _ _ hys)) hz2 hl2 hD2' (fun i x r hx hr' H3 sm3 Q' hQ => ?_) fun H3 sm3 hD3 => ?_⟩
          · obtain ⟨p, rfl, hp⟩ := col hx hr' (m2.trans sm3)
            exact ⟨_, rfl, p, _, _, _, rfl, rfl, SqT.of hp, rfl, hQ _ (Same.refl _)⟩
          rw [map_vs] at hD3
          refine ⟨D2, _, rfl, SqL.of hD3, map_nil _ ne, fun T hT1 hT2 => ⟨_, _, rfl, ?_⟩⟩
          have m3 : Same H1 H3 := m2.trans sm3
          refine ⟨_, rfl, D, rfl, ⟨_, SqL.of (m3 _ _ hys)⟩, fun D3 hD3' => map_list (K := K) (a := D) rs (fun r => V.int (r.l + r.w)) (SqL.of (m3 _ _ hys)) hz2 hl2 hD3' (fun i x r hx hr' H4 sm4 Q' hQ => ?_) fun H4 sm4 hD4 => ?_⟩
          · obtain ⟨p, rfl, hp⟩ := col hx hr' (m3.trans sm4)
            exact ⟨_, rfl, p, _, _, _, rfl, rfl, SqT.of hp, rfl, hQ _ (Same.refl _)⟩
          rw [map_vs] at hD4
          refine ⟨D3, _, rfl, SqL.of hD4, map_nil _ ne, fun Rt hR1 hR2 => ?_⟩
          have m4 : Same H1 H4 := m3.trans sm4
          refine ⟨_, rfl, D, rfl, ⟨_, SqL.of (m4 _ _ hys)⟩, fun D4 hD4' => map_list (K := K) (a := D) rs (fun r => V.int (r.t + r.h)) (SqL.of (m4 _ _ hys)) hz2 hl2 hD4' (fun i x r hx hr' H5 sm5 Q' hQ => ?_) fun H5 sm5 hD5 => ?_⟩
          · obtain ⟨p, rfl, hp⟩ := col hx hr' (m4.trans sm5)
            exact ⟨_, rfl, p, _, _, _, rfl, rfl, SqT.of hp, rfl, hQ _ (Same.refl _)⟩
          rw [map_vs] at hD5
          refine ⟨D4, _, rfl, SqL.of hD5, map_nil _ ne, fun B hB1 hB2 => ⟨_, _, rfl, ?_⟩⟩
          repeat walk_at "rd1"
          refine ⟨(show 4 ≤ sizeLine by decide), fun p hp => ?_⟩
          refine k1 ne ⟨L, T, Rt - L, B - T⟩ p _ (hull_of hL1 hL2 hT1 hT2 hR1 hR2 hB1 hB2) (((sm.trans m4).trans sm5).trans (Same.new hp)) upd_same
theorem df_law_hull (M : Blt mg) (A : At K mg "_law_hull" s_law_hull) : Df P w K mg base 1 "_law_hull" ["rectangles"] (sp_law_hull K) := by
  have nd := sc_law_hull.nd
  refine Df.of A (fun _ _ _ _ _ _ us hl => match us, hl with | [_], _ => rfl) sc_law_hull (fun vs H Q E h => ?_) (fun cdv A out f s H vs Q E hr hgd h => ?_)
  · obtain ⟨a, xs, rs, rfl, _⟩ := h
    rfl
  · obtain ⟨a, xs, rs, rfl, hS, hR, hn, ne, k1⟩ := h
    refine ⟨_, (pss_cons (ps_set (i := 1) nd rfl (Or.inl rfl) (pe_callB (minK K rfl) (by rfl) M.min (by decide +kernel) (pa_cons (pe_lc (own := [("one", 2)]) (g := (gName 2)) (tt := tYes) rfl nd (pi_list (pv 0)) (blkOk_by (N := ["rectangles", "left", "one", "top", "right", "low"]) (sc := defScope s_law_hull) (by decide +kernel)) (fun _ _ _ _ _ => pg_name (i := 2) nd rfl (Or.inl rfl)) (fun _ _ _ _ _ => pts_nil) (fun _ _ _ _ _ => (pe_ix (ixT K) (pv 2) pe_int (fun _ _ => rfl)))) pa_nil)))
      (pss_cons (ps_set (i := 3) nd rfl (Or.inl rfl) (pe_callB (minK K rfl) (by rfl) M.min (by decide +kernel) (pa_cons (pe_lc (own := [("one", 2)]) (g := (gName 2)) (tt := tYes) rfl nd (pi_list (pv 0)) (blkOk_by (N := ["rectangles", "left", "one", "top", "right", "low"]) (sc := defScope s_law_hull) (by decide +kernel)) (fun _ _ _ _ _ => pg_name (i := 2) nd rfl (Or.inl rfl)) (fun _ _ _ _ _ => pts_nil) (fun _ _ _ _ _ => (pe_ix (ixT K) (pv 2) pe_int (fun _ _ => rfl)))) pa_nil)))
      (pss_cons (ps_set (i := 4) nd rfl (Or.inl rfl) (pe_callB (maxK K rfl) (by rfl) M.max (by decide +kernel) (pa_cons (pe_lc (own := [("one", 2)]) (g := (gName 2)) (tt := tYes) rfl nd (pi_list (pv 0)) (blkOk_by (N := ["rectangles", "left", "one", "top", "right", "low"]) (sc := defScope s_law_hull) (by decide +kernel)) (fun _ _ _ _ _ => pg_name (i := 2) nd rfl (Or.inl rfl)) (fun _ _ _ _ _ => pts_nil) (fun _ _ _ _ _ => (pe_op op_add (pe_ix (ixT K) (pv 2) pe_int (fun _ _ => rfl)) (pe_ix (ixT K) (pv 2) pe_int (fun _ _ => rfl))))) pa_nil)))
      (pss_cons (ps_set (i := 5) nd rfl (Or.inl rfl) (pe_callB (maxK K rfl) (by rfl) M.max (by decide +kernel) (pa_cons (pe_lc (own := [("one", 2)]) (g := (gName 2)) (tt := tYes) rfl nd (pi_list (pv 0)) (blkOk_by (N := ["rectangles", "left", "one", "top", "right", "low"]) (sc := defScope s_law_hull) (by decide +kernel)) (fun _ _ _ _ _ => pg_name (i := 2) nd rfl (Or.inl rfl)) (fun _ _ _ _ _ => pts_nil) (fun _ _ _ _ _ => (pe_op op_add (pe_ix (ixT K) (pv 2) pe_int (fun _ _ => rfl)) (pe_ix (ixT K) (pv 2) pe_int (fun _ _ => rfl))))) pa_nil)))
      (pss_one (ps_ret (pe_tup (pa_cons (pv 1) (pa_cons (pv 3) (pa_cons (pe_op op_sub (pv 4) (pv 1)) (pa_cons (pe_op op_sub (pv 5) (pv 3)) pa_nil))))))))))), ?_⟩
    have hl := hR.len
    have hz : xs.length ≤ sizeLine := by have : sizeLine = 16777216 := by decide
                                         omega
    have col : ∀ {i : Nat} {x : V} {r : R}, xs[i]? = some x → rs[i]? = some r → ∀ {H2 : Hp}, Same H H2 → ∃ p, x = .ref p ∧ SqT K H2 p r.vs := fun {i x r} h1 h2 {H2} sm2 => (hR.at_ i x r h1 h2).same sm2
    refine ⟨_, rfl, a, rfl, ⟨_, hS⟩, fun D1 hD1 => map_list (K := K) (a := a) rs (fun r => V.int r.l) hS hz hl hD1 (fun i x r hx hr' H2 sm2 Q' hQ => ?_) fun H2 sm2 hD2 => ?_⟩
    · obtain ⟨p, rfl, hp⟩ := col hx hr' sm2
      exact ⟨_, rfl, p, _, _, _, rfl, rfl, hp, rfl, hQ _ (Same.refl _)⟩
    rw [map_vs] at hD2
    refine ⟨D1, _, rfl, SqL.of hD2, map_nil _ ne, fun L hL1 hL2 => ?_⟩
    refine ⟨_, rfl, a, rfl, ⟨_, sm2.seq hS⟩, fun D2 hD2' => map_list (K := K) (a := a) rs (fun r => V.int r.t) (sm2.seq hS) hz hl hD2' (fun i x r hx hr' H3 sm3 Q' hQ => ?_) fun H3 sm3 hD3 => ?_⟩
    · obtain ⟨p, rfl, hp⟩ := col hx hr' (sm2.trans sm3)
      exact ⟨_, rfl, p, _, _, _, rfl, rfl, hp, rfl, hQ _ (Same.refl _)⟩
    rw [map_vs] at hD3
    refine ⟨D2, _, rfl, SqL.of hD3, map_nil _ ne, fun T hT1 hT2 => ?_⟩
    have m3 : Same H H3 := sm2.trans sm3
    refine ⟨_, rfl, a, rfl, ⟨_, m3.seq hS⟩, fun D3 hD3' => map_list (K := K) (a := a) rs (fun r => V.int (r.l + r.w)) (m3.seq hS) hz hl hD3' (fun i x r hx hr' H4 sm4 Q' hQ => ?_) fun H4 sm4 hD4 => ?_⟩
    · obtain ⟨p, rfl, hp⟩ := col hx hr' (m3.trans sm4)
      exact ⟨_, rfl, p, _, _, _, rfl, rfl, hp, rfl, _, rfl, p, _, _, _, rfl, rfl, hp, rfl, _, _, rfl, rfl, hQ _ (Same.refl _)⟩
    rw [map_vs] at hD4
    refine ⟨D3, _, rfl, SqL.of hD4, map_nil _ ne, fun Rt hR1 hR2 => ?_⟩
    have m4 : Same H H4 := m3.trans sm4
    refine ⟨_, rfl, a, rfl, ⟨_, m4.seq hS⟩, fun D4 hD4' => map_list (K := K) (a := a) rs (fun r => V.int (r.t + r.h)) (m4.seq hS) hz hl hD4' (fun i x r hx hr' H5 sm5 Q' hQ => ?_) fun H5 sm5 hD5 => ?_⟩
    · obtain ⟨p, rfl, hp⟩ := col hx hr' (m4.trans sm5)
      exact ⟨_, rfl, p, _, _, _, rfl, rfl, hp, rfl, _, rfl, p, _, _, _, rfl, rfl, hp, rfl, _, _, rfl, rfl, hQ _ (Same.refl _)⟩
    rw [map_vs] at hD5
    refine ⟨D4, _, rfl, SqL.of hD5, map_nil _ ne, fun B hB1 hB2 => ?_⟩
    repeat walk_at "rd1"
    refine ⟨(show 4 ≤ sizeLine by decide), fun p hp => ?_⟩
    exact k1 ⟨L, T, Rt - L, B - T⟩ p _ (hull_of hL1 hL2 hT1 hT2 hR1 hR2 hB1 hB2) ((m4.trans sm5).trans (Same.new hp)) upd_same
end
section
variable {P : Program} {w : World} {K : PySem.W.Frag} {mg : Str → Option Value} {base : Heap}
theorem fn_law {f : Addr} {fd : FuncData} (M : Blt mg) (F : Fun K "law" "law" s_law f fd) (D_law_tape : Df P w K mg base 1 "_law_tape" ["script"] (sp_law_tape K)) (D_hull : Df P w K mg base 2 "hull" ["rectangles"] (sp_hull K)) (D_law_draw : Df P w K mg base 1 "_law_draw" ["tape", "many"] (sp_law_draw K)) (D_inside : Df P w K mg base 2 "inside" ["first", "second"] (sp_inside K)) (D_law_hull : Df P w K mg base 1 "_law_hull" ["rectangles"] (sp_law_hull K)) : FnG P w K mg base 3 f fd ["script"] (spLaw K) := by
  have nd := sc_law.nd
  refine FnG.of F sc_law (fun vs H Q E h => ?_) (fun cdv A out s H vs Q E hr hgd h => ?_)
  · obtain ⟨a, ns, rfl, _⟩ := h
    rfl
  · obtain ⟨a, ns, rfl, hS, hlen, k⟩ := h
    refine ⟨_, (pss_cons (ps_set (i := 1) nd rfl (Or.inl rfl) (pe_df D_law_tape (hr.mono (by decide)) hgd rfl (pa_cons (pv 0) pa_nil)))
      (pss_cons (ps_set (i := 2) nd rfl (Or.inl rfl) (pe_op op_sub (pe_df D_law_draw (hr.mono (by decide)) hgd rfl (pa_cons (pv 1) (pa_cons pe_int pa_nil))) pe_int))
      (pss_cons (ps_set (i := 3) nd rfl (Or.inl rfl) (pe_op op_sub (pe_df D_law_draw (hr.mono (by decide)) hgd rfl (pa_cons (pv 1) (pa_cons pe_int pa_nil))) pe_int))
      (pss_cons (ps_set (i := 4) nd rfl (Or.inl rfl) (pe_lst pa_nil))
      (C8.pss_cut (ps_for PassesOwn.never rfl (pi_range1 rfl M.range (pa_cons (pe_df D_law_draw (hr.mono (by decide)) hgd rfl (pa_cons (pv 1) (pa_cons pe_int pa_nil))) pa_nil)) (pg_name (i := 5) nd rfl (Or.inl rfl)) (pss_cons (ps_set (i := 6) nd rfl (Or.inl rfl) (pe_tup (pa_cons (pe_op op_add (pv 2) (pe_df D_law_draw (hr.mono (by decide)) hgd rfl (pa_cons (pv 1) (pa_cons pe_int pa_nil)))) (pa_cons (pe_op op_add (pv 3) (pe_df D_law_draw (hr.mono (by decide)) hgd rfl (pa_cons (pv 1) (pa_cons pe_int pa_nil)))) (pa_cons (pe_df D_law_draw (hr.mono (by decide)) hgd rfl (pa_cons (pv 1) (pa_cons pe_int pa_nil))) (pa_cons (pe_ix (ixL K) (pe_lst (pa_cons pe_int (pa_cons pe_int (pa_cons pe_int (pa_cons pe_int pa_nil))))) (pe_df D_law_draw (hr.mono (by decide)) hgd rfl (pa_cons (pv 1) (pa_cons pe_int pa_nil))) (fun _ _ => rfl)) pa_nil))))))
      (C8.pss_cut (ps_if (PW.pt (pw_and (truK K (pv 4)) (pw_and1 (pt_cmpR op_eq (pe_df D_law_draw (hr.mono (by decide)) hgd rfl (pa_cons (pv 1) (pa_cons pe_int pa_nil))) pe_int (nomark _))))) (pss_one (ps_set (i := 6) nd rfl (Or.inl rfl) (pe_ix (ixL K) (pv 4) (pe_df D_law_draw (hr.mono (by decide)) hgd rfl (pa_cons (pv 1) (pa_cons (pe_callB (lenK K) (by rfl) M.len (by decide +kernel) (pa_cons (pv 4) pa_nil)) pa_nil))) (fun _ _ => rfl)))) pss_nil)
      (pss_one (ps_expr (pe_bm PySem.F.plainAttrs_list PySem.F.slot_list_append PySem.F.type_list_append mt_append (pv 4) (pa_cons (pv 6) pa_nil)))))))
      (pss_cons (ps_set (i := 7) nd rfl (Or.inl rfl) (pe_df D_hull (hr.mono (by decide)) hgd rfl (pa_cons (pe_callTy (tupK K) (by rfl) M.tuple (by decide +kernel) (pa_cons (pv 4) pa_nil)) pa_nil)))
      (pss_cons (ps_if (pt_not (truK K (pv 4))) (pss_one (ps_ret (pe_cmpR op_isN (pv 7) pe_non (nomark _)))) pss_nil)
      (C8.pss_cut (ps_if (PW.pt (pw_or (pt_cmpR op_ne (pe_callB (reprK K hr.units hgd) (by rfl) M.repr (by decide +kernel) (pa_cons (pv 7) pa_nil)) (pe_callB (reprK K hr.units hgd) (by rfl) M.repr (by decide +kernel) (pa_cons (pe_df D_law_hull (hr.mono (by decide)) hgd rfl (pa_cons (pv 4) pa_nil)) pa_nil)) (nomark _)) (pw_or1 (pt_cmpR op_ne (pe_callB (reprK K hr.units hgd) (by rfl) M.repr (by decide +kernel) (pa_cons (pe_df D_hull (hr.mono (by decide)) hgd rfl (pa_cons (RT.pe_tupRev rfl (by rfl) M.tuple (by rfl) M.reversed (pv 4)) pa_nil)) pa_nil)) (pe_callB (reprK K hr.units hgd) (by rfl) M.repr (by decide +kernel) (pa_cons (pv 7) pa_nil)) (nomark _))))) (pss_one (ps_ret pe_bl)) pss_nil)
      (pss_cons (ps_set (i := 8) nd rfl (Or.inl rfl) (pe_df D_law_draw (hr.mono (by decide)) hgd rfl (pa_cons (pv 1) (pa_cons pe_int pa_nil))))
      (pss_cons (ps_set (i := 9) nd rfl (Or.inl rfl) (pe_df D_law_draw (hr.mono (by decide)) hgd rfl (pa_cons (pv 1) (pa_cons pe_int pa_nil))))
      (pss_cons (ps_set (i := 10) nd rfl (Or.inl rfl) (pe_tup (pa_cons (pe_op op_sub (pe_ix (ixT K) (pv 7) pe_int (fun _ _ => rfl)) (pv 8)) (pa_cons (pe_op op_sub (pe_ix (ixT K) (pv 7) pe_int (fun _ _ => rfl)) (pv 9)) (pa_cons (pe_op op_add (pe_op op_add (pe_ix (ixT K) (pv 7) pe_int (fun _ _ => rfl)) (pv 8)) (pe_df D_law_draw (hr.mono (by decide)) hgd rfl (pa_cons (pv 1) (pa_cons pe_int pa_nil)))) (pa_cons (pe_op op_add (pe_op op_add (pe_ix (ixT K) (pv 7) pe_int (fun _ _ => rfl)) (pv 9)) (pe_df D_law_draw (hr.mono (by decide)) hgd rfl (pa_cons (pv 1) (pa_cons pe_int pa_nil)))) pa_nil))))))
      (C8.pss_cut (ps_if (pt_cmpR op_isnot_bl (pe_df D_inside (hr.mono (by decide)) hgd rfl (pa_cons (pv 7) (pa_cons (pv 10) pa_nil))) pe_bl (nomark _)) (pss_one (ps_ret pe_bl)) pss_nil)
      (pss_cons (ps_for PassesOwn.never rfl (pi_list (pv 4)) (pg_name (i := 6) nd rfl (Or.inl rfl)) (pss_one (ps_if (pt_cmpR op_isnot_bl (pe_df D_inside (hr.mono (by decide)) hgd rfl (pa_cons (pv 6) (pa_cons (pv 7) pa_nil))) pe_bl (nomark _)) (pss_one (ps_ret pe_bl)) pss_nil)))
      (pss_cons (ps_set (i := 11) nd rfl (Or.inl rfl) (pe_df D_law_draw (hr.mono (by decide)) hgd rfl (pa_cons (pv 1) (pa_cons (pe_op op_add (pe_callB (lenK K) (by rfl) M.len (by decide +kernel) (pa_cons (pv 4) pa_nil)) pe_int) pa_nil))))
      (pss_cons (ps_setLc (i := 12) (own := [("part", 13)]) (g := (gName 13)) rfl nd rfl rfl (sw_true rfl rfl rfl (by decide +kernel)) (pi_list (pe_lst (pa_cons (pe_slice (slL K) (pv 4) po_none (po_some (pv 11))) (pa_cons (pe_slice (slL K) (pv 4) (po_some (pv 11)) po_none) pa_nil)))) (blkOk_by (N := ["script", "tape", "x", "y", "found", "k", "one", "told", "left", "top", "wider", "at", "parts", "part"]) (sc := defScope s_law) (by decide +kernel)) (fun _ _ _ _ _ => pg_name (i := 13) nd rfl (Or.inl rfl)) (fun _ _ _ _ _ => pts_one (truK K (pv 13))) (fun _ _ _ _ _ => (pe_df D_hull (hr.mono (by decide)) hgd rfl (pa_cons (pe_callTy (tupK K) (by rfl) M.tuple (by decide +kernel) (pa_cons (pv 13) pa_nil)) pa_nil))))
      (pss_one (ps_ret (pe_cmpR op_eq (pe_callB (reprK K hr.units hgd) (by rfl) M.repr (by decide +kernel) (pa_cons (pe_df D_hull (hr.mono (by decide)) hgd rfl (pa_cons (pe_callTy (tupK K) (by rfl) M.tuple (by decide +kernel) (pa_cons (pv 12) pa_nil)) pa_nil)) pa_nil)) (pe_callB (reprK K hr.units hgd) (by rfl) M.repr (by decide +kernel) (pa_cons (pv 7) pa_nil)) (nomark _))))))))))))))))))), ?_⟩
    refine ⟨_, rfl, a, ns, rfl, hS, hlen, fun t l H1 sm0 T1 ht hl => ?_⟩
    refine ⟨_, rfl, t, l, _, rfl, T1, by decide, fun x0 H2 T2 a2 x1 x2 => ?_⟩
    repeat walk_at "rd1"
    refine ⟨t, l, _, rfl, T2, by decide, fun y0 H3 T3 a3 y1 y2 => ?_⟩
    repeat walk_at "rd1"
    refine ⟨(show 0 ≤ sizeLine by decide), fun q hq => ?_⟩
    have q1 := T3.ne_t hq
    have q2 := T3.ne_l hq
    refine ⟨(fun σ H' => ∃ (xs : List V) (rs : List R) (v5 v6 : Option V), σ = [some (.ref a), some (.ref t), some (.int (x0 - 90000)), some (.int (y0 - 90000)), some (.ref q), v5, v6, none, none, none, none, none, none, none] ∧
      TapeAt H' t l ∧ H' q = some (.lst xs) ∧ Rcs K H' xs rs ∧ rs.length ≤ 7 ∧ Fit rs), ?_, ?_⟩
    · repeat walk_at "rd1"
      refine ⟨t, l, _, rfl, T3.new hq, by decide, fun n0 H4 T4 a4 n1 n2 => ?_⟩
      have hq4 : H4 q = some (.lst []) := a4.at_ q1 upd_same
      refine ⟨_, rfl, by omega, by omega, for_range (lo := 0) (n := n0.toNat) (fun i σ H' => ∃ (xs : List V) (rs : List R) (v5 v6 : Option V), σ = [some (.ref a), some (.ref t), some (.int (x0 - 90000)), some (.int (y0 - 90000)), some (.ref q), v5, v6, none, none, none, none, none, none, none] ∧
        TapeAt H' t l ∧ H' q = some (.lst xs) ∧ Rcs K H' xs rs ∧ rs.length ≤ i ∧ Fit rs) ⟨[], [], none, none, rfl, T4, hq4, Rcs.nil, Nat.le_refl _, fun r h => absurd h List.not_mem_nil⟩ ?_ ?_⟩
      · rintro i σ H5 hi ⟨xs, rs, v5, v6, rfl, T5, hq5, R5, hl5, F5⟩
        have hi7 : i < 7 := by omega
        -- one = (x + .., y + .., .., [0, 1, 7, 30][..])
        repeat walk_at "rd1"
        refine ⟨t, l, _, rfl, T5, by decide, fun u H6 T6 a6 u1 u2 => ?_⟩
        repeat walk_at "rd1"
        refine ⟨t, l, _, rfl, T6, by decide, fun v H7 T7 a7 v1 v2 => ?_⟩
        repeat walk_at "rd1"
        refine ⟨t, l, _, rfl, T7, by decide, fun z H8 T8 a8 z1 z2 => ?_⟩
        refine ⟨(show 4 ≤ sizeLine by decide), fun b hb => ?_⟩
        have b1 := T8.ne_t hb
        repeat walk_at "rd1"
        refine ⟨t, l, _, rfl, T8.new hb, by decide, fun c H9 T9 a9 c1 c2 => ?_⟩
        obtain ⟨cv, hc1, hc2, hc3⟩ := atI_mem (xs := [V.int 0, V.int 1, V.int 7, V.int 30]) c1 (by show c < 4; omega)
        obtain ⟨d, rfl, d1, d2⟩ : ∃ d, cv = V.int d ∧ 0 ≤ d ∧ d ≤ 30 := by
          simp at hc3
          rcases hc3 with rfl | rfl | rfl | rfl
          · exact ⟨0, rfl, by decide, by decide⟩
          · exact ⟨1, rfl, by decide, by decide⟩
          · exact ⟨7, rfl, by decide, by decide⟩
          · exact ⟨30, rfl, by decide, by decide⟩
        refine ⟨b, _, _, _, rfl, rfl, SqL.of (a9.at_ b1 upd_same), hc1, (show 4 ≤ sizeLine by decide), fun p hp => ?_⟩
        have a68 : Al t H5 H8 := (a6.trans a7).trans a8
        have s59 : Gr t H5 H9 := (a68.gr.trans (Gr.new hb)).trans a9.gr
        have im : Im H5 (upd H9 p (.tup [.int (x0 - 90000 + u), .int (y0 - 90000 + v), .int z, .int d])) := (T5.im s59).trans (Im.new hp)
        have hq9 : H9 q = some (.lst xs) := s59 _ _ hq5 q1
        have np : q ≠ p := ne_of_none hq9 hp
        refine ⟨fun σ H' => ∃ (o : V) (r : R), σ = [some (.ref a), some (.ref t), some (.int (x0 - 90000)), some (.int (y0 - 90000)), some (.ref q), some (.int (0 + i)), some o, none, none, none, none, none, none, none] ∧
          TapeAt H' t l ∧ H' q = some (.lst xs) ∧ Rcs K H' xs rs ∧ Rc K H' o r ∧ Fit1 r, ?_, ?_⟩
        · have hqp : (upd H9 p (.tup [.int (x0 - 90000 + u), .int (y0 - 90000 + v), .int z, .int d])) q = some (.lst xs) := by rw [upd_ne np]; exact hq9
          have new : Rc K (upd H9 p (.tup [.int (x0 - 90000 + u), .int (y0 - 90000 + v), .int z, .int d])) (.ref p) ⟨x0 - 90000 + u, y0 - 90000 + v, z, d⟩ := ⟨p, rfl, SqT.of upd_same⟩
          have fit : Fit1 ⟨x0 - 90000 + u, y0 - 90000 + v, z, d⟩ := by
            refine ⟨?_, ?_, ?_, ?_, ?_, ?_, d1, d2⟩ <;> show _ ≤ _ <;> dsimp only <;> omega
          refine ⟨_, rfl, _, (show TruV K _ _ _ from Or.inl ⟨xs, SqL.of hqp, rfl⟩), ?_⟩
          refine if_bool (fun hb => ?_) (fun hb => ?_)
          · have pos : 0 < xs.length := by
              cases xs with
              | nil => cases hb
              | cons _ _ => show 0 < _ + 1; omega
            refine ⟨_, rfl, t, l, _, rfl, T9.new hp, by decide, fun e H10 T10 a10 e1 e2 => ⟨rfl, _, rfl, ?_⟩⟩
            have hq10 : H10 q = some (.lst xs) := a10.at_ q1 hqp
            have im10 : Im H5 H10 := im.trans ((T9.new hp).im a10.gr)
            refine if_int (fun _ => ?_) (fun _ => ?_)
            · refine ⟨_, rfl, _, rfl, _, rfl, _, _, rfl, (show LenV K _ _ _ from Or.inl ⟨_, SqL.of hq10, rfl⟩), t, l, _, rfl, T10, (by have := R5.len; omega), fun f H11 T11 a11 f1 f2 => ?_⟩
              obtain ⟨o, ho1, ho2, _⟩ := atI_mem (xs := xs) f1 (by omega)
              obtain ⟨r, hr⟩ := get_len R5.len ho2
              have im11 : Im H5 H11 := im10.trans (T10.im a11.gr)
              exact ⟨q, _, _, _, rfl, rfl, SqL.of (a11.at_ q1 hq10), ho1, o, r, rfl, T11, a11.at_ q1 hq10, R5.im im11, (R5.at_ _ o r ho2 hr).im im11, F5 r (List.mem_of_getElem? hr)⟩
            · exact ⟨.ref p, _, rfl, T10, hq10, R5.im im10, new.im ((T9.new hp).im a10.gr), fit⟩
          · exact iteF ⟨.ref p, _, rfl, T9.new hp, hqp, R5.im im, new, fit⟩
        · rintro σ H' ⟨o, r, rfl, T', hq', R', ho, hr⟩
          refine ⟨_, rfl, Or.inl ⟨rfl, _, SqL.of hq'⟩, _, rfl, q, xs, _, rfl, rfl, hq', ?_, ?_⟩
          · have := R'.len
            have : sizeLine = 16777216 := by decide
            omega
          · have im2 : Im H' (upd H' q (.lst (xs ++ [o]))) := Im.set hq'
            refine ⟨xs ++ [o], rs ++ [r], _, _, rfl, T'.upd q1 q2, upd_same, (R'.im im2).snoc (ho.im im2), by rw [List.length_append]; show rs.length + 1 ≤ _; omega, fun s hs => ?_⟩
            rcases List.mem_append.mp hs with h | h
            · exact F5 s h
            · rw [List.mem_singleton.mp h]; exact hr
      · rintro σ H5 ⟨xs, rs, v5, v6, rfl, T5, hq5, R5, hl5, F5⟩
        exact ⟨xs, rs, v5, v6, rfl, T5, hq5, R5, by omega, F5⟩
    rintro σ H5 ⟨xs, rs, v5, v6, rfl, T5, hq5, R5, hl5, F5⟩
    have hl := R5.len
    have hn7 : rs.length ≤ 7 := by omega
    have q5 : ∀ {b}, H5 b = none → b ≠ q := fun {b} h e => by rw [e, hq5] at h; cases h
    -- told = hull(tuple(found))
    refine ⟨_, rfl, q, xs, rfl, Or.inl ⟨SqL.of hq5, fun b hb => ⟨b, xs, rs, rfl, SqT.of upd_same, R5.im (Im.new hb), by omega, fun e => ?_, fun ne r p H6 hr6 sm hp => ?_⟩⟩⟩
    · subst e
      have ex : xs = [] := List.eq_nil_of_length_eq_zero hl
      subst ex
      refine ⟨_, rfl, _, (show TruV K _ _ _ from Or.inl ⟨[], SqL.of (by rw [upd_ne (q5 hb).symm]; exact hq5), rfl⟩), ?_⟩
      refine if_nbool (fun _ => ?_) (fun h => by cases h)
      exact ⟨_, rfl, rfl, k _⟩
    · have s56 : Same H5 H6 := (Same.new hb).trans sm
      have hq6 := s56 _ _ hq5
      have R6 : Rcs K H6 xs rs := R5.im (Im.same s56)
      have T6 : TapeAt H6 t l := T5.same s56
      have exs : xs.isEmpty = false := by
        cases xs with
        | nil => exact absurd (List.eq_nil_of_length_eq_zero hl.symm) ne
        | cons _ _ => rfl
      have told6 : Rc K H6 (.ref p) r := ⟨p, rfl, SqT.of hp⟩
      have bd := hull_fit F5 hr6
      have rep : RepOk r.d := R.rep bd
      refine ⟨_, rfl, _, (show TruV K _ _ _ from Or.inl ⟨xs, SqL.of hq6, rfl⟩), ?_⟩
      refine if_nbool (fun h => by rw [exs] at h; cases h) (fun _ => ?_)
      -- repr(told) != repr(_law_hull(found)) or ..
      refine ⟨fun σ H' => σ = [some (.ref a), some (.ref t), some (.int (x0 - 90000)), some (.int (y0 - 90000)), some (.ref q), v5, v6, some (.ref p), none, none, none, none, none, none] ∧ Same H6 H', ?_, ?_⟩
      · refine ⟨_, rfl, _, _, rfl, told6.dp, rep.sh, rep.nd, rep.dp, rep.sz, ?_⟩
        refine ⟨_, rfl, q, xs, rs, rfl, SqL.of hq6, R6, by omega, ne, fun r' p' H7 hr7 s67 hp' => ?_⟩
        have er : r' = r := hull_one hr7 hr6
        subst er
        have told7 : Rc K H7 (.ref p) r' := told6.same s67
        refine ⟨_, _, rfl, Rc.dp ⟨p', rfl, SqT.of hp'⟩, rep.sh, rep.nd, rep.dp, rep.sz, rfl, _, rfl, if_nstr (fun h => absurd rfl h) (fun _ => ?_)⟩
        refine ⟨_, rfl, q, xs, rfl, SqL.of (s67 _ _ hq6), fun b2 hb2 => ⟨b2, _, rs.reverse, rfl, SqT.of upd_same, (R6.im ((Im.same s67).trans (Im.new hb2))).reverse, by rw [List.length_reverse]; omega, fun e => absurd (List.reverse_eq_nil_iff.mp e) ne, fun _ r8 p8 H8 hr8 s78 hp8 => ?_⟩⟩
        have er : r8 = r' := hull_one (hull_rev hr8) hr6
        subst er
        have s68 : Same H6 H8 := (s67.trans (Same.new hb2)).trans s78
        refine ⟨_, _, rfl, Rc.dp ⟨p8, rfl, SqT.of hp8⟩, rep.sh, rep.nd, rep.dp, rep.sz, _, rfl, _, _, rfl, (told6.same s68).dp, rep.sh, rep.nd, rep.dp, rep.sz, rfl, _, rfl, if_nstr (fun h => absurd rfl h) (fun _ => ?_)⟩
        exact ⟨rfl, s68⟩
      rintro σ H8 ⟨rfl, s68⟩
      have T8 : TapeAt H8 t l := T6.same s68
      have hp8 := s68 _ _ hp
      have hq8 := s68 _ _ hq6
      have R8 : Rcs K H8 xs rs := R6.im (Im.same s68)
      -- wider
      refine ⟨_, rfl, t, l, _, rfl, T8, by decide, fun d1 H9 T9 a9 d11 d12 => ?_⟩
      refine ⟨_, rfl, t, l, _, rfl, T9, by decide, fun d2 H10 T10 a10 d21 d22 => ?_⟩
      have a8 : Al t H8 H10 := a9.trans a10
      have i8 : Im H8 H10 := T8.im a8.gr
      have hp10 : SqT K H10 p r.vs := SqT.of (i8.tup _ _ hp8)
      repeat walk_at "rd1"
      refine ⟨t, l, _, rfl, T10, by decide, fun d3 H11 T11 a11 d31 d32 => ⟨_, _, rfl, rfl, ?_⟩⟩
      have hp11 : SqT K H11 p r.vs := (T10.im a11.gr).sqT hp10
      repeat walk_at "rd1"
      refine ⟨t, l, _, rfl, T11, by decide, fun d4 H12 T12 a12 d41 d42 => ⟨_, _, rfl, rfl, ?_⟩⟩
      have a812 : Al t H8 H12 := (a8.trans a11).trans a12
      have i812 : Im H8 H12 := T8.im a812.gr
      refine ⟨(show 4 ≤ sizeLine by decide), fun p2 hp2 => ?_⟩
      have i813 : Im H8 (upd H12 p2 (.tup [.int (r.l - d1), .int (r.t - d2), .int (r.w + d1 + d3), .int (r.h + d2 + d4)])) := i812.trans (Im.new hp2)
      have hq13 : (upd H12 p2 (.tup [.int (r.l - d1), .int (r.t - d2), .int (r.w + d1 + d3), .int (r.h + d2 + d4)])) q = some (.lst xs) := (a812.gr.trans (Gr.new hp2)) _ _ hq8 q1
      have T13 := T12.new (o := .tup [.int (r.l - d1), .int (r.t - d2), .int (r.w + d1 + d3), .int (r.h + d2 + d4)]) hp2
      refine ⟨fun σ H' => ∃ v10, σ = [some (.ref a), some (.ref t), some (.int (x0 - 90000)), some (.int (y0 - 90000)), some (.ref q), v5, v6, some (.ref p), some (.int d1), some (.int d2), v10, none, none, none] ∧ Im H8 H' ∧ H' q = some (.lst xs) ∧ TapeAt H' t l, ?_, ?_⟩
      · refine ⟨_, rfl, _, rfl, .ref p, .ref p2, r, ⟨r.l - d1, r.t - d2, r.w + d1 + d3, r.h + d2 + d4⟩, rfl, ⟨p, rfl, SqT.of (i813.tup _ _ hp8)⟩, ⟨p2, rfl, SqT.of upd_same⟩, fun H14 sm14 => ⟨_, _, rfl, rfl, _, rfl, ?_⟩⟩
        refine if_ndec (fun h => absurd (in_wider (by omega) (by omega) (by omega) (by omega)) h) (fun _ => ?_)
        exact ⟨_, rfl, i813.trans (Im.same sm14), sm14 _ _ hq13, T13.same sm14⟩
      rintro σ H15 ⟨v10, rfl, i15, hq15, T15⟩
      have R15 : Rcs K H15 xs rs := R8.im i15
      have told15 : Rc K H15 (.ref p) r := ⟨p, rfl, SqT.of (i15.tup _ _ hp8)⟩
      -- each lies inside
      refine ⟨_, rfl, q, rfl, ⟨_, SqL.of hq15⟩, for_list (K := K) (a := q) (xs := xs) (fun i σ H' => ∃ v6, σ = [some (.ref a), some (.ref t), some (.int (x0 - 90000)), some (.int (y0 - 90000)), some (.ref q), v5, v6, some (.ref p), some (.int d1), some (.int d2), v10, none, none, none] ∧ Same H15 H')
        ⟨_, rfl, Same.refl _⟩ (fun i σ H' _ h => let ⟨_, _, s⟩ := h; SqL.of (s _ _ hq15)) ?_ ?_⟩
      · rintro i o σ H16 hi ⟨v6', rfl, s16⟩
        obtain ⟨s, hs⟩ := get_len hl hi
        refine ⟨_, rfl, _, rfl, o, .ref p, s, r, rfl, (R15.at_ i o s hi hs).same s16, told15.same s16, fun H17 sm17 => ⟨_, _, rfl, rfl, _, rfl, ?_⟩⟩
        refine if_ndec (fun h => absurd (in_hull hr6 (List.mem_of_getElem? hs)) h) (fun _ => ?_)
        exact ⟨_, rfl, s16.trans sm17⟩
      rintro σ H16 ⟨v6', rfl, s16⟩
      have hq16 := s16 _ _ hq15
      have T16 := T15.same s16
      have R16 := R15.im (Im.same s16)
      have told16 := told15.same s16
      refine ⟨_, rfl, _, rfl, _, _, rfl, (show LenV K _ _ _ from Or.inl ⟨_, SqL.of hq16, rfl⟩), _, _, rfl, rfl, ?_⟩
      refine ⟨t, l, _, rfl, T16, by omega, fun at_ H17 T17 a17 at1 at2 => ?_⟩
      have im17 : Im H16 H17 := T16.im a17.gr
      have hq17 := a17.at_ q1 hq16
      -- parts
      refine ⟨_, rfl, _, rfl, _, rfl, q, xs, rfl, SqL.of hq17, fun c1 hc1 => ?_⟩
      refine ⟨_, rfl, _, rfl, _, rfl, q, xs, rfl, SqL.of (Same.new hc1 _ _ hq17), fun c2 hc2 => ⟨(show 2 ≤ sizeLine by decide), fun c hc => ?_⟩⟩
      rw [cut_to at1, cut_from at1] at *
      have n21 : c1 ≠ c2 := ne_of_none upd_same hc2
      have n31 : c1 ≠ c := ne_of_none (by rw [upd_ne n21]; exact upd_same) hc
      have n32 : c2 ≠ c := ne_of_none upd_same hc
      have smc : Same H17 (upd (upd (upd H17 c1 (.lst (xs.take at_.toNat))) c2 (.lst (xs.drop at_.toNat))) c (.lst [.ref c1, .ref c2])) := ((Same.new hc1).trans (Same.new hc2)).trans (Same.new hc)
      have Rc17 : Rcs K (upd (upd (upd H17 c1 (.lst (xs.take at_.toNat))) c2 (.lst (xs.drop at_.toNat))) c (.lst [.ref c1, .ref c2])) xs rs := R16.im (im17.trans (Im.same smc))
      have toldc := told16.im (im17.trans (Im.same smc))
      have e1 : (upd (upd (upd H17 c1 (.lst (xs.take at_.toNat))) c2 (.lst (xs.drop at_.toNat))) c (.lst [.ref c1, .ref c2])) c1 = some (.lst (xs.take at_.toNat)) := by rw [upd_ne n31, upd_ne n21]; exact upd_same
      have e2 : (upd (upd (upd H17 c1 (.lst (xs.take at_.toNat))) c2 (.lst (xs.drop at_.toNat))) c (.lst [.ref c1, .ref c2])) c2 = some (.lst (xs.drop at_.toNat)) := by rw [upd_ne n32]; exact upd_same
      have e3 : (upd (upd (upd H17 c1 (.lst (xs.take at_.toNat))) c2 (.lst (xs.drop at_.toNat))) c (.lst [.ref c1, .ref c2])) c = some (.lst [.ref c1, .ref c2]) := upd_same
      generalize (upd (upd (upd H17 c1 (.lst (xs.take at_.toNat))) c2 (.lst (xs.drop at_.toNat))) c (.lst [.ref c1, .ref c2])) = Hc at *
      refine ⟨c, rfl, ⟨_, SqL.of e3⟩, fun D hD => lc_list (K := K) (a := c) (xs := [.ref c1, .ref c2]) (fun i H' => Same Hc H' ∧ ∃ ys hs, H' D = some (.lst ys) ∧ Rcs K H' ys hs ∧ ys.length ≤ i ∧ Parts ([rs.take at_.toNat, rs.drop at_.toNat].take i) hs)
        ⟨Same.new hD, [], [], upd_same, Rcs.nil, Nat.le_refl _, Parts.nil⟩ (fun i H' _ h => h.1.seq (SqL.of e3)) ?_ ?_⟩
      · rintro i o H18 hi ⟨s18, ys, hs, hD18, Rh, hly, PP⟩
        obtain ⟨ci, xi, ri, rfl, hci, hRi, hri, hi2⟩ : ∃ (ci : Addr) (xi : List V) (ri : List R), o = .ref ci ∧ H18 ci = some (.lst xi) ∧ Rcs K H18 xi ri ∧ ([rs.take at_.toNat, rs.drop at_.toNat] : List (List R))[i]? = some ri ∧ ri.length ≤ 7 := by
          match i, hi with
          | 0, hi => cases hi; exact ⟨c1, _, _, rfl, s18 _ _ e1, (Rc17.im (Im.same s18)).take _, rfl, by rw [List.length_take]; omega⟩
          | 1, hi => cases hi; exact ⟨c2, _, _, rfl, s18 _ _ e2, (Rc17.im (Im.same s18)).drop _, rfl, by rw [List.length_drop]; omega⟩
          | j + 2, hi => simp at hi
        have hlt : i < 2 := (List.getElem?_eq_some_iff.mp hi).1
        refine ⟨rfl, _, rfl, _, (show TruV K _ _ _ from Or.inl ⟨xi, SqL.of hci, rfl⟩), if_bool (fun hb => ?_) (fun hb => ?_)⟩
        · have nri : ri ≠ [] := by
            intro e
            subst e
            have : xi = [] := List.eq_nil_of_length_eq_zero hRi.len
            subst this
            cases hb
          refine ⟨_, rfl, ci, xi, rfl, Or.inl ⟨SqL.of hci, fun b hb => ⟨b, xi, ri, rfl, SqT.of upd_same, hRi.im (Im.new hb), by omega, fun e => absurd e nri, fun _ h p7 H19 hh s19 hp7 => ?_⟩⟩⟩
          have s89 : Same H18 H19 := (Same.new hb).trans s19
          have hD19 := s89 _ _ hD18
          have im20 : Im H19 (upd H19 D (.lst (ys ++ [.ref p7]))) := Im.set hD19
          refine ⟨ys, hD19, (by have h16 : sizeLine = 16777216 := (by decide); omega), fun b o e => ?_, ys ++ [.ref p7], hs ++ [h], upd_same, (Rh.im ((Im.same s89).trans im20)).snoc ⟨p7, rfl, im20.sqT (SqT.of hp7)⟩, by rw [List.length_append]; show _ + 1 ≤ _; omega, ?_⟩
          · rw [upd_ne (ne_of_none e hD)]; exact s89 _ _ (s18 _ _ e)
          · rw [List.take_add_one, hri]
            exact PP.snoc nri hh
        · have eri : ri = [] := by
            have : xi = [] := by
              cases xi with
              | nil => rfl
              | cons _ _ => cases hb
            subst this
            exact List.eq_nil_of_length_eq_zero hRi.len.symm
          refine ⟨s18, ys, hs, hD18, Rh, by omega, ?_⟩
          rw [List.take_add_one, hri, eri]
          exact PP.skip
      · rintro H18 ⟨s18, ys, hs, hD18, Rh, hly, PP⟩
        have cover : ∀ s ∈ rs, ∃ part ∈ ([rs.take at_.toNat, rs.drop at_.toNat] : List (List R)), s ∈ part := fun s hs => by
          rw [← List.take_append_drop at_.toNat rs] at hs
          rcases List.mem_append.mp hs with h | h
          · exact ⟨_, by simp, h⟩
          · exact ⟨rs.drop at_.toNat, by simp, h⟩
        have sub : ∀ part ∈ ([rs.take at_.toNat, rs.drop at_.toNat] : List (List R)), ∀ s ∈ part, s ∈ rs := fun part hp s hs => by
          simp at hp
          rcases hp with rfl | rfl
          · exact List.mem_of_mem_take hs
          · exact List.mem_of_mem_drop hs
        have PP' : Parts [rs.take at_.toNat, rs.drop at_.toNat] hs := PP
        have nhs : hs ≠ [] := by
          obtain ⟨s, hs1⟩ := List.exists_mem_of_ne_nil rs ne
          obtain ⟨part, hp1, hp2⟩ := cover s hs1
          obtain ⟨h, hh, _⟩ := PP'.b part hp1 (List.ne_nil_of_mem hp2)
          exact List.ne_nil_of_mem hh
        have told18 := toldc.same s18
        refine ⟨_, rfl, D, ys, rfl, Or.inl ⟨SqL.of hD18, fun b hb => ⟨b, ys, hs, rfl, SqT.of upd_same, Rh.im (Im.new hb), by rw [← Rh.len]; show _ ≤ 1000; have : ys.length ≤ 2 := hly; omega, fun e => absurd e nhs, fun _ h p9 H19 hh s19 hp9 => ?_⟩⟩⟩
        have eh : h = r := hull_one (hull_parts cover sub PP' hh) hr6
        subst eh
        have told19 := told18.same ((Same.new hb).trans s19)
        refine ⟨_, _, rfl, Rc.dp ⟨p9, rfl, SqT.of hp9⟩, rep.sh, rep.nd, rep.dp, rep.sz, _, rfl, _, _, rfl, told19.dp, rep.sh, rep.nd, rep.dp, rep.sz, rfl, ?_⟩
        show Q (.bl (decide (V.str h.d.shown = V.str h.d.shown))) _
        rw [decide_eq_true rfl]
        exact k _
end
theorem all_mk {l : PySem.W.OpenLaw} {w : World} {K : PySem.W.Frag} {h : Heap} {mg : Str → Option Value} {fa : Addr} (X : K.In h) (G : h.Ns mainGlobals mg) (hfa : mg "law" = some (.ref fa))
    {f_inside f_hull f_edges f_law_tape f_law_draw f_law_hull f_law : Addr}
    {od_inside an_inside : Option Addr} {sl_inside : Array (Option Value)} {oc_inside kV_inside dc_inside pm_inside cd_inside ct_inside : Value}
    {od_hull an_hull : Option Addr} {sl_hull : Array (Option Value)} {oc_hull kV_hull dc_hull pm_hull cd_hull ct_hull : Value}
    {od_edges an_edges : Option Addr} {sl_edges : Array (Option Value)} {oc_edges kV_edges dc_edges pm_edges cd_edges ct_edges : Value}
    {od_law_tape an_law_tape : Option Addr} {sl_law_tape : Array (Option Value)} {oc_law_tape kV_law_tape dc_law_tape pm_law_tape cd_law_tape ct_law_tape : Value}
    {od_law_draw an_law_draw : Option Addr} {sl_law_draw : Array (Option Value)} {oc_law_draw kV_law_draw dc_law_draw pm_law_draw cd_law_draw ct_law_draw : Value}
    {od_law_hull an_law_hull : Option Addr} {sl_law_hull : Array (Option Value)} {oc_law_hull kV_law_hull dc_law_hull pm_law_hull cd_law_hull ct_law_hull : Value}
    {od_law an_law : Option Addr} {sl_law : Array (Option Value)} {oc_law kV_law dc_law pm_law cd_law ct_law : Value}
    (a_inside : PySem.W.nsIn K mainGlobals "inside" = some (some (.ref f_inside))) (l_inside : K.lookup f_inside = some ⟨oc_inside, od_inside, .func (PySem.W.fnOf "inside" "inside" (defArgs s_inside) (defBody s_inside) (defScope s_inside) .none kV_inside dc_inside pm_inside an_inside cd_inside ct_inside), sl_inside⟩) (c_inside : PySem.W.codeIn K cd_inside "inside" = true) (k_inside : PySem.W.keepIn K (.ref f_inside) = true)
    (a_hull : PySem.W.nsIn K mainGlobals "hull" = some (some (.ref f_hull))) (l_hull : K.lookup f_hull = some ⟨oc_hull, od_hull, .func (PySem.W.fnOf "hull" "hull" (defArgs s_hull) (defBody s_hull) (defScope s_hull) .none kV_hull dc_hull pm_hull an_hull cd_hull ct_hull), sl_hull⟩) (c_hull : PySem.W.codeIn K cd_hull "hull" = true) (k_hull : PySem.W.keepIn K (.ref f_hull) = true)
    (a_edges : PySem.W.nsIn K mainGlobals "edges" = some (some (.ref f_edges))) (l_edges : K.lookup f_edges = some ⟨oc_edges, od_edges, .func (PySem.W.fnOf "edges" "edges" (defArgs s_edges) (defBody s_edges) (defScope s_edges) .none kV_edges dc_edges pm_edges an_edges cd_edges ct_edges), sl_edges⟩) (c_edges : PySem.W.codeIn K cd_edges "edges" = true) (k_edges : PySem.W.keepIn K (.ref f_edges) = true)
    (a_law_tape : PySem.W.nsIn K mainGlobals "_law_tape" = some (some (.ref f_law_tape))) (l_law_tape : K.lookup f_law_tape = some ⟨oc_law_tape, od_law_tape, .func (PySem.W.fnOf "_law_tape" "_law_tape" (defArgs s_law_tape) (defBody s_law_tape) (defScope s_law_tape) .none kV_law_tape dc_law_tape pm_law_tape an_law_tape cd_law_tape ct_law_tape), sl_law_tape⟩) (c_law_tape : PySem.W.codeIn K cd_law_tape "_law_tape" = true) (k_law_tape : PySem.W.keepIn K (.ref f_law_tape) = true)
    (a_law_draw : PySem.W.nsIn K mainGlobals "_law_draw" = some (some (.ref f_law_draw))) (l_law_draw : K.lookup f_law_draw = some ⟨oc_law_draw, od_law_draw, .func (PySem.W.fnOf "_law_draw" "_law_draw" (defArgs s_law_draw) (defBody s_law_draw) (defScope s_law_draw) .none kV_law_draw dc_law_draw pm_law_draw an_law_draw cd_law_draw ct_law_draw), sl_law_draw⟩) (c_law_draw : PySem.W.codeIn K cd_law_draw "_law_draw" = true) (k_law_draw : PySem.W.keepIn K (.ref f_law_draw) = true)
    (a_law_hull : PySem.W.nsIn K mainGlobals "_law_hull" = some (some (.ref f_law_hull))) (l_law_hull : K.lookup f_law_hull = some ⟨oc_law_hull, od_law_hull, .func (PySem.W.fnOf "_law_hull" "_law_hull" (defArgs s_law_hull) (defBody s_law_hull) (defScope s_law_hull) .none kV_law_hull dc_law_hull pm_law_hull an_law_hull cd_law_hull ct_law_hull), sl_law_hull⟩) (c_law_hull : PySem.W.codeIn K cd_law_hull "_law_hull" = true) (k_law_hull : PySem.W.keepIn K (.ref f_law_hull) = true)
    (a_law : PySem.W.nsIn K mainGlobals "law" = some (some (.ref f_law))) (l_law : K.lookup f_law = some ⟨oc_law, od_law, .func (PySem.W.fnOf "law" "law" (defArgs s_law) (defBody s_law) (defScope s_law) .none kV_law dc_law pm_law an_law cd_law ct_law), sl_law⟩) (c_law : PySem.W.codeIn K cd_law "law" = true) (k_law : PySem.W.keepIn K (.ref f_law) = true)
    (z_abs : PySem.W.nsIn K mainGlobals "abs" = some none) (z_int : PySem.W.nsIn K mainGlobals "int" = some none) (z_len : PySem.W.nsIn K mainGlobals "len" = some none) (z_list : PySem.W.nsIn K mainGlobals "list" = some none) (z_max : PySem.W.nsIn K mainGlobals "max" = some none) (z_min : PySem.W.nsIn K mainGlobals "min" = some none) (z_range : PySem.W.nsIn K mainGlobals "range" = some none) (z_repr : PySem.W.nsIn K mainGlobals "repr" = some none) (z_reversed : PySem.W.nsIn K mainGlobals "reversed" = some none) (z_tuple : PySem.W.nsIn K mainGlobals "tuple" = some none) :
    ∃ fd : FuncData, (∀ (s : Shared) (v : Value), BindsTo s fd ⟨[v], []⟩ [("script", v)]) ∧ ∀ base : Heap, K.In base → base.Ns mainGlobals mg → FnG l.prog w K mg base 3 fa fd ["script"] (spLaw K) := by
  have e := hfa.symm.trans (PySem.W.mg_of X G a_law)
  cases e
  have MB : Blt mg := ⟨PySem.W.mg_none_of X G z_abs, PySem.W.mg_none_of X G z_int, PySem.W.mg_none_of X G z_len, PySem.W.mg_none_of X G z_list, PySem.W.mg_none_of X G z_max, PySem.W.mg_none_of X G z_min, PySem.W.mg_none_of X G z_range, PySem.W.mg_none_of X G z_repr, PySem.W.mg_none_of X G z_reversed, PySem.W.mg_none_of X G z_tuple⟩
  have A_inside : At K mg "inside" s_inside := ⟨_, _, PySem.W.mg_of X G a_inside, fun_mk (st := s_inside) l_inside c_inside k_inside⟩
  have A_hull : At K mg "hull" s_hull := ⟨_, _, PySem.W.mg_of X G a_hull, fun_mk (st := s_hull) l_hull c_hull k_hull⟩
  have A_edges : At K mg "edges" s_edges := ⟨_, _, PySem.W.mg_of X G a_edges, fun_mk (st := s_edges) l_edges c_edges k_edges⟩
  have A_law_tape : At K mg "_law_tape" s_law_tape := ⟨_, _, PySem.W.mg_of X G a_law_tape, fun_mk (st := s_law_tape) l_law_tape c_law_tape k_law_tape⟩
  have A_law_draw : At K mg "_law_draw" s_law_draw := ⟨_, _, PySem.W.mg_of X G a_law_draw, fun_mk (st := s_law_draw) l_law_draw c_law_draw k_law_draw⟩
  have A_law_hull : At K mg "_law_hull" s_law_hull := ⟨_, _, PySem.W.mg_of X G a_law_hull, fun_mk (st := s_law_hull) l_law_hull c_law_hull k_law_hull⟩
  have A_law : At K mg "law" s_law := ⟨_, _, PySem.W.mg_of X G a_law, fun_mk (st := s_law) l_law c_law k_law⟩
  refine ⟨PySem.W.fnOf "law" "law" (defArgs s_law) (defBody s_law) (defScope s_law) .none kV_law dc_law pm_law an_law cd_law ct_law, fun s v => .of_eq rfl, fun base _ _ => ?_⟩
  have D_edges := df_edges (P := l.prog) (w := w) (base := base) MB A_edges
  have D_inside := df_inside (P := l.prog) (w := w) (base := base) MB A_inside D_edges
  have D_hull := df_hull (P := l.prog) (w := w) (base := base) MB A_hull D_edges
  have D_law_tape := df_law_tape (P := l.prog) (w := w) (base := base) MB A_law_tape
  have D_law_draw := df_law_draw (P := l.prog) (w := w) (base := base) MB A_law_draw
  have D_law_hull := df_law_hull (P := l.prog) (w := w) (base := base) MB A_law_hull
  exact fn_law MB (fun_mk (st := s_law) l_law c_law k_law) D_law_tape D_hull D_law_draw D_inside D_law_hull

end Cs
open PySem PySem.W PyProof.Rows
set_option maxRecDepth 100000 in
set_option maxHeartbeats 0 in
theorem PySem.Challenge.cw_chartspec_k38_hull_is_the_least_holds : PySem.Challenge.rw_chartspec_k38_hull_is_the_least.Holds := by
  w_on; o_law; k_head; (case hw => w_witness2)
  k_fill
  refine Cs.walkG (k := 3) (x := "script") (sp := Cs.spLaw) (l := PySem.Challenge.rw_chartspec_k38_hull_is_the_least) rfl (by decide) rfl ⟨rfl, by decide, by decide⟩ (fun w h Y => PySem.W.kIn_of Y) ?F Cs.law_start
  case F =>
    intro w mg fa h KX G hmg
    refine' Cs.all_mk KX G hmg ?a_inside ?l_inside ?c_inside ?k_inside ?a_hull ?l_hull ?c_hull ?k_hull ?a_edges ?l_edges ?c_edges ?k_edges ?a_law_tape ?l_law_tape ?c_law_tape ?k_law_tape ?a_law_draw ?l_law_draw ?c_law_draw ?k_law_draw ?a_law_hull ?l_law_hull ?c_law_hull ?k_law_hull ?a_law ?l_law ?c_law ?k_law ?z_abs ?z_int ?z_len ?z_list ?z_max ?z_min ?z_range ?z_repr ?z_reversed ?z_tuple
    (case a_inside => k_is)
    (case l_inside => k_is)
    (case c_inside => k_is)
    (case k_inside => k_is)
    (case a_hull => k_is)
    (case l_hull => k_is)
    (case c_hull => k_is)
    (case k_hull => k_is)
    (case a_edges => k_is)
    (case l_edges => k_is)
    (case c_edges => k_is)
    (case k_edges => k_is)
    (case a_law_tape => k_is)
    (case l_law_tape => k_is)
    (case c_law_tape => k_is)
    (case k_law_tape => k_is)
    (case a_law_draw => k_is)
    (case l_law_draw => k_is)
    (case c_law_draw => k_is)
    (case k_law_draw => k_is)
    (case a_law_hull => k_is)
    (case l_law_hull => k_is)
    (case c_law_hull => k_is)
    (case k_law_hull => k_is)
    (case a_law => k_is)
    (case l_law => k_is)
    (case c_law => k_is)
    (case k_law => k_is)
    (case z_abs => k_is)
    (case z_int => k_is)
    (case z_len => k_is)
    (case z_list => k_is)
    (case z_max => k_is)
    (case z_min => k_is)
    (case z_range => k_is)
    (case z_repr => k_is)
    (case z_reversed => k_is)
    (case z_tuple => k_is)
#print axioms PySem.Challenge.cw_chartspec_k38_hull_is_the_least_holds

