import PyProof.Rows.All
import Wide.All
import OpenK.AllK
import Wide.FinOn
import HandS.Base
import HandS.Call
import HandS.List
import HandS.Comp
import HandS.Ends
import HandS.Iter
import HandS.Text
import HandS.Words
import HandS.WordsList
import HandS.TupAny
import HandS.TupLe
import HandS.Rev
import HandS.Style
import HandS.Flow
import HandS.IsInst
import HandS.Codes
import HandS.FStrTup
import HandS.Walk
import HandS.More
import PyProof.StrBlock2
import PySem.Challenge.RW_chartspec_k40_widths_and_columns_of_text
set_option Elab.async false
set_option linter.all false
set_option maxRecDepth 100000
set_option maxHeartbeats 4000000
/-! The layer's promises with one thing more: no repr is under way (A.guards = some []). -/
namespace Cs
open PySem PySem.Spec PyProof.Rows L2

/-- a def's promise, given where no repr is under way -/
structure FnG (P : Program) (w : World) (K : PySem.W.Frag) (mg : Str → Option Value) (base : Heap) (k : Nat) (f : Addr) (fd : FuncData) (ps : List Str) (sp : Sp) : Prop where
  len : ∀ vs H Q E, sp vs H Q E → vs.length = ps.length
  go : ∀ (A : Around) (out : List Env) (s : Shared) (H : Hp) (args : Args) (us : List Value) (vs : List V) (Q : VK) (E : XK),
    Room k A → A.guards = some [] → Env0 P w K mg base A out s H → BindsTo s fd args (ps.zip us) → Vals vs us → sp vs H Q E →
    codeAny (model P w) A (.call (.ref f) args) (CR CX0 out P w H s Q E) s

section
variable {P : Program} {w : World} {K : PySem.W.Frag} {mg : Str → Option Value} {base : Heap}

/-- the contexts of bodies: as cxOf, nothing leaves the def -/
abbrev cxG (P : Program) (w : World) (K : PySem.W.Frag) (mg : Str → Option Value) (base : Heap) (N : List Str) (qual : Str) (sc : Scope) (f : Addr) (cd : Value) (A : Around) (out : List Env) (s : Shared) (H : Hp) (E : XK) : Cx :=
  (cxOf CX0 P w K mg base N qual sc f cd A out s H E).nox

/-- a def by its body -/
theorem FnG.of {x qual : Str} {st : Stmt} {f : Addr} {fd : FuncData} {N ps : List Str} {k : Nat} {sp : Sp} (F : Fun K x qual st f fd) (S : FnScope N ps (defScope st)) (len : ∀ vs H Q E, sp vs H Q E → vs.length = ps.length)
    (body : ∀ (cdv : Value) (A : Around) (out : List Env) (s : Shared) (H : Hp) (vs : List V) (Q : VK) (E : XK), Room k (A.deeper (envOfC qual (defScope st) s.heap.objs.size f cdv)) → A.guards = some [] → sp vs H Q E →
      ∃ t, PSs (cxG P w K mg base N qual (defScope st) f cdv A out s H E) (defBody st) t ∧ t { nx := fun _ H' => Q .non H', rt := Q } (start N vs) H) :
    FnG P w K mg base (k + 1) f fd ps sp := by
  obtain ⟨oc, od, kV, doc, pm, an, cdv, ct, osl, rfl, lk, hcd⟩ := F.ex
  refine ⟨len, fun A out s H args us vs Q E hr hg e0 hb r hsp => ?_⟩
  have hl := len _ _ _ _ hsp
  have inK : K.In s.heap := e0.mod.kin.keeps fun b o e => (e0.bs b o e).1
  have noL : s.heap.NoLimit := e0.mod.nolimit.keeps fun b o e => (e0.bs b o e).1
  refine codeAny_call_function hr.depth (inK _ _ lk) rfl S.co S.gen rfl (PySem.W.codeRec_of inK hcd) (hb _ _ _ _ ?_)
  refine wpAny_newFunctionEnv_cells S.kind (fun y hy => ?_) fun env he s1 x => ?_
  · rcases S.par y.1 (List.of_mem_zip (show (y.1, y.2) ∈ ps.zip us from hy)).1 with q | q
    · exact Or.inl q
    · exact Or.inr ⟨q, PySem.W.cellsFrom_some _ _ _ (Or.inl q)⟩
  · subst he
    refine ⟨noL.keeps x.toInCall.keep, codeAny_func ?_⟩
    obtain ⟨t, ht, hq⟩ := body cdv A out s H vs Q E (hr.deeper _) hg hsp
    have I : Inv (cxOf CX0 P w K mg base N qual (defScope st) f cdv A out s H E) [] (start N vs) H s1 := inv_start S hr.hd e0 hl r x
    refine wpAny_mono (ht.nox.run [] s1 (start N vs) H _ I hq) (fun fl s' hs => ?_) fun e s' hs => hs
    have fin : ∀ {σ' : L2.St} {H' : Hp} {v : V} {u : Value}, Inv (cxOf CX0 P w K mg base N qual (defScope st) f cdv A out s H E) [] σ' H' s' → RelV v u → Q v H' → CE out P w H s Q u s' :=
      fun {σ' H' v u} J rv q => ⟨v, H', J.os, J.bare, J.base, J.hok, rv, q⟩
    cases fl with
    | next =>
      obtain ⟨σ', H', J, q⟩ := hs
      exact fin (v := V.non) (u := Value.none) J rfl q
    | ret u =>
      obtain ⟨v, σ', H', J, rv, q⟩ := hs
      exact fin J rv q
    | brk =>
      obtain ⟨_, _, _, q⟩ := hs
      exact q.elim
    | cont =>
      obtain ⟨_, _, _, q⟩ := hs
      exact q.elim
end

section
variable {X : Cx} {k : Nat} {f : Addr} {fd : FuncData} {ps : List Str} {sp : Sp} {x : Str} {p pos : Pos} {e : Expr} {es : List Expr} {t : TA}
theorem goFn {pins : List (Addr × Obj)} {σ : L2.St} {H : Hp} {s : Shared} {Q : VK} {us : List Value} {vs : List V} (F : FnG X.prog X.w X.K X.mg X.base k f fd ps sp) (hr : Room k X.A) (hg : X.A.guards = some []) (hb : Binds X.K fd ps [])
    (I : Inv X pins σ H s) (r : Vals vs us) (h : sp vs H Q E0) : wpAny (model X.prog X.w) X.A (call (.ref f) us) (EP X pins σ Q) X.xe s := by
  have hl : (us ++ []).length = ps.length := by rw [List.append_nil, ← r.length]; exact F.len _ _ _ _ h
  have hb' := hb s us I.kIn hl
  rw [List.append_nil] at hb'
  refine wpAny_call (codeAny_mono (F.go X.A X.stack s H ⟨us, []⟩ us vs Q E0 hr hg I.env0 hb' r h) fun r s' hq => ?_)
  match r, hq with
  | .ok (.ret u), hq => exact I.after hq
  | .error e, hq => exact False.elim hq
  | .ok .next, hq => exact False.elim hq
  | .ok .brk, hq => exact False.elim hq
  | .ok .cont, hq => exact False.elim hq
/-- f(a, ..): the callee's promise -/
def tFn (sp : Sp) (t : TA) : TE := fun σ H Q => t σ H fun vs H1 => sp vs H1 Q E0
theorem pe_fn (F : FnG X.prog X.w X.K X.mg X.base k f fd ps sp) (hr : Room k X.A) (hgd : X.A.guards = some []) (hg : Gl X x) (hm : X.mg x = some (.ref f)) (hk : PySem.W.keepIn X.K (.ref f) = true) (hb : Binds X.K fd ps [])
    (ha : PA X (e :: es) t) (hdb : (x == ("__debug__" : Str)) = false := by decide) (he : starEach (e :: es) X.env = (false, eval e X.env) :: starEach es X.env := by rfl) (hpl : (backTo pos (starEach es X.env)).any (·.1) = false := by rfl) :
    PE X (.Call (.Name x p) (e :: es) [] pos) (tFn sp t) := by
  refine ⟨fun pins s σ H Q I h => wpAny_Call_Name_kw (ld_glob I hg hm ?_ hdb)⟩
  refine PySem.W.callWith_K (h₀ := X.base) I.ok.mod.kin hk (thn (ha.run pos pins s σ H _ I h) fun us s1 ⟨vs, H1, I1, r, q⟩ => ⟨I1.kIn, ?_⟩) he hpl
  exact goFn F hr hgd hb I1 r q
theorem pe_fn0 (F : FnG X.prog X.w X.K X.mg X.base k f fd ps sp) (hr : Room k X.A) (hgd : X.A.guards = some []) (hg : Gl X x) (hm : X.mg x = some (.ref f)) (hk : PySem.W.keepIn X.K (.ref f) = true) (hb : Binds X.K fd ps [])
    (hdb : (x == ("__debug__" : Str)) = false := by decide) : PE X (.Call (.Name x p) [] [] pos) (tFn sp tNil) := by
  refine ⟨fun pins s σ H Q I h => wpAny_Call_Name_kw (ld_glob I hg hm ?_ hdb)⟩
  exact PySem.W.callWith_K0 I.kIn hk (goFn (us := []) F hr hgd hb I .nil h)

/-- repr(x) of data: what stands in the text -/
def rRepr (K : PySem.W.Frag) : List V → Hp → VK → Prop := fun vs H Q => ∃ (x : V) (d : PyData), vs = [x] ∧ Dp K H x d ∧ d.showable = true ∧ d.hasDict = false ∧ d.depth ≤ 40 ∧ d.shown.length ≤ sizeLine ∧ Q (.str d.shown) H
theorem call_repr (hu : X.A.units + 64 < cLine) (hg : X.A.guards = some []) : CallR X (.builtin "repr") (rRepr X.K) := by
  intro pins s σ H vs us Q I r h
  obtain ⟨x, d, rfl, hd, sh, nd, dp, sz, q⟩ := h
  cases r with
  | cons r1 rr =>
    cases rr
    rename_i u
    obtain ⟨as, rd⟩ := Dp.reads I d x u hd r1
    cases hd with
    | non =>
      cases r1
      exact PySem.P.repr_of_none ⟨.str _, H, I.tok _, ⟨_, rfl⟩, q⟩
    | bl b =>
      cases r1
      exact PySem.P.repr_of_bool ⟨.str _, H, I.tok _, ⟨_, rfl⟩, q⟩
    | int i =>
      obtain ⟨t, rfl⟩ := r1
      exact PySem.P.repr_of_int (of_decide_eq_true sh) ⟨.str _, H, I.tok _, ⟨_, rfl⟩, q⟩
    | str z =>
      obtain ⟨t, rfl⟩ := r1
      exact PySem.P.repr_of_str ⟨.str _, H, I.tok _, ⟨_, rfl⟩, q⟩ sz
    | lst h1 h2 =>
      cases r1
      exact repr_of_reads' rd sh (PyData.noDict_hsm nd) hg (by omega) (fun _ _ e => e) (fun h1 u tk hk => ⟨.str _, H, I.kept hk, ⟨u, rfl⟩, q⟩) sz
    | tup h1 h2 =>
      cases r1
      exact repr_of_reads' rd sh (PyData.noDict_hsm nd) hg (by omega) (fun _ _ e => e) (fun h1 u tk hk => ⟨.str _, H, I.kept hk, ⟨u, rfl⟩, q⟩) sz
end
end Cs

set_option maxRecDepth 100000
set_option maxHeartbeats 4000000
namespace Cs
open PySem PySem.Spec PyProof.Rows L2

/-- what is tracked at the law's entry: the script, locked -/
def hpOf (a : Addr) (o : Obj) (xs : List V) : Hp := fun b => if b = a then some (.frz o (.lst xs)) else none
theorem hpOf_some {a b : Addr} {o : Obj} {xs : List V} {u : HO} (h : hpOf a o xs b = some u) : b = a ∧ u = .frz o (.lst xs) := by
  unfold hpOf at h
  by_cases e : b = a
  · rw [if_pos e] at h
    exact ⟨e, (Option.some.inj h).symm⟩
  · rw [if_neg e] at h
    cases h
theorem hpOf_at {a : Addr} {o : Obj} {xs : List V} : hpOf a o xs a = some (.frz o (.lst xs)) := if_pos rfl

section
variable {P : Program} {w : World} {K : PySem.W.Frag} {mg mb : Str → Option Value} {k : Nat} {fa a : Addr} {fd : FuncData} {x : Str} {sp : Sp} {s₁ : Shared} {vs : List Value} {ns : List Int}

/-- one run of the law from an abstract heap H that tracks no more than the script -/
theorem law_from (H : Hp) (inK : K.In s₁.heap) (hns : s₁.heap.Ns mainGlobals mg) (hb : s₁.heap.Ns builtinsNs mb) (hbb : ∀ y : Str, y ≠ "__name__" → mb y = bootBuiltins y) (hlim : s₁.heap.NoLimit) (hg : s₁.gens = #[])
    (ha : s₁.heap.get? a = some { cls := .type "list", data := .seq vs.toArray }) (hr : Room k callerA)
    (F : ∀ base : Heap, K.In base → base.Ns mainGlobals mg → FnG P w K mg base k fa fd [x] sp) (hbind : ∀ (s : Shared) (u : Value), BindsTo s fd ⟨[u], []⟩ [(x, u)])
    (hS : sp [.ref a] H (fun v _ => v = .bl true) E0) (hok : HOk P w H s₁.heap) (one : ∀ b u, H b = some u → b = a ∧ ∃ o xs, u = .frz o (.lst xs)) (off : ∀ u, H a = some u → K.lookup a = none) :
    codeAny (model P w) callerA (.call (.ref fa) ⟨[.ref a], []⟩) (fun r s' => r = .ok (.ret (.bool true)) ∧ OldK s₁.heap s'.heap ∧ s'.os = s₁.os ∧ AllBare s'.gens) s₁ := by
  have none_of : ∀ {b : Addr}, b ≠ a → H b = none := fun {b} n => by
    cases e : H b with
    | none => rfl
    | some u => exact absurd (one b u e).1 n
  have ns_keep : ∀ {b : Addr} {m : Str → Option Value}, s₁.heap.Ns b m → (hidT s₁.heap H).Ns b m := fun {b m} ⟨o, es, ep, e, d, q⟩ => by
    refine ⟨o, es, ep, hidT_get e (none_of fun z => ?_), d, q⟩
    rw [z, ha] at e
    cases e
    cases (show Data.seq vs.toArray _ = Data.dict es ep from d)
  have kb : K.In (hidT s₁.heap H) := fun b o e => by
    refine hidT_get (inK b o e) ?_
    cases q : H b with
    | none => rfl
    | some u =>
      obtain ⟨z, _⟩ := one b u q
      rw [z] at q e
      rw [off u q] at e
      cases e
  obtain ⟨mc, c1, c2⟩ := hlim
  have md : Mod K mg (hidT s₁.heap H) := ⟨kb, ns_keep hns, ⟨mb, ns_keep hb, hbb⟩, ⟨mc, ns_keep c1, c2⟩⟩
  have e0 : Env0 P w K mg (hidT s₁.heap H) callerA [] s₁ H :=
    ⟨rfl, md, fun _ _ e => of_hidT e, Nat.le_of_eq (hidT_size _ _), trivial, (fun b hm => absurd (show b ∈ ([] : List Addr) from hm) List.not_mem_nil), hok, .of_eq hg⟩
  refine codeAny_mono ((F _ kb (ns_keep hns)).go callerA [] s₁ H ⟨[.ref a], []⟩ [.ref a] [.ref a] _ _ hr rfl e0 (hbind s₁ (.ref a)) (.cons rfl .nil) hS) fun r s' h => ?_
  match r, h with
  | .error e, h => exact False.elim h
  | .ok .next, h => exact False.elim h
  | .ok .brk, h => exact False.elim h
  | .ok .cont, h => exact False.elim h
  | .ok (.ret u), ⟨v, H', os, bare, un, hok', rv, q⟩ =>
    cases (show v = V.bl true from q)
    cases (show u = Value.bool true from rv)
    refine ⟨rfl, OldK.of_keep fun b o e => ?_, os, bare⟩
    cases q : H b with
    | none => exact un.keep b o e q (fun z => absurd (show b ∈ ([] : List Addr) from z) List.not_mem_nil) (fun z => absurd (show b ∈ ([] : List Addr) from z) List.not_mem_nil)
    | some u =>
      obtain ⟨_, ob, xs, z⟩ := one b u q
      subst z
      obtain ⟨g1, _⟩ := hok b _ q
      obtain ⟨g2, _⟩ := hok' b _ (un.frzs b ob _ q)
      rw [e] at g1
      cases g1
      exact g2

theorem law_run (inK : K.In s₁.heap) (hns : s₁.heap.Ns mainGlobals mg) (hb : s₁.heap.Ns builtinsNs mb) (hbb : ∀ y : Str, y ≠ "__name__" → mb y = bootBuiltins y) (hlim : s₁.heap.NoLimit) (hg : s₁.gens = #[])
    (ha : s₁.heap.get? a = some { cls := .type "list", data := .seq vs.toArray }) (hi : IntsAre vs ns) (hl : ns.length ≤ sizeLine) (hr : Room k callerA)
    (F : ∀ base : Heap, K.In base → base.Ns mainGlobals mg → FnG P w K mg base k fa fd [x] sp) (hbind : ∀ (s : Shared) (u : Value), BindsTo s fd ⟨[u], []⟩ [(x, u)])
    (hsp : ∀ H : Hp, SqL K H a (ns.map V.int) → sp [.ref a] H (fun v _ => v = .bl true) E0) :
    codeAny (model P w) callerA (.call (.ref fa) ⟨[.ref a], []⟩) (fun r s' => r = .ok (.ret (.bool true)) ∧ OldK s₁.heap s'.heap ∧ s'.os = s₁.os ∧ AllBare s'.gens) s₁ := by
  have rv := vals_ints hi
  have hl2 : (ns.map V.int).length ≤ sizeLine := by rw [List.length_map]; exact hl
  have hl3 : vs.length ≤ sizeLine := by rw [← rv.length]; exact hl2
  cases hk : K.lookup a with
  | none =>
    refine law_from (hpOf a { cls := .type "list", data := .seq vs.toArray } (ns.map V.int)) inK hns hb hbb hlim hg ha hr F hbind (hsp _ (.inl (.inr ⟨_, hpOf_at⟩))) (fun b u e => ?_) (fun b u e => ?_) fun _ _ => hk
    · obtain ⟨rfl, rfl⟩ := hpOf_some e
      exact ⟨ha, hl2, vs, _, rv, ha⟩
    · obtain ⟨z, q⟩ := hpOf_some e
      exact ⟨z, _, _, q⟩
  | some o =>
    have e := inK a o hk
    rw [ha] at e
    cases e
    exact law_from (fun _ => none) inK hns hb hbb hlim hg ha hr F hbind (hsp _ (.inr ⟨_, vs.toArray, _, hk, rfl, rfl, rfl, by rw [List.size_toArray]; exact hl3, by simpa using rv⟩)) (fun _ u e => absurd (show (none : Option HO) = some u from e) (by simp)) (fun _ u e => absurd (show (none : Option HO) = some u from e) (by simp)) fun u e => absurd (show (none : Option HO) = some u from e) (by simp)
end

/-- the law's row from the law's promise -/
theorem walkG {l : PySem.W.OpenLaw} {n k : Nat} {q : Program} {loose : List Str} {XP : (Str → Option Value) → Heap → Prop} {YP : World → Heap → Prop} {d : DefRec} {K : Params → PySem.W.Frag} {sp : PySem.W.Frag → Sp} {x : Str}
    (hn : l.most = some n) (hn2 : n ≤ sizeLine) (hdf : d.params.defaults = []) (hr : Room k callerA)
    (hY : ∀ (w : World) (h : Heap), YP w h → (K w.params).In h)
    (F : ∀ (w : World) (mg : Str → Option Value) (fa : Addr) (h : Heap), (K w.params).In h → h.Ns mainGlobals mg → mg d.name = some (.ref fa) →
      ∃ fd : FuncData, (∀ (s : Shared) (u : Value), BindsTo s fd ⟨[u], []⟩ [(x, u)]) ∧
        ∀ base : Heap, (K w.params).In base → base.Ns mainGlobals mg → FnG l.prog w (K w.params) mg base k fa fd [x] (sp (K w.params)))
    (hsp : ∀ (K : PySem.W.Frag) (H : Hp) (a : Addr) (ns : List Int), ns.length ≤ n → SqL K H a (ns.map V.int) → sp K [.ref a] H (fun v _ => v = .bl true) E0) :
    PySem.W.WalkO q loose XP YP l.row.toRowW d [] (fun f vs => PySem.call f vs) := by
  refine Att.attach_call hn hdf fun w s₀ s₁ mg mb fa o pm cd doc a vs ns G Y ho hd hcd hmg hobj hints hlen hg => ?_
  have inK := hY w _ Y
  obtain ⟨fd, hb, hF⟩ := F w mg fa _ inK G.T.g hmg
  exact law_run inK G.T.g G.T.b G.T.builtins G.T.nolimit hg hobj hints (Nat.le_trans hlen hn2) hr hF hb fun H hS => hsp (K w.params) H a ns hlen hS
end Cs

set_option maxRecDepth 100000
set_option maxHeartbeats 4000000
namespace Cs
open PySem PySem.Spec PyProof.Rows L2

/-! ### a def that stands in the text and keeps a promise -/
def At (K : PySem.W.Frag) (mg : Str → Option Value) (x : Str) (st : Stmt) : Prop := ∃ (f : Addr) (fd : FuncData), mg x = some (.ref f) ∧ Fun K x x st f fd
def Df (P : Program) (w : World) (K : PySem.W.Frag) (mg : Str → Option Value) (base : Heap) (k : Nat) (x : Str) (ps : List Str) (sp : Sp) : Prop :=
  ∃ (f : Addr) (fd : FuncData), mg x = some (.ref f) ∧ PySem.W.keepIn K (.ref f) = true ∧ Binds K fd ps [] ∧ FnG P w K mg base k f fd ps sp
section
variable {P : Program} {w : World} {K : PySem.W.Frag} {mg : Str → Option Value} {base : Heap}
theorem Df.of {x : Str} {st : Stmt} {N ps : List Str} {k : Nat} {sp : Sp} (A : At K mg x st)
    (bd : ∀ (kV doc pm : Value) (an : Option Addr) (cdv ct : Value) (us : List Value), us.length = ps.length → bindArgs (PySem.W.fnOf x x (defArgs st) (defBody st) (defScope st) .none kV doc pm an cdv ct) ⟨us, []⟩ = pure (ps.zip us))
    (S : FnScope N ps (defScope st)) (len : ∀ vs H Q E, sp vs H Q E → vs.length = ps.length)
    (body : ∀ (cdv : Value) (A : Around) (out : List Env) (f : Addr) (s : Shared) (H : Hp) (vs : List V) (Q : VK) (E : XK), Room k (A.deeper (envOfC x (defScope st) s.heap.objs.size f cdv)) → A.guards = some [] → sp vs H Q E →
      ∃ t, PSs (cxG P w K mg base N x (defScope st) f cdv A out s H E) (defBody st) t ∧ t { nx := fun _ H' => Q .non H', rt := Q } (start N vs) H) :
    Df P w K mg base (k + 1) x ps sp := by
  obtain ⟨f, fd, m, F⟩ := A
  exact ⟨f, fd, m, F.kp, F.binds bd, FnG.of F S len fun cdv A out s H vs Q E hr hg h => body cdv A out f s H vs Q E hr hg h⟩
end
section
variable {X : Cx} {k : Nat} {ps : List Str} {sp : Sp} {x : Str} {p pos : Pos} {e : Expr} {es : List Expr} {t : TA}
theorem pe_df (D : Df X.prog X.w X.K X.mg X.base k x ps sp) (hr : Room k X.A) (hgd : X.A.guards = some []) (hg : Gl X x)
    (ha : PA X (e :: es) t) (hdb : (x == ("__debug__" : Str)) = false := by decide) (he : starEach (e :: es) X.env = (false, eval e X.env) :: starEach es X.env := by rfl) (hpl : (backTo pos (starEach es X.env)).any (·.1) = false := by rfl) :
    PE X (.Call (.Name x p) (e :: es) [] pos) (tFn sp t) := by
  obtain ⟨f, fd, m, kp, b, G⟩ := D
  exact pe_fn G hr hgd hg m kp b ha hdb he hpl
theorem pe_df0 (D : Df X.prog X.w X.K X.mg X.base k x ps sp) (hr : Room k X.A) (hgd : X.A.guards = some []) (hg : Gl X x) (hdb : (x == ("__debug__" : Str)) = false := by decide) :
    PE X (.Call (.Name x p) [] [] pos) (tFn sp tNil) := by
  obtain ⟨f, fd, m, kp, b, G⟩ := D
  exact pe_fn0 G hr hgd hg m kp b hdb
end

/-! ### heaps -/
/-- all but t is as it was -/
def Al (t : Addr) (H H' : Hp) : Prop := ∀ b, b ≠ t → H' b = H b
/-- all that was tracked, but t, is as it was -/
def Gr (t : Addr) (H H' : Hp) : Prop := ∀ b o, H b = some o → b ≠ t → H' b = some o
theorem Al.gr {t : Addr} {H H' : Hp} (a : Al t H H') : Gr t H H' := fun b o e n => by rw [a b n]; exact e
theorem Al.upd {t : Addr} {H : Hp} {o : HO} : Al t H (upd H t o) := fun b n => upd_ne n
theorem Al.trans {t : Addr} {H H1 H2 : Hp} (a : Al t H H1) (b : Al t H1 H2) : Al t H H2 := fun c n => (b c n).trans (a c n)
theorem Al.free {t b : Addr} {H H' : Hp} (a : Al t H H') (n : b ≠ t) (h : H' b = none) : H b = none := by rw [← a b n]; exact h
theorem Gr.refl (t : Addr) (H : Hp) : Gr t H H := fun _ _ e _ => e
theorem Gr.trans {t : Addr} {H H1 H2 : Hp} (a : Gr t H H1) (b : Gr t H1 H2) : Gr t H H2 := fun c o e n => b c o (a c o e n) n
theorem Gr.of {t : Addr} {H H' : Hp} (a : Same H H') : Gr t H H' := fun b o e _ => a b o e
theorem Gr.free {t b : Addr} {H H' : Hp} (a : Gr t H H') (n : b ≠ t) (h : H' b = none) : H b = none := by
  cases e : H b with
  | none => rfl
  | some o =>
    rw [a b o e n] at h
    cases h
theorem Same.new {p : Addr} {H : Hp} {o : HO} (h : H p = none) : Same H (upd H p o) := fun b u e => by rw [upd_ne (ne_of_none e h)]; exact e
theorem Gr.new {t p : Addr} {H : Hp} {o : HO} (h : H p = none) : Gr t H (upd H p o) := Gr.of (Same.new h)

/-- things that never change are as they were -/
structure Im (H H' : Hp) : Prop where
  tup : ∀ b xs, H b = some (.tup xs) → H' b = some (.tup xs)
  frz : ∀ b o u, H b = some (.frz o u) → H' b = some (.frz o u)
theorem Im.refl (H : Hp) : Im H H := ⟨fun _ _ e => e, fun _ _ _ e => e⟩
theorem Im.trans {H H1 H2 : Hp} (a : Im H H1) (b : Im H1 H2) : Im H H2 := ⟨fun c xs e => b.tup c xs (a.tup c xs e), fun c o u e => b.frz c o u (a.frz c o u e)⟩
theorem Im.same {H H' : Hp} (a : Same H H') : Im H H' := ⟨fun b _ e => a b _ e, fun b _ _ e => a b _ e⟩
theorem Im.new {p : Addr} {H : Hp} {o : HO} (h : H p = none) : Im H (upd H p o) := Im.same (Same.new h)
theorem Im.gr {t : Addr} {H H' : Hp} {xs : List V} (a : Gr t H H') (h : H t = some (.lst xs)) : Im H H' :=
  ⟨fun b ys e => a b _ e fun z => (by subst z; rw [h] at e; cases e), fun b o u e => a b _ e fun z => (by subst z; rw [h] at e; cases e)⟩
theorem Im.set {t : Addr} {H : Hp} {xs : List V} {o : HO} (h : H t = some (.lst xs)) : Im H (upd H t o) := Im.gr (Al.upd.gr) h
theorem Im.sqT {K : PySem.W.Frag} {H H' : Hp} {a : Addr} {xs : List V} (e : Im H H') (h : SqT K H a xs) : SqT K H' a xs := by
  rcases h with (h | ⟨o, h⟩) | h
  · exact .inl (.inl (e.tup _ _ h))
  · exact .inl (.inr ⟨o, e.frz _ _ _ h⟩)
  · exact .inr h

/-! ### the tape -/
structure TapeAt (H : Hp) (t l : Addr) : Prop where
  ex : ∃ (ns : List Int) (p r s : Int), H t = some (.lst [.ref l, .int p, .int r, .int s]) ∧ H l = some (.lst (ns.map V.int)) ∧ 0 ≤ p ∧ 0 ≤ r ∧ 0 ≤ s
  ne : l ≠ t
theorem TapeAt.list {H : Hp} {t l : Addr} (T : TapeAt H t l) : ∃ xs, H t = some (.lst xs) := let ⟨_, _, _, _, h, _⟩ := T.ex; ⟨_, h⟩
theorem TapeAt.list' {H : Hp} {t l : Addr} (T : TapeAt H t l) : ∃ xs, H l = some (.lst xs) := let ⟨_, _, _, _, _, h, _⟩ := T.ex; ⟨_, h⟩
theorem TapeAt.same {H H' : Hp} {t l : Addr} (T : TapeAt H t l) (e : Same H H') : TapeAt H' t l := let ⟨ns, p, r, s, h1, h2, q⟩ := T.ex; ⟨⟨ns, p, r, s, e _ _ h1, e _ _ h2, q⟩, T.ne⟩
theorem TapeAt.new {H : Hp} {t l b : Addr} {o : HO} (T : TapeAt H t l) (h : H b = none) : TapeAt (upd H b o) t l := T.same (Same.new h)
theorem TapeAt.upd {H : Hp} {t l b : Addr} {o : HO} (T : TapeAt H t l) (n1 : b ≠ t) (n2 : b ≠ l) : TapeAt (upd H b o) t l :=
  let ⟨ns, p, r, s, h1, h2, q⟩ := T.ex; ⟨⟨ns, p, r, s, by rw [upd_ne n1.symm]; exact h1, by rw [upd_ne n2.symm]; exact h2, q⟩, T.ne⟩
theorem TapeAt.ne_t {H : Hp} {t l b : Addr} (T : TapeAt H t l) (h : H b = none) : b ≠ t := let ⟨_, e⟩ := T.list; (ne_of_none e h).symm
theorem TapeAt.ne_l {H : Hp} {t l b : Addr} (T : TapeAt H t l) (h : H b = none) : b ≠ l := let ⟨_, e⟩ := T.list'; (ne_of_none e h).symm
theorem TapeAt.im {H H' : Hp} {t l : Addr} (T : TapeAt H t l) (g : Gr t H H') : Im H H' := let ⟨_, e⟩ := T.list; Im.gr g e

/-- the law's own two: a tape is made; a number is drawn -/
def sp_law_tape (K : PySem.W.Frag) : Sp := fun vs H Q _ => ∃ (a : Addr) (ns : List Int), vs = [.ref a] ∧ SqL K H a (ns.map V.int) ∧ ns.length ≤ 63 ∧ ∀ t l H', Same H H' → TapeAt H' t l → H t = none → H l = none → Q (.ref t) H'
def sp_law_draw (K : PySem.W.Frag) : Sp := fun vs H Q _ => ∃ (t l : Addr) (m : Int), vs = [.ref t, .int m] ∧ TapeAt H t l ∧ m ≤ 1000000000 ∧ ∀ v H', TapeAt H' t l → Al t H H' → 0 ≤ v → v < max m 1 → Q (.int v) H'
end Cs

set_option maxRecDepth 100000
set_option maxHeartbeats 4000000
namespace Cs
open PySem PySem.Spec PyProof.Rows L2
/-! ### tests -/
section
variable {A B c : Prop}
theorem if_dec [Decidable c] (h1 : c → A) (h2 : ¬ c → B) : if decide c = true then A else B := by
  by_cases h : c
  · rw [decide_eq_true h, if_pos rfl]; exact h1 h
  · rw [decide_eq_false h, if_neg Bool.false_ne_true]; exact h2 h
theorem if_ndec [Decidable c] (h1 : ¬ c → A) (h2 : c → B) : if (!decide c) = true then A else B := by
  by_cases h : c
  · rw [decide_eq_true h]; exact h2 h
  · rw [decide_eq_false h]; exact h1 h
theorem if_int {i j : Int} (h1 : i = j → A) (h2 : ¬ i = j → B) : if decide (V.int i = V.int j) = true then A else B :=
  if_dec (fun h => h1 (V.int.inj h)) fun h => h2 fun e => h (by rw [e])
theorem if_nint {i j : Int} (h1 : ¬ i = j → A) (h2 : i = j → B) : if (!decide (V.int i = V.int j)) = true then A else B :=
  if_ndec (fun h => h1 fun e => h (by rw [e])) fun h => h2 (V.int.inj h)
theorem if_str {i j : Str} (h1 : i = j → A) (h2 : ¬ i = j → B) : if decide (V.str i = V.str j) = true then A else B :=
  if_dec (fun h => h1 (V.str.inj h)) fun h => h2 fun e => h (by rw [e])
theorem if_nstr {i j : Str} (h1 : ¬ i = j → A) (h2 : i = j → B) : if (!decide (V.str i = V.str j)) = true then A else B :=
  if_ndec (fun h => h1 fun e => h (by rw [e])) fun h => h2 (V.str.inj h)
theorem if_bool {b : Bool} (h1 : b = true → A) (h2 : b = false → B) : if b = true then A else B := by
  cases b with
  | true => exact h1 rfl
  | false => exact h2 rfl
theorem if_nbool {b : Bool} (h1 : b = false → A) (h2 : b = true → B) : if (!b) = true then A else B := by
  cases b with
  | true => exact h2 rfl
  | false => exact h1 rfl
end
theorem int_at {ns : List Int} {i : Nat} {y : V} (h : (ns.map V.int)[i]? = some y) : ∃ n, y = V.int n := by
  rw [List.getElem?_map] at h
  cases e : ns[i]? with
  | none => rw [e] at h; cases h
  | some z => rw [e] at h; exact ⟨z, (Option.some.inj h).symm⟩
theorem at_int {ns : List Int} {i : Int} (h0 : 0 ≤ i) (h : i < ns.length) : ∃ n, atI (ns.map V.int) i = some (V.int n) := by
  obtain ⟨j, rfl⟩ : ∃ j : Nat, i = (j : Int) := ⟨i.toNat, by omega⟩
  have hj : j < ns.length := by omega
  exact ⟨ns[j], atI_nat (by rw [List.getElem?_map, List.getElem?_eq_getElem hj]; rfl)⟩
theorem max_one (m : Int) : (if (1 : Int) > m then (1 : Int) else m) = max m 1 := by
  by_cases h : (1 : Int) > m
  · rw [if_pos h]; omega
  · rw [if_neg h]; omega
end Cs
namespace Cs
open PySem PySem.Spec PyProof.Rows L2
theorem set3 {α : Type} (σ : List α) (s : Nat) (a b c : α) : (((σ.set s a).set s b).set s c) = σ.set s c := by
  rw [List.set_set, List.set_set]
theorem get_snoc {ys : List V} {v u : V} {j : Nat} (e : (ys ++ [v])[j]? = some u) : (j < ys.length ∧ ys[j]? = some u) ∨ (j = ys.length ∧ u = v) := by
  by_cases h : j < ys.length
  · rw [List.getElem?_append_left h] at e
    exact .inl ⟨h, e⟩
  · rw [List.getElem?_append_right (by omega)] at e
    have q : j - ys.length = 0 := by
      by_cases z : j - ys.length = 0
      · exact z
      · rw [List.getElem?_eq_none (by show 1 ≤ _; omega)] at e
        cases e
    rw [q] at e
    exact .inr ⟨by omega, (Option.some.inj e).symm⟩
section
variable {K : PySem.W.Frag} {a : Addr} {xs : List V} {te : TE} {s : Nat} {σ : L2.St} {H1 : Hp} {D : Addr} {Qd : Hp → Prop}
/-- what holds of a comprehension's list under way: its items so far are as P says -/
def CompSo (P : Nat → V → Hp → Prop) (H1 : Hp) (D : Addr) (i : Nat) (H : Hp) : Prop := Same H1 H ∧ ∃ ys, H D = some (.lst ys) ∧ ys.length = i ∧ ∀ j v, ys[j]? = some v → P j v H
theorem comp_turn {P : Nat → V → Hp → Prop} {i n : Nat} {x : V} {H : Hp} (mono : ∀ i v H H', P i v H → Im H H' → P i v H') (hz : n ≤ sizeLine) (fresh : H1 D = none) (hi : i < n) (so : CompSo P H1 D i H)
    (elt : ∀ H, Same H1 H → ∀ Q' : VK, (∀ v H', Same H H' → P i v H' → Q' v H') → te ((σ.set s none).set s (some x)) H Q') :
    gName s x (wipe σ [s]) H fun σ2 H2 => wipe σ2 [s] = wipe σ [s] ∧ tYes σ2 H2 fun b H3 =>
      if b = true then te σ2 H3 fun y H4 => ∃ acc, H4 D = some (.lst acc) ∧ acc.length < sizeLine ∧ CompSo P H1 D (i + 1) (upd H4 D (.lst (acc ++ [y]))) else CompSo P H1 D (i + 1) H3 := by
  obtain ⟨sm, ys, hD, hlen, hP⟩ := so
  refine ⟨set3 σ s none (some x) none, ?_⟩
  unfold tYes
  dsimp only
  rw [if_pos rfl]
  refine elt H sm _ fun v H' sm' pv => ?_
  have hD' := sm' _ _ hD
  have im2 : Im H' (upd H' D (.lst (ys ++ [v]))) := Im.set hD'
  refine ⟨ys, hD', by omega, fun b o e => by rw [upd_ne (ne_of_none e fresh)]; exact sm' _ _ (sm _ _ e), ys ++ [v], upd_same, by rw [List.length_append, hlen]; rfl, fun j u e => ?_⟩
  rcases get_snoc e with ⟨_, e⟩ | ⟨rfl, rfl⟩
  · exact mono _ _ _ _ (hP j u e) ((Im.same sm').trans im2)
  · rw [hlen]
    exact mono _ _ _ _ pv im2
theorem comp_start {P : Nat → V → Hp → Prop} (fresh : H1 D = none) : CompSo P H1 D 0 (upd H1 D (.lst [])) := ⟨Same.new fresh, [], upd_same, rfl, fun j v e => by simp at e⟩
/-- a comprehension over a list, no test: each element of the new list is what P says; nothing that was tracked changes -/
theorem comp_list (P : Nat → V → Hp → Prop) (mono : ∀ i v H H', P i v H → Im H H' → P i v H') (hl : SqL K H1 a xs) (hz : xs.length ≤ sizeLine) (fresh : H1 D = none)
    (elt : ∀ i x, xs[i]? = some x → ∀ H, Same H1 H → ∀ Q' : VK, (∀ v H', Same H H' → P i v H' → Q' v H') → te ((σ.set s none).set s (some x)) H Q')
    (hd : ∀ H ys, Same H1 H → H D = some (.lst ys) → ys.length = xs.length → (∀ i v, ys[i]? = some v → P i v H) → Qd H) :
    ∃ W : Nat → Nat → Hp → Prop, (∃ m, W 0 m (upd H1 D (.lst []))) ∧ ∀ i m H, W i m H →
      ((Itl K a).stop i H ∧ Qd H) ∨ ((Itl K a).go i H ∧ ∃ Nx : Hp → Prop, (∀ H', Nx H' → ∃ m', m' < m ∧ W (i + 1) m' H') ∧ ∀ x H', (Itl K a).yld i H x H' → gName s x (wipe σ [s]) H' fun σ2 H2 => wipe σ2 [s] = wipe σ [s] ∧ tYes σ2 H2 fun b H3 =>
        if b = true then te σ2 H3 fun y H4 => ∃ acc, H4 D = some (.lst acc) ∧ acc.length < sizeLine ∧ Nx (upd H4 D (.lst (acc ++ [y]))) else Nx H3) :=
  lc_list (K := K) (a := a) (xs := xs) (CompSo P H1 D) (comp_start fresh) (fun i H _ h => h.1.seq hl)
    (fun i x H hx so => comp_turn mono hz fresh (List.getElem?_eq_some_iff.mp hx).1 so (elt i x hx)) fun H ⟨sm, ys, hD, hlen, hP⟩ => hd H ys sm hD hlen hP
theorem comp_tup (P : Nat → V → Hp → Prop) (mono : ∀ i v H H', P i v H → Im H H' → P i v H') (hl : SqT K H1 a xs) (hz : xs.length ≤ sizeLine) (fresh : H1 D = none)
    (elt : ∀ i x, xs[i]? = some x → ∀ H, Same H1 H → ∀ Q' : VK, (∀ v H', Same H H' → P i v H' → Q' v H') → te ((σ.set s none).set s (some x)) H Q')
    (hd : ∀ H ys, Same H1 H → H D = some (.lst ys) → ys.length = xs.length → (∀ i v, ys[i]? = some v → P i v H) → Qd H) :
    ∃ W : Nat → Nat → Hp → Prop, (∃ m, W 0 m (upd H1 D (.lst []))) ∧ ∀ i m H, W i m H →
      ((Itt K a).stop i H ∧ Qd H) ∨ ((Itt K a).go i H ∧ ∃ Nx : Hp → Prop, (∀ H', Nx H' → ∃ m', m' < m ∧ W (i + 1) m' H') ∧ ∀ x H', (Itt K a).yld i H x H' → gName s x (wipe σ [s]) H' fun σ2 H2 => wipe σ2 [s] = wipe σ [s] ∧ tYes σ2 H2 fun b H3 =>
        if b = true then te σ2 H3 fun y H4 => ∃ acc, H4 D = some (.lst acc) ∧ acc.length < sizeLine ∧ Nx (upd H4 D (.lst (acc ++ [y]))) else Nx H3) :=
  lc_tup (K := K) (a := a) (xs := xs) (CompSo P H1 D) (comp_start fresh) (fun i H _ h => (Im.same h.1).sqT hl)
    (fun i x H hx so => comp_turn mono hz fresh (List.getElem?_eq_some_iff.mp hx).1 so (elt i x hx)) fun H ⟨sm, ys, hD, hlen, hP⟩ => hd H ys sm hD hlen hP
end
end Cs

namespace Cs
open PySem PySem.Spec PyProof.Rows L2
theorem eq_map {α : Type} {ys : List V} {rs : List α} {f : α → V} (h1 : ys.length = rs.length) (h2 : ∀ (i : Nat) v, ys[i]? = some v → ∃ r, rs[i]? = some r ∧ v = f r) : ys = rs.map f := by
  refine List.ext_getElem? fun i => ?_
  rw [List.getElem?_map]
  cases e : ys[i]? with
  | none =>
    have : rs[i]? = none := List.getElem?_eq_none_iff.mpr (by have := List.getElem?_eq_none_iff.mp e; omega)
    rw [this]; rfl
  | some v =>
    obtain ⟨r, hr, rfl⟩ := h2 i v e
    rw [hr]; rfl
theorem get_len {α β : Type} {xs : List α} {rs : List β} (h : xs.length = rs.length) {i : Nat} {x : α} (e : xs[i]? = some x) : ∃ r, rs[i]? = some r := by
  have hi := (List.getElem?_eq_some_iff.mp e).1
  exact ⟨rs[i]'(by omega), List.getElem?_eq_getElem (by omega)⟩
section
variable {K : PySem.W.Frag} {a : Addr} {xs : List V} {te : TE} {s : Nat} {σ : L2.St} {H1 : Hp} {D : Addr} {Qd : Hp → Prop} {α : Type}
/-- .. where each element is a value that hangs on the datum alone -/
theorem map_list (rs : List α) (f : α → V) (hl : SqL K H1 a xs) (hz : xs.length ≤ sizeLine) (hlen : xs.length = rs.length) (fresh : H1 D = none)
    (elt : ∀ (i : Nat) x r, xs[i]? = some x → rs[i]? = some r → ∀ H, Same H1 H → ∀ Q' : VK, (∀ H', Same H H' → Q' (f r) H') → te ((σ.set s none).set s (some x)) H Q')
    (hd : ∀ H, Same H1 H → H D = some (.lst (rs.map f)) → Qd H) :
    ∃ W : Nat → Nat → Hp → Prop, (∃ m, W 0 m (upd H1 D (.lst []))) ∧ ∀ i m H, W i m H →
      ((Itl K a).stop i H ∧ Qd H) ∨ ((Itl K a).go i H ∧ ∃ Nx : Hp → Prop, (∀ H', Nx H' → ∃ m', m' < m ∧ W (i + 1) m' H') ∧ ∀ x H', (Itl K a).yld i H x H' → gName s x (wipe σ [s]) H' fun σ2 H2 => wipe σ2 [s] = wipe σ [s] ∧ tYes σ2 H2 fun b H3 =>
        if b = true then te σ2 H3 fun y H4 => ∃ acc, H4 D = some (.lst acc) ∧ acc.length < sizeLine ∧ Nx (upd H4 D (.lst (acc ++ [y]))) else Nx H3) :=
  comp_list (K := K) (a := a) (fun i v _ => ∃ r, rs[i]? = some r ∧ v = f r) (fun _ _ _ _ h _ => h) hl hz fresh
    (fun i x hx H sm Q' hQ => by
      obtain ⟨r, hr⟩ := get_len hlen hx
      exact elt i x r hx hr H sm Q' fun H' sm' => hQ _ H' sm' ⟨r, hr, rfl⟩)
    fun H ys sm hD hl2 hP => hd H sm (by rw [← eq_map (hl2.trans hlen) hP]; exact hD)
theorem map_tup (rs : List α) (f : α → V) (hl : SqT K H1 a xs) (hz : xs.length ≤ sizeLine) (hlen : xs.length = rs.length) (fresh : H1 D = none)
    (elt : ∀ (i : Nat) x r, xs[i]? = some x → rs[i]? = some r → ∀ H, Same H1 H → ∀ Q' : VK, (∀ H', Same H H' → Q' (f r) H') → te ((σ.set s none).set s (some x)) H Q')
    (hd : ∀ H, Same H1 H → H D = some (.lst (rs.map f)) → Qd H) :
    ∃ W : Nat → Nat → Hp → Prop, (∃ m, W 0 m (upd H1 D (.lst []))) ∧ ∀ i m H, W i m H →
      ((Itt K a).stop i H ∧ Qd H) ∨ ((Itt K a).go i H ∧ ∃ Nx : Hp → Prop, (∀ H', Nx H' → ∃ m', m' < m ∧ W (i + 1) m' H') ∧ ∀ x H', (Itt K a).yld i H x H' → gName s x (wipe σ [s]) H' fun σ2 H2 => wipe σ2 [s] = wipe σ [s] ∧ tYes σ2 H2 fun b H3 =>
        if b = true then te σ2 H3 fun y H4 => ∃ acc, H4 D = some (.lst acc) ∧ acc.length < sizeLine ∧ Nx (upd H4 D (.lst (acc ++ [y]))) else Nx H3) :=
  comp_tup (K := K) (a := a) (fun i v _ => ∃ r, rs[i]? = some r ∧ v = f r) (fun _ _ _ _ h _ => h) hl hz fresh
    (fun i x hx H sm Q' hQ => by
      obtain ⟨r, hr⟩ := get_len hlen hx
      exact elt i x r hx hr H sm Q' fun H' sm' => hQ _ H' sm' ⟨r, hr, rfl⟩)
    fun H ys sm hD hl2 hP => hd H sm (by rw [← eq_map (hl2.trans hlen) hP]; exact hD)
end
/-! ### rectangles -/
structure R where
  l : Int
  t : Int
  w : Int
  h : Int
  deriving DecidableEq
def R.vs (r : R) : List V := [.int r.l, .int r.t, .int r.w, .int r.h]
def R.es (r : R) : List V := [.int r.l, .int r.t, .int (r.l + r.w), .int (r.t + r.h)]
/-- v is the rectangle r -/
def Rc (K : PySem.W.Frag) (H : Hp) (v : V) (r : R) : Prop := ∃ a, v = .ref a ∧ SqT K H a r.vs
theorem Rc.im {K : PySem.W.Frag} {H H' : Hp} {v : V} {r : R} (h : Rc K H v r) (e : Im H H') : Rc K H' v r := let ⟨a, h1, h2⟩ := h; ⟨a, h1, e.sqT h2⟩
theorem Rc.same {K : PySem.W.Frag} {H H' : Hp} {v : V} {r : R} (h : Rc K H v r) (e : Same H H') : Rc K H' v r := h.im (Im.same e)
/-- xs are the rectangles rs -/
structure Rcs (K : PySem.W.Frag) (H : Hp) (xs : List V) (rs : List R) : Prop where
  len : xs.length = rs.length
  at_ : ∀ (i : Nat) (x : V) (r : R), xs[i]? = some x → rs[i]? = some r → Rc K H x r
theorem Rcs.im {K : PySem.W.Frag} {H H' : Hp} {xs : List V} {rs : List R} (h : Rcs K H xs rs) (e : Im H H') : Rcs K H' xs rs := ⟨h.len, fun i x r h1 h2 => (h.at_ i x r h1 h2).im e⟩
theorem Rcs.nil {K : PySem.W.Frag} {H : Hp} : Rcs K H [] [] := ⟨rfl, fun i x r h => by simp at h⟩
theorem Rcs.snoc {K : PySem.W.Frag} {H : Hp} {xs : List V} {rs : List R} {x : V} {r : R} (h : Rcs K H xs rs) (q : Rc K H x r) : Rcs K H (xs ++ [x]) (rs ++ [r]) := by
  refine ⟨by rw [List.length_append, List.length_append, h.len]; rfl, fun i y s h1 h2 => ?_⟩
  rcases get_snoc h1 with ⟨hi, h1⟩ | ⟨rfl, rfl⟩
  · rw [List.getElem?_append_left (by rw [← h.len]; exact hi)] at h2
    exact h.at_ i y s h1 h2
  · rw [h.len, List.getElem?_append_right (Nat.le_refl _), Nat.sub_self] at h2
    cases (Option.some.inj h2)
    exact q
theorem Rcs.take {K : PySem.W.Frag} {H : Hp} {xs : List V} {rs : List R} (h : Rcs K H xs rs) (n : Nat) : Rcs K H (xs.take n) (rs.take n) := by
  refine ⟨by rw [List.length_take, List.length_take, h.len], fun i y s h1 h2 => ?_⟩
  rw [List.getElem?_take] at h1 h2
  split at h1
  · rw [if_pos (by assumption)] at h2
    exact h.at_ i y s h1 h2
  · cases h1
theorem Rcs.drop {K : PySem.W.Frag} {H : Hp} {xs : List V} {rs : List R} (h : Rcs K H xs rs) (n : Nat) : Rcs K H (xs.drop n) (rs.drop n) := by
  refine ⟨by rw [List.length_drop, List.length_drop, h.len], fun i y s h1 h2 => ?_⟩
  rw [List.getElem?_drop] at h1 h2
  exact h.at_ _ y s h1 h2
theorem Rcs.reverse {K : PySem.W.Frag} {H : Hp} {xs : List V} {rs : List R} (h : Rcs K H xs rs) : Rcs K H xs.reverse rs.reverse := by
  refine ⟨by rw [List.length_reverse, List.length_reverse, h.len], fun i y s h1 h2 => ?_⟩
  have hi : i < xs.length := by have := (List.getElem?_eq_some_iff.mp h1).1; rw [List.length_reverse] at this; exact this
  rw [List.getElem?_reverse hi] at h1
  rw [List.getElem?_reverse (by rw [← h.len]; exact hi), ← h.len] at h2
  exact h.at_ _ y s h1 h2
end Cs

set_option maxRecDepth 100000
set_option maxHeartbeats 4000000
/-! rules with the written part named, so that they stand within comprehensions too -/
namespace Cs
open PySem PySem.Spec PyProof.Rows L2
section
variable {X : Cx} {a b e : Expr} {ta tb te : TE} {pos : Pos}
theorem ixL (K : PySem.W.Frag) (h : X.K = K := by rfl) : IxR X (rIxL K) := h ▸ ix_list
theorem ixT (K : PySem.W.Frag) (h : X.K = K := by rfl) : IxR X (rIxT K) := h ▸ ix_tup
theorem slL (K : PySem.W.Frag) (h : X.K = K := by rfl) : SlR X (rSlL K) := h ▸ sl_list
theorem slT (K : PySem.W.Frag) (h : X.K = K := by rfl) : SlR X (rSlA K) := h ▸ sl_tupA
theorem eqK (K : PySem.W.Frag) (hu : X.A.units + 64 < cLine) (h : X.K = K := by rfl) : OpR X (compareOp .Eq) (rEqD K) := h ▸ op_eqD hu
theorem neK (K : PySem.W.Frag) (hu : X.A.units + 64 < cLine) (h : X.K = K := by rfl) : OpR X (compareOp .NotEq) (rNeD K) := h ▸ op_neD hu
theorem catT (K : PySem.W.Frag) (h : X.K = K := by rfl) : OpR X (binaryOp .Add) (rCatA K) := h ▸ op_catA
def rLen (K : PySem.W.Frag) : List V → Hp → VK → Prop := fun xs H Q => ∃ x n, xs = [x] ∧ LenV K x H n ∧ Q (.int n) H
theorem lenK (K : PySem.W.Frag) (h : X.K = K := by rfl) : CallR X (.builtin "len") (rLen K) := h ▸ call_len
def rListOf (K : PySem.W.Frag) : List V → Hp → VK → Prop := fun xs H Q => ∃ p ys, xs = [.ref p] ∧ (SqL K H p ys ∨ SqT K H p ys) ∧ ∀ l, H l = none → Q (.ref l) (upd H l (.lst ys))
theorem listK (K : PySem.W.Frag) (h : X.K = K := by rfl) : CallR X (.type "list") (rListOf K) := h ▸ call_list_of
def rTupOf (K : PySem.W.Frag) : List V → Hp → VK → Prop := fun xs H Q => ∃ p ys, xs = [.ref p] ∧ ((SqL K H p ys ∧ ∀ l, H l = none → Q (.ref l) (upd H l (.tup ys))) ∨ (SqT K H p ys ∧ Q (.ref p) H))
theorem tupK (K : PySem.W.Frag) (h : X.K = K := by rfl) : CallR X (.type "tuple") (rTupOf K) := h ▸ call_tuple_of
theorem reprK (K : PySem.W.Frag) (hu : X.A.units + 64 < cLine) (hg : X.A.guards = some []) (h : X.K = K := by rfl) : CallR X (.builtin "repr") (rRepr K) := h ▸ call_repr hu hg
theorem minK (K : PySem.W.Frag) (hc : X.calm = true) (h : X.K = K := by rfl) : CallR X (.builtin "min") (rMin K) := h ▸ cr_min hc
theorem maxK (K : PySem.W.Frag) (hc : X.calm = true) (h : X.K = K := by rfl) : CallR X (.builtin "max") (rMax K) := h ▸ cr_max hc
theorem sumK (K : PySem.W.Frag) (hc : X.calm = true) (h : X.K = K := by rfl) : CallR X (.builtin "sum") (rSum K) := h ▸ cr_sum hc
/-- a test by truth -/
def tTru (K : PySem.W.Frag) (ta : TE) : TT := fun σ H Q => ta σ H fun x H' => ∃ k, TruV K x H' k ∧ Q k H'
theorem truK (K : PySem.W.Frag) (ha : PE X a ta) (he : ∀ whole, isTrue a X.env whole = (do let v ← whole; standAt a.pos; holding [v] (truthy v)) := by intro _; rfl) (h : X.K = K := by rfl) : PT X a (tTru K ta) := h ▸ pt_truth ha he
end
theorem atI_mem {α : Type} {xs : List α} {v : Int} (h0 : 0 ≤ v) (h1 : v < xs.length) : ∃ z, atI xs v = some z ∧ xs[v.toNat]? = some z ∧ z ∈ xs := by
  obtain ⟨j, rfl⟩ : ∃ j : Nat, v = (j : Int) := ⟨v.toNat, by omega⟩
  have hj : j < xs.length := by omega
  have e : xs[j]? = some xs[j] := List.getElem?_eq_getElem hj
  exact ⟨xs[j], atI_nat e, by rw [Int.toNat_natCast]; exact e, List.getElem_mem hj⟩
/-! the slots as a written list -/
theorem gset {i : Nat} {v : V} {σ σ' : L2.St} {H : Hp} {Q : L2.St → Hp → Prop} (e : σ.set i (some v) = σ') (h : Q σ' H) : gName i v σ H Q := by
  subst e
  exact h
theorem set_0 {α : Type} {a b : α} {l : List α} : (a :: l).set 0 b = b :: l := rfl
theorem set_s {α : Type} {a b : α} {l l' : List α} {n : Nat} (h : l.set n b = l') : (a :: l).set (n + 1) b = a :: l' := by
  subst h
  rfl
def tPar2 (i j : Nat) (ta : TA) : TS := fun D σ H => ta σ H fun vs H1 => ∃ v w, vs = [v, w] ∧ gName i v σ H1 fun σ' H' => gName j w σ' H' D.nx
theorem par2 {X : Cx} {i j : Nat} {st : Stmt} {ta : TA} (h : PS X st (tPar i j ta)) : PS X st (tPar2 i j ta) := h
theorem at_start {N : List Str} {vs : List V} {σ : L2.St} {t : TS} {D : Ends} {H : Hp} (e : L2.start N vs = σ) (h : t D σ H) : t D (L2.start N vs) H := by
  subst e
  exact h
theorem rep_0 {α : Type} {a : α} : List.replicate 0 a = [] := rfl
theorem rep_s {α : Type} {a : α} {k : Nat} {l : List α} (h : List.replicate k a = l) : List.replicate (k + 1) a = a :: l := by
  subst h
  rfl
theorem app_nil {α : Type} {r l : List (Option α)} (h : r = l) : ([] : List α).map some ++ r = l := h
theorem app_cons {α : Type} {v : α} {vs : List α} {r l : List (Option α)} (h : vs.map some ++ r = l) : (v :: vs).map some ++ r = some v :: l := by
  subst h
  rfl
theorem st_of {N : List Str} {vs : List V} {k : Nat} {σ : L2.St} (h : N.length - vs.length = k) (e : vs.map some ++ List.replicate k none = σ) : L2.start N vs = σ := by
  subst h
  exact e
theorem cut_to {xs : List V} {k : Int} (h : 0 ≤ k) : cutV xs none (some k) = xs.take k.toNat := by
  obtain ⟨j, rfl⟩ : ∃ j : Nat, k = (j : Int) := ⟨k.toNat, by omega⟩
  unfold cutV
  rw [HT.sIx_none, HT.sIx_nat, List.drop_zero, Nat.sub_zero, Int.toNat_natCast]
  by_cases h : j ≤ xs.length
  · rw [Nat.min_eq_left h]
  · rw [Nat.min_eq_right (by omega), List.take_length, List.take_of_length_le (by omega)]
theorem cut_from {xs : List V} {k : Int} (h : 0 ≤ k) : cutV xs (some k) none = xs.drop k.toNat := by
  obtain ⟨j, rfl⟩ : ∃ j : Nat, k = (j : Int) := ⟨k.toNat, by omega⟩
  unfold cutV
  rw [HT.sIx_none, HT.sIx_nat, Int.toNat_natCast]
  by_cases h : j ≤ xs.length
  · rw [Nat.min_eq_left h, List.take_of_length_le (by rw [List.length_drop]; omega)]
  · rw [Nat.min_eq_right (by omega), List.drop_of_length_le (Nat.le_refl _), List.drop_of_length_le (by omega), List.take_nil]
theorem Al.at_ {t b : Addr} {H H' : Hp} {o : HO} (a : Al t H H') (n : b ≠ t) (h : H b = some o) : H' b = some o := by rw [a b n]; exact h
theorem Al.none_ {t b : Addr} {H H' : Hp} (a : Al t H H') (n : b ≠ t) (h : H b = none) : H' b = none := by rw [a b n]; exact h
end Cs

set_option maxRecDepth 100000
set_option maxHeartbeats 4000000
/-! how long the text of data may get -/
namespace Cs
open PySem PySem.Spec PyProof.Rows L2
def smallStr (x : Str) : Bool := x.cps.toList.all fun c => decide (c < 16 ^ 8)
theorem smallStr_all {x : Str} (h : smallStr x = true) : ∀ c ∈ x.cps.toList, c < 16 ^ 8 := fun c hc => of_decide_eq_true (List.all_eq_true.mp h c hc)
mutual
/-- no dicts, ints below 2 ^ 1920, texts of codes that can be shown -/
def plainD : PyData → Bool
  | .none => true
  | .bool _ => true
  | .int i => decide (i.natAbs.log2 < 1920)
  | .str x => smallStr x
  | .list xs => plainAll xs
  | .tuple xs => plainAll xs
  | .dict _ => false
def plainAll : List PyData → Bool
  | [] => true
  | x :: xs => plainD x && plainAll xs
end
mutual
def cost : PyData → Nat
  | .none => 4
  | .bool _ => 5
  | .int _ => 1921
  | .str x => 10 * x.length + 2
  | .list xs => costAll xs + 2
  | .tuple xs => costAll xs + 2
  | .dict _ => 0
def costAll : List PyData → Nat
  | [] => 0
  | x :: xs => cost x + 2 + costAll xs
end
theorem list_text (ts : List Str) : (listText ts).length ≤ piled ts + 2 := by
  cases ts with
  | nil => decide +kernel
  | cons t r =>
    have e1 : (listText (t :: r)).length = (textFrom 0 "[" (t :: r)).length + 1 := by
      show (textFrom 0 "[" (t :: r) ++ "]").length = _
      rw [strLen_append]; rfl
    have e2 : (textFrom 0 "[" (t :: r)).length = (textFrom 1 (("[" : Str) ++ (if (0 : Nat) > 0 then ", " else "" : String) ++ t) r).length := rfl
    have e3 : ((("[" : Str) ++ (if (0 : Nat) > 0 then ", " else "" : String) ++ t)).length = 1 + t.length := by
      rw [strLen_append, strLen_append]; rfl
    have h := textFrom_length_pos r 1 (("[" : Str) ++ (if (0 : Nat) > 0 then ", " else "" : String) ++ t) (Nat.succ_pos 0)
    rw [piled_cons]
    omega
mutual
theorem plain_shows : ∀ d : PyData, plainD d = true → d.showable = true ∧ d.hasDict = false ∧ d.shown.length ≤ cost d
  | .none, _ => ⟨by simp only [PyData.showable], by simp only [PyData.hasDict], by simp only [PyData.shown, cost]; decide +kernel⟩
  | .bool b, _ => ⟨by simp only [PyData.showable], by simp only [PyData.hasDict], by simp only [PyData.shown, cost]; cases b <;> decide +kernel⟩
  | .int i, h => by
    simp only [plainD] at h
    exact ⟨by simp only [PyData.showable]; exact h, by simp only [PyData.hasDict], by simp only [PyData.shown, cost]; exact int_text_len_1921 (of_decide_eq_true h)⟩
  | .str x, h => by
    simp only [plainD] at h
    exact ⟨by simp only [PyData.showable], by simp only [PyData.hasDict], by simp only [PyData.shown, cost]; exact StrLaws.reprText_len x (smallStr_all h)⟩
  | .list xs, h => by
    simp only [plainD] at h
    obtain ⟨h1, h2, h3⟩ := plain_showsAll xs h
    refine ⟨by simp only [PyData.showable]; exact h1, by simp only [PyData.hasDict]; exact h2, ?_⟩
    simp only [PyData.shown, cost]
    have := list_text (PyData.shownAll xs)
    omega
  | .tuple xs, h => by
    simp only [plainD] at h
    obtain ⟨h1, h2, h3⟩ := plain_showsAll xs h
    refine ⟨by simp only [PyData.showable]; exact h1, by simp only [PyData.hasDict]; exact h2, ?_⟩
    simp only [PyData.shown, cost]
    have := fmt_text (PyData.shownAll xs)
    omega
  | .dict _, h => by simp [plainD] at h
theorem plain_showsAll : ∀ xs : List PyData, plainAll xs = true → PyData.showableAll xs = true ∧ PyData.hasDictAll xs = false ∧ piled (PyData.shownAll xs) ≤ costAll xs
  | [], _ => ⟨by simp only [PyData.showableAll], by simp only [PyData.hasDictAll], by simp only [PyData.shownAll, costAll]; exact Nat.le_refl _⟩
  | x :: xs, h => by
    simp only [plainAll, Bool.and_eq_true] at h
    obtain ⟨a1, a2, a3⟩ := plain_shows x h.1
    obtain ⟨b1, b2, b3⟩ := plain_showsAll xs h.2
    refine ⟨by simp only [PyData.showableAll, a1, b1, Bool.and_self], by simp only [PyData.hasDictAll, a2, b2, Bool.or_self], ?_⟩
    simp only [PyData.shownAll, costAll, piled_cons]
    omega
end
/-- what repr asks of data -/
def RepOk (d : PyData) : Prop := plainD d = true ∧ d.depth ≤ 40 ∧ cost d ≤ sizeLine
theorem repr_go {K : PySem.W.Frag} {x : V} {d : PyData} {H : Hp} {Q : VK} (hd : Dp K H x d) (ok : RepOk d) (q : Q (.str d.shown) H) : rRepr K [x] H Q := by
  obtain ⟨h1, h2, h3⟩ := plain_shows d ok.1
  exact ⟨x, d, rfl, hd, h1, h2, ok.2.1, Nat.le_trans h3 ok.2.2, q⟩
theorem RepOk.sh {d : PyData} (ok : RepOk d) : d.showable = true := (plain_shows d ok.1).1
theorem RepOk.nd {d : PyData} (ok : RepOk d) : d.hasDict = false := (plain_shows d ok.1).2.1
theorem RepOk.dp {d : PyData} (ok : RepOk d) : d.depth ≤ 40 := ok.2.1
theorem RepOk.sz {d : PyData} (ok : RepOk d) : d.shown.length ≤ sizeLine := Nat.le_trans (plain_shows d ok.1).2.2 ok.2.2
theorem small_int {i : Int} (h1 : -1000000000000000000000000000000 ≤ i) (h2 : i ≤ 1000000000000000000000000000000) : plainD (.int i) = true := by
  simp only [plainD]
  refine decide_eq_true ?_
  by_cases h : i.natAbs = 0
  · rw [h]; decide
  · refine (Nat.log2_lt h).mpr ?_
    have : i.natAbs ≤ 1000000000000000000000000000000 := by omega
    exact Nat.lt_of_le_of_lt this (by decide)
/-- the rectangle as data -/
def R.d (r : R) : PyData := .tuple [.int r.l, .int r.t, .int r.w, .int r.h]
theorem Rc.dp {K : PySem.W.Frag} {H : Hp} {v : V} {r : R} (h : Rc K H v r) : Dp K H v r.d := by
  obtain ⟨a, rfl, h⟩ := h
  exact .tup h (.cons (.int _) (.cons (.int _) (.cons (.int _) (.cons (.int _) .nil))))
theorem R.rep {r : R} (h : ∀ z ∈ [r.l, r.t, r.w, r.h], -1000000000000000000000000000000 ≤ z ∧ z ≤ 1000000000000000000000000000000) : RepOk r.d := by
  refine ⟨?_, by simp [R.d, PyData.depth, PyData.depthAll], ?_⟩
  · have p : ∀ z ∈ [r.l, r.t, r.w, r.h], plainD (.int z) = true := fun z hz => small_int (h z hz).1 (h z hz).2
    simp only [R.d, plainD, plainAll, Bool.and_true, Bool.and_eq_true] at *
    exact ⟨p _ (by simp), p _ (by simp), p _ (by simp), p _ (by simp)⟩
  · simp only [R.d, cost, costAll]
    decide
end Cs

set_option maxRecDepth 100000
set_option maxHeartbeats 4000000
/-! rectangles: the plain functions, and what the program's functions promise of them -/
namespace Cs
open PySem PySem.Spec PyProof.Rows L2
def has (r : R) (x y : Int) : Bool := (decide (r.l ≤ x) && decide (x < r.l + r.w)) && (decide (r.t ≤ y) && decide (y < r.t + r.h))
def In (a b : R) : Bool := decide (b.l ≤ a.l) && (decide (b.t ≤ a.t) && (decide (a.l + a.w ≤ b.l + b.w) && decide (a.t + a.h ≤ b.t + b.h)))
def com (a b : R) : Option R :=
  if max a.l b.l < min (a.l + a.w) (b.l + b.w) ∧ max a.t b.t < min (a.t + a.h) (b.t + b.h) then
    some ⟨max a.l b.l, max a.t b.t, min (a.l + a.w) (b.l + b.w) - max a.l b.l, min (a.t + a.h) (b.t + b.h) - max a.t b.t⟩
  else none
theorem com_comm (a b : R) : com a b = com b a := by
  unfold com
  rw [Int.max_comm a.l b.l, Int.max_comm a.t b.t, Int.min_comm (a.l + a.w), Int.min_comm (a.t + a.h)]
theorem max_if (i j : Int) : (if j > i then j else i) = max i j := by split <;> omega
theorem min_if (i j : Int) : (if j < i then j else i) = min i j := by split <;> omega
/-- v is None or the rectangle o -/
def OptR (K : PySem.W.Frag) (H : Hp) (v : V) : Option R → Prop
  | none => v = .non
  | some r => Rc K H v r
theorem OptR.im {K : PySem.W.Frag} {H H' : Hp} {v : V} {o : Option R} (h : OptR K H v o) (e : Im H H') : OptR K H' v o := by
  cases o with
  | none => exact h
  | some r => exact Rc.im h e
theorem OptR.same {K : PySem.W.Frag} {H H' : Hp} {v : V} {o : Option R} (h : OptR K H v o) (e : Same H H') : OptR K H' v o := h.im (Im.same e)
theorem OptR.isN {K : PySem.W.Frag} {H : Hp} {v : V} {o : Option R} (h : OptR K H v o) : decide (v = .non) = o.isNone := by
  cases o with
  | none => cases h; rfl
  | some r => obtain ⟨a, rfl, _⟩ := h; rfl
def odata : Option R → PyData
  | none => .none
  | some r => r.d
theorem OptR.dp {K : PySem.W.Frag} {H : Hp} {v : V} {o : Option R} (h : OptR K H v o) : Dp K H v (odata o) := by
  cases o with
  | none => cases h; exact .non
  | some r => exact Rc.dp h
theorem none_rep : RepOk .none := ⟨rfl, by simp [PyData.depth], by simp only [cost]; decide⟩
def sp_edges (K : PySem.W.Frag) : Sp := fun vs H Q _ => ∃ (v : V) (r : R), vs = [v] ∧ Rc K H v r ∧ ∀ p, H p = none → Q (.ref p) (upd H p (.tup r.es))
def sp_inside (K : PySem.W.Frag) : Sp := fun vs H Q _ => ∃ (u v : V) (a b : R), vs = [u, v] ∧ Rc K H u a ∧ Rc K H v b ∧ ∀ H', Same H H' → Q (.bl (In a b)) H'
def sp_contains (K : PySem.W.Frag) : Sp := fun vs H Q _ => ∃ (v : V) (r : R) (x y : Int), vs = [v, .int x, .int y] ∧ Rc K H v r ∧ Q (.bl (has r x y)) H
def sp_common (K : PySem.W.Frag) : Sp := fun vs H Q _ => ∃ (u v : V) (a b : R), vs = [u, v] ∧ Rc K H u a ∧ Rc K H v b ∧ ∀ x H', Same H H' → OptR K H' x (com a b) → Q x H'
def sp_overlap (K : PySem.W.Frag) : Sp := fun vs H Q _ => ∃ (u v : V) (a b : R), vs = [u, v] ∧ Rc K H u a ∧ Rc K H v b ∧ ∀ H', Same H H' → Q (.bl (com a b).isSome) H'
def spLaw (K : PySem.W.Frag) : Sp := fun vs H Q _ => ∃ (a : Addr) (ns : List Int), vs = [.ref a] ∧ SqL K H a (ns.map V.int) ∧ ns.length ≤ 63 ∧ ∀ H', Q (.bl true) H'
theorem law_start (K : PySem.W.Frag) (H : Hp) (a : Addr) (ns : List Int) (h1 : ns.length ≤ 63) (h2 : SqL K H a (ns.map V.int)) : spLaw K [.ref a] H (fun v _ => v = .bl true) E0 := ⟨a, ns, rfl, h2, h1, fun _ => rfl⟩
end Cs

set_option maxRecDepth 100000
set_option maxHeartbeats 4000000
/-! texts as lists of codes; a written dict asked by get; comprehensions and loops over a text -/
namespace Cs
open PySem PySem.Spec PyProof.Rows L2
/-- the text of the codes l -/
def S (l : List Nat) : Str := ⟨l.toArray⟩
theorem S_len (l : List Nat) : (S l).length = l.length := by simp [S, Str.length]
theorem S_codes (l : List Nat) : (S l).cps.toList = l := by simp [S]
theorem S_app (l m : List Nat) : S l ++ S m = S (l ++ m) := by
  show Str.mk (l.toArray ++ m.toArray) = Str.mk (l ++ m).toArray
  rw [List.append_toArray]
theorem S_inj {l m : List Nat} (h : S l = S m) : l = m := by
  have := congrArg (fun x : Str => x.cps.toList) h
  simpa [S] using this
theorem S_of (x : Str) : ∃ l, x = S l := ⟨x.cps.toList, by cases x; simp [S]⟩
theorem S_eq {l : List Nat} {x : Str} (h : x.cps.toList = l) : x = S l := by
  subst h
  cases x
  simp [S]
theorem S_at {l : List Nat} {i : Nat} {c : Nat} (h : (S l).cps[i]? = some c) : l[i]? = some c := by
  have : (S l).cps.toList[i]? = some c := by rw [Array.getElem?_toList]; exact h
  rwa [S_codes] at this
/-- text * int -/
def rMulS : R2 := fun x y H Q => ∃ (l : List Nat) (k : Int), x = .str (S l) ∧ y = .int k ∧ 1 ≤ k ∧ l.length * k.toNat ≤ 100000 ∧ k ≤ 100000 ∧ Q (.str (S (List.replicate k.toNat l).flatten)) H
theorem fold_cat : ∀ (n : Nat) (acc l : List Nat), (List.replicate n l.toArray).foldl (· ++ ·) acc.toArray = (acc ++ (List.replicate n l).flatten).toArray
  | 0, acc, l => by simp
  | n + 1, acc, l => by
    rw [List.replicate_succ, List.foldl_cons, List.append_toArray, fold_cat n (acc ++ l) l, List.replicate_succ, List.flatten_cons, List.append_assoc]
theorem op_mul_str {X : Cx} : OpR X (binaryOp .Mult) rMulS := by
  intro pins s σ H x y v u Q I rx ry h
  obtain ⟨l, k, rfl, rfl, k1, k2, k3, q⟩ := h
  obtain ⟨t, rfl⟩ := rx
  obtain ⟨t', rfl⟩ := ry
  have hz : sizeLine = 16777216 := by decide
  refine SB.mul (x := S l) ⟨by simp; omega, fun _ _ h => ?_, fun _ _ => ?_⟩ fun t' n => ⟨.str (Txt.mul (S l) k), H, I.tok _, ⟨_, rfl⟩, ?_⟩
  · rw [S_len] at h
    have hl : (l.length : Int) ≤ 100000 := by
      have : l.length * 1 ≤ l.length * k.toNat := Nat.mul_le_mul_left _ (by omega)
      omega
    have : (2 ^ 63 - 1 : Int) / 100000 ≤ (2 ^ 63 - 1) / k := by
      refine Int.le_ediv_of_mul_le (by omega) ?_
      have : (2 ^ 63 - 1 : Int) / 100000 * k ≤ (2 ^ 63 - 1 : Int) / 100000 * 100000 := Int.mul_le_mul_of_nonneg_left k3 (by decide)
      exact Int.le_trans this (by decide)
    have : (100000 : Int) ≤ (2 ^ 63 - 1 : Int) / 100000 := by decide
    omega
  · rw [S_len]
    show decide (l.length * k.toNat > sizeLine) = false
    exact decide_eq_false (by omega)
  · have e : Txt.mul (S l) k = S (List.replicate k.toNat l).flatten := by
      unfold Txt.mul
      rw [if_neg (by omega)]
      by_cases h1 : (k == 1 || (S l).length == 0) = true
      · rw [if_pos h1]
        rcases Bool.or_eq_true _ _ ▸ h1 with h | h
        · have : k = 1 := by simpa using h
          subst this
          show S l = S (List.replicate 1 l).flatten
          simp
        · rw [S_len] at h
          have : l = [] := by simpa using h
          subst this
          simp
      · rw [if_neg h1]
        have := fold_cat k.toNat [] l
        show Str.mk _ = Str.mk _
        rw [show (S l).cps = l.toArray from rfl]
        simpa using this
    rw [e]
    exact q
section
variable {X : Cx} {o e f : Expr} {apos cpos : Pos} {td ty tx : TE}
/-- d.get(x, z) of a written dict: r says what it holds at the text -/
def tWGet (K : PySem.W.Frag) (w : World) (ty tx : TE) (d : Addr) : TE := fun σ H Q => ty σ H fun y H2 => tx σ H2 fun z H3 => ∃ (x : Str) (es : Array DictEntry) (n : Nat), y = .str x ∧ KDict K w d es n ∧
  ((∃ u v, findBy Value.isStrOf es x = some u ∧ RelV v u ∧ Q v H3) ∨ (findBy Value.isStrOf es x = none ∧ Q z H3))
theorem pe_wget {d : Addr} {x : Str} {pos : Pos} (hg : Gl X x) (hm : X.mg x = some (.ref d)) (D : ∃ es n, KDict X.K X.w d es n) (he : PE X e ty) (hf : PE X f tx) (m : M2 X (.Name x pos) "get" apos e f cpos) (hd : (x == ("__debug__" : Str)) = false := by decide) :
    PE X (.Call (.Attribute (.Name x pos) "get" apos) [e, f] [] cpos) (tWGet X.K X.w ty tx d) := by
  refine ⟨fun pins s σ H Q I h => ?_⟩
  obtain ⟨es, n, D⟩ := D
  refine wpAny_Call_method m.base m.few m.line PySem.F.plainAttrs_dict PySem.F.slot_dict_get PySem.F.type_dict_get (thn ((pe_glob (X := X) (v := .ref d) hg hm rfl hd).run pins s σ H (fun v H' => v = .ref d ∧ H' = H) I ⟨rfl, rfl⟩) fun u s1 ⟨v, H1, I1, rx, e1, e2⟩ => ?_)
  subst e1
  subst e2
  obtain rfl : u = Value.ref d := rx
  have hm0 := PySem.W.mapOf_K (prog := X.prog) (w := X.w) I1.kIn D.at_ D.lit
  refine ⟨hm0.typeIs, fun b eb => ?_, ?_⟩
  · cases eb
    exact ⟨_, I1.kIn _ _ D.at_, rfl⟩
  rw [m.trees]
  refine Calls.callWith_builtin rfl (Calls.evalArgs_plain (Calls.spliced_cons (thn (he.run pins s1 σ H1 _ I1 h) fun iv s2 ⟨y, H2, I2, ry, q2⟩ => Calls.spliced_cons (thn (hf.run pins s2 σ H2 _ I2 q2) fun fv s3 ⟨z, H3, I3, rz, q3⟩ => Calls.spliced_nil ?_))))
  obtain ⟨x0, es', n', ey, D', q⟩ := q3
  subst ey
  obtain ⟨t, rfl⟩ := (show ∃ t, iv = Value.str x0 t from ry)
  have hm3 := PySem.W.mapOf_K (prog := X.prog) (w := X.w) I3.kIn D'.at_ D'.lit
  refine call_meetsIn PySem.F.slot_dict_get hm3.typeIs PySem.F.entry_dict_get (PySem.F.args_dict_get_3 _ _ _) (meets_dict_get_default (strKind X.prog X.w) d (strKind_is X.prog X.w x0 t) D'.low fv) ⟨_, hm3, ?_⟩
  rcases q with ⟨u0, v0, hq, rv, q⟩ | ⟨hq, q⟩
  · rw [hq]
    exact ⟨v0, H3, I3.tok _, rv, q⟩
  · rw [hq]
    exact ⟨z, H3, I3.tok _, rz, q⟩
/-- a module's number, whatever token it bears -/
theorem pe_globI {x : Str} {i : Int} {pos : Pos} (hg : Gl X x) (hm : ∃ t, X.mg x = some (.int i t)) (hd : (x == ("__debug__" : Str)) = false := by decide) : PE X (.Name x pos) (tC (.int i)) := by
  obtain ⟨t, hm⟩ := hm
  exact pe_glob hg hm ⟨t, rfl⟩ hd
end
section
variable {K : PySem.W.Frag} {l : List Nat} {te : TE} {g : TG} {tb : TS} {s : Nat} {σ : L2.St} {H H1 : Hp} {D : Addr} {Qd : Hp → Prop} {En : Ends}
theorem for_text (Pv : Nat → L2.St → Hp → Prop) (h0 : Pv 0 σ H)
    (hs : ∀ (i : Nat) c σ H, l[i]? = some c → Pv i σ H → g (.str (S [c])) σ H fun σ2 H2 => tb { En with nx := Pv (i + 1), ct := Pv (i + 1), bk := En.nx } σ2 H2) (hd : ∀ σ H, Pv l.length σ H → En.nx σ H) :
    ∃ W : Nat → Nat → L2.St → Hp → Prop, (∃ m, W 0 m σ H) ∧ ∀ i m σ H, W i m σ H →
      ((Its (S l)).stop i H ∧ En.nx σ H) ∨ ((Its (S l)).go i H ∧ ∃ N : L2.St → Hp → Prop, (∀ σ' H', N σ' H' → ∃ m', m' < m ∧ W (i + 1) m' σ' H') ∧ ∀ x H', (Its (S l)).yld i H x H' → g x σ H' fun σ2 H2 => tb { En with nx := N, ct := N, bk := En.nx } σ2 H2) := by
  have sz : (S l).cps.size = l.length := by simp [S]
  refine ⟨fun i m σ H => m = l.length - i ∧ i ≤ l.length ∧ Pv i σ H, ⟨l.length, by simp, Nat.zero_le _, h0⟩, ?_⟩
  rintro i m σ H ⟨rfl, hi, p⟩
  by_cases hlt : i < l.length
  · refine .inr ⟨by show i < (S l).cps.size; omega, Pv (i + 1), fun σ' H' p' => ⟨l.length - (i + 1), by omega, rfl, hlt, p'⟩, fun x H' y => ?_⟩
    obtain ⟨e, c, hc, ex⟩ := y
    subst e
    subst ex
    exact hs i c σ _ (S_at hc) p
  · have e : i = l.length := by omega
    subst e
    exact .inl ⟨by show (S l).cps.size ≤ _; omega, hd σ H p⟩
theorem lc_text (Pv : Nat → Hp → Prop) (h0 : Pv 0 (upd H1 D (.lst [])))
    (hs : ∀ (i : Nat) c H, l[i]? = some c → Pv i H → gName s (.str (S [c])) (wipe σ [s]) H fun σ2 H2 => wipe σ2 [s] = wipe σ [s] ∧ tYes σ2 H2 fun b H3 =>
      if b = true then te σ2 H3 fun y H4 => ∃ acc, H4 D = some (.lst acc) ∧ acc.length < sizeLine ∧ Pv (i + 1) (upd H4 D (.lst (acc ++ [y]))) else Pv (i + 1) H3) (hd : ∀ H, Pv l.length H → Qd H) :
    ∃ W : Nat → Nat → Hp → Prop, (∃ m, W 0 m (upd H1 D (.lst []))) ∧ ∀ i m H, W i m H →
      ((Its (S l)).stop i H ∧ Qd H) ∨ ((Its (S l)).go i H ∧ ∃ Nx : Hp → Prop, (∀ H', Nx H' → ∃ m', m' < m ∧ W (i + 1) m' H') ∧ ∀ x H', (Its (S l)).yld i H x H' → gName s x (wipe σ [s]) H' fun σ2 H2 => wipe σ2 [s] = wipe σ [s] ∧ tYes σ2 H2 fun b H3 =>
        if b = true then te σ2 H3 fun y H4 => ∃ acc, H4 D = some (.lst acc) ∧ acc.length < sizeLine ∧ Nx (upd H4 D (.lst (acc ++ [y]))) else Nx H3) := by
  have sz : (S l).cps.size = l.length := by simp [S]
  refine ⟨fun i m H => m = l.length - i ∧ i ≤ l.length ∧ Pv i H, ⟨l.length, by simp, Nat.zero_le _, h0⟩, ?_⟩
  rintro i m H ⟨rfl, hi, p⟩
  by_cases hlt : i < l.length
  · refine .inr ⟨by show i < (S l).cps.size; omega, Pv (i + 1), fun H' p' => ⟨l.length - (i + 1), by omega, rfl, hlt, p'⟩, fun x H' y => ?_⟩
    obtain ⟨e, c, hc, ex⟩ := y
    subst e
    subst ex
    exact hs i c _ (S_at hc) p
  · have e : i = l.length := by omega
    subst e
    exact .inl ⟨by show (S l).cps.size ≤ _; omega, hd H p⟩
/-- [f(c) for c in text], f a value that hangs on the sign alone -/
theorem map_text (f : Nat → V) (hz : l.length ≤ sizeLine) (fresh : H1 D = none)
    (elt : ∀ (i : Nat) c, l[i]? = some c → ∀ H, Same H1 H → ∀ Q' : VK, (∀ H', Same H H' → Q' (f c) H') → te ((σ.set s none).set s (some (.str (S [c])))) H Q')
    (hd : ∀ H, Same H1 H → H D = some (.lst (l.map f)) → Qd H) :
    ∃ W : Nat → Nat → Hp → Prop, (∃ m, W 0 m (upd H1 D (.lst []))) ∧ ∀ i m H, W i m H →
      ((Its (S l)).stop i H ∧ Qd H) ∨ ((Its (S l)).go i H ∧ ∃ Nx : Hp → Prop, (∀ H', Nx H' → ∃ m', m' < m ∧ W (i + 1) m' H') ∧ ∀ x H', (Its (S l)).yld i H x H' → gName s x (wipe σ [s]) H' fun σ2 H2 => wipe σ2 [s] = wipe σ [s] ∧ tYes σ2 H2 fun b H3 =>
        if b = true then te σ2 H3 fun y H4 => ∃ acc, H4 D = some (.lst acc) ∧ acc.length < sizeLine ∧ Nx (upd H4 D (.lst (acc ++ [y]))) else Nx H3) :=
  lc_text (CompSo (fun i v _ => ∃ c, l[i]? = some c ∧ v = f c) H1 D) (comp_start fresh)
    (fun i c H hc so => comp_turn (fun _ _ _ _ h _ => h) hz fresh (List.getElem?_eq_some_iff.mp hc).1 so fun H sm Q' hQ => elt i c hc H sm Q' fun H' sm' => hQ _ H' sm' ⟨c, hc, rfl⟩)
    fun H ⟨sm, ys, hD, hlen, hP⟩ => hd H sm (by rw [← eq_map hlen hP]; exact hD)
end
end Cs

set_option maxRecDepth 100000
set_option maxHeartbeats 4000000
/-! widths of texts -/
namespace Cs
open PySem PySem.Spec PyProof.Rows L2
def alpha : List Nat := (Str.ofString " !\"#$&'()*+,-./0123456789:;<=>?@ABCDEFGHIJKLMNOPQRSTUVWXYZ[\\]^_`" ++ Str.ofString "abcdefghijklmnopqrstuvwxyz{|}~").cps.toList
theorem alpha_len : alpha.length = 94 := by decide +kernel
theorem alpha_small : ∀ c ∈ alpha, c < 128 := by decide +kernel
/-- the width of the sign with the code c -/
def gw (c : Nat) : Int :=
  if c ∈ (Str.ofString "!'.:i|").cps.toList then 1
  else if c ∈ (Str.ofString "(),;[]jl`").cps.toList then 2
  else if c ∈ (Str.ofString " \"*-/1<>I\\^frt{}").cps.toList then 3
  else if c ∈ (Str.ofString "$023456789=?J_abcdeghknopqsuvxyz").cps.toList then 4
  else 5
theorem gw_pos (c : Nat) : 1 ≤ gw c := by unfold gw; split <;> (try decide); split <;> (try decide); split <;> (try decide); split <;> decide
theorem gw_le (c : Nat) : gw c ≤ 5 := by unfold gw; split <;> (try decide); split <;> (try decide); split <;> (try decide); split <;> decide
/-- a text of such signs -/
def Word (l : List Nat) : Prop := ∀ c ∈ l, c ∈ alpha
theorem Word.nil : Word [] := fun _ h => absurd h List.not_mem_nil
theorem Word.app {l m : List Nat} (a : Word l) (b : Word m) : Word (l ++ m) := fun c h => (List.mem_append.mp h).elim (a c) (b c)
theorem Word.one {c : Nat} (h : c ∈ alpha) : Word [c] := fun d hd => by rw [List.mem_singleton.mp hd]; exact h
def tw (l : List Nat) : Int := if l = [] then 0 else (l.map gw).sum + l.length - 1
theorem sum_gw : ∀ l : List Nat, (l.length : Int) ≤ (l.map gw).sum ∧ (l.map gw).sum ≤ 5 * l.length
  | [] => by simp
  | c :: r => by
    have := sum_gw r
    have := gw_pos c
    have := gw_le c
    rw [List.map_cons, List.sum_cons, List.length_cons]
    omega
theorem tw_nn (l : List Nat) : 0 ≤ tw l := by
  unfold tw
  split
  · exact Int.le_refl _
  · have := (sum_gw l).1
    have : 0 < l.length := List.length_pos_iff.mpr (by assumption)
    omega
theorem tw_le (l : List Nat) : tw l ≤ 6 * l.length := by
  unfold tw
  split
  · omega
  · have := (sum_gw l).2
    omega
theorem sum_gw1 : ∀ l : List Nat, (l.map fun c => 1 + gw c).sum = (l.map gw).sum + l.length
  | [] => by simp
  | c :: r => by
    have := sum_gw1 r
    rw [List.map_cons, List.sum_cons, List.map_cons, List.sum_cons, List.length_cons]
    omega
theorem tw_law (l : List Nat) : max ((l.map fun c => 1 + gw c).sum - 1) 0 = tw l := by
  rw [sum_gw1]
  unfold tw
  split
  · rename_i h
    subst h
    show max ((0 : Int) + 0 - 1) 0 = 0
    decide
  · have := (sum_gw l).1
    have : 0 < l.length := List.length_pos_iff.mpr (by assumption)
    omega
theorem tw_app (l m : List Nat) (h1 : l ≠ []) (h2 : m ≠ []) : tw (l ++ m) = tw l + 1 + tw m := by
  unfold tw
  rw [if_neg h1, if_neg h2, if_neg (by simp [h1]), List.map_append, List.sum_append, List.length_append]
  omega
theorem sum_take_map {f : Nat → Int} {l : List Nat} {i : Nat} {c : Nat} (h : l[i]? = some c) : ((l.take (i + 1)).map f).sum = ((l.take i).map f).sum + f c := by
  rw [List.take_add_one, h, List.map_append, List.sum_append]
  simp
/-- the column x is one of a sign's, the first sign at left -/
def ink : List Nat → Int → Int → Bool
  | [], _, _ => false
  | c :: r, left, x => if x < left + gw c then decide (left ≤ x) && !decide (c = 32) else ink r (left + gw c + 1) x
theorem ink_cons (c : Nat) (r : List Nat) (left x : Int) : ink (c :: r) left x = if x < left + gw c then decide (left ≤ x) && !decide (c = 32) else ink r (left + gw c + 1) x := rfl
theorem ink_off : ∀ (l : List Nat) (left x : Int), x < left → ink l left x = false
  | [], _, _, _ => rfl
  | c :: r, left, x, h => by
    have := gw_pos c
    unfold ink
    rw [if_pos (by omega), decide_eq_false (by omega)]
    rfl
/-- .. as the law asks it -/
def ink2 : List Nat → Int → Int → Bool
  | [], _, _ => false
  | c :: r, left, x => if left ≤ x ∧ x < left + gw c then !decide (c = 32) else ink2 r (left + gw c + 1) x
theorem ink2_cons (c : Nat) (r : List Nat) (left x : Int) : ink2 (c :: r) left x = if left ≤ x ∧ x < left + gw c then !decide (c = 32) else ink2 r (left + gw c + 1) x := rfl
theorem ink2_off : ∀ (l : List Nat) (left x : Int), x < left → ink2 l left x = false
  | [], _, _, _ => rfl
  | c :: r, left, x, h => by
    have := gw_pos c
    unfold ink2
    rw [if_neg (by omega)]
    exact ink2_off r _ _ (by omega)
theorem ink_eq : ∀ (l : List Nat) (left x : Int), ink2 l left x = ink l left x
  | [], _, _ => rfl
  | c :: r, left, x => by
    have := gw_pos c
    unfold ink2 ink
    by_cases h : x < left + gw c
    · rw [if_pos h]
      by_cases h2 : left ≤ x
      · rw [if_pos ⟨h2, h⟩, decide_eq_true h2]; rfl
      · rw [if_neg (by omega), decide_eq_false h2, ink2_off r _ _ (by omega)]; rfl
    · rw [if_neg h, if_neg (by omega)]
      exact ink_eq r _ _
def inkT (l : List Nat) (x y : Int) : Bool := (decide (0 ≤ y) && decide (y < 7)) && ink l 0 x
theorem drop_cons {l : List Nat} {i : Nat} {c : Nat} (h : l[i]? = some c) : l.drop i = c :: l.drop (i + 1) := by
  obtain ⟨hi, e⟩ := List.getElem?_eq_some_iff.mp h
  rw [List.drop_eq_getElem_cons hi, e]
/-- the written table of widths -/
structure Glyphs (K : PySem.W.Frag) (w : World) (mg : Str → Option Value) : Prop where
  tab : ∃ (d : Addr) (es : Array DictEntry) (n : Nat), mg "GLYPH_WIDTHS" = some (.ref d) ∧ KDict K w d es n ∧ ∀ c ∈ alpha, (∃ t, findBy Value.isStrOf es (S [c]) = some (.int (gw c) t)) ∨ (findBy Value.isStrOf es (S [c]) = none ∧ gw c = 5)
  other : ∃ t, mg "OTHER_WIDTH" = some (.int 5 t)
  height : ∃ t, mg "TEXT_HEIGHT" = some (.int 7 t)
/-- the check of the table, to be run -/
def tabB (es : Array DictEntry) : Bool := alpha.all fun c => match findBy Value.isStrOf es (S [c]) with
  | some (.int i _) => decide (i = gw c)
  | none => decide (gw c = 5)
  | _ => false
theorem tab_of {es : Array DictEntry} (h : tabB es = true) : ∀ c ∈ alpha, (∃ t, findBy Value.isStrOf es (S [c]) = some (.int (gw c) t)) ∨ (findBy Value.isStrOf es (S [c]) = none ∧ gw c = 5) := fun c hc => by
  have q := List.all_eq_true.mp h c hc
  split at q
  · rename_i i t e
    exact .inl ⟨t, by rw [e, of_decide_eq_true q]⟩
  · rename_i e
    exact .inr ⟨e, of_decide_eq_true q⟩
  · cases q
def sp_glyph_width (K : PySem.W.Frag) : Sp := fun vs H Q _ => ∃ c, vs = [.str (S [c])] ∧ c ∈ alpha ∧ Q (.int (gw c)) H
def sp_text_width (K : PySem.W.Frag) : Sp := fun vs H Q _ => ∃ l, vs = [.str (S l)] ∧ Word l ∧ l.length ≤ 100000 ∧ ∀ H', Same H H' → Q (.int (tw l)) H'
def sp_inked (K : PySem.W.Frag) : Sp := fun vs H Q _ => ∃ l x y, vs = [.str (S l), .int x, .int y] ∧ Word l ∧ Q (.bl (inkT l x y)) H
def sp_law_sign_width (K : PySem.W.Frag) : Sp := fun vs H Q _ => ∃ c, vs = [.str (S [c])] ∧ Q (.int (gw c)) H
def sp_law_width (K : PySem.W.Frag) : Sp := fun vs H Q _ => ∃ l, vs = [.str (S l)] ∧ Q (.int (tw l)) H
def sp_law_inked (K : PySem.W.Frag) : Sp := fun vs H Q _ => ∃ l x y, vs = [.str (S l), .int x, .int y] ∧ Q (.bl (inkT l x y)) H
def sp_law_word (K : PySem.W.Frag) : Sp := fun vs H Q _ => ∃ (t l : Addr), vs = [.ref t] ∧ TapeAt H t l ∧ ∀ m H', TapeAt H' t l → Gr t H H' → Word m → m.length ≤ 5 → Q (.str (S m)) H'
theorem S_lit : S [] = Str.ofString "" := by decide +kernel
theorem S_sp : S [32] = Str.ofString " " := by decide +kernel
theorem S_sp_iff {c : Nat} : (S [c] = Str.ofString " ") ↔ c = 32 := by
  rw [← S_sp]
  constructor
  · intro h
    have := S_inj h
    simpa using this
  · intro h; rw [h]
end Cs

set_option maxRecDepth 100000
set_option maxHeartbeats 4000000

namespace Cs
open PySem PySem.Spec PyProof.Rows L2
local macro_rules | `(tactic| walk_at "sets") => `(tactic| (repeat (first | exact set_0 | apply set_s)))
local macro_rules | `(tactic| walk_at "sts") => `(tactic| (repeat (first | exact rep_0 | apply rep_s | apply app_cons | apply app_nil)))
local macro_rules | `(tactic| walk_at "sql") => `(tactic| first
  | exact SqL.of (by assumption)
  | exact SqL.of upd_same
  | assumption)
local macro_rules | `(tactic| walk_at "sqt") => `(tactic| first
  | exact SqT.of (by assumption)
  | exact SqT.of upd_same
  | assumption)
local macro_rules | `(tactic| walk_at "rd1") => `(tactic| first
  | ((with_reducible show gName _ _ _ _ _); refine gset (by walk_at "sets") ?_)
  | refine ⟨_, rfl, ?_⟩
  | refine ⟨rfl, ?_⟩
  | refine ⟨_, _, rfl, rfl, (show CMul _ _ from Or.inr ⟨by decide, by decide⟩), ?_⟩
  | refine ⟨_, _, rfl, rfl, (show (0 : Int) < _ by first | decide | omega), ?_⟩
  | refine ⟨_, _, rfl, rfl, (show CDiv _ _ from ⟨by omega, by omega⟩), ?_⟩
  | refine ⟨_, _, rfl, rfl, (show CPow _ _ from ⟨by decide, by decide, by decide⟩), ?_⟩
  | refine ⟨_, _, rfl, rfl, ?_⟩
  | refine ⟨_, _, _, _, rfl, rfl, (show SqL _ _ _ _ by walk_at "sql"), rfl, ?_⟩
  | refine ⟨_, _, _, _, rfl, rfl, (show SqT _ _ _ _ by walk_at "sqt"), rfl, ?_⟩
  | refine ⟨_, _, _, _, rfl, rfl, (by assumption), rfl, ?_⟩
  | refine ⟨_, _, _, _, rfl, rfl, upd_same, rfl, ?_⟩
  | refine ⟨_, _, rfl, (show LenV _ _ _ _ from Or.inl ⟨_, (by walk_at "sql"), rfl⟩), ?_⟩
  | refine ⟨_, _, rfl, (show LenV _ _ _ _ from Or.inr ⟨_, (by walk_at "sqt"), rfl⟩), ?_⟩
  | refine ⟨_, (show TruV _ _ _ _ from Or.inl ⟨_, (by walk_at "sql"), rfl⟩), ?_⟩
  | refine ⟨_, (show TruV _ _ _ _ from Or.inr (Or.inl ⟨_, (by walk_at "sqt"), rfl⟩)), ?_⟩
  | refine Or.inl ⟨_, rfl, ?_⟩
  | refine ⟨_, _, rfl, ?_⟩)

def top (i : Nat) : Stmt := PySem.Challenge.pw_chartspec_k40_widths_and_columns_of_text.main.body.getD i (.Pass ⟨0, 0, 0, 0⟩)
abbrev s_glyph_width : Stmt := top 4
theorem sc_glyph_width : FnScope ["character"] ["character"] (defScope s_glyph_width) := ⟨rfl, rfl, rfl, by decide +kernel, rfl, by decide +kernel, by decide +kernel⟩
abbrev s_text_width : Stmt := top 5
theorem sc_text_width : FnScope ["text", "character"] ["text"] (defScope s_text_width) := ⟨rfl, rfl, rfl, by decide +kernel, rfl, by decide +kernel, by decide +kernel⟩
abbrev s_inked : Stmt := top 6
theorem sc_inked : FnScope ["text", "x", "y", "left", "character", "after"] ["text", "x", "y"] (defScope s_inked) := ⟨rfl, rfl, rfl, by decide +kernel, rfl, by decide +kernel, by decide +kernel⟩
abbrev s_law_tape : Stmt := top 8
theorem sc_law_tape : FnScope ["script", "total", "cell"] ["script"] (defScope s_law_tape) := ⟨rfl, rfl, rfl, by decide +kernel, rfl, by decide +kernel, by decide +kernel⟩
abbrev s_law_draw : Stmt := top 9
theorem sc_law_draw : FnScope ["tape", "many", "place", "number"] ["tape", "many"] (defScope s_law_draw) := ⟨rfl, rfl, rfl, by decide +kernel, rfl, by decide +kernel, by decide +kernel⟩
abbrev s_law_sign_width : Stmt := top 10
theorem sc_law_sign_width : FnScope ["sign"] ["sign"] (defScope s_law_sign_width) := ⟨rfl, rfl, rfl, by decide +kernel, rfl, by decide +kernel, by decide +kernel⟩
abbrev s_law_width : Stmt := top 11
theorem sc_law_width : FnScope ["text", "total", "sign"] ["text"] (defScope s_law_width) := ⟨rfl, rfl, rfl, by decide +kernel, rfl, by decide +kernel, by decide +kernel⟩
abbrev s_law_inked : Stmt := top 12
theorem sc_law_inked : FnScope ["text", "x", "y", "left", "sign", "width"] ["text", "x", "y"] (defScope s_law_inked) := ⟨rfl, rfl, rfl, by decide +kernel, rfl, by decide +kernel, by decide +kernel⟩
abbrev s_law_word : Stmt := top 13
theorem sc_law_word : FnScope ["tape", "signs", "word", "k"] ["tape"] (defScope s_law_word) := ⟨rfl, rfl, rfl, by decide +kernel, rfl, by decide +kernel, by decide +kernel⟩
abbrev s_law : Stmt := top 14
theorem sc_law : FnScope ["script", "tape", "first", "second", "sign", "told", "y", "x", "answer"] ["script"] (defScope s_law) := ⟨rfl, rfl, rfl, by decide +kernel, rfl, by decide +kernel, by decide +kernel⟩
structure Blt (mg : Str → Option Value) : Prop where
  abs : mg "abs" = none
  bool : mg "bool" = none
  int : mg "int" = none
  isinstance : mg "isinstance" = none
  len : mg "len" = none
  list : mg "list" = none
  max : mg "max" = none
  range : mg "range" = none
  repr : mg "repr" = none
  sum : mg "sum" = none

section
variable {P : Program} {w : World} {K : PySem.W.Frag} {mg : Str → Option Value} {base : Heap}
theorem df_law_tape (M : Blt mg) (A : At K mg "_law_tape" s_law_tape) : Df P w K mg base 1 "_law_tape" ["script"] (sp_law_tape K) := by
  have nd := sc_law_tape.nd
  refine Df.of A (fun _ _ _ _ _ _ us hl => match us, hl with | [_], _ => rfl) sc_law_tape (fun vs H Q E h => ?_) (fun cdv A out f s H vs Q E hr hgd h => ?_)
  · obtain ⟨a, ns, rfl, _⟩ := h
    rfl
  · obtain ⟨a, ns, rfl, hS, hl, k⟩ := h
    refine ⟨_, (pss_cons (ps_set (i := 1) nd rfl (Or.inl rfl) pe_int)
      (pss_cons (ps_for PassesOwn.never rfl (pi_list (pv 0)) (pg_name (i := 2) nd rfl (Or.inl rfl)) (pss_one (ps_set (i := 1) nd rfl (Or.inl rfl) (pe_op op_mod (pe_callTy call_int1 (by rfl) M.int (by decide +kernel) (pa_cons (pe_op op_add (pe_op op_mul (pv 1) pe_int) (pe_callB call_abs (by rfl) M.abs (by decide +kernel) (pa_cons (pe_callTy call_int1 (by rfl) M.int (by decide +kernel) (pa_cons (pv 2) pa_nil)) pa_nil))) pa_nil)) pe_int))))
      (pss_one (ps_ret (pe_lst (pa_cons (pe_callTy (listK K) (by rfl) M.list (by decide +kernel) (pa_cons (pv 0) pa_nil)) (pa_cons pe_int (pa_cons pe_int (pa_cons (pv 1) pa_nil))))))))), at_start (st_of (k := 2) rfl (by walk_at "sts")) ?_⟩
    refine ⟨_, rfl, a, rfl, ⟨_, hS⟩, for_list (K := K) (a := a) (xs := ns.map V.int) (fun i σ H2 => H2 = H ∧ ∃ (z : Int) (v : Option V), σ = [some (.ref a), some (.int z), v] ∧ 0 ≤ z) ⟨rfl, 7, none, rfl, by decide⟩ (fun i σ H2 _ e => by rw [e.1]; exact hS) ?_ ?_⟩
    · rintro i y σ H2 hi ⟨rfl, z, v, rfl, hz⟩
      obtain ⟨n, rfl⟩ := int_at hi
      repeat walk_at "rd1"
      exact Int.emod_nonneg _ (by decide)
    · rintro σ H2 ⟨rfl, z, v, rfl, hz⟩
      refine ⟨_, rfl, a, _, rfl, Or.inl hS, fun l hl => ?_⟩
      repeat walk_at "rd1"
      refine ⟨(by show 4 ≤ sizeLine; decide), fun t ht => ?_⟩
      have nlt : l ≠ t := ne_of_none upd_same ht
      refine k t l _ (fun b o e => ?_) ⟨⟨ns, 0, 0, z, upd_same, by rw [upd_ne nlt]; exact upd_same, by decide, by decide, hz⟩, nlt⟩ ((Same.new hl).free ht) hl
      rw [upd_ne (ne_of_none (Same.new hl _ _ e) ht), upd_ne (ne_of_none e hl)]
      exact e
theorem df_law_draw (M : Blt mg) (A : At K mg "_law_draw" s_law_draw) : Df P w K mg base 1 "_law_draw" ["tape", "many"] (sp_law_draw K) := by
  have nd := sc_law_draw.nd
  refine Df.of A (fun _ _ _ _ _ _ us hl => match us, hl with | [_, _], _ => rfl) sc_law_draw (fun vs H Q E h => ?_) (fun cdv A out f s H vs Q E hr hgd h => ?_)
  · obtain ⟨t, l, m, rfl, _⟩ := h
    rfl
  · obtain ⟨t, l, m, rfl, T, hm, k⟩ := h
    obtain ⟨⟨ns, p, r, s, h1, h2, p0, r0, s0⟩, nlt⟩ := id T
    refine ⟨_, (pss_cons (ps_if (pt_cmpR op_eq (pe_ix (ixL K) (pv 0) pe_int (fun _ _ => rfl)) pe_int (nomark _)) (pss_cons (ps_set (i := 2) nd rfl (Or.inl rfl) (pe_ix (ixL K) (pv 0) pe_int (fun _ _ => rfl)))
      (pss_cons (ps_set (i := 3) nd rfl (Or.inl rfl) pe_int)
      (pss_cons (ps_if (pt_cmpR op_lt (pv 2) (pe_callB (lenK K) (by rfl) M.len (by decide +kernel) (pa_cons (pe_ix (ixL K) (pv 0) pe_int (fun _ _ => rfl)) pa_nil)) (nomark _)) (pss_one (ps_set (i := 3) nd rfl (Or.inl rfl) (pe_callB call_abs (by rfl) M.abs (by decide +kernel) (pa_cons (pe_callTy call_int1 (by rfl) M.int (by decide +kernel) (pa_cons (pe_ix (ixL K) (pe_ix (ixL K) (pv 0) pe_int (fun _ _ => rfl)) (pv 2) (fun _ _ => rfl)) pa_nil)) pa_nil)))) (pss_cons (ps_asg (pe_op op_mod (pe_callTy call_int1 (by rfl) M.int (by decide +kernel) (pa_cons (pe_op op_add (pe_op op_add (pe_op op_mul (pe_ix (ixL K) (pv 0) pe_int (fun _ _ => rfl)) pe_int) (pv 2)) pe_int) pa_nil)) pe_int) (pg_sub (pv 0) pe_int set_list))
      (pss_one (ps_set (i := 3) nd rfl (Or.inl rfl) (pe_ix (ixL K) (pv 0) pe_int (fun _ _ => rfl))))))
      (pss_cons (ps_asg (pe_op op_add (pv 2) pe_int) (pg_sub (pv 0) pe_int set_list))
      (pss_cons (ps_if (pt_cmpR op_lt (pv 3) (pe_op op_pow pe_int pe_int) (nomark _)) (pss_cons (ps_set (i := 3) nd rfl (Or.inl rfl) (pe_op op_mod (pe_callTy call_int1 (by rfl) M.int (by decide +kernel) (pa_cons (pe_op op_add (pe_op op_add (pe_op op_mul (pv 3) pe_int) (pe_op op_mul (pv 2) pe_int)) pe_int) pa_nil)) pe_int))
      (pss_cons (ps_set (i := 3) nd rfl (Or.inl rfl) (pe_op op_mod (pe_callTy call_int1 (by rfl) M.int (by decide +kernel) (pa_cons (pe_op op_mul (pv 3) pe_int) pa_nil)) pe_int))
      (pss_one (ps_ret (pe_op op_mod (pe_callTy call_int1 (by rfl) M.int (by decide +kernel) (pa_cons (pv 3) pa_nil)) (pe_callB (call_max2 rfl) (by rfl) M.max (by decide +kernel) (pa_cons (pv 1) (pa_cons pe_int pa_nil)))))))) pss_nil)
      (pss_one (ps_asg (pv 3) (pg_sub (pv 0) pe_int set_list)))))))) pss_nil)
      (pss_cons (ps_set (i := 3) nd rfl (Or.inl rfl) (pe_ix (ixL K) (pv 0) pe_int (fun _ _ => rfl)))
      (pss_cons (ps_asg (pe_op op_fdiv (pv 3) (pe_callB (call_max2 rfl) (by rfl) M.max (by decide +kernel) (pa_cons (pv 1) (pa_cons pe_int pa_nil)))) (pg_sub (pv 0) pe_int set_list))
      (pss_one (ps_ret (pe_op op_mod (pe_callTy call_int1 (by rfl) M.int (by decide +kernel) (pa_cons (pv 3) pa_nil)) (pe_callB (call_max2 rfl) (by rfl) M.max (by decide +kernel) (pa_cons (pv 1) (pa_cons pe_int pa_nil))))))))), at_start (st_of (k := 2) rfl (by walk_at "sts")) ?_⟩
    have fin : ∀ (n : Int) (H1 : Hp) (p' r' s' : Int), H1 t = some (.lst [.ref l, .int p', .int r', .int s']) → Al t H H1 → 0 ≤ p' → 0 ≤ r' → 0 ≤ s' → Q (.int (n % (if (1 : Int) > m then (1 : Int) else m))) H1 := by
      intro n H1 p' r' s' e1 a1 hp hr' hs
      rw [max_one]
      refine k _ H1 ⟨⟨ns, p', r', s', e1, by rw [a1 l nlt]; exact h2, hp, hr', hs⟩, nlt⟩ a1 (Int.emod_nonneg _ (by omega)) (Int.emod_lt_of_pos _ (by omega))
    repeat walk_at "rd1"
    refine if_int (fun hr0 => ?_) (fun hr0 => ?_)
    · subst hr0
      repeat walk_at "rd1"
      refine if_dec (fun hpl => ?_) (fun hpl => ?_)
      · rw [List.length_map] at hpl
        obtain ⟨n, hn⟩ := at_int p0 hpl
        refine ⟨_, rfl, _, _, _, _, rfl, rfl, SqL.of h1, rfl, _, rfl, _, _, _, _, rfl, rfl, SqL.of h2, hn, ?_⟩
        repeat walk_at "rd1"
        refine if_dec (fun h18 => ?_) (fun h18 => ?_)
        · repeat walk_at "rd1"
          exact fin _ _ (p + 1) 0 s upd_same Al.upd (by omega) (by decide) s0
        · repeat walk_at "rd1"
          exact fin _ _ (p + 1) _ s upd_same ((Al.upd.trans Al.upd).trans Al.upd) (by omega) (Int.ediv_nonneg (by split <;> omega) (by split <;> omega)) s0
      · repeat walk_at "rd1"
        refine if_dec (fun h18 => ?_) (fun h18 => ?_)
        · repeat walk_at "rd1"
          exact fin _ _ (p + 1) 0 _ upd_same (Al.upd.trans Al.upd) (by omega) (by decide) (Int.emod_nonneg _ (by decide))
        · repeat walk_at "rd1"
          exact fin _ _ (p + 1) _ _ upd_same (((Al.upd.trans Al.upd).trans Al.upd).trans Al.upd) (by omega) (Int.ediv_nonneg (Int.emod_nonneg _ (by decide)) (by split <;> omega)) (Int.emod_nonneg _ (by decide))
    · repeat walk_at "rd1"
      exact fin _ _ p _ s upd_same Al.upd p0 (Int.ediv_nonneg r0 (by split <;> omega)) s0
end

section
variable {P : Program} {w : World} {K : PySem.W.Frag} {mg : Str → Option Value} {base : Heap}
theorem df_glyph_width (M : Blt mg) (A : At K mg "glyph_width" s_glyph_width) (G : Glyphs K w mg) : Df P w K mg base 1 "glyph_width" ["character"] (sp_glyph_width K) := by
  have nd := sc_glyph_width.nd
  refine Df.of A (fun _ _ _ _ _ _ us hl => match us, hl with | [_], _ => rfl) sc_glyph_width (fun vs H Q E h => ?_) (fun cdv A out f s H vs Q E hr hgd h => ?_)
  · obtain ⟨c, rfl, _⟩ := h
    rfl
  · obtain ⟨c, rfl, hc, k⟩ := h
    obtain ⟨d, es, n, hd, hD, ht⟩ := G.tab
    refine ⟨_, (pss_one (ps_ret (pe_wget (d := d) rfl hd ⟨_, _, hD⟩ (pv 0) (pe_globI rfl G.other) ⟨rfl, rfl, rfl, rfl⟩))), at_start (st_of (k := 0) rfl (by walk_at "sts")) ?_⟩
    refine ⟨_, rfl, S [c], es, n, rfl, hD, ?_⟩
    rcases ht c hc with ⟨t, e⟩ | ⟨e, e5⟩
    · exact Or.inl ⟨_, .int (gw c), e, ⟨t, rfl⟩, k⟩
    · exact Or.inr ⟨e, by rw [← e5]; exact k⟩
theorem df_text_width (M : Blt mg) (A : At K mg "text_width" s_text_width) (D_glyph_width : Df P w K mg base 1 "glyph_width" ["character"] (sp_glyph_width K)) : Df P w K mg base 2 "text_width" ["text"] (sp_text_width K) := by
  have nd := sc_text_width.nd
  refine Df.of A (fun _ _ _ _ _ _ us hl => match us, hl with | [_], _ => rfl) sc_text_width (fun vs H Q E h => ?_) (fun cdv A out f s H vs Q E hr hgd h => ?_)
  · obtain ⟨l, rfl, _⟩ := h
    rfl
  · obtain ⟨l, rfl, hw, hl, k⟩ := h
    have h16 : sizeLine = 16777216 := by decide
    refine ⟨_, (pss_cons (ps_if (pt_cmpR op_eq (pv 0) pe_str (nomark _)) (pss_one (ps_ret pe_int)) pss_nil)
      (pss_one (ps_ret (pe_op op_sub (pe_op op_add (pe_callB (sumK K rfl) (by rfl) M.sum (by decide +kernel) (pa_cons (pe_lc (own := [("character", 1)]) (g := (gName 1)) (tt := tYes) rfl nd (pi_str (pv 0)) (blkOk_by (N := ["text", "character"]) (sc := defScope s_text_width) (by decide +kernel)) (fun _ _ _ _ _ => pg_name (i := 1) nd rfl (Or.inl rfl)) (fun _ _ _ _ _ => pts_nil) (fun _ _ _ _ _ => (pe_df D_glyph_width (hr.mono (by decide)) hgd rfl (pa_cons (pv 1) pa_nil)))) pa_nil)) (pe_callB (lenK K) (by rfl) M.len (by decide +kernel) (pa_cons (pv 0) pa_nil))) pe_int)))), at_start (st_of (k := 1) rfl (by walk_at "sts")) ?_⟩
    repeat walk_at "rd1"
    refine if_str (fun e => ?_) (fun e => ?_)
    · have e0 : l = [] := S_inj (e.trans S_lit.symm)
      subst e0
      exact k H (Same.refl _)
    · have ne : l ≠ [] := fun q => e (by rw [q]; exact S_lit)
      refine ⟨_, rfl, S l, rfl, fun D hD => map_text (fun c => V.int (gw c)) (by omega) hD (fun i c hc H1 sm Q' hQ => ?_) fun H1 sm hD1 => ?_⟩
      · exact ⟨_, rfl, c, rfl, hw c (List.mem_of_getElem? hc), hQ _ (Same.refl _)⟩
      · have e1 : (l.map fun c => V.int (gw c)) = (l.map gw).map V.int := by rw [List.map_map]; rfl
        rw [e1] at hD1
        refine ⟨D, _, rfl, SqL.of hD1, _, rfl, _, _, rfl, (show LenV K (.str (S l)) H1 l.length from ⟨by rw [S_len]; omega, (S_len l).symm⟩), _, _, rfl, rfl, _, _, rfl, rfl, ?_⟩
        have e2 : tw l = (l.map gw).sum + (l.length : Int) - 1 := if_neg ne
        show Q (.int ((l.map gw).sum + (l.length : Int) - 1)) H1
        rw [← e2]
        exact k H1 sm
theorem df_inked (M : Blt mg) (A : At K mg "inked" s_inked) (G : Glyphs K w mg) (D_glyph_width : Df P w K mg base 1 "glyph_width" ["character"] (sp_glyph_width K)) : Df P w K mg base 2 "inked" ["text", "x", "y"] (sp_inked K) := by
  have nd := sc_inked.nd
  refine Df.of A (fun _ _ _ _ _ _ us hl => match us, hl with | [_, _, _], _ => rfl) sc_inked (fun vs H Q E h => ?_) (fun cdv A out f s H vs Q E hr hgd h => ?_)
  · obtain ⟨l, x, y, rfl, _⟩ := h
    rfl
  · obtain ⟨l, x, y, rfl, hw, k⟩ := h
    have k' : ∀ c, inkT l x y = c → Q (.bl c) H := fun c e => by rw [← e]; exact k
    refine ⟨_, (pss_cons (ps_if (pt_not (pt_chain op_le op_lt pe_int (pv 2) (pe_globI rfl G.height))) (pss_one (ps_ret pe_bl)) pss_nil)
      (pss_cons (ps_set (i := 3) nd rfl (Or.inl rfl) pe_int)
      (pss_cons (ps_for PassesOwn.never rfl (pi_str (pv 0)) (pg_name (i := 4) nd rfl (Or.inl rfl)) (pss_cons (ps_set (i := 5) nd rfl (Or.inl rfl) (pe_op op_add (pv 3) (pe_df D_glyph_width (hr.mono (by decide)) hgd rfl (pa_cons (pv 4) pa_nil))))
      (pss_cons (ps_if (pt_cmpR op_lt (pv 1) (pv 5) (nomark _)) (pss_one (ps_ret (pe_and (pe_cmpR op_le (pv 3) (pv 1) (nomark _)) (pe_one (pe_cmpR op_ne (pv 4) pe_str (nomark _)))))) pss_nil)
      (pss_one (ps_set (i := 3) nd rfl (Or.inl rfl) (pe_op op_add (pv 5) pe_int))))))
      (pss_one (ps_ret pe_bl))))), at_start (st_of (k := 3) rfl (by walk_at "sts")) ?_⟩
    repeat walk_at "rd1"
    refine if_dec (fun c1 => ?_) (fun c1 => ⟨false, rfl, iteT (k' _ (by simp [inkT, c1]))⟩)
    repeat walk_at "rd1"
    by_cases c2 : y < 7
    · rw [decide_eq_true c2]
      refine iteF ?_
      repeat walk_at "rd1"
      refine for_text (fun i σ H' => H' = H ∧ ∃ (left : Int) (v4 v5 : Option V), σ = [some (.str (S l)), some (.int x), some (.int y), some (.int left), v4, v5] ∧ ink l 0 x = ink (l.drop i) left x) ⟨rfl, 0, _, _, rfl, by rw [List.drop_zero]⟩ ?_ ?_
      · rintro i c σ H' hc ⟨rfl, left, v4, v5, rfl, e⟩
        rw [drop_cons hc, ink_cons] at e
        repeat walk_at "rd1"
        refine ⟨hw c (List.mem_of_getElem? hc), ?_⟩
        repeat walk_at "rd1"
        refine if_dec (fun c3 => ?_) (fun c3 => ?_)
        · rw [if_pos c3] at e
          repeat walk_at "rd1"
          refine if_dec (fun c4 => ?_) (fun c4 => ?_)
          · repeat walk_at "rd1"
            have e9 : (!decide (V.str (S [c]) = V.str (Str.ofString " "))) = (!decide (c = 32)) := by
              by_cases q : c = 32
              · rw [decide_eq_true q, decide_eq_true (by rw [S_sp_iff.mpr q])]
              · rw [decide_eq_false q, decide_eq_false (fun h => q (S_sp_iff.mp (V.str.inj h)))]
            show Q (.bl (!decide (V.str (S [c]) = V.str (Str.ofString " ")))) H'
            rw [e9]
            exact k' _ (by rw [inkT, e, decide_eq_true c1, decide_eq_true c2, decide_eq_true c4]; rfl)
          · exact k' _ (by rw [inkT, e, decide_eq_false c4]; simp)
        · rw [if_neg c3] at e
          repeat walk_at "rd1"
          exact ⟨_, _, _, rfl, e⟩
      · rintro σ H' ⟨rfl, left, v4, v5, rfl, e⟩
        rw [List.drop_length] at e
        exact k' _ (by rw [inkT, e]; simp [ink])
    · rw [decide_eq_false c2]
      exact iteT (k' _ (by simp [inkT, c2]))
theorem df_law_sign_width (M : Blt mg) (A : At K mg "_law_sign_width" s_law_sign_width) : Df P w K mg base 1 "_law_sign_width" ["sign"] (sp_law_sign_width K) := by
  have nd := sc_law_sign_width.nd
  refine Df.of A (fun _ _ _ _ _ _ us hl => match us, hl with | [_], _ => rfl) sc_law_sign_width (fun vs H Q E h => ?_) (fun cdv A out f s H vs Q E hr hgd h => ?_)
  · obtain ⟨c, rfl, _⟩ := h
    rfl
  · obtain ⟨c, rfl, k⟩ := h
    refine ⟨_, (pss_cons (ps_if (pt_cmpR op_in_sign (pv 0) pe_str rfl) (pss_one (ps_ret pe_int)) pss_nil)
      (pss_cons (ps_if (pt_cmpR op_in_sign (pv 0) pe_str rfl) (pss_one (ps_ret pe_int)) pss_nil)
      (pss_cons (ps_if (pt_cmpR op_in_sign (pv 0) pe_str rfl) (pss_one (ps_ret pe_int)) pss_nil)
      (pss_cons (ps_if (pt_cmpR op_in_sign (pv 0) pe_str rfl) (pss_one (ps_ret pe_int)) pss_nil)
      (pss_one (ps_ret pe_int)))))), at_start (st_of (k := 0) rfl (by walk_at "sts")) ?_⟩
    have k' : ∀ i, gw c = i → Q (.int i) H := fun i e => by rw [← e]; exact k
    refine ⟨_, rfl, c, _, rfl, rfl, _, rfl, if_dec (fun c1 => k' _ (by simp only [gw, if_pos c1])) (fun c1 => ?_)⟩
    refine ⟨_, rfl, c, _, rfl, rfl, _, rfl, if_dec (fun c2 => k' _ (by simp only [gw, if_neg c1, if_pos c2])) (fun c2 => ?_)⟩
    refine ⟨_, rfl, c, _, rfl, rfl, _, rfl, if_dec (fun c3 => k' _ (by simp only [gw, if_neg c1, if_neg c2, if_pos c3])) (fun c3 => ?_)⟩
    refine ⟨_, rfl, c, _, rfl, rfl, _, rfl, if_dec (fun c4 => k' _ (by simp only [gw, if_neg c1, if_neg c2, if_neg c3, if_pos c4])) (fun c4 => ?_)⟩
    exact k' _ (by simp only [gw, if_neg c1, if_neg c2, if_neg c3, if_neg c4])
theorem df_law_width (M : Blt mg) (A : At K mg "_law_width" s_law_width) (D_law_sign_width : Df P w K mg base 1 "_law_sign_width" ["sign"] (sp_law_sign_width K)) : Df P w K mg base 2 "_law_width" ["text"] (sp_law_width K) := by
  have nd := sc_law_width.nd
  refine Df.of A (fun _ _ _ _ _ _ us hl => match us, hl with | [_], _ => rfl) sc_law_width (fun vs H Q E h => ?_) (fun cdv A out f s H vs Q E hr hgd h => ?_)
  · obtain ⟨l, rfl, _⟩ := h
    rfl
  · obtain ⟨l, rfl, k⟩ := h
    refine ⟨_, (pss_cons (ps_set (i := 1) nd rfl (Or.inl rfl) pe_int)
      (pss_cons (ps_for PassesOwn.never rfl (pi_str (pv 0)) (pg_name (i := 2) nd rfl (Or.inl rfl)) (pss_one (ps_set (i := 1) nd rfl (Or.inl rfl) (pe_op op_add (pe_op op_add (pv 1) pe_int) (pe_df D_law_sign_width (hr.mono (by decide)) hgd rfl (pa_cons (pv 2) pa_nil))))))
      (pss_one (ps_ret (pe_callB (call_max2 rfl) (by rfl) M.max (by decide +kernel) (pa_cons (pe_op op_sub (pv 1) pe_int) (pa_cons pe_int pa_nil))))))), at_start (st_of (k := 2) rfl (by walk_at "sts")) ?_⟩
    repeat walk_at "rd1"
    refine for_text (fun i σ H' => H' = H ∧ ∃ (v2 : Option V), σ = [some (.str (S l)), some (.int ((l.take i).map fun c => 1 + gw c).sum), v2]) ⟨rfl, _, rfl⟩ ?_ ?_
    · rintro i c σ H' hc ⟨rfl, v2, rfl⟩
      repeat walk_at "rd1"
      exact ⟨_, by rw [sum_take_map hc, ← Int.add_assoc]⟩
    · rintro σ H' ⟨rfl, v2, rfl⟩
      repeat walk_at "rd1"
      rw [List.take_length]
      show Q (.int (if 0 > (l.map fun c => 1 + gw c).sum - 1 then 0 else (l.map fun c => 1 + gw c).sum - 1)) H'
      rw [max_if, tw_law]
      exact k
theorem df_law_inked (M : Blt mg) (A : At K mg "_law_inked" s_law_inked) (D_law_sign_width : Df P w K mg base 1 "_law_sign_width" ["sign"] (sp_law_sign_width K)) : Df P w K mg base 2 "_law_inked" ["text", "x", "y"] (sp_law_inked K) := by
  have nd := sc_law_inked.nd
  refine Df.of A (fun _ _ _ _ _ _ us hl => match us, hl with | [_, _, _], _ => rfl) sc_law_inked (fun vs H Q E h => ?_) (fun cdv A out f s H vs Q E hr hgd h => ?_)
  · obtain ⟨l, x, y, rfl, _⟩ := h
    rfl
  · obtain ⟨l, x, y, rfl, k⟩ := h
    have k' : ∀ c, inkT l x y = c → Q (.bl c) H := fun c e => by rw [← e]; exact k
    refine ⟨_, (pss_cons (ps_set (i := 3) nd rfl (Or.inl rfl) pe_int)
      (pss_cons (ps_for PassesOwn.never rfl (pi_str (pv 0)) (pg_name (i := 4) nd rfl (Or.inl rfl)) (pss_cons (ps_set (i := 5) nd rfl (Or.inl rfl) (pe_df D_law_sign_width (hr.mono (by decide)) hgd rfl (pa_cons (pv 4) pa_nil)))
      (pss_cons (ps_if (PW.pt (pw_and (pt_cmpR op_le (pv 3) (pv 1) (nomark _)) (pw_and1 (pt_cmpR op_lt (pv 1) (pe_op op_add (pv 3) (pv 5)) (nomark _))))) (pss_one (ps_ret (pe_and (pe_cmpR op_ne (pv 4) pe_str (nomark _)) (pe_and (pe_cmpR op_le pe_int (pv 2) (nomark _)) (pe_one (pe_cmpR op_lt (pv 2) pe_int (nomark _))))))) pss_nil)
      (pss_one (ps_set (i := 3) nd rfl (Or.inl rfl) (pe_op op_add (pe_op op_add (pv 3) (pv 5)) pe_int))))))
      (pss_one (ps_ret pe_bl)))), at_start (st_of (k := 3) rfl (by walk_at "sts")) ?_⟩
    repeat walk_at "rd1"
    refine for_text (fun i σ H' => H' = H ∧ ∃ (left : Int) (v4 v5 : Option V), σ = [some (.str (S l)), some (.int x), some (.int y), some (.int left), v4, v5] ∧ ink l 0 x = ink2 (l.drop i) left x) ⟨rfl, 0, _, _, rfl, by rw [List.drop_zero, ink_eq]⟩ ?_ ?_
    · rintro i c σ H' hc ⟨rfl, left, v4, v5, rfl, e⟩
      rw [drop_cons hc, ink2_cons] at e
      repeat walk_at "rd1"
      refine if_dec (fun c1 => ?_) (fun c1 => ?_)
      · repeat walk_at "rd1"
        refine if_dec (fun c2 => ?_) (fun c2 => ?_)
        · rw [if_pos ⟨c1, c2⟩] at e
          repeat walk_at "rd1"
          have e9 : (!decide (V.str (S [c]) = V.str (Str.ofString " "))) = (!decide (c = 32)) := by
            by_cases q : c = 32
            · rw [decide_eq_true q, decide_eq_true (by rw [S_sp_iff.mpr q])]
            · rw [decide_eq_false q, decide_eq_false (fun h => q (S_sp_iff.mp (V.str.inj h)))]
          show if (!decide (V.str (S [c]) = V.str (Str.ofString " "))) = true then _ else _
          rw [e9]
          refine if_ndec (fun c3 => ?_) (fun c3 => k' _ (by rw [inkT, e, decide_eq_true c3]; simp))
          repeat walk_at "rd1"
          refine if_dec (fun c4 => ?_) (fun c4 => k' _ (by simp [inkT, c4]))
          repeat walk_at "rd1"
          exact k' _ (by rw [inkT, e, decide_eq_true c4, decide_eq_false c3]; simp)
        · rw [if_neg (fun h => c2 h.2)] at e
          repeat walk_at "rd1"
          exact ⟨_, _, _, rfl, e⟩
      · rw [if_neg (fun h => c1 h.1)] at e
        refine iteF ?_
        repeat walk_at "rd1"
        exact ⟨_, _, _, rfl, e⟩
    · rintro σ H' ⟨rfl, left, v4, v5, rfl, e⟩
      rw [List.drop_length] at e
      exact k' _ (by rw [inkT, e]; simp [ink2])
theorem df_law_word (M : Blt mg) (A : At K mg "_law_word" s_law_word) (D_law_draw : Df P w K mg base 1 "_law_draw" ["tape", "many"] (sp_law_draw K)) : Df P w K mg base 2 "_law_word" ["tape"] (sp_law_word K) := by
  have nd := sc_law_word.nd
  refine Df.of A (fun _ _ _ _ _ _ us hl => match us, hl with | [_], _ => rfl) sc_law_word (fun vs H Q E h => ?_) (fun cdv A out f s H vs Q E hr hgd h => ?_)
  · obtain ⟨t, l, rfl, _⟩ := h
    rfl
  · obtain ⟨t, l, rfl, T, k⟩ := h
    refine ⟨_, (pss_cons (ps_set (i := 1) nd rfl (Or.inl rfl) pe_str)
      (pss_cons (ps_set (i := 1) nd rfl (Or.inl rfl) (pe_op op_add_str (pv 1) pe_str))
      (pss_cons (ps_set (i := 2) nd rfl (Or.inl rfl) pe_str)
      (pss_cons (ps_for PassesOwn.never rfl (pi_range1 rfl M.range (pa_cons (pe_ix (ixL K) (pe_lst (pa_cons pe_int (pa_cons pe_int (pa_cons pe_int (pa_cons pe_int (pa_cons pe_int (pa_cons pe_int pa_nil))))))) (pe_df D_law_draw (hr.mono (by decide)) hgd rfl (pa_cons (pv 0) (pa_cons pe_int pa_nil))) (fun _ _ => rfl)) pa_nil)) (pg_name (i := 3) nd rfl (Or.inl rfl)) (pss_one (ps_set (i := 2) nd rfl (Or.inl rfl) (pe_op op_add_str (pv 2) (pe_ix ix_str (pv 1) (pe_df D_law_draw (hr.mono (by decide)) hgd rfl (pa_cons (pv 0) (pa_cons pe_int pa_nil))) (fun _ _ => rfl))))))
      (pss_one (ps_ret (pv 2))))))), at_start (st_of (k := 3) rfl (by walk_at "sts")) ?_⟩
    repeat walk_at "rd1"
    refine ⟨(by decide +kernel), ?_⟩
    repeat walk_at "rd1"
    refine ⟨(show 6 ≤ sizeLine by decide), fun b hb => ?_⟩
    repeat walk_at "rd1"
    refine ⟨t, l, _, rfl, T.new hb, by decide, fun c H2 T2 a2 c1 c2 => ?_⟩
    obtain ⟨z, z1, _, z3⟩ := atI_mem (xs := [V.int 0, V.int 1, V.int 1, V.int 2, V.int 3, V.int 5]) c1 (by show c < 6; omega)
    obtain ⟨n, rfl, n0, n5⟩ : ∃ n : Int, z = V.int n ∧ 0 ≤ n ∧ n ≤ 5 := by
      simp at z3
      rcases z3 with rfl | rfl | rfl | rfl | rfl
      · exact ⟨0, rfl, by decide, by decide⟩
      · exact ⟨1, rfl, by decide, by decide⟩
      · exact ⟨2, rfl, by decide, by decide⟩
      · exact ⟨3, rfl, by decide, by decide⟩
      · exact ⟨5, rfl, by decide, by decide⟩
    have g2 : Gr t H H2 := (Gr.new hb).trans a2.gr
    refine ⟨b, _, _, _, rfl, rfl, SqL.of (a2.at_ (T.ne_t hb) upd_same), z1, n, rfl, by omega, by omega, for_range (lo := 0) (n := n.toNat) (fun i σ H' => ∃ (m : List Nat) (v3 : Option V), σ = [some (.ref t), some (.str (Str.ofString " !\"#$&'()*+,-./0123456789:;<=>?@ABCDEFGHIJKLMNOPQRSTUVWXYZ[\\]^_`" ++ Str.ofString "abcdefghijklmnopqrstuvwxyz{|}~")), some (.str (S m)), v3] ∧ TapeAt H' t l ∧ Gr t H H' ∧ Word m ∧ m.length ≤ i) ⟨[], none, by rw [S_lit]; rfl, T2, g2, Word.nil, Nat.le_refl _⟩ ?_ ?_⟩
    · rintro i σ H' hi ⟨m, v3, rfl, T', g', wm, lm⟩
      repeat walk_at "rd1"
      refine ⟨t, l, _, rfl, T', by decide, fun d H3 T3 a3 d1 d2 => ?_⟩
      obtain ⟨e, e1, _, e3⟩ := atI_mem (xs := alpha) d1 (by rw [alpha_len]; omega)
      refine ⟨_, _, e, rfl, rfl, (by decide +kernel), e1, _, _, rfl, rfl, (by rw [S_len]; show m.length + 1 ≤ sizeLine; have : sizeLine = 16777216 := (by decide); omega), ?_⟩
      have es : S m ++ (⟨#[e]⟩ : Str) = S (m ++ [e]) := S_app m [e]
      rw [es]
      exact ⟨m ++ [e], _, rfl, T3, g'.trans a3.gr, wm.app (Word.one e3), by rw [List.length_append]; show _ + 1 ≤ _; omega⟩
    · rintro σ H' ⟨m, v3, rfl, T', g', wm, lm⟩
      exact ⟨_, rfl, k m H' T' g' wm (by omega)⟩
end

theorem word_rep {l : List Nat} (h : Word l) : ∀ n : Nat, Word (List.replicate n l).flatten
  | 0 => by simp; exact Word.nil
  | n + 1 => by rw [List.replicate_succ, List.flatten_cons]; exact h.app (word_rep h n)
theorem rep_len (l : List Nat) : ∀ n : Nat, ((List.replicate n l).flatten).length = n * l.length
  | 0 => by simp
  | n + 1 => by rw [List.replicate_succ, List.flatten_cons, List.length_append, rep_len l n, Nat.succ_mul]; omega
theorem int_rep {i : Int} (h1 : -1000000 ≤ i) (h2 : i ≤ 1000000) : RepOk (.int i) := ⟨small_int (by omega) (by omega), by simp [PyData.depth], by simp only [cost]; decide⟩
theorem ints_rep {a b c : Int} (h1 : -1000000 ≤ a ∧ a ≤ 1000000) (h2 : -1000000 ≤ b ∧ b ≤ 1000000) (h3 : -1000000 ≤ c ∧ c ≤ 1000000) : RepOk (.list [.int a, .int b, .int c]) := by
  refine ⟨?_, by simp [PyData.depth, PyData.depthAll], by simp only [cost, costAll]; decide⟩
  have p1 := small_int (i := a) (by omega) (by omega)
  have p2 := small_int (i := b) (by omega) (by omega)
  have p3 := small_int (i := c) (by omega) (by omega)
  simp only [plainD, plainAll, Bool.and_true, Bool.and_eq_true] at *
  exact ⟨p1, p2, p3⟩
theorem ints_dp {K : PySem.W.Frag} {H : Hp} {p : Addr} {a b c : Int} (h : H p = some (.lst [.int a, .int b, .int c])) : Dp K H (.ref p) (.list [.int a, .int b, .int c]) := .lst (SqL.of h) (.cons (.int _) (.cons (.int _) (.cons (.int _) .nil)))
section
variable {P : Program} {w : World} {K : PySem.W.Frag} {mg : Str → Option Value} {base : Heap}
theorem fn_law {f : Addr} {fd : FuncData} (M : Blt mg) (F : Fun K "law" "law" s_law f fd) (D_law_tape : Df P w K mg base 1 "_law_tape" ["script"] (sp_law_tape K)) (D_law_word : Df P w K mg base 2 "_law_word" ["tape"] (sp_law_word K)) (D_law_draw : Df P w K mg base 1 "_law_draw" ["tape", "many"] (sp_law_draw K)) (D_text_width : Df P w K mg base 2 "text_width" ["text"] (sp_text_width K)) (D_inked : Df P w K mg base 2 "inked" ["text", "x", "y"] (sp_inked K)) (D_glyph_width : Df P w K mg base 1 "glyph_width" ["character"] (sp_glyph_width K)) (D_law_sign_width : Df P w K mg base 1 "_law_sign_width" ["sign"] (sp_law_sign_width K)) (D_law_width : Df P w K mg base 2 "_law_width" ["text"] (sp_law_width K)) (D_law_inked : Df P w K mg base 2 "_law_inked" ["text", "x", "y"] (sp_law_inked K)) : FnG P w K mg base 3 f fd ["script"] (spLaw K) := by
  have nd := sc_law.nd
  refine FnG.of F sc_law (fun vs H Q E h => ?_) (fun cdv A out s H vs Q E hr hgd h => ?_)
  · obtain ⟨a, ns, rfl, _⟩ := h
    rfl
  · obtain ⟨a, ns, rfl, hS, hlen, k⟩ := h
    have h16 : sizeLine = 16777216 := by decide
    refine ⟨_, (pss_cons (ps_set (i := 1) nd rfl (Or.inl rfl) (pe_df D_law_tape (hr.mono (by decide)) hgd rfl (pa_cons (pv 0) pa_nil)))
      (pss_cons (ps_set (i := 2) nd rfl (Or.inl rfl) (pe_op op_add_str (pe_df D_law_word (hr.mono (by decide)) hgd rfl (pa_cons (pv 1) pa_nil)) (pe_df D_law_word (hr.mono (by decide)) hgd rfl (pa_cons (pv 1) pa_nil))))
      (pss_cons (ps_set (i := 3) nd rfl (Or.inl rfl) (pe_op op_add_str (pe_df D_law_word (hr.mono (by decide)) hgd rfl (pa_cons (pv 1) pa_nil)) (pe_df D_law_word (hr.mono (by decide)) hgd rfl (pa_cons (pv 1) pa_nil))))
      (C8.pss_cut (ps_if (pt_cmpR op_eq (pe_df D_law_draw (hr.mono (by decide)) hgd rfl (pa_cons (pv 1) (pa_cons pe_int pa_nil))) pe_int (nomark _)) (pss_one (ps_set (i := 2) nd rfl (Or.inl rfl) (pe_op op_mul_str (pv 2) (pe_op op_add pe_int (pe_df D_law_draw (hr.mono (by decide)) hgd rfl (pa_cons (pv 1) (pa_cons pe_int pa_nil))))))) pss_nil)
      (C8.pss_cut (ps_for PassesOwn.never rfl (pi_str (pe_op op_add_str (pv 2) (pv 3))) (pg_name (i := 4) nd rfl (Or.inl rfl)) (pss_one (ps_if (pt_cmpR op_ne (pe_callB (reprK K hr.units hgd) (by rfl) M.repr (by decide +kernel) (pa_cons (pe_df D_glyph_width (hr.mono (by decide)) hgd rfl (pa_cons (pv 4) pa_nil)) pa_nil)) (pe_callB (reprK K hr.units hgd) (by rfl) M.repr (by decide +kernel) (pa_cons (pe_df D_law_sign_width (hr.mono (by decide)) hgd rfl (pa_cons (pv 4) pa_nil)) pa_nil)) (nomark _)) (pss_one (ps_ret pe_bl)) pss_nil)))
      (pss_cons (ps_set (i := 5) nd rfl (Or.inl rfl) (pe_lst (pa_cons (pe_df D_text_width (hr.mono (by decide)) hgd rfl (pa_cons (pv 2) pa_nil)) (pa_cons (pe_df D_text_width (hr.mono (by decide)) hgd rfl (pa_cons (pv 3) pa_nil)) (pa_cons (pe_df D_text_width (hr.mono (by decide)) hgd rfl (pa_cons (pe_op op_add_str (pv 2) (pv 3)) pa_nil)) pa_nil)))))
      (C8.pss_cut (ps_if (pt_cmpR op_ne (pe_callB (reprK K hr.units hgd) (by rfl) M.repr (by decide +kernel) (pa_cons (pv 5) pa_nil)) (pe_callB (reprK K hr.units hgd) (by rfl) M.repr (by decide +kernel) (pa_cons (pe_lst (pa_cons (pe_df D_law_width (hr.mono (by decide)) hgd rfl (pa_cons (pv 2) pa_nil)) (pa_cons (pe_df D_law_width (hr.mono (by decide)) hgd rfl (pa_cons (pv 3) pa_nil)) (pa_cons (pe_df D_law_width (hr.mono (by decide)) hgd rfl (pa_cons (pe_op op_add_str (pv 2) (pv 3)) pa_nil)) pa_nil)))) pa_nil)) (nomark _)) (pss_one (ps_ret pe_bl)) pss_nil)
      (C8.pss_cut (ps_if (PW.pt (pw_and (truK K (pv 2)) (pw_and (truK K (pv 3)) (pw_and1 (pt_cmpR op_ne (pe_ix (ixL K) (pv 5) pe_int (fun _ _ => rfl)) (pe_op op_add (pe_op op_add (pe_ix (ixL K) (pv 5) pe_int (fun _ _ => rfl)) pe_int) (pe_ix (ixL K) (pv 5) pe_int (fun _ _ => rfl))) (nomark _)))))) (pss_one (ps_ret pe_bl)) pss_nil)
      (C8.pss_cut (ps_for PassesOwn.never rfl (pi_list (pe_lst (pa_cons (pe_un un_neg pe_int) (pa_cons pe_int (pa_cons (pe_op op_add pe_int (pe_df D_law_draw (hr.mono (by decide)) hgd rfl (pa_cons (pv 1) (pa_cons pe_int pa_nil)))) (pa_cons pe_int (pa_cons pe_int pa_nil))))))) (pg_name (i := 6) nd rfl (Or.inl rfl)) (pss_one (ps_for PassesOwn.never rfl (pi_range2 rfl M.range (pa_cons (pe_un un_neg pe_int) (pa_cons (pe_op op_add (pe_df D_law_width (hr.mono (by decide)) hgd rfl (pa_cons (pv 3) pa_nil)) pe_int) pa_nil))) (pg_name (i := 7) nd rfl (Or.inl rfl)) (pss_cons (ps_set (i := 8) nd rfl (Or.inl rfl) (pe_df D_inked (hr.mono (by decide)) hgd rfl (pa_cons (pv 3) (pa_cons (pv 7) (pa_cons (pv 6) pa_nil)))))
      (pss_one (ps_if (PW.pt (pw_or (pt_not (pt_val (pe_callB call_isi (by rfl) M.isinstance (by decide +kernel) (pa_cons (pv 8) (pa_cons (pe_bltn (v := .ty "bool") (u := .type "bool") (by rfl) M.bool (by decide +kernel) rfl) pa_nil))))) (pw_or1 (pt_cmpR op_ne (pv 8) (pe_df D_law_inked (hr.mono (by decide)) hgd rfl (pa_cons (pv 3) (pa_cons (pv 7) (pa_cons (pv 6) pa_nil)))) (nomark _))))) (pss_one (ps_ret pe_bl)) pss_nil))))))
      (pss_one (ps_ret pe_bl))))))))))), at_start (st_of (k := 8) rfl (by walk_at "sts")) ?_⟩
    refine ⟨_, rfl, a, ns, rfl, hS, hlen, fun t l H1 sm0 T1 ht hl => ?_⟩
    refine ⟨_, rfl, t, l, rfl, T1, fun m1 H2 T2 g2 w1 l1 => ⟨_, rfl, t, l, rfl, T2, fun m2 H3 T3 g3 w2 l2 => ⟨_, _, rfl, rfl, (by rw [S_len, S_len]; omega), ?_⟩⟩⟩
    rw [S_app]
    repeat walk_at "rd1"
    refine ⟨t, l, rfl, T3, fun m3 H4 T4 g4 w3 l3 => ⟨_, rfl, t, l, rfl, T4, fun m4 H5 T5 g5 w4 l4 => ⟨_, _, rfl, rfl, (by rw [S_len, S_len]; omega), ?_⟩⟩⟩
    rw [S_app]
    have wF := w1.app w2
    have wG := w3.app w4
    have lF : (m1 ++ m2).length ≤ 10 := by rw [List.length_append]; omega
    have lG : (m3 ++ m4).length ≤ 10 := by rw [List.length_append]; omega
    generalize m1 ++ m2 = F0 at *
    generalize m3 ++ m4 = G at *
    repeat walk_at "rd1"
    refine ⟨fun σ H' => ∃ F, σ = [some (.ref a), some (.ref t), some (.str (S F)), some (.str (S G)), none, none, none, none, none] ∧ TapeAt H' t l ∧ Word F ∧ F.length ≤ 200, ?_, ?_⟩
    · refine ⟨_, rfl, t, l, _, rfl, T5, by decide, fun d H6 T6 a6 d1 d2 => ⟨rfl, _, rfl, if_int (fun _ => ?_) (fun _ => ?_)⟩⟩
      · repeat walk_at "rd1"
        refine ⟨t, l, _, rfl, T6, by decide, fun e H7 T7 a7 e1 e2 => ⟨_, _, rfl, rfl, F0, _, rfl, rfl, by omega, ?_, by omega, ?_⟩⟩
        · have : F0.length * (1 + e).toNat ≤ 10 * 20 := Nat.mul_le_mul lF (by omega)
          omega
        · refine ⟨_, rfl, T7, word_rep wF _, ?_⟩
          rw [rep_len]
          have : (1 + e).toNat * F0.length ≤ 20 * 10 := Nat.mul_le_mul (by omega) lF
          omega
      · exact ⟨F0, rfl, T6, wF, by omega⟩
    rintro σ H6 ⟨F, rfl, T6, wF, lF⟩
    have tF : -1000000 ≤ tw F ∧ tw F ≤ 1000000 := by have := tw_nn F; have := tw_le F; omega
    have tG : -1000000 ≤ tw G ∧ tw G ≤ 1000000 := by have := tw_nn G; have := tw_le G; omega
    have tFG : -1000000 ≤ tw (F ++ G) ∧ tw (F ++ G) ≤ 1000000 := by have := tw_nn (F ++ G); have := tw_le (F ++ G); rw [List.length_append] at this; omega
    -- each sign
    refine ⟨fun σ H' => ∃ v4, σ = [some (.ref a), some (.ref t), some (.str (S F)), some (.str (S G)), v4, none, none, none, none] ∧ TapeAt H' t l, ?_, ?_⟩
    · refine ⟨_, rfl, _, rfl, _, _, rfl, rfl, (by rw [S_len, S_len]; omega), S (F ++ G), by rw [S_app], for_text (fun i σ H' => ∃ v4, σ = [some (.ref a), some (.ref t), some (.str (S F)), some (.str (S G)), v4, none, none, none, none] ∧ TapeAt H' t l) ⟨_, rfl, T6⟩ ?_ ?_⟩
      · rintro i c σ H' hc ⟨v4, rfl, T'⟩
        have hca : c ∈ alpha := (wF.app wG) c (List.mem_of_getElem? hc)
        have rg := int_rep (i := gw c) (by have := gw_pos c; omega) (by have := gw_le c; omega)
        refine ⟨_, rfl, c, rfl, hca, _, _, rfl, .int _, rg.sh, rg.nd, rg.dp, rg.sz, ?_⟩
        refine ⟨_, rfl, c, rfl, _, _, rfl, .int _, rg.sh, rg.nd, rg.dp, rg.sz, rfl, _, rfl, if_nstr (fun h => absurd rfl h) (fun _ => ?_)⟩
        exact ⟨_, rfl, T'⟩
      · rintro σ H' ⟨v4, rfl, T'⟩
        exact ⟨_, rfl, T'⟩
    rintro σ H7 ⟨v4, rfl, T7⟩
    refine ⟨_, rfl, F, rfl, wF, by omega, fun H8 s8 => ⟨_, rfl, G, rfl, wG, by omega, fun H9 s9 => ⟨_, rfl, _, rfl, _, _, rfl, rfl, (by rw [S_len, S_len]; omega), ?_⟩⟩⟩
    rw [S_app]
    refine ⟨F ++ G, rfl, wF.app wG, by rw [List.length_append]; omega, fun H10 s10 => ⟨(show 3 ≤ sizeLine by decide), fun p hp => ?_⟩⟩
    have T11 := (((T7.same s8).same s9).same s10).new (o := .lst [.int (tw F), .int (tw G), .int (tw (F ++ G))]) hp
    have hp11 : (upd H10 p (.lst [.int (tw F), .int (tw G), .int (tw (F ++ G))])) p = some (.lst [.int (tw F), .int (tw G), .int (tw (F ++ G))]) := upd_same
    generalize (upd H10 p (.lst [.int (tw F), .int (tw G), .int (tw (F ++ G))])) = H11 at *
    have rl := ints_rep tF tG tFG
    repeat walk_at "rd1"
    refine ⟨fun σ H' => σ = [some (.ref a), some (.ref t), some (.str (S F)), some (.str (S G)), v4, some (.ref p), none, none, none] ∧ TapeAt H' t l ∧ H' p = some (.lst [.int (tw F), .int (tw G), .int (tw (F ++ G))]), ?_, ?_⟩
    · refine ⟨_, rfl, _, _, rfl, ints_dp hp11, rl.sh, rl.nd, rl.dp, rl.sz, ?_⟩
      refine ⟨_, rfl, F, rfl, _, rfl, G, rfl, _, rfl, _, rfl, _, _, rfl, rfl, (by rw [S_len, S_len]; omega), F ++ G, by rw [S_app], (show 3 ≤ sizeLine by decide), fun p2 hp2 => ?_⟩
      refine ⟨_, _, rfl, ints_dp upd_same, rl.sh, rl.nd, rl.dp, rl.sz, rfl, _, rfl, if_nstr (fun h => absurd rfl h) (fun _ => ?_)⟩
      exact ⟨rfl, T11.new hp2, Same.new hp2 _ _ hp11⟩
    rintro σ H12 ⟨rfl, T12, hp12⟩
    refine ⟨fun σ H' => σ = [some (.ref a), some (.ref t), some (.str (S F)), some (.str (S G)), v4, some (.ref p), none, none, none] ∧ H' = H12, ?_, ?_⟩
    · refine ⟨_, rfl, _, (show TruV K (.str (S F)) H12 _ from ⟨by rw [S_len]; omega, rfl⟩), if_bool (fun c1 => ?_) (fun c1 => ?_)⟩
      · refine ⟨_, rfl, _, (show TruV K (.str (S G)) H12 _ from ⟨by rw [S_len]; omega, rfl⟩), if_bool (fun c2 => ?_) (fun c2 => ?_)⟩
        · have n1 : F ≠ [] := fun e => by subst e; cases c1
          have n2 : G ≠ [] := fun e => by subst e; cases c2
          repeat walk_at "rd1"
          refine if_nint (fun h => absurd ?_ h) (fun _ => ⟨rfl, rfl⟩)
          rw [tw_app F G n1 n2]
        · exact iteF ⟨rfl, rfl⟩
      · exact iteF ⟨rfl, rfl⟩
    rintro σ H13 ⟨rfl, rfl⟩
    -- the columns
    refine ⟨fun _ _ => True, ?_, fun σ' H' _ => k H'⟩
    repeat walk_at "rd1"
    refine ⟨t, l, _, rfl, T12, by decide, fun d H14 T14 a14 d1 d2 => ⟨_, _, rfl, rfl, (show 5 ≤ sizeLine by decide), fun q hq => ?_⟩⟩
    refine ⟨q, rfl, ⟨_, SqL.of upd_same⟩, for_list (K := K) (a := q) (xs := [.int (-1), .int (1 + d), .int 6, .int 7].insertIdx 1 (.int 0)) (fun i σ H' => ∃ v6 v7 v8, σ = [some (.ref a), some (.ref t), some (.str (S F)), some (.str (S G)), v4, some (.ref p), v6, v7, v8] ∧ SqL K H' q [.int (-1), .int 0, .int (1 + d), .int 6, .int 7]) ⟨_, _, _, rfl, SqL.of upd_same⟩ (fun i σ H' _ h => let ⟨_, _, _, _, e⟩ := h; e) ?_ (fun _ _ _ => trivial)⟩
    rintro i o σ H15 hi ⟨v6, v7, v8, rfl, sq⟩
    obtain ⟨y, rfl⟩ : ∃ y, o = V.int y := by
      have := List.mem_of_getElem? hi
      simp at this
      rcases this with rfl | rfl | rfl | rfl | rfl <;> exact ⟨_, rfl⟩
    repeat walk_at "rd1"
    have wb : tw G ≤ 60 := by have := tw_le G; omega
    have wb0 := tw_nn G
    refine ⟨⟨by omega, by omega, by omega, by omega⟩, for_range (lo := -2) (n := (tw G + 3 - -2).toNat) (fun n σ H' => ∃ v7 v8, σ = [some (.ref a), some (.ref t), some (.str (S F)), some (.str (S G)), v4, some (.ref p), some (.int y), v7, v8] ∧ SqL K H' q [.int (-1), .int 0, .int (1 + d), .int 6, .int 7]) ⟨_, _, rfl, sq⟩ ?_ ?_⟩
    · rintro n σ H16 hn ⟨v7, v8, rfl, sq⟩
      refine ⟨_, rfl, _, rfl, _, rfl, G, _, _, rfl, wG, ?_⟩
      repeat walk_at "rd1"
      refine ⟨.bl _, .ty "bool", .type "bool", .type "bool", true, rfl, .ty _, .base (.bl _), kit_ty (by decide +kernel), true, rfl, ?_⟩
      refine iteF ?_
      refine ⟨_, rfl, _, rfl, _, rfl, _, rfl, G, _, _, rfl, rfl, _, rfl, ?_⟩
      have e9 : ∀ b : Bool, (!decide (V.bl b = V.bl b)) = false := fun b => by rw [decide_eq_true rfl]; rfl
      show if (!decide (V.bl _ = V.bl _)) = true then _ else _
      rw [e9]
      exact iteF ⟨_, _, rfl, sq⟩
    · rintro σ H16 ⟨v7, v8, rfl, sq⟩
      exact ⟨_, _, _, rfl, sq⟩
end
theorem all_mk {l : PySem.W.OpenLaw} {w : World} {K : PySem.W.Frag} {h : Heap} {mg : Str → Option Value} {fa : Addr} (X : K.In h) (G : h.Ns mainGlobals mg) (hfa : mg "law" = some (.ref fa))
    {f_glyph_width f_text_width f_inked f_law_tape f_law_draw f_law_sign_width f_law_width f_law_inked f_law_word f_law : Addr}
    {od_glyph_width an_glyph_width : Option Addr} {sl_glyph_width : Array (Option Value)} {oc_glyph_width kV_glyph_width dc_glyph_width pm_glyph_width cd_glyph_width ct_glyph_width : Value}
    {od_text_width an_text_width : Option Addr} {sl_text_width : Array (Option Value)} {oc_text_width kV_text_width dc_text_width pm_text_width cd_text_width ct_text_width : Value}
    {od_inked an_inked : Option Addr} {sl_inked : Array (Option Value)} {oc_inked kV_inked dc_inked pm_inked cd_inked ct_inked : Value}
    {od_law_tape an_law_tape : Option Addr} {sl_law_tape : Array (Option Value)} {oc_law_tape kV_law_tape dc_law_tape pm_law_tape cd_law_tape ct_law_tape : Value}
    {od_law_draw an_law_draw : Option Addr} {sl_law_draw : Array (Option Value)} {oc_law_draw kV_law_draw dc_law_draw pm_law_draw cd_law_draw ct_law_draw : Value}
    {od_law_sign_width an_law_sign_width : Option Addr} {sl_law_sign_width : Array (Option Value)} {oc_law_sign_width kV_law_sign_width dc_law_sign_width pm_law_sign_width cd_law_sign_width ct_law_sign_width : Value}
    {od_law_width an_law_width : Option Addr} {sl_law_width : Array (Option Value)} {oc_law_width kV_law_width dc_law_width pm_law_width cd_law_width ct_law_width : Value}
    {od_law_inked an_law_inked : Option Addr} {sl_law_inked : Array (Option Value)} {oc_law_inked kV_law_inked dc_law_inked pm_law_inked cd_law_inked ct_law_inked : Value}
    {od_law_word an_law_word : Option Addr} {sl_law_word : Array (Option Value)} {oc_law_word kV_law_word dc_law_word pm_law_word cd_law_word ct_law_word : Value}
    {od_law an_law : Option Addr} {sl_law : Array (Option Value)} {oc_law kV_law dc_law pm_law cd_law ct_law : Value}
    (a_glyph_width : PySem.W.nsIn K mainGlobals "glyph_width" = some (some (.ref f_glyph_width))) (l_glyph_width : K.lookup f_glyph_width = some ⟨oc_glyph_width, od_glyph_width, .func (PySem.W.fnOf "glyph_width" "glyph_width" (defArgs s_glyph_width) (defBody s_glyph_width) (defScope s_glyph_width) .none kV_glyph_width dc_glyph_width pm_glyph_width an_glyph_width cd_glyph_width ct_glyph_width), sl_glyph_width⟩) (c_glyph_width : PySem.W.codeIn K cd_glyph_width "glyph_width" = true) (k_glyph_width : PySem.W.keepIn K (.ref f_glyph_width) = true)
    (a_text_width : PySem.W.nsIn K mainGlobals "text_width" = some (some (.ref f_text_width))) (l_text_width : K.lookup f_text_width = some ⟨oc_text_width, od_text_width, .func (PySem.W.fnOf "text_width" "text_width" (defArgs s_text_width) (defBody s_text_width) (defScope s_text_width) .none kV_text_width dc_text_width pm_text_width an_text_width cd_text_width ct_text_width), sl_text_width⟩) (c_text_width : PySem.W.codeIn K cd_text_width "text_width" = true) (k_text_width : PySem.W.keepIn K (.ref f_text_width) = true)
    (a_inked : PySem.W.nsIn K mainGlobals "inked" = some (some (.ref f_inked))) (l_inked : K.lookup f_inked = some ⟨oc_inked, od_inked, .func (PySem.W.fnOf "inked" "inked" (defArgs s_inked) (defBody s_inked) (defScope s_inked) .none kV_inked dc_inked pm_inked an_inked cd_inked ct_inked), sl_inked⟩) (c_inked : PySem.W.codeIn K cd_inked "inked" = true) (k_inked : PySem.W.keepIn K (.ref f_inked) = true)
    (a_law_tape : PySem.W.nsIn K mainGlobals "_law_tape" = some (some (.ref f_law_tape))) (l_law_tape : K.lookup f_law_tape = some ⟨oc_law_tape, od_law_tape, .func (PySem.W.fnOf "_law_tape" "_law_tape" (defArgs s_law_tape) (defBody s_law_tape) (defScope s_law_tape) .none kV_law_tape dc_law_tape pm_law_tape an_law_tape cd_law_tape ct_law_tape), sl_law_tape⟩) (c_law_tape : PySem.W.codeIn K cd_law_tape "_law_tape" = true) (k_law_tape : PySem.W.keepIn K (.ref f_law_tape) = true)
    (a_law_draw : PySem.W.nsIn K mainGlobals "_law_draw" = some (some (.ref f_law_draw))) (l_law_draw : K.lookup f_law_draw = some ⟨oc_law_draw, od_law_draw, .func (PySem.W.fnOf "_law_draw" "_law_draw" (defArgs s_law_draw) (defBody s_law_draw) (defScope s_law_draw) .none kV_law_draw dc_law_draw pm_law_draw an_law_draw cd_law_draw ct_law_draw), sl_law_draw⟩) (c_law_draw : PySem.W.codeIn K cd_law_draw "_law_draw" = true) (k_law_draw : PySem.W.keepIn K (.ref f_law_draw) = true)
    (a_law_sign_width : PySem.W.nsIn K mainGlobals "_law_sign_width" = some (some (.ref f_law_sign_width))) (l_law_sign_width : K.lookup f_law_sign_width = some ⟨oc_law_sign_width, od_law_sign_width, .func (PySem.W.fnOf "_law_sign_width" "_law_sign_width" (defArgs s_law_sign_width) (defBody s_law_sign_width) (defScope s_law_sign_width) .none kV_law_sign_width dc_law_sign_width pm_law_sign_width an_law_sign_width cd_law_sign_width ct_law_sign_width), sl_law_sign_width⟩) (c_law_sign_width : PySem.W.codeIn K cd_law_sign_width "_law_sign_width" = true) (k_law_sign_width : PySem.W.keepIn K (.ref f_law_sign_width) = true)
    (a_law_width : PySem.W.nsIn K mainGlobals "_law_width" = some (some (.ref f_law_width))) (l_law_width : K.lookup f_law_width = some ⟨oc_law_width, od_law_width, .func (PySem.W.fnOf "_law_width" "_law_width" (defArgs s_law_width) (defBody s_law_width) (defScope s_law_width) .none kV_law_width dc_law_width pm_law_width an_law_width cd_law_width ct_law_width), sl_law_width⟩) (c_law_width : PySem.W.codeIn K cd_law_width "_law_width" = true) (k_law_width : PySem.W.keepIn K (.ref f_law_width) = true)
    (a_law_inked : PySem.W.nsIn K mainGlobals "_law_inked" = some (some (.ref f_law_inked))) (l_law_inked : K.lookup f_law_inked = some ⟨oc_law_inked, od_law_inked, .func (PySem.W.fnOf "_law_inked" "_law_inked" (defArgs s_law_inked) (defBody s_law_inked) (defScope s_law_inked) .none kV_law_inked dc_law_inked pm_law_inked an_law_inked cd_law_inked ct_law_inked), sl_law_inked⟩) (c_law_inked : PySem.W.codeIn K cd_law_inked "_law_inked" = true) (k_law_inked : PySem.W.keepIn K (.ref f_law_inked) = true)
    (a_law_word : PySem.W.nsIn K mainGlobals "_law_word" = some (some (.ref f_law_word))) (l_law_word : K.lookup f_law_word = some ⟨oc_law_word, od_law_word, .func (PySem.W.fnOf "_law_word" "_law_word" (defArgs s_law_word) (defBody s_law_word) (defScope s_law_word) .none kV_law_word dc_law_word pm_law_word an_law_word cd_law_word ct_law_word), sl_law_word⟩) (c_law_word : PySem.W.codeIn K cd_law_word "_law_word" = true) (k_law_word : PySem.W.keepIn K (.ref f_law_word) = true)
    (a_law : PySem.W.nsIn K mainGlobals "law" = some (some (.ref f_law))) (l_law : K.lookup f_law = some ⟨oc_law, od_law, .func (PySem.W.fnOf "law" "law" (defArgs s_law) (defBody s_law) (defScope s_law) .none kV_law dc_law pm_law an_law cd_law ct_law), sl_law⟩) (c_law : PySem.W.codeIn K cd_law "law" = true) (k_law : PySem.W.keepIn K (.ref f_law) = true)
    {dT : Addr} {esT : Array DictEntry} {nT : Nat} {tk5 tk7 : Tok} (a_other : PySem.W.nsIn K mainGlobals "OTHER_WIDTH" = some (some (.int 5 tk5))) (a_height : PySem.W.nsIn K mainGlobals "TEXT_HEIGHT" = some (some (.int 7 tk7))) (a_tab : PySem.W.nsIn K mainGlobals "GLYPH_WIDTHS" = some (some (.ref dT))) (l_tab : K.lookup dT = some ⟨.type "dict", none, .dict esT nT, #[]⟩) (k_tab : PySem.W.KeysLit w.params esT.toList) (low_tab : (dT == sysModules) = false) (b_tab : tabB esT = true)
    (z_abs : PySem.W.nsIn K mainGlobals "abs" = some none) (z_bool : PySem.W.nsIn K mainGlobals "bool" = some none) (z_int : PySem.W.nsIn K mainGlobals "int" = some none) (z_isinstance : PySem.W.nsIn K mainGlobals "isinstance" = some none) (z_len : PySem.W.nsIn K mainGlobals "len" = some none) (z_list : PySem.W.nsIn K mainGlobals "list" = some none) (z_max : PySem.W.nsIn K mainGlobals "max" = some none) (z_range : PySem.W.nsIn K mainGlobals "range" = some none) (z_repr : PySem.W.nsIn K mainGlobals "repr" = some none) (z_sum : PySem.W.nsIn K mainGlobals "sum" = some none) :
    ∃ fd : FuncData, (∀ (s : Shared) (v : Value), BindsTo s fd ⟨[v], []⟩ [("script", v)]) ∧ ∀ base : Heap, K.In base → base.Ns mainGlobals mg → FnG l.prog w K mg base 3 fa fd ["script"] (spLaw K) := by
  have e := hfa.symm.trans (PySem.W.mg_of X G a_law)
  cases e
  have MB : Blt mg := ⟨PySem.W.mg_none_of X G z_abs, PySem.W.mg_none_of X G z_bool, PySem.W.mg_none_of X G z_int, PySem.W.mg_none_of X G z_isinstance, PySem.W.mg_none_of X G z_len, PySem.W.mg_none_of X G z_list, PySem.W.mg_none_of X G z_max, PySem.W.mg_none_of X G z_range, PySem.W.mg_none_of X G z_repr, PySem.W.mg_none_of X G z_sum⟩
  have A_glyph_width : At K mg "glyph_width" s_glyph_width := ⟨_, _, PySem.W.mg_of X G a_glyph_width, fun_mk (st := s_glyph_width) l_glyph_width c_glyph_width k_glyph_width⟩
  have A_text_width : At K mg "text_width" s_text_width := ⟨_, _, PySem.W.mg_of X G a_text_width, fun_mk (st := s_text_width) l_text_width c_text_width k_text_width⟩
  have A_inked : At K mg "inked" s_inked := ⟨_, _, PySem.W.mg_of X G a_inked, fun_mk (st := s_inked) l_inked c_inked k_inked⟩
  have A_law_tape : At K mg "_law_tape" s_law_tape := ⟨_, _, PySem.W.mg_of X G a_law_tape, fun_mk (st := s_law_tape) l_law_tape c_law_tape k_law_tape⟩
  have A_law_draw : At K mg "_law_draw" s_law_draw := ⟨_, _, PySem.W.mg_of X G a_law_draw, fun_mk (st := s_law_draw) l_law_draw c_law_draw k_law_draw⟩
  have A_law_sign_width : At K mg "_law_sign_width" s_law_sign_width := ⟨_, _, PySem.W.mg_of X G a_law_sign_width, fun_mk (st := s_law_sign_width) l_law_sign_width c_law_sign_width k_law_sign_width⟩
  have A_law_width : At K mg "_law_width" s_law_width := ⟨_, _, PySem.W.mg_of X G a_law_width, fun_mk (st := s_law_width) l_law_width c_law_width k_law_width⟩
  have A_law_inked : At K mg "_law_inked" s_law_inked := ⟨_, _, PySem.W.mg_of X G a_law_inked, fun_mk (st := s_law_inked) l_law_inked c_law_inked k_law_inked⟩
  have A_law_word : At K mg "_law_word" s_law_word := ⟨_, _, PySem.W.mg_of X G a_law_word, fun_mk (st := s_law_word) l_law_word c_law_word k_law_word⟩
  have A_law : At K mg "law" s_law := ⟨_, _, PySem.W.mg_of X G a_law, fun_mk (st := s_law) l_law c_law k_law⟩
  have GG : Glyphs K w mg := ⟨⟨dT, esT, nT, PySem.W.mg_of X G a_tab, ⟨l_tab, k_tab, low_tab⟩, tab_of b_tab⟩, ⟨_, PySem.W.mg_of X G a_other⟩, ⟨_, PySem.W.mg_of X G a_height⟩⟩
  refine ⟨PySem.W.fnOf "law" "law" (defArgs s_law) (defBody s_law) (defScope s_law) .none kV_law dc_law pm_law an_law cd_law ct_law, fun s v => .of_eq rfl, fun base _ _ => ?_⟩
  have D_glyph_width := df_glyph_width (P := l.prog) (w := w) (base := base) MB A_glyph_width GG
  have D_text_width := df_text_width (P := l.prog) (w := w) (base := base) MB A_text_width D_glyph_width
  have D_inked := df_inked (P := l.prog) (w := w) (base := base) MB A_inked GG D_glyph_width
  have D_law_tape := df_law_tape (P := l.prog) (w := w) (base := base) MB A_law_tape
  have D_law_draw := df_law_draw (P := l.prog) (w := w) (base := base) MB A_law_draw
  have D_law_sign_width := df_law_sign_width (P := l.prog) (w := w) (base := base) MB A_law_sign_width
  have D_law_width := df_law_width (P := l.prog) (w := w) (base := base) MB A_law_width D_law_sign_width
  have D_law_inked := df_law_inked (P := l.prog) (w := w) (base := base) MB A_law_inked D_law_sign_width
  have D_law_word := df_law_word (P := l.prog) (w := w) (base := base) MB A_law_word D_law_draw
  exact fn_law MB (fun_mk (st := s_law) l_law c_law k_law) D_law_tape D_law_word D_law_draw D_text_width D_inked D_glyph_width D_law_sign_width D_law_width D_law_inked

end Cs
open PySem PySem.W PyProof.Rows
set_option maxRecDepth 100000 in
set_option maxHeartbeats 0 in
theorem PySem.Challenge.cw_chartspec_k40_widths_and_columns_of_text_holds : PySem.Challenge.rw_chartspec_k40_widths_and_columns_of_text.Holds := by
  w_on; o_law; k_head; (case hw => w_witness2)
  k_fill
  refine Cs.walkG (k := 3) (x := "script") (sp := Cs.spLaw) (l := PySem.Challenge.rw_chartspec_k40_widths_and_columns_of_text) rfl (by decide) rfl ⟨rfl, by decide, by decide⟩ (fun w h Y => PySem.W.kIn_of Y) ?F Cs.law_start
  case F =>
    intro w mg fa h KX G hmg
    refine' Cs.all_mk KX G hmg ?a_glyph_width ?l_glyph_width ?c_glyph_width ?k_glyph_width ?a_text_width ?l_text_width ?c_text_width ?k_text_width ?a_inked ?l_inked ?c_inked ?k_inked ?a_law_tape ?l_law_tape ?c_law_tape ?k_law_tape ?a_law_draw ?l_law_draw ?c_law_draw ?k_law_draw ?a_law_sign_width ?l_law_sign_width ?c_law_sign_width ?k_law_sign_width ?a_law_width ?l_law_width ?c_law_width ?k_law_width ?a_law_inked ?l_law_inked ?c_law_inked ?k_law_inked ?a_law_word ?l_law_word ?c_law_word ?k_law_word ?a_law ?l_law ?c_law ?k_law ?a_other ?a_height ?a_tab ?l_tab ?k_tab ?low_tab ?b_tab ?z_abs ?z_bool ?z_int ?z_isinstance ?z_len ?z_list ?z_max ?z_range ?z_repr ?z_sum
    (case a_glyph_width => k_is)
    (case l_glyph_width => k_is)
    (case c_glyph_width => k_is)
    (case k_glyph_width => k_is)
    (case a_text_width => k_is)
    (case l_text_width => k_is)
    (case c_text_width => k_is)
    (case k_text_width => k_is)
    (case a_inked => k_is)
    (case l_inked => k_is)
    (case c_inked => k_is)
    (case k_inked => k_is)
    (case a_law_tape => k_is)
    (case l_law_tape => k_is)
    (case c_law_tape => k_is)
    (case k_law_tape => k_is)
    (case a_law_draw => k_is)
    (case l_law_draw => k_is)
    (case c_law_draw => k_is)
    (case k_law_draw => k_is)
    (case a_law_sign_width => k_is)
    (case l_law_sign_width => k_is)
    (case c_law_sign_width => k_is)
    (case k_law_sign_width => k_is)
    (case a_law_width => k_is)
    (case l_law_width => k_is)
    (case c_law_width => k_is)
    (case k_law_width => k_is)
    (case a_law_inked => k_is)
    (case l_law_inked => k_is)
    (case c_law_inked => k_is)
    (case k_law_inked => k_is)
    (case a_law_word => k_is)
    (case l_law_word => k_is)
    (case c_law_word => k_is)
    (case k_law_word => k_is)
    (case a_law => k_is)
    (case l_law => k_is)
    (case c_law => k_is)
    (case k_law => k_is)
    (case z_abs => k_is)
    (case z_bool => k_is)
    (case z_int => k_is)
    (case z_isinstance => k_is)
    (case z_len => k_is)
    (case z_list => k_is)
    (case z_max => k_is)
    (case z_range => k_is)
    (case z_repr => k_is)
    (case z_sum => k_is)
    (case a_other => k_is)
    (case a_height => k_is)
    (case a_tab => k_is)
    (case l_tab => k_is)
    (case k_tab => k_keys)
    (case low_tab => rfl)
    (case b_tab => kernel_rfl)
#print axioms PySem.Challenge.cw_chartspec_k40_widths_and_columns_of_text_holds

