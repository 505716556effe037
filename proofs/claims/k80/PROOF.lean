import PyProof.Rows.All
import Wide.All
import OpenK.AllK
import Wide.FinOn
import HandS.Base
import HandS.Call
import HandS.List
import HandS.Comp
import HandS.Ends
import HandS.Iter
import HandS.Text
import HandS.Words
import HandS.WordsList
import HandS.TupAny
import HandS.TupLe
import HandS.Rev
import HandS.Style
import HandS.Flow
import HandS.IsInst
import HandS.Codes
import HandS.FStrTup
import HandS.Walk
import HandS.More
import PyProof.StrBlock2
import HandS.Wide
import HandS.WideBits
import HandS.TupMul
import HandS.Deep
import HandS.SortInts
import HandS.Gcd
import HandS.Zip
import HandS.Conv
import HandS.NoneIn
import HandS.Strs
import HandS.Replace
import HandS.Defaults
import HandS.ForExc
import HandS.ExcInit
import HandS.ExcIs
import KE.KExcIs
import HandS.ExcField
import HandS.ExcOwn
import HandS.Small
import HandS.DictSub
import PySem.Challenge.RW_chartspec_k80_simplest_fractions
set_option Elab.async false
set_option linter.all false
set_option maxRecDepth 100000
set_option maxHeartbeats 4000000
/-! The layer's promises with one thing more: no repr is under way (A.guards = some []). -/
namespace Cs
open PySem PySem.Spec PyProof.Rows L2

/-- a def's promise, given where no repr is under way -/
structure FnG (P : Program) (w : World) (K : PySem.W.Frag) (mg : Str → Option Value) (base : Heap) (k : Nat) (f : Addr) (fd : FuncData) (ps : List Str) (sp : Sp) : Prop where
  len : ∀ vs H Q E, sp vs H Q E → vs.length = ps.length
  go : ∀ (A : Around) (out : List Env) (s : Shared) (H : Hp) (args : Args) (us : List Value) (vs : List V) (Q : VK) (E : XK),
    Room k A → A.guards = some [] → Env0 P w K mg base A out s H → BindsTo s fd args (ps.zip us) → Vals vs us → sp vs H Q E →
    codeAny (model P w) A (.call (.ref f) args) (CR CX0 out P w H s Q E) s

section
variable {P : Program} {w : World} {K : PySem.W.Frag} {mg : Str → Option Value} {base : Heap}

/-- the contexts of bodies: as cxOf, nothing leaves the def -/
abbrev cxG (P : Program) (w : World) (K : PySem.W.Frag) (mg : Str → Option Value) (base : Heap) (N : List Str) (qual : Str) (sc : Scope) (f : Addr) (cd : Value) (A : Around) (out : List Env) (s : Shared) (H : Hp) (E : XK) : Cx :=
  (cxOf CX0 P w K mg base N qual sc f cd A out s H E).nox

/-- a def by its body -/
theorem FnG.of {x qual : Str} {st : Stmt} {f : Addr} {fd : FuncData} {N ps : List Str} {k : Nat} {sp : Sp} (F : Fun K x qual st f fd) (S : FnScope N ps (defScope st)) (len : ∀ vs H Q E, sp vs H Q E → vs.length = ps.length)
    (body : ∀ (cdv : Value) (A : Around) (out : List Env) (s : Shared) (H : Hp) (vs : List V) (Q : VK) (E : XK), Room k (A.deeper (envOfC qual (defScope st) s.heap.objs.size f cdv)) → A.guards = some [] → sp vs H Q E →
      ∃ t, PSs (cxG P w K mg base N qual (defScope st) f cdv A out s H E) (defBody st) t ∧ t { nx := fun _ H' => Q .non H', rt := Q } (start N vs) H) :
    FnG P w K mg base (k + 1) f fd ps sp := by
  obtain ⟨oc, od, kV, doc, pm, an, cdv, ct, osl, rfl, lk, hcd⟩ := F.ex
  refine ⟨len, fun A out s H args us vs Q E hr hg e0 hb r hsp => ?_⟩
  have hl := len _ _ _ _ hsp
  have inK : K.In s.heap := e0.mod.kin.keeps fun b o e => (e0.bs b o e).1
  have noL : s.heap.NoLimit := e0.mod.nolimit.keeps fun b o e => (e0.bs b o e).1
  refine codeAny_call_function hr.depth (inK _ _ lk) rfl S.co S.gen rfl (PySem.W.codeRec_of inK hcd) (hb _ _ _ _ ?_)
  refine wpAny_newFunctionEnv_cells S.kind (fun y hy => ?_) fun env he s1 x => ?_
  · rcases S.par y.1 (List.of_mem_zip (show (y.1, y.2) ∈ ps.zip us from hy)).1 with q | q
    · exact Or.inl q
    · exact Or.inr ⟨q, PySem.W.cellsFrom_some _ _ _ (Or.inl q)⟩
  · subst he
    refine ⟨noL.keeps x.toInCall.keep, codeAny_func ?_⟩
    obtain ⟨t, ht, hq⟩ := body cdv A out s H vs Q E (hr.deeper _) hg hsp
    have I : Inv (cxOf CX0 P w K mg base N qual (defScope st) f cdv A out s H E) [] (start N vs) H s1 := inv_start S hr.hd e0 hl r x
    refine wpAny_mono (ht.nox.run [] s1 (start N vs) H _ I hq) (fun fl s' hs => ?_) fun e s' hs => hs
    have fin : ∀ {σ' : L2.St} {H' : Hp} {v : V} {u : Value}, Inv (cxOf CX0 P w K mg base N qual (defScope st) f cdv A out s H E) [] σ' H' s' → RelV v u → Q v H' → CE out P w H s Q u s' :=
      fun {σ' H' v u} J rv q => ⟨v, H', J.os, J.bare, J.base, J.hok, rv, q⟩
    cases fl with
    | next =>
      obtain ⟨σ', H', J, q⟩ := hs
      exact fin (v := V.non) (u := Value.none) J rfl q
    | ret u =>
      obtain ⟨v, σ', H', J, rv, q⟩ := hs
      exact fin J rv q
    | brk =>
      obtain ⟨_, _, _, q⟩ := hs
      exact q.elim
    | cont =>
      obtain ⟨_, _, _, q⟩ := hs
      exact q.elim
end

section
variable {X : Cx} {k : Nat} {f : Addr} {fd : FuncData} {ps : List Str} {sp : Sp} {x : Str} {p pos : Pos} {e : Expr} {es : List Expr} {t : TA}
theorem goFn {pins : List (Addr × Obj)} {σ : L2.St} {H : Hp} {s : Shared} {Q : VK} {us : List Value} {vs : List V} (F : FnG X.prog X.w X.K X.mg X.base k f fd ps sp) (hr : Room k X.A) (hg : X.A.guards = some []) (hb : Binds X.K fd ps [])
    (I : Inv X pins σ H s) (r : Vals vs us) (h : sp vs H Q E0) : wpAny (model X.prog X.w) X.A (call (.ref f) us) (EP X pins σ Q) X.xe s := by
  have hl : (us ++ []).length = ps.length := by rw [List.append_nil, ← r.length]; exact F.len _ _ _ _ h
  have hb' := hb s us I.kIn hl
  rw [List.append_nil] at hb'
  refine wpAny_call (codeAny_mono (F.go X.A X.stack s H ⟨us, []⟩ us vs Q E0 hr hg I.env0 hb' r h) fun r s' hq => ?_)
  match r, hq with
  | .ok (.ret u), hq => exact I.after hq
  | .error e, hq => exact False.elim hq
  | .ok .next, hq => exact False.elim hq
  | .ok .brk, hq => exact False.elim hq
  | .ok .cont, hq => exact False.elim hq
/-- f(a, ..): the callee's promise -/
def tFn (sp : Sp) (t : TA) : TE := fun σ H Q => t σ H fun vs H1 => sp vs H1 Q E0
theorem pe_fn (F : FnG X.prog X.w X.K X.mg X.base k f fd ps sp) (hr : Room k X.A) (hgd : X.A.guards = some []) (hg : Gl X x) (hm : X.mg x = some (.ref f)) (hk : PySem.W.keepIn X.K (.ref f) = true) (hb : Binds X.K fd ps [])
    (ha : PA X (e :: es) t) (hdb : (x == ("__debug__" : Str)) = false := by decide) (he : starEach (e :: es) X.env = (false, eval e X.env) :: starEach es X.env := by rfl) (hpl : (backTo pos (starEach es X.env)).any (·.1) = false := by rfl) :
    PE X (.Call (.Name x p) (e :: es) [] pos) (tFn sp t) := by
  refine ⟨fun pins s σ H Q I h => wpAny_Call_Name_kw (ld_glob I hg hm ?_ hdb)⟩
  refine PySem.W.callWith_K (h₀ := X.base) I.ok.mod.kin hk (thn (ha.run pos pins s σ H _ I h) fun us s1 ⟨vs, H1, I1, r, q⟩ => ⟨I1.kIn, ?_⟩) he hpl
  exact goFn F hr hgd hb I1 r q
theorem pe_fn0 (F : FnG X.prog X.w X.K X.mg X.base k f fd ps sp) (hr : Room k X.A) (hgd : X.A.guards = some []) (hg : Gl X x) (hm : X.mg x = some (.ref f)) (hk : PySem.W.keepIn X.K (.ref f) = true) (hb : Binds X.K fd ps [])
    (hdb : (x == ("__debug__" : Str)) = false := by decide) : PE X (.Call (.Name x p) [] [] pos) (tFn sp tNil) := by
  refine ⟨fun pins s σ H Q I h => wpAny_Call_Name_kw (ld_glob I hg hm ?_ hdb)⟩
  exact PySem.W.callWith_K0 I.kIn hk (goFn (us := []) F hr hgd hb I .nil h)

/-- repr(x) of data: what stands in the text -/
def rRepr (K : PySem.W.Frag) : List V → Hp → VK → Prop := fun vs H Q => ∃ (x : V) (d : PyData), vs = [x] ∧ Dp K H x d ∧ d.showable = true ∧ d.hasDict = false ∧ d.depth ≤ 40 ∧ d.shown.length ≤ sizeLine ∧ Q (.str d.shown) H
theorem call_repr (hu : X.A.units + 64 < cLine) (hg : X.A.guards = some []) : CallR X (.builtin "repr") (rRepr X.K) := by
  intro pins s σ H vs us Q I r h
  obtain ⟨x, d, rfl, hd, sh, nd, dp, sz, q⟩ := h
  cases r with
  | cons r1 rr =>
    cases rr
    rename_i u
    obtain ⟨as, rd⟩ := Dp.reads I d x u hd r1
    cases hd with
    | non =>
      cases r1
      exact PySem.P.repr_of_none ⟨.str _, H, I.tok _, ⟨_, rfl⟩, q⟩
    | bl b =>
      cases r1
      exact PySem.P.repr_of_bool ⟨.str _, H, I.tok _, ⟨_, rfl⟩, q⟩
    | int i =>
      obtain ⟨t, rfl⟩ := r1
      exact PySem.P.repr_of_int (of_decide_eq_true sh) ⟨.str _, H, I.tok _, ⟨_, rfl⟩, q⟩
    | str z =>
      obtain ⟨t, rfl⟩ := r1
      exact PySem.P.repr_of_str ⟨.str _, H, I.tok _, ⟨_, rfl⟩, q⟩ sz
    | lst h1 h2 =>
      cases r1
      exact repr_of_reads' rd sh (PyData.noDict_hsm nd) hg (by omega) (fun _ _ e => e) (fun h1 u tk hk => ⟨.str _, H, I.kept hk, ⟨u, rfl⟩, q⟩) sz
    | tup h1 h2 =>
      cases r1
      exact repr_of_reads' rd sh (PyData.noDict_hsm nd) hg (by omega) (fun _ _ e => e) (fun h1 u tk hk => ⟨.str _, H, I.kept hk, ⟨u, rfl⟩, q⟩) sz
end
end Cs

set_option maxRecDepth 100000
set_option maxHeartbeats 4000000
namespace Cs
open PySem PySem.Spec PyProof.Rows L2

/-- what is tracked at the law's entry: the script, locked -/
def hpOf (a : Addr) (o : Obj) (xs : List V) : Hp := fun b => if b = a then some (.frz o (.lst xs)) else none
theorem hpOf_some {a b : Addr} {o : Obj} {xs : List V} {u : HO} (h : hpOf a o xs b = some u) : b = a ∧ u = .frz o (.lst xs) := by
  unfold hpOf at h
  by_cases e : b = a
  · rw [if_pos e] at h
    exact ⟨e, (Option.some.inj h).symm⟩
  · rw [if_neg e] at h
    cases h
theorem hpOf_at {a : Addr} {o : Obj} {xs : List V} : hpOf a o xs a = some (.frz o (.lst xs)) := if_pos rfl

section
variable {P : Program} {w : World} {K : PySem.W.Frag} {mg mb : Str → Option Value} {k : Nat} {fa a : Addr} {fd : FuncData} {x : Str} {sp : Sp} {s₁ : Shared} {vs : List Value} {ns : List Int}

/-- one run of the law from an abstract heap H that tracks no more than the script -/
theorem law_from (H : Hp) (inK : K.In s₁.heap) (hns : s₁.heap.Ns mainGlobals mg) (hb : s₁.heap.Ns builtinsNs mb) (hbb : ∀ y : Str, y ≠ "__name__" → mb y = bootBuiltins y) (hlim : s₁.heap.NoLimit) (hg : s₁.gens = #[])
    (ha : s₁.heap.get? a = some { cls := .type "list", data := .seq vs.toArray }) (hr : Room k callerA)
    (F : ∀ base : Heap, K.In base → base.Ns mainGlobals mg → FnG P w K mg base k fa fd [x] sp) (hbind : ∀ (s : Shared) (u : Value), BindsTo s fd ⟨[u], []⟩ [(x, u)])
    (hS : sp [.ref a] H (fun v _ => v = .bl true) E0) (hok : HOk P w H s₁.heap) (one : ∀ b u, H b = some u → b = a ∧ ∃ o xs, u = .frz o (.lst xs)) (off : ∀ u, H a = some u → K.lookup a = none) :
    codeAny (model P w) callerA (.call (.ref fa) ⟨[.ref a], []⟩) (fun r s' => r = .ok (.ret (.bool true)) ∧ OldK s₁.heap s'.heap ∧ s'.os = s₁.os ∧ AllBare s'.gens) s₁ := by
  have none_of : ∀ {b : Addr}, b ≠ a → H b = none := fun {b} n => by
    cases e : H b with
    | none => rfl
    | some u => exact absurd (one b u e).1 n
  have ns_keep : ∀ {b : Addr} {m : Str → Option Value}, s₁.heap.Ns b m → (hidT s₁.heap H).Ns b m := fun {b m} ⟨o, es, ep, e, d, q⟩ => by
    refine ⟨o, es, ep, hidT_get e (none_of fun z => ?_), d, q⟩
    rw [z, ha] at e
    cases e
    cases (show Data.seq vs.toArray _ = Data.dict es ep from d)
  have kb : K.In (hidT s₁.heap H) := fun b o e => by
    refine hidT_get (inK b o e) ?_
    cases q : H b with
    | none => rfl
    | some u =>
      obtain ⟨z, _⟩ := one b u q
      rw [z] at q e
      rw [off u q] at e
      cases e
  obtain ⟨mc, c1, c2⟩ := hlim
  have md : Mod K mg (hidT s₁.heap H) := ⟨kb, ns_keep hns, ⟨mb, ns_keep hb, hbb⟩, ⟨mc, ns_keep c1, c2⟩⟩
  have e0 : Env0 P w K mg (hidT s₁.heap H) callerA [] s₁ H :=
    ⟨rfl, md, fun _ _ e => of_hidT e, Nat.le_of_eq (hidT_size _ _), trivial, (fun b hm => absurd (show b ∈ ([] : List Addr) from hm) List.not_mem_nil), hok, .of_eq hg⟩
  refine codeAny_mono ((F _ kb (ns_keep hns)).go callerA [] s₁ H ⟨[.ref a], []⟩ [.ref a] [.ref a] _ _ hr rfl e0 (hbind s₁ (.ref a)) (.cons rfl .nil) hS) fun r s' h => ?_
  match r, h with
  | .error e, h => exact False.elim h
  | .ok .next, h => exact False.elim h
  | .ok .brk, h => exact False.elim h
  | .ok .cont, h => exact False.elim h
  | .ok (.ret u), ⟨v, H', os, bare, un, hok', rv, q⟩ =>
    cases (show v = V.bl true from q)
    cases (show u = Value.bool true from rv)
    refine ⟨rfl, OldK.of_keep fun b o e => ?_, os, bare⟩
    cases q : H b with
    | none => exact un.keep b o e q (fun z => absurd (show b ∈ ([] : List Addr) from z) List.not_mem_nil) (fun z => absurd (show b ∈ ([] : List Addr) from z) List.not_mem_nil)
    | some u =>
      obtain ⟨_, ob, xs, z⟩ := one b u q
      subst z
      obtain ⟨g1, _⟩ := hok b _ q
      obtain ⟨g2, _⟩ := hok' b _ (un.frzs b ob _ q)
      rw [e] at g1
      cases g1
      exact g2

theorem law_run (inK : K.In s₁.heap) (hns : s₁.heap.Ns mainGlobals mg) (hb : s₁.heap.Ns builtinsNs mb) (hbb : ∀ y : Str, y ≠ "__name__" → mb y = bootBuiltins y) (hlim : s₁.heap.NoLimit) (hg : s₁.gens = #[])
    (ha : s₁.heap.get? a = some { cls := .type "list", data := .seq vs.toArray }) (hi : IntsAre vs ns) (hl : ns.length ≤ sizeLine) (hr : Room k callerA)
    (F : ∀ base : Heap, K.In base → base.Ns mainGlobals mg → FnG P w K mg base k fa fd [x] sp) (hbind : ∀ (s : Shared) (u : Value), BindsTo s fd ⟨[u], []⟩ [(x, u)])
    (hsp : ∀ H : Hp, SqL K H a (ns.map V.int) → sp [.ref a] H (fun v _ => v = .bl true) E0) :
    codeAny (model P w) callerA (.call (.ref fa) ⟨[.ref a], []⟩) (fun r s' => r = .ok (.ret (.bool true)) ∧ OldK s₁.heap s'.heap ∧ s'.os = s₁.os ∧ AllBare s'.gens) s₁ := by
  have rv := vals_ints hi
  have hl2 : (ns.map V.int).length ≤ sizeLine := by rw [List.length_map]; exact hl
  have hl3 : vs.length ≤ sizeLine := by rw [← rv.length]; exact hl2
  cases hk : K.lookup a with
  | none =>
    refine law_from (hpOf a { cls := .type "list", data := .seq vs.toArray } (ns.map V.int)) inK hns hb hbb hlim hg ha hr F hbind (hsp _ (.inl (.inr ⟨_, hpOf_at⟩))) (fun b u e => ?_) (fun b u e => ?_) fun _ _ => hk
    · obtain ⟨rfl, rfl⟩ := hpOf_some e
      exact ⟨ha, hl2, vs, _, rv, ha⟩
    · obtain ⟨z, q⟩ := hpOf_some e
      exact ⟨z, _, _, q⟩
  | some o =>
    have e := inK a o hk
    rw [ha] at e
    cases e
    exact law_from (fun _ => none) inK hns hb hbb hlim hg ha hr F hbind (hsp _ (.inr ⟨_, vs.toArray, _, hk, rfl, rfl, rfl, by rw [List.size_toArray]; exact hl3, by simpa using rv⟩)) (fun _ u e => absurd (show (none : Option HO) = some u from e) (by simp)) (fun _ u e => absurd (show (none : Option HO) = some u from e) (by simp)) fun u e => absurd (show (none : Option HO) = some u from e) (by simp)
end

/-- the law's row from the law's promise -/
theorem walkG {l : PySem.W.OpenLaw} {n k : Nat} {q : Program} {loose : List Str} {XP : (Str → Option Value) → Heap → Prop} {YP : World → Heap → Prop} {d : DefRec} {K : Params → PySem.W.Frag} {sp : PySem.W.Frag → Sp} {x : Str}
    (hn : l.most = some n) (hn2 : n ≤ sizeLine) (hdf : d.params.defaults = []) (hr : Room k callerA)
    (hY : ∀ (w : World) (h : Heap), YP w h → (K w.params).In h)
    (F : ∀ (w : World) (mg : Str → Option Value) (fa : Addr) (h : Heap), (K w.params).In h → h.Ns mainGlobals mg → mg d.name = some (.ref fa) →
      ∃ fd : FuncData, (∀ (s : Shared) (u : Value), BindsTo s fd ⟨[u], []⟩ [(x, u)]) ∧
        ∀ base : Heap, (K w.params).In base → base.Ns mainGlobals mg → FnG l.prog w (K w.params) mg base k fa fd [x] (sp (K w.params)))
    (hsp : ∀ (K : PySem.W.Frag) (H : Hp) (a : Addr) (ns : List Int), ns.length ≤ n → SqL K H a (ns.map V.int) → sp K [.ref a] H (fun v _ => v = .bl true) E0) :
    PySem.W.WalkO q loose XP YP l.row.toRowW d [] (fun f vs => PySem.call f vs) := by
  refine Att.attach_call hn hdf fun w s₀ s₁ mg mb fa o pm cd doc a vs ns G Y ho hd hcd hmg hobj hints hlen hg => ?_
  have inK := hY w _ Y
  obtain ⟨fd, hb, hF⟩ := F w mg fa _ inK G.T.g hmg
  exact law_run inK G.T.g G.T.b G.T.builtins G.T.nolimit hg hobj hints (Nat.le_trans hlen hn2) hr hF hb fun H hS => hsp (K w.params) H a ns hlen hS
end Cs

set_option maxRecDepth 100000
set_option maxHeartbeats 4000000
namespace Cs
open PySem PySem.Spec PyProof.Rows L2

/-! ### a def that stands in the text and keeps a promise -/
def At (K : PySem.W.Frag) (mg : Str → Option Value) (x : Str) (st : Stmt) : Prop := ∃ (f : Addr) (fd : FuncData), mg x = some (.ref f) ∧ Fun K x x st f fd
def Df (P : Program) (w : World) (K : PySem.W.Frag) (mg : Str → Option Value) (base : Heap) (k : Nat) (x : Str) (ps : List Str) (sp : Sp) : Prop :=
  ∃ (f : Addr) (fd : FuncData), mg x = some (.ref f) ∧ PySem.W.keepIn K (.ref f) = true ∧ Binds K fd ps [] ∧ FnG P w K mg base k f fd ps sp
section
variable {P : Program} {w : World} {K : PySem.W.Frag} {mg : Str → Option Value} {base : Heap}
theorem Df.of {x : Str} {st : Stmt} {N ps : List Str} {k : Nat} {sp : Sp} (A : At K mg x st)
    (bd : ∀ (kV doc pm : Value) (an : Option Addr) (cdv ct : Value) (us : List Value), us.length = ps.length → bindArgs (PySem.W.fnOf x x (defArgs st) (defBody st) (defScope st) .none kV doc pm an cdv ct) ⟨us, []⟩ = pure (ps.zip us))
    (S : FnScope N ps (defScope st)) (len : ∀ vs H Q E, sp vs H Q E → vs.length = ps.length)
    (body : ∀ (cdv : Value) (A : Around) (out : List Env) (f : Addr) (s : Shared) (H : Hp) (vs : List V) (Q : VK) (E : XK), Room k (A.deeper (envOfC x (defScope st) s.heap.objs.size f cdv)) → A.guards = some [] → sp vs H Q E →
      ∃ t, PSs (cxG P w K mg base N x (defScope st) f cdv A out s H E) (defBody st) t ∧ t { nx := fun _ H' => Q .non H', rt := Q } (start N vs) H) :
    Df P w K mg base (k + 1) x ps sp := by
  obtain ⟨f, fd, m, F⟩ := A
  exact ⟨f, fd, m, F.kp, F.binds bd, FnG.of F S len fun cdv A out s H vs Q E hr hg h => body cdv A out f s H vs Q E hr hg h⟩
end
section
variable {X : Cx} {k : Nat} {ps : List Str} {sp : Sp} {x : Str} {p pos : Pos} {e : Expr} {es : List Expr} {t : TA}
theorem pe_df (D : Df X.prog X.w X.K X.mg X.base k x ps sp) (hr : Room k X.A) (hgd : X.A.guards = some []) (hg : Gl X x)
    (ha : PA X (e :: es) t) (hdb : (x == ("__debug__" : Str)) = false := by decide) (he : starEach (e :: es) X.env = (false, eval e X.env) :: starEach es X.env := by rfl) (hpl : (backTo pos (starEach es X.env)).any (·.1) = false := by rfl) :
    PE X (.Call (.Name x p) (e :: es) [] pos) (tFn sp t) := by
  obtain ⟨f, fd, m, kp, b, G⟩ := D
  exact pe_fn G hr hgd hg m kp b ha hdb he hpl
theorem pe_df0 (D : Df X.prog X.w X.K X.mg X.base k x ps sp) (hr : Room k X.A) (hgd : X.A.guards = some []) (hg : Gl X x) (hdb : (x == ("__debug__" : Str)) = false := by decide) :
    PE X (.Call (.Name x p) [] [] pos) (tFn sp tNil) := by
  obtain ⟨f, fd, m, kp, b, G⟩ := D
  exact pe_fn0 G hr hgd hg m kp b hdb
end

/-! ### heaps -/
/-- all but t is as it was -/
def Al (t : Addr) (H H' : Hp) : Prop := ∀ b, b ≠ t → H' b = H b
/-- all that was tracked, but t, is as it was -/
def Gr (t : Addr) (H H' : Hp) : Prop := ∀ b o, H b = some o → b ≠ t → H' b = some o
theorem Al.gr {t : Addr} {H H' : Hp} (a : Al t H H') : Gr t H H' := fun b o e n => by rw [a b n]; exact e
theorem Al.upd {t : Addr} {H : Hp} {o : HO} : Al t H (upd H t o) := fun b n => upd_ne n
theorem Al.trans {t : Addr} {H H1 H2 : Hp} (a : Al t H H1) (b : Al t H1 H2) : Al t H H2 := fun c n => (b c n).trans (a c n)
theorem Al.free {t b : Addr} {H H' : Hp} (a : Al t H H') (n : b ≠ t) (h : H' b = none) : H b = none := by rw [← a b n]; exact h
theorem Gr.refl (t : Addr) (H : Hp) : Gr t H H := fun _ _ e _ => e
theorem Gr.trans {t : Addr} {H H1 H2 : Hp} (a : Gr t H H1) (b : Gr t H1 H2) : Gr t H H2 := fun c o e n => b c o (a c o e n) n
theorem Gr.of {t : Addr} {H H' : Hp} (a : Same H H') : Gr t H H' := fun b o e _ => a b o e
theorem Gr.free {t b : Addr} {H H' : Hp} (a : Gr t H H') (n : b ≠ t) (h : H' b = none) : H b = none := by
  cases e : H b with
  | none => rfl
  | some o =>
    rw [a b o e n] at h
    cases h
theorem Same.new {p : Addr} {H : Hp} {o : HO} (h : H p = none) : Same H (upd H p o) := fun b u e => by rw [upd_ne (ne_of_none e h)]; exact e
theorem Gr.new {t p : Addr} {H : Hp} {o : HO} (h : H p = none) : Gr t H (upd H p o) := Gr.of (Same.new h)

/-- things that never change are as they were -/
structure Im (H H' : Hp) : Prop where
  tup : ∀ b xs, H b = some (.tup xs) → H' b = some (.tup xs)
  frz : ∀ b o u, H b = some (.frz o u) → H' b = some (.frz o u)
theorem Im.refl (H : Hp) : Im H H := ⟨fun _ _ e => e, fun _ _ _ e => e⟩
theorem Im.trans {H H1 H2 : Hp} (a : Im H H1) (b : Im H1 H2) : Im H H2 := ⟨fun c xs e => b.tup c xs (a.tup c xs e), fun c o u e => b.frz c o u (a.frz c o u e)⟩
theorem Im.same {H H' : Hp} (a : Same H H') : Im H H' := ⟨fun b _ e => a b _ e, fun b _ _ e => a b _ e⟩
theorem Im.new {p : Addr} {H : Hp} {o : HO} (h : H p = none) : Im H (upd H p o) := Im.same (Same.new h)
theorem Im.gr {t : Addr} {H H' : Hp} {xs : List V} (a : Gr t H H') (h : H t = some (.lst xs)) : Im H H' :=
  ⟨fun b ys e => a b _ e fun z => (by subst z; rw [h] at e; cases e), fun b o u e => a b _ e fun z => (by subst z; rw [h] at e; cases e)⟩
theorem Im.set {t : Addr} {H : Hp} {xs : List V} {o : HO} (h : H t = some (.lst xs)) : Im H (upd H t o) := Im.gr (Al.upd.gr) h
theorem Im.sqT {K : PySem.W.Frag} {H H' : Hp} {a : Addr} {xs : List V} (e : Im H H') (h : SqT K H a xs) : SqT K H' a xs := by
  rcases h with (h | ⟨o, h⟩) | h
  · exact .inl (.inl (e.tup _ _ h))
  · exact .inl (.inr ⟨o, e.frz _ _ _ h⟩)
  · exact .inr h

/-! ### the tape -/
structure TapeAt (H : Hp) (t l : Addr) : Prop where
  ex : ∃ (ns : List Int) (p r s : Int), H t = some (.lst [.ref l, .int p, .int r, .int s]) ∧ H l = some (.lst (ns.map V.int)) ∧ 0 ≤ p ∧ 0 ≤ r ∧ 0 ≤ s
  ne : l ≠ t
theorem TapeAt.list {H : Hp} {t l : Addr} (T : TapeAt H t l) : ∃ xs, H t = some (.lst xs) := let ⟨_, _, _, _, h, _⟩ := T.ex; ⟨_, h⟩
theorem TapeAt.list' {H : Hp} {t l : Addr} (T : TapeAt H t l) : ∃ xs, H l = some (.lst xs) := let ⟨_, _, _, _, _, h, _⟩ := T.ex; ⟨_, h⟩
theorem TapeAt.same {H H' : Hp} {t l : Addr} (T : TapeAt H t l) (e : Same H H') : TapeAt H' t l := let ⟨ns, p, r, s, h1, h2, q⟩ := T.ex; ⟨⟨ns, p, r, s, e _ _ h1, e _ _ h2, q⟩, T.ne⟩
theorem TapeAt.new {H : Hp} {t l b : Addr} {o : HO} (T : TapeAt H t l) (h : H b = none) : TapeAt (upd H b o) t l := T.same (Same.new h)
theorem TapeAt.upd {H : Hp} {t l b : Addr} {o : HO} (T : TapeAt H t l) (n1 : b ≠ t) (n2 : b ≠ l) : TapeAt (upd H b o) t l :=
  let ⟨ns, p, r, s, h1, h2, q⟩ := T.ex; ⟨⟨ns, p, r, s, by rw [upd_ne n1.symm]; exact h1, by rw [upd_ne n2.symm]; exact h2, q⟩, T.ne⟩
theorem TapeAt.ne_t {H : Hp} {t l b : Addr} (T : TapeAt H t l) (h : H b = none) : b ≠ t := let ⟨_, e⟩ := T.list; (ne_of_none e h).symm
theorem TapeAt.ne_l {H : Hp} {t l b : Addr} (T : TapeAt H t l) (h : H b = none) : b ≠ l := let ⟨_, e⟩ := T.list'; (ne_of_none e h).symm
theorem TapeAt.im {H H' : Hp} {t l : Addr} (T : TapeAt H t l) (g : Gr t H H') : Im H H' := let ⟨_, e⟩ := T.list; Im.gr g e

/-- the law's own two: a tape is made; a number is drawn -/
def sp_law_tape (K : PySem.W.Frag) : Sp := fun vs H Q _ => ∃ (a : Addr) (ns : List Int), vs = [.ref a] ∧ SqL K H a (ns.map V.int) ∧ ns.length ≤ 63 ∧ ∀ t l H', Same H H' → TapeAt H' t l → H t = none → H l = none → Q (.ref t) H'
def sp_law_draw (K : PySem.W.Frag) : Sp := fun vs H Q _ => ∃ (t l : Addr) (m : Int), vs = [.ref t, .int m] ∧ TapeAt H t l ∧ m ≤ 1000000000 ∧ ∀ v H', TapeAt H' t l → Al t H H' → 0 ≤ v → v < max m 1 → Q (.int v) H'
end Cs

set_option maxRecDepth 100000
set_option maxHeartbeats 4000000
namespace Cs
open PySem PySem.Spec PyProof.Rows L2
/-! ### tests -/
section
variable {A B c : Prop}
theorem if_dec [Decidable c] (h1 : c → A) (h2 : ¬ c → B) : if decide c = true then A else B := by
  by_cases h : c
  · rw [decide_eq_true h, if_pos rfl]; exact h1 h
  · rw [decide_eq_false h, if_neg Bool.false_ne_true]; exact h2 h
theorem if_ndec [Decidable c] (h1 : ¬ c → A) (h2 : c → B) : if (!decide c) = true then A else B := by
  by_cases h : c
  · rw [decide_eq_true h]; exact h2 h
  · rw [decide_eq_false h]; exact h1 h
theorem if_int {i j : Int} (h1 : i = j → A) (h2 : ¬ i = j → B) : if decide (V.int i = V.int j) = true then A else B :=
  if_dec (fun h => h1 (V.int.inj h)) fun h => h2 fun e => h (by rw [e])
theorem if_nint {i j : Int} (h1 : ¬ i = j → A) (h2 : i = j → B) : if (!decide (V.int i = V.int j)) = true then A else B :=
  if_ndec (fun h => h1 fun e => h (by rw [e])) fun h => h2 (V.int.inj h)
theorem if_str {i j : Str} (h1 : i = j → A) (h2 : ¬ i = j → B) : if decide (V.str i = V.str j) = true then A else B :=
  if_dec (fun h => h1 (V.str.inj h)) fun h => h2 fun e => h (by rw [e])
theorem if_nstr {i j : Str} (h1 : ¬ i = j → A) (h2 : i = j → B) : if (!decide (V.str i = V.str j)) = true then A else B :=
  if_ndec (fun h => h1 fun e => h (by rw [e])) fun h => h2 (V.str.inj h)
theorem if_bool {b : Bool} (h1 : b = true → A) (h2 : b = false → B) : if b = true then A else B := by
  cases b with
  | true => exact h1 rfl
  | false => exact h2 rfl
theorem if_nbool {b : Bool} (h1 : b = false → A) (h2 : b = true → B) : if (!b) = true then A else B := by
  cases b with
  | true => exact h2 rfl
  | false => exact h1 rfl
end
theorem int_at {ns : List Int} {i : Nat} {y : V} (h : (ns.map V.int)[i]? = some y) : ∃ n, y = V.int n := by
  rw [List.getElem?_map] at h
  cases e : ns[i]? with
  | none => rw [e] at h; cases h
  | some z => rw [e] at h; exact ⟨z, (Option.some.inj h).symm⟩
theorem at_int {ns : List Int} {i : Int} (h0 : 0 ≤ i) (h : i < ns.length) : ∃ n, atI (ns.map V.int) i = some (V.int n) := by
  obtain ⟨j, rfl⟩ : ∃ j : Nat, i = (j : Int) := ⟨i.toNat, by omega⟩
  have hj : j < ns.length := by omega
  exact ⟨ns[j], atI_nat (by rw [List.getElem?_map, List.getElem?_eq_getElem hj]; rfl)⟩
theorem max_one (m : Int) : (if (1 : Int) > m then (1 : Int) else m) = max m 1 := by
  by_cases h : (1 : Int) > m
  · rw [if_pos h]; omega
  · rw [if_neg h]; omega
end Cs
namespace Cs
open PySem PySem.Spec PyProof.Rows L2
theorem set3 {α : Type} (σ : List α) (s : Nat) (a b c : α) : (((σ.set s a).set s b).set s c) = σ.set s c := by
  rw [List.set_set, List.set_set]
theorem get_snoc {ys : List V} {v u : V} {j : Nat} (e : (ys ++ [v])[j]? = some u) : (j < ys.length ∧ ys[j]? = some u) ∨ (j = ys.length ∧ u = v) := by
  by_cases h : j < ys.length
  · rw [List.getElem?_append_left h] at e
    exact .inl ⟨h, e⟩
  · rw [List.getElem?_append_right (by omega)] at e
    have q : j - ys.length = 0 := by
      by_cases z : j - ys.length = 0
      · exact z
      · rw [List.getElem?_eq_none (by show 1 ≤ _; omega)] at e
        cases e
    rw [q] at e
    exact .inr ⟨by omega, (Option.some.inj e).symm⟩
section
variable {K : PySem.W.Frag} {a : Addr} {xs : List V} {te : TE} {s : Nat} {σ : L2.St} {H1 : Hp} {D : Addr} {Qd : Hp → Prop}
/-- what holds of a comprehension's list under way: its items so far are as P says -/
def CompSo (P : Nat → V → Hp → Prop) (H1 : Hp) (D : Addr) (i : Nat) (H : Hp) : Prop := Same H1 H ∧ ∃ ys, H D = some (.lst ys) ∧ ys.length = i ∧ ∀ j v, ys[j]? = some v → P j v H
theorem comp_turn {P : Nat → V → Hp → Prop} {i n : Nat} {x : V} {H : Hp} (mono : ∀ i v H H', P i v H → Im H H' → P i v H') (hz : n ≤ sizeLine) (fresh : H1 D = none) (hi : i < n) (so : CompSo P H1 D i H)
    (elt : ∀ H, Same H1 H → ∀ Q' : VK, (∀ v H', Same H H' → P i v H' → Q' v H') → te ((σ.set s none).set s (some x)) H Q') :
    gName s x (wipe σ [s]) H fun σ2 H2 => wipe σ2 [s] = wipe σ [s] ∧ tYes σ2 H2 fun b H3 =>
      if b = true then te σ2 H3 fun y H4 => ∃ acc, H4 D = some (.lst acc) ∧ acc.length < sizeLine ∧ CompSo P H1 D (i + 1) (upd H4 D (.lst (acc ++ [y]))) else CompSo P H1 D (i + 1) H3 := by
  obtain ⟨sm, ys, hD, hlen, hP⟩ := so
  refine ⟨set3 σ s none (some x) none, ?_⟩
  unfold tYes
  dsimp only
  rw [if_pos rfl]
  refine elt H sm _ fun v H' sm' pv => ?_
  have hD' := sm' _ _ hD
  have im2 : Im H' (upd H' D (.lst (ys ++ [v]))) := Im.set hD'
  refine ⟨ys, hD', by omega, fun b o e => by rw [upd_ne (ne_of_none e fresh)]; exact sm' _ _ (sm _ _ e), ys ++ [v], upd_same, by rw [List.length_append, hlen]; rfl, fun j u e => ?_⟩
  rcases get_snoc e with ⟨_, e⟩ | ⟨rfl, rfl⟩
  · exact mono _ _ _ _ (hP j u e) ((Im.same sm').trans im2)
  · rw [hlen]
    exact mono _ _ _ _ pv im2
theorem comp_start {P : Nat → V → Hp → Prop} (fresh : H1 D = none) : CompSo P H1 D 0 (upd H1 D (.lst [])) := ⟨Same.new fresh, [], upd_same, rfl, fun j v e => by simp at e⟩
/-- a comprehension over a list, no test: each element of the new list is what P says; nothing that was tracked changes -/
theorem comp_list (P : Nat → V → Hp → Prop) (mono : ∀ i v H H', P i v H → Im H H' → P i v H') (hl : SqL K H1 a xs) (hz : xs.length ≤ sizeLine) (fresh : H1 D = none)
    (elt : ∀ i x, xs[i]? = some x → ∀ H, Same H1 H → ∀ Q' : VK, (∀ v H', Same H H' → P i v H' → Q' v H') → te ((σ.set s none).set s (some x)) H Q')
    (hd : ∀ H ys, Same H1 H → H D = some (.lst ys) → ys.length = xs.length → (∀ i v, ys[i]? = some v → P i v H) → Qd H) :
    ∃ W : Nat → Nat → Hp → Prop, (∃ m, W 0 m (upd H1 D (.lst []))) ∧ ∀ i m H, W i m H →
      ((Itl K a).stop i H ∧ Qd H) ∨ ((Itl K a).go i H ∧ ∃ Nx : Hp → Prop, (∀ H', Nx H' → ∃ m', m' < m ∧ W (i + 1) m' H') ∧ ∀ x H', (Itl K a).yld i H x H' → gName s x (wipe σ [s]) H' fun σ2 H2 => wipe σ2 [s] = wipe σ [s] ∧ tYes σ2 H2 fun b H3 =>
        if b = true then te σ2 H3 fun y H4 => ∃ acc, H4 D = some (.lst acc) ∧ acc.length < sizeLine ∧ Nx (upd H4 D (.lst (acc ++ [y]))) else Nx H3) :=
  lc_list (K := K) (a := a) (xs := xs) (CompSo P H1 D) (comp_start fresh) (fun i H _ h => h.1.seq hl)
    (fun i x H hx so => comp_turn mono hz fresh (List.getElem?_eq_some_iff.mp hx).1 so (elt i x hx)) fun H ⟨sm, ys, hD, hlen, hP⟩ => hd H ys sm hD hlen hP
theorem comp_tup (P : Nat → V → Hp → Prop) (mono : ∀ i v H H', P i v H → Im H H' → P i v H') (hl : SqT K H1 a xs) (hz : xs.length ≤ sizeLine) (fresh : H1 D = none)
    (elt : ∀ i x, xs[i]? = some x → ∀ H, Same H1 H → ∀ Q' : VK, (∀ v H', Same H H' → P i v H' → Q' v H') → te ((σ.set s none).set s (some x)) H Q')
    (hd : ∀ H ys, Same H1 H → H D = some (.lst ys) → ys.length = xs.length → (∀ i v, ys[i]? = some v → P i v H) → Qd H) :
    ∃ W : Nat → Nat → Hp → Prop, (∃ m, W 0 m (upd H1 D (.lst []))) ∧ ∀ i m H, W i m H →
      ((Itt K a).stop i H ∧ Qd H) ∨ ((Itt K a).go i H ∧ ∃ Nx : Hp → Prop, (∀ H', Nx H' → ∃ m', m' < m ∧ W (i + 1) m' H') ∧ ∀ x H', (Itt K a).yld i H x H' → gName s x (wipe σ [s]) H' fun σ2 H2 => wipe σ2 [s] = wipe σ [s] ∧ tYes σ2 H2 fun b H3 =>
        if b = true then te σ2 H3 fun y H4 => ∃ acc, H4 D = some (.lst acc) ∧ acc.length < sizeLine ∧ Nx (upd H4 D (.lst (acc ++ [y]))) else Nx H3) :=
  lc_tup (K := K) (a := a) (xs := xs) (CompSo P H1 D) (comp_start fresh) (fun i H _ h => (Im.same h.1).sqT hl)
    (fun i x H hx so => comp_turn mono hz fresh (List.getElem?_eq_some_iff.mp hx).1 so (elt i x hx)) fun H ⟨sm, ys, hD, hlen, hP⟩ => hd H ys sm hD hlen hP
end
end Cs

namespace Cs
open PySem PySem.Spec PyProof.Rows L2
theorem eq_map {α : Type} {ys : List V} {rs : List α} {f : α → V} (h1 : ys.length = rs.length) (h2 : ∀ (i : Nat) v, ys[i]? = some v → ∃ r, rs[i]? = some r ∧ v = f r) : ys = rs.map f := by
  refine List.ext_getElem? fun i => ?_
  rw [List.getElem?_map]
  cases e : ys[i]? with
  | none =>
    have : rs[i]? = none := List.getElem?_eq_none_iff.mpr (by have := List.getElem?_eq_none_iff.mp e; omega)
    rw [this]; rfl
  | some v =>
    obtain ⟨r, hr, rfl⟩ := h2 i v e
    rw [hr]; rfl
theorem get_len {α β : Type} {xs : List α} {rs : List β} (h : xs.length = rs.length) {i : Nat} {x : α} (e : xs[i]? = some x) : ∃ r, rs[i]? = some r := by
  have hi := (List.getElem?_eq_some_iff.mp e).1
  exact ⟨rs[i]'(by omega), List.getElem?_eq_getElem (by omega)⟩
section
variable {K : PySem.W.Frag} {a : Addr} {xs : List V} {te : TE} {s : Nat} {σ : L2.St} {H1 : Hp} {D : Addr} {Qd : Hp → Prop} {α : Type}
/-- .. where each element is a value that hangs on the datum alone -/
theorem map_list (rs : List α) (f : α → V) (hl : SqL K H1 a xs) (hz : xs.length ≤ sizeLine) (hlen : xs.length = rs.length) (fresh : H1 D = none)
    (elt : ∀ (i : Nat) x r, xs[i]? = some x → rs[i]? = some r → ∀ H, Same H1 H → ∀ Q' : VK, (∀ H', Same H H' → Q' (f r) H') → te ((σ.set s none).set s (some x)) H Q')
    (hd : ∀ H, Same H1 H → H D = some (.lst (rs.map f)) → Qd H) :
    ∃ W : Nat → Nat → Hp → Prop, (∃ m, W 0 m (upd H1 D (.lst []))) ∧ ∀ i m H, W i m H →
      ((Itl K a).stop i H ∧ Qd H) ∨ ((Itl K a).go i H ∧ ∃ Nx : Hp → Prop, (∀ H', Nx H' → ∃ m', m' < m ∧ W (i + 1) m' H') ∧ ∀ x H', (Itl K a).yld i H x H' → gName s x (wipe σ [s]) H' fun σ2 H2 => wipe σ2 [s] = wipe σ [s] ∧ tYes σ2 H2 fun b H3 =>
        if b = true then te σ2 H3 fun y H4 => ∃ acc, H4 D = some (.lst acc) ∧ acc.length < sizeLine ∧ Nx (upd H4 D (.lst (acc ++ [y]))) else Nx H3) :=
  comp_list (K := K) (a := a) (fun i v _ => ∃ r, rs[i]? = some r ∧ v = f r) (fun _ _ _ _ h _ => h) hl hz fresh
    (fun i x hx H sm Q' hQ => by
      obtain ⟨r, hr⟩ := get_len hlen hx
      exact elt i x r hx hr H sm Q' fun H' sm' => hQ _ H' sm' ⟨r, hr, rfl⟩)
    fun H ys sm hD hl2 hP => hd H sm (by rw [← eq_map (hl2.trans hlen) hP]; exact hD)
theorem map_tup (rs : List α) (f : α → V) (hl : SqT K H1 a xs) (hz : xs.length ≤ sizeLine) (hlen : xs.length = rs.length) (fresh : H1 D = none)
    (elt : ∀ (i : Nat) x r, xs[i]? = some x → rs[i]? = some r → ∀ H, Same H1 H → ∀ Q' : VK, (∀ H', Same H H' → Q' (f r) H') → te ((σ.set s none).set s (some x)) H Q')
    (hd : ∀ H, Same H1 H → H D = some (.lst (rs.map f)) → Qd H) :
    ∃ W : Nat → Nat → Hp → Prop, (∃ m, W 0 m (upd H1 D (.lst []))) ∧ ∀ i m H, W i m H →
      ((Itt K a).stop i H ∧ Qd H) ∨ ((Itt K a).go i H ∧ ∃ Nx : Hp → Prop, (∀ H', Nx H' → ∃ m', m' < m ∧ W (i + 1) m' H') ∧ ∀ x H', (Itt K a).yld i H x H' → gName s x (wipe σ [s]) H' fun σ2 H2 => wipe σ2 [s] = wipe σ [s] ∧ tYes σ2 H2 fun b H3 =>
        if b = true then te σ2 H3 fun y H4 => ∃ acc, H4 D = some (.lst acc) ∧ acc.length < sizeLine ∧ Nx (upd H4 D (.lst (acc ++ [y]))) else Nx H3) :=
  comp_tup (K := K) (a := a) (fun i v _ => ∃ r, rs[i]? = some r ∧ v = f r) (fun _ _ _ _ h _ => h) hl hz fresh
    (fun i x hx H sm Q' hQ => by
      obtain ⟨r, hr⟩ := get_len hlen hx
      exact elt i x r hx hr H sm Q' fun H' sm' => hQ _ H' sm' ⟨r, hr, rfl⟩)
    fun H ys sm hD hl2 hP => hd H sm (by rw [← eq_map (hl2.trans hlen) hP]; exact hD)
end
/-! ### rectangles -/
structure R where
  l : Int
  t : Int
  w : Int
  h : Int
  deriving DecidableEq
def R.vs (r : R) : List V := [.int r.l, .int r.t, .int r.w, .int r.h]
def R.es (r : R) : List V := [.int r.l, .int r.t, .int (r.l + r.w), .int (r.t + r.h)]
/-- v is the rectangle r -/
def Rc (K : PySem.W.Frag) (H : Hp) (v : V) (r : R) : Prop := ∃ a, v = .ref a ∧ SqT K H a r.vs
theorem Rc.im {K : PySem.W.Frag} {H H' : Hp} {v : V} {r : R} (h : Rc K H v r) (e : Im H H') : Rc K H' v r := let ⟨a, h1, h2⟩ := h; ⟨a, h1, e.sqT h2⟩
theorem Rc.same {K : PySem.W.Frag} {H H' : Hp} {v : V} {r : R} (h : Rc K H v r) (e : Same H H') : Rc K H' v r := h.im (Im.same e)
/-- xs are the rectangles rs -/
structure Rcs (K : PySem.W.Frag) (H : Hp) (xs : List V) (rs : List R) : Prop where
  len : xs.length = rs.length
  at_ : ∀ (i : Nat) (x : V) (r : R), xs[i]? = some x → rs[i]? = some r → Rc K H x r
theorem Rcs.im {K : PySem.W.Frag} {H H' : Hp} {xs : List V} {rs : List R} (h : Rcs K H xs rs) (e : Im H H') : Rcs K H' xs rs := ⟨h.len, fun i x r h1 h2 => (h.at_ i x r h1 h2).im e⟩
theorem Rcs.nil {K : PySem.W.Frag} {H : Hp} : Rcs K H [] [] := ⟨rfl, fun i x r h => by simp at h⟩
theorem Rcs.snoc {K : PySem.W.Frag} {H : Hp} {xs : List V} {rs : List R} {x : V} {r : R} (h : Rcs K H xs rs) (q : Rc K H x r) : Rcs K H (xs ++ [x]) (rs ++ [r]) := by
  refine ⟨by rw [List.length_append, List.length_append, h.len]; rfl, fun i y s h1 h2 => ?_⟩
  rcases get_snoc h1 with ⟨hi, h1⟩ | ⟨rfl, rfl⟩
  · rw [List.getElem?_append_left (by rw [← h.len]; exact hi)] at h2
    exact h.at_ i y s h1 h2
  · rw [h.len, List.getElem?_append_right (Nat.le_refl _), Nat.sub_self] at h2
    cases (Option.some.inj h2)
    exact q
theorem Rcs.take {K : PySem.W.Frag} {H : Hp} {xs : List V} {rs : List R} (h : Rcs K H xs rs) (n : Nat) : Rcs K H (xs.take n) (rs.take n) := by
  refine ⟨by rw [List.length_take, List.length_take, h.len], fun i y s h1 h2 => ?_⟩
  rw [List.getElem?_take] at h1 h2
  split at h1
  · rw [if_pos (by assumption)] at h2
    exact h.at_ i y s h1 h2
  · cases h1
theorem Rcs.drop {K : PySem.W.Frag} {H : Hp} {xs : List V} {rs : List R} (h : Rcs K H xs rs) (n : Nat) : Rcs K H (xs.drop n) (rs.drop n) := by
  refine ⟨by rw [List.length_drop, List.length_drop, h.len], fun i y s h1 h2 => ?_⟩
  rw [List.getElem?_drop] at h1 h2
  exact h.at_ _ y s h1 h2
theorem Rcs.reverse {K : PySem.W.Frag} {H : Hp} {xs : List V} {rs : List R} (h : Rcs K H xs rs) : Rcs K H xs.reverse rs.reverse := by
  refine ⟨by rw [List.length_reverse, List.length_reverse, h.len], fun i y s h1 h2 => ?_⟩
  have hi : i < xs.length := by have := (List.getElem?_eq_some_iff.mp h1).1; rw [List.length_reverse] at this; exact this
  rw [List.getElem?_reverse hi] at h1
  rw [List.getElem?_reverse (by rw [← h.len]; exact hi), ← h.len] at h2
  exact h.at_ _ y s h1 h2
end Cs

set_option maxRecDepth 100000
set_option maxHeartbeats 4000000
/-! rules with the written part named, so that they stand within comprehensions too -/
namespace Cs
open PySem PySem.Spec PyProof.Rows L2
section
variable {X : Cx} {a b e : Expr} {ta tb te : TE} {pos : Pos}
theorem ixL (K : PySem.W.Frag) (h : X.K = K := by rfl) : IxR X (rIxL K) := h ▸ ix_list
theorem ixT (K : PySem.W.Frag) (h : X.K = K := by rfl) : IxR X (rIxT K) := h ▸ ix_tup
theorem slL (K : PySem.W.Frag) (h : X.K = K := by rfl) : SlR X (rSlL K) := h ▸ sl_list
theorem slT (K : PySem.W.Frag) (h : X.K = K := by rfl) : SlR X (rSlA K) := h ▸ sl_tupA
theorem eqK (K : PySem.W.Frag) (hu : X.A.units + 64 < cLine) (h : X.K = K := by rfl) : OpR X (compareOp .Eq) (rEqD K) := h ▸ op_eqD hu
theorem neK (K : PySem.W.Frag) (hu : X.A.units + 64 < cLine) (h : X.K = K := by rfl) : OpR X (compareOp .NotEq) (rNeD K) := h ▸ op_neD hu
theorem catT (K : PySem.W.Frag) (h : X.K = K := by rfl) : OpR X (binaryOp .Add) (rCatA K) := h ▸ op_catA
def rLen (K : PySem.W.Frag) : List V → Hp → VK → Prop := fun xs H Q => ∃ x n, xs = [x] ∧ LenV K x H n ∧ Q (.int n) H
theorem lenK (K : PySem.W.Frag) (h : X.K = K := by rfl) : CallR X (.builtin "len") (rLen K) := h ▸ call_len
def rListOf (K : PySem.W.Frag) : List V → Hp → VK → Prop := fun xs H Q => ∃ p ys, xs = [.ref p] ∧ (SqL K H p ys ∨ SqT K H p ys) ∧ ∀ l, H l = none → Q (.ref l) (upd H l (.lst ys))
theorem listK (K : PySem.W.Frag) (h : X.K = K := by rfl) : CallR X (.type "list") (rListOf K) := h ▸ call_list_of
def rTupOf (K : PySem.W.Frag) : List V → Hp → VK → Prop := fun xs H Q => ∃ p ys, xs = [.ref p] ∧ ((SqL K H p ys ∧ ∀ l, H l = none → Q (.ref l) (upd H l (.tup ys))) ∨ (SqT K H p ys ∧ Q (.ref p) H))
theorem tupK (K : PySem.W.Frag) (h : X.K = K := by rfl) : CallR X (.type "tuple") (rTupOf K) := h ▸ call_tuple_of
theorem reprK (K : PySem.W.Frag) (hu : X.A.units + 64 < cLine) (hg : X.A.guards = some []) (h : X.K = K := by rfl) : CallR X (.builtin "repr") (rRepr K) := h ▸ call_repr hu hg
theorem minK (K : PySem.W.Frag) (hc : X.calm = true) (h : X.K = K := by rfl) : CallR X (.builtin "min") (rMin K) := h ▸ cr_min hc
theorem maxK (K : PySem.W.Frag) (hc : X.calm = true) (h : X.K = K := by rfl) : CallR X (.builtin "max") (rMax K) := h ▸ cr_max hc
theorem sumK (K : PySem.W.Frag) (hc : X.calm = true) (h : X.K = K := by rfl) : CallR X (.builtin "sum") (rSum K) := h ▸ cr_sum hc
/-- a test by truth -/
def tTru (K : PySem.W.Frag) (ta : TE) : TT := fun σ H Q => ta σ H fun x H' => ∃ k, TruV K x H' k ∧ Q k H'
theorem truK (K : PySem.W.Frag) (ha : PE X a ta) (he : ∀ whole, isTrue a X.env whole = (do let v ← whole; standAt a.pos; holding [v] (truthy v)) := by intro _; rfl) (h : X.K = K := by rfl) : PT X a (tTru K ta) := h ▸ pt_truth ha he
end
theorem atI_mem {α : Type} {xs : List α} {v : Int} (h0 : 0 ≤ v) (h1 : v < xs.length) : ∃ z, atI xs v = some z ∧ xs[v.toNat]? = some z ∧ z ∈ xs := by
  obtain ⟨j, rfl⟩ : ∃ j : Nat, v = (j : Int) := ⟨v.toNat, by omega⟩
  have hj : j < xs.length := by omega
  have e : xs[j]? = some xs[j] := List.getElem?_eq_getElem hj
  exact ⟨xs[j], atI_nat e, by rw [Int.toNat_natCast]; exact e, List.getElem_mem hj⟩
/-! the slots as a written list -/
theorem gset {i : Nat} {v : V} {σ σ' : L2.St} {H : Hp} {Q : L2.St → Hp → Prop} (e : σ.set i (some v) = σ') (h : Q σ' H) : gName i v σ H Q := by
  subst e
  exact h
theorem set_0 {α : Type} {a b : α} {l : List α} : (a :: l).set 0 b = b :: l := rfl
theorem set_s {α : Type} {a b : α} {l l' : List α} {n : Nat} (h : l.set n b = l') : (a :: l).set (n + 1) b = a :: l' := by
  subst h
  rfl
def tPar2 (i j : Nat) (ta : TA) : TS := fun D σ H => ta σ H fun vs H1 => ∃ v w, vs = [v, w] ∧ gName i v σ H1 fun σ' H' => gName j w σ' H' D.nx
theorem par2 {X : Cx} {i j : Nat} {st : Stmt} {ta : TA} (h : PS X st (tPar i j ta)) : PS X st (tPar2 i j ta) := h
theorem at_start {N : List Str} {vs : List V} {σ : L2.St} {t : TS} {D : Ends} {H : Hp} (e : L2.start N vs = σ) (h : t D σ H) : t D (L2.start N vs) H := by
  subst e
  exact h
theorem rep_0 {α : Type} {a : α} : List.replicate 0 a = [] := rfl
theorem rep_s {α : Type} {a : α} {k : Nat} {l : List α} (h : List.replicate k a = l) : List.replicate (k + 1) a = a :: l := by
  subst h
  rfl
theorem app_nil {α : Type} {r l : List (Option α)} (h : r = l) : ([] : List α).map some ++ r = l := h
theorem app_cons {α : Type} {v : α} {vs : List α} {r l : List (Option α)} (h : vs.map some ++ r = l) : (v :: vs).map some ++ r = some v :: l := by
  subst h
  rfl
theorem st_of {N : List Str} {vs : List V} {k : Nat} {σ : L2.St} (h : N.length - vs.length = k) (e : vs.map some ++ List.replicate k none = σ) : L2.start N vs = σ := by
  subst h
  exact e
theorem cut_to {xs : List V} {k : Int} (h : 0 ≤ k) : cutV xs none (some k) = xs.take k.toNat := by
  obtain ⟨j, rfl⟩ : ∃ j : Nat, k = (j : Int) := ⟨k.toNat, by omega⟩
  unfold cutV
  rw [HT.sIx_none, HT.sIx_nat, List.drop_zero, Nat.sub_zero, Int.toNat_natCast]
  by_cases h : j ≤ xs.length
  · rw [Nat.min_eq_left h]
  · rw [Nat.min_eq_right (by omega), List.take_length, List.take_of_length_le (by omega)]
theorem cut_from {xs : List V} {k : Int} (h : 0 ≤ k) : cutV xs (some k) none = xs.drop k.toNat := by
  obtain ⟨j, rfl⟩ : ∃ j : Nat, k = (j : Int) := ⟨k.toNat, by omega⟩
  unfold cutV
  rw [HT.sIx_none, HT.sIx_nat, Int.toNat_natCast]
  by_cases h : j ≤ xs.length
  · rw [Nat.min_eq_left h, List.take_of_length_le (by rw [List.length_drop]; omega)]
  · rw [Nat.min_eq_right (by omega), List.drop_of_length_le (Nat.le_refl _), List.drop_of_length_le (by omega), List.take_nil]
theorem Al.at_ {t b : Addr} {H H' : Hp} {o : HO} (a : Al t H H') (n : b ≠ t) (h : H b = some o) : H' b = some o := by rw [a b n]; exact h
theorem Al.none_ {t b : Addr} {H H' : Hp} (a : Al t H H') (n : b ≠ t) (h : H b = none) : H' b = none := by rw [a b n]; exact h
end Cs

set_option maxRecDepth 100000
set_option maxHeartbeats 4000000
/-! how long the text of data may get -/
namespace Cs
open PySem PySem.Spec PyProof.Rows L2
def smallStr (x : Str) : Bool := x.cps.toList.all fun c => decide (c < 16 ^ 8)
theorem smallStr_all {x : Str} (h : smallStr x = true) : ∀ c ∈ x.cps.toList, c < 16 ^ 8 := fun c hc => of_decide_eq_true (List.all_eq_true.mp h c hc)
mutual
/-- no dicts, ints below 2 ^ 1920, texts of codes that can be shown -/
def plainD : PyData → Bool
  | .none => true
  | .bool _ => true
  | .int i => decide (i.natAbs.log2 < 1920)
  | .str x => smallStr x
  | .list xs => plainAll xs
  | .tuple xs => plainAll xs
  | .dict _ => false
def plainAll : List PyData → Bool
  | [] => true
  | x :: xs => plainD x && plainAll xs
end
mutual
def cost : PyData → Nat
  | .none => 4
  | .bool _ => 5
  | .int _ => 1921
  | .str x => 10 * x.length + 2
  | .list xs => costAll xs + 2
  | .tuple xs => costAll xs + 2
  | .dict _ => 0
def costAll : List PyData → Nat
  | [] => 0
  | x :: xs => cost x + 2 + costAll xs
end
theorem list_text (ts : List Str) : (listText ts).length ≤ piled ts + 2 := by
  cases ts with
  | nil => decide +kernel
  | cons t r =>
    have e1 : (listText (t :: r)).length = (textFrom 0 "[" (t :: r)).length + 1 := by
      show (textFrom 0 "[" (t :: r) ++ "]").length = _
      rw [strLen_append]; rfl
    have e2 : (textFrom 0 "[" (t :: r)).length = (textFrom 1 (("[" : Str) ++ (if (0 : Nat) > 0 then ", " else "" : String) ++ t) r).length := rfl
    have e3 : ((("[" : Str) ++ (if (0 : Nat) > 0 then ", " else "" : String) ++ t)).length = 1 + t.length := by
      rw [strLen_append, strLen_append]; rfl
    have h := textFrom_length_pos r 1 (("[" : Str) ++ (if (0 : Nat) > 0 then ", " else "" : String) ++ t) (Nat.succ_pos 0)
    rw [piled_cons]
    omega
mutual
theorem plain_shows : ∀ d : PyData, plainD d = true → d.showable = true ∧ d.hasDict = false ∧ d.shown.length ≤ cost d
  | .none, _ => ⟨by simp only [PyData.showable], by simp only [PyData.hasDict], by simp only [PyData.shown, cost]; decide +kernel⟩
  | .bool b, _ => ⟨by simp only [PyData.showable], by simp only [PyData.hasDict], by simp only [PyData.shown, cost]; cases b <;> decide +kernel⟩
  | .int i, h => by
    simp only [plainD] at h
    exact ⟨by simp only [PyData.showable]; exact h, by simp only [PyData.hasDict], by simp only [PyData.shown, cost]; exact int_text_len_1921 (of_decide_eq_true h)⟩
  | .str x, h => by
    simp only [plainD] at h
    exact ⟨by simp only [PyData.showable], by simp only [PyData.hasDict], by simp only [PyData.shown, cost]; exact StrLaws.reprText_len x (smallStr_all h)⟩
  | .list xs, h => by
    simp only [plainD] at h
    obtain ⟨h1, h2, h3⟩ := plain_showsAll xs h
    refine ⟨by simp only [PyData.showable]; exact h1, by simp only [PyData.hasDict]; exact h2, ?_⟩
    simp only [PyData.shown, cost]
    have := list_text (PyData.shownAll xs)
    omega
  | .tuple xs, h => by
    simp only [plainD] at h
    obtain ⟨h1, h2, h3⟩ := plain_showsAll xs h
    refine ⟨by simp only [PyData.showable]; exact h1, by simp only [PyData.hasDict]; exact h2, ?_⟩
    simp only [PyData.shown, cost]
    have := fmt_text (PyData.shownAll xs)
    omega
  | .dict _, h => by simp [plainD] at h
theorem plain_showsAll : ∀ xs : List PyData, plainAll xs = true → PyData.showableAll xs = true ∧ PyData.hasDictAll xs = false ∧ piled (PyData.shownAll xs) ≤ costAll xs
  | [], _ => ⟨by simp only [PyData.showableAll], by simp only [PyData.hasDictAll], by simp only [PyData.shownAll, costAll]; exact Nat.le_refl _⟩
  | x :: xs, h => by
    simp only [plainAll, Bool.and_eq_true] at h
    obtain ⟨a1, a2, a3⟩ := plain_shows x h.1
    obtain ⟨b1, b2, b3⟩ := plain_showsAll xs h.2
    refine ⟨by simp only [PyData.showableAll, a1, b1, Bool.and_self], by simp only [PyData.hasDictAll, a2, b2, Bool.or_self], ?_⟩
    simp only [PyData.shownAll, costAll, piled_cons]
    omega
end
/-- what repr asks of data -/
def RepOk (d : PyData) : Prop := plainD d = true ∧ d.depth ≤ 40 ∧ cost d ≤ sizeLine
theorem repr_go {K : PySem.W.Frag} {x : V} {d : PyData} {H : Hp} {Q : VK} (hd : Dp K H x d) (ok : RepOk d) (q : Q (.str d.shown) H) : rRepr K [x] H Q := by
  obtain ⟨h1, h2, h3⟩ := plain_shows d ok.1
  exact ⟨x, d, rfl, hd, h1, h2, ok.2.1, Nat.le_trans h3 ok.2.2, q⟩
theorem RepOk.sh {d : PyData} (ok : RepOk d) : d.showable = true := (plain_shows d ok.1).1
theorem RepOk.nd {d : PyData} (ok : RepOk d) : d.hasDict = false := (plain_shows d ok.1).2.1
theorem RepOk.dp {d : PyData} (ok : RepOk d) : d.depth ≤ 40 := ok.2.1
theorem RepOk.sz {d : PyData} (ok : RepOk d) : d.shown.length ≤ sizeLine := Nat.le_trans (plain_shows d ok.1).2.2 ok.2.2
theorem small_int {i : Int} (h1 : -1000000000000000000000000000000 ≤ i) (h2 : i ≤ 1000000000000000000000000000000) : plainD (.int i) = true := by
  simp only [plainD]
  refine decide_eq_true ?_
  by_cases h : i.natAbs = 0
  · rw [h]; decide
  · refine (Nat.log2_lt h).mpr ?_
    have : i.natAbs ≤ 1000000000000000000000000000000 := by omega
    exact Nat.lt_of_le_of_lt this (by decide)
/-- the rectangle as data -/
def R.d (r : R) : PyData := .tuple [.int r.l, .int r.t, .int r.w, .int r.h]
theorem Rc.dp {K : PySem.W.Frag} {H : Hp} {v : V} {r : R} (h : Rc K H v r) : Dp K H v r.d := by
  obtain ⟨a, rfl, h⟩ := h
  exact .tup h (.cons (.int _) (.cons (.int _) (.cons (.int _) (.cons (.int _) .nil))))
theorem R.rep {r : R} (h : ∀ z ∈ [r.l, r.t, r.w, r.h], -1000000000000000000000000000000 ≤ z ∧ z ≤ 1000000000000000000000000000000) : RepOk r.d := by
  refine ⟨?_, by simp [R.d, PyData.depth, PyData.depthAll], ?_⟩
  · have p : ∀ z ∈ [r.l, r.t, r.w, r.h], plainD (.int z) = true := fun z hz => small_int (h z hz).1 (h z hz).2
    simp only [R.d, plainD, plainAll, Bool.and_true, Bool.and_eq_true] at *
    exact ⟨p _ (by simp), p _ (by simp), p _ (by simp), p _ (by simp)⟩
  · simp only [R.d, cost, costAll]
    decide
end Cs

set_option maxRecDepth 100000
set_option maxHeartbeats 4000000
/-! rectangles: the plain functions, and what the program's functions promise of them -/
namespace Cs
open PySem PySem.Spec PyProof.Rows L2
def has (r : R) (x y : Int) : Bool := (decide (r.l ≤ x) && decide (x < r.l + r.w)) && (decide (r.t ≤ y) && decide (y < r.t + r.h))
def In (a b : R) : Bool := decide (b.l ≤ a.l) && (decide (b.t ≤ a.t) && (decide (a.l + a.w ≤ b.l + b.w) && decide (a.t + a.h ≤ b.t + b.h)))
def com (a b : R) : Option R :=
  if max a.l b.l < min (a.l + a.w) (b.l + b.w) ∧ max a.t b.t < min (a.t + a.h) (b.t + b.h) then
    some ⟨max a.l b.l, max a.t b.t, min (a.l + a.w) (b.l + b.w) - max a.l b.l, min (a.t + a.h) (b.t + b.h) - max a.t b.t⟩
  else none
theorem com_comm (a b : R) : com a b = com b a := by
  unfold com
  rw [Int.max_comm a.l b.l, Int.max_comm a.t b.t, Int.min_comm (a.l + a.w), Int.min_comm (a.t + a.h)]
theorem max_if (i j : Int) : (if j > i then j else i) = max i j := by split <;> omega
theorem min_if (i j : Int) : (if j < i then j else i) = min i j := by split <;> omega
/-- v is None or the rectangle o -/
def OptR (K : PySem.W.Frag) (H : Hp) (v : V) : Option R → Prop
  | none => v = .non
  | some r => Rc K H v r
theorem OptR.im {K : PySem.W.Frag} {H H' : Hp} {v : V} {o : Option R} (h : OptR K H v o) (e : Im H H') : OptR K H' v o := by
  cases o with
  | none => exact h
  | some r => exact Rc.im h e
theorem OptR.same {K : PySem.W.Frag} {H H' : Hp} {v : V} {o : Option R} (h : OptR K H v o) (e : Same H H') : OptR K H' v o := h.im (Im.same e)
theorem OptR.isN {K : PySem.W.Frag} {H : Hp} {v : V} {o : Option R} (h : OptR K H v o) : decide (v = .non) = o.isNone := by
  cases o with
  | none => cases h; rfl
  | some r => obtain ⟨a, rfl, _⟩ := h; rfl
def odata : Option R → PyData
  | none => .none
  | some r => r.d
theorem OptR.dp {K : PySem.W.Frag} {H : Hp} {v : V} {o : Option R} (h : OptR K H v o) : Dp K H v (odata o) := by
  cases o with
  | none => cases h; exact .non
  | some r => exact Rc.dp h
theorem none_rep : RepOk .none := ⟨rfl, by simp [PyData.depth], by simp only [cost]; decide⟩
def sp_edges (K : PySem.W.Frag) : Sp := fun vs H Q _ => ∃ (v : V) (r : R), vs = [v] ∧ Rc K H v r ∧ ∀ p, H p = none → Q (.ref p) (upd H p (.tup r.es))
def sp_inside (K : PySem.W.Frag) : Sp := fun vs H Q _ => ∃ (u v : V) (a b : R), vs = [u, v] ∧ Rc K H u a ∧ Rc K H v b ∧ ∀ H', Same H H' → Q (.bl (In a b)) H'
def sp_contains (K : PySem.W.Frag) : Sp := fun vs H Q _ => ∃ (v : V) (r : R) (x y : Int), vs = [v, .int x, .int y] ∧ Rc K H v r ∧ Q (.bl (has r x y)) H
def sp_common (K : PySem.W.Frag) : Sp := fun vs H Q _ => ∃ (u v : V) (a b : R), vs = [u, v] ∧ Rc K H u a ∧ Rc K H v b ∧ ∀ x H', Same H H' → OptR K H' x (com a b) → Q x H'
def sp_overlap (K : PySem.W.Frag) : Sp := fun vs H Q _ => ∃ (u v : V) (a b : R), vs = [u, v] ∧ Rc K H u a ∧ Rc K H v b ∧ ∀ H', Same H H' → Q (.bl (com a b).isSome) H'
def spLaw (K : PySem.W.Frag) : Sp := fun vs H Q _ => ∃ (a : Addr) (ns : List Int), vs = [.ref a] ∧ SqL K H a (ns.map V.int) ∧ ns.length ≤ 63 ∧ ∀ H', Q (.bl true) H'
theorem law_start (K : PySem.W.Frag) (H : Hp) (a : Addr) (ns : List Int) (h1 : ns.length ≤ 63) (h2 : SqL K H a (ns.map V.int)) : spLaw K [.ref a] H (fun v _ => v = .bl true) E0 := ⟨a, ns, rfl, h2, h1, fun _ => rfl⟩
end Cs

set_option maxRecDepth 100000
set_option maxHeartbeats 4000000
/-! texts as lists of codes; a written dict asked by get; comprehensions and loops over a text -/
namespace Cs
open PySem PySem.Spec PyProof.Rows L2
/-- the text of the codes l -/
def S (l : List Nat) : Str := ⟨l.toArray⟩
theorem S_len (l : List Nat) : (S l).length = l.length := by simp [S, Str.length]
theorem S_codes (l : List Nat) : (S l).cps.toList = l := by simp [S]
theorem S_app (l m : List Nat) : S l ++ S m = S (l ++ m) := by
  show Str.mk (l.toArray ++ m.toArray) = Str.mk (l ++ m).toArray
  rw [List.append_toArray]
theorem S_inj {l m : List Nat} (h : S l = S m) : l = m := by
  have := congrArg (fun x : Str => x.cps.toList) h
  simpa [S] using this
theorem S_of (x : Str) : ∃ l, x = S l := ⟨x.cps.toList, by cases x; simp [S]⟩
theorem S_eq {l : List Nat} {x : Str} (h : x.cps.toList = l) : x = S l := by
  subst h
  cases x
  simp [S]
theorem S_at {l : List Nat} {i : Nat} {c : Nat} (h : (S l).cps[i]? = some c) : l[i]? = some c := by
  have : (S l).cps.toList[i]? = some c := by rw [Array.getElem?_toList]; exact h
  rwa [S_codes] at this
/-- text * int -/
def rMulS : R2 := fun x y H Q => ∃ (l : List Nat) (k : Int), x = .str (S l) ∧ y = .int k ∧ 1 ≤ k ∧ l.length * k.toNat ≤ 100000 ∧ k ≤ 100000 ∧ Q (.str (S (List.replicate k.toNat l).flatten)) H
theorem fold_cat : ∀ (n : Nat) (acc l : List Nat), (List.replicate n l.toArray).foldl (· ++ ·) acc.toArray = (acc ++ (List.replicate n l).flatten).toArray
  | 0, acc, l => by simp
  | n + 1, acc, l => by
    rw [List.replicate_succ, List.foldl_cons, List.append_toArray, fold_cat n (acc ++ l) l, List.replicate_succ, List.flatten_cons, List.append_assoc]
theorem op_mul_str {X : Cx} : OpR X (binaryOp .Mult) rMulS := by
  intro pins s σ H x y v u Q I rx ry h
  obtain ⟨l, k, rfl, rfl, k1, k2, k3, q⟩ := h
  obtain ⟨t, rfl⟩ := rx
  obtain ⟨t', rfl⟩ := ry
  have hz : sizeLine = 16777216 := by decide
  refine SB.mul (x := S l) ⟨by simp; omega, fun _ _ h => ?_, fun _ _ => ?_⟩ fun t' n => ⟨.str (Txt.mul (S l) k), H, I.tok _, ⟨_, rfl⟩, ?_⟩
  · rw [S_len] at h
    have hl : (l.length : Int) ≤ 100000 := by
      have : l.length * 1 ≤ l.length * k.toNat := Nat.mul_le_mul_left _ (by omega)
      omega
    have : (2 ^ 63 - 1 : Int) / 100000 ≤ (2 ^ 63 - 1) / k := by
      refine Int.le_ediv_of_mul_le (by omega) ?_
      have : (2 ^ 63 - 1 : Int) / 100000 * k ≤ (2 ^ 63 - 1 : Int) / 100000 * 100000 := Int.mul_le_mul_of_nonneg_left k3 (by decide)
      exact Int.le_trans this (by decide)
    have : (100000 : Int) ≤ (2 ^ 63 - 1 : Int) / 100000 := by decide
    omega
  · rw [S_len]
    show decide (l.length * k.toNat > sizeLine) = false
    exact decide_eq_false (by omega)
  · have e : Txt.mul (S l) k = S (List.replicate k.toNat l).flatten := by
      unfold Txt.mul
      rw [if_neg (by omega)]
      by_cases h1 : (k == 1 || (S l).length == 0) = true
      · rw [if_pos h1]
        rcases Bool.or_eq_true _ _ ▸ h1 with h | h
        · have : k = 1 := by simpa using h
          subst this
          show S l = S (List.replicate 1 l).flatten
          simp
        · rw [S_len] at h
          have : l = [] := by simpa using h
          subst this
          simp
      · rw [if_neg h1]
        have := fold_cat k.toNat [] l
        show Str.mk _ = Str.mk _
        rw [show (S l).cps = l.toArray from rfl]
        simpa using this
    rw [e]
    exact q
section
variable {X : Cx} {o e f : Expr} {apos cpos : Pos} {td ty tx : TE}
/-- d.get(x, z) of a written dict: r says what it holds at the text -/
def tWGet (K : PySem.W.Frag) (w : World) (ty tx : TE) (d : Addr) : TE := fun σ H Q => ty σ H fun y H2 => tx σ H2 fun z H3 => ∃ (x : Str) (es : Array DictEntry) (n : Nat), y = .str x ∧ KDict K w d es n ∧
  ((∃ u v, findBy Value.isStrOf es x = some u ∧ RelV v u ∧ Q v H3) ∨ (findBy Value.isStrOf es x = none ∧ Q z H3))
theorem pe_wget {d : Addr} {x : Str} {pos : Pos} (hg : Gl X x) (hm : X.mg x = some (.ref d)) (D : ∃ es n, KDict X.K X.w d es n) (he : PE X e ty) (hf : PE X f tx) (m : M2 X (.Name x pos) "get" apos e f cpos) (hd : (x == ("__debug__" : Str)) = false := by decide) :
    PE X (.Call (.Attribute (.Name x pos) "get" apos) [e, f] [] cpos) (tWGet X.K X.w ty tx d) := by
  refine ⟨fun pins s σ H Q I h => ?_⟩
  obtain ⟨es, n, D⟩ := D
  refine wpAny_Call_method m.base m.few m.line PySem.F.plainAttrs_dict PySem.F.slot_dict_get PySem.F.type_dict_get (thn ((pe_glob (X := X) (v := .ref d) hg hm rfl hd).run pins s σ H (fun v H' => v = .ref d ∧ H' = H) I ⟨rfl, rfl⟩) fun u s1 ⟨v, H1, I1, rx, e1, e2⟩ => ?_)
  subst e1
  subst e2
  obtain rfl : u = Value.ref d := rx
  have hm0 := PySem.W.mapOf_K (prog := X.prog) (w := X.w) I1.kIn D.at_ D.lit
  refine ⟨hm0.typeIs, fun b eb => ?_, ?_⟩
  · cases eb
    exact ⟨_, I1.kIn _ _ D.at_, rfl⟩
  rw [m.trees]
  refine Calls.callWith_builtin rfl (Calls.evalArgs_plain (Calls.spliced_cons (thn (he.run pins s1 σ H1 _ I1 h) fun iv s2 ⟨y, H2, I2, ry, q2⟩ => Calls.spliced_cons (thn (hf.run pins s2 σ H2 _ I2 q2) fun fv s3 ⟨z, H3, I3, rz, q3⟩ => Calls.spliced_nil ?_))))
  obtain ⟨x0, es', n', ey, D', q⟩ := q3
  subst ey
  obtain ⟨t, rfl⟩ := (show ∃ t, iv = Value.str x0 t from ry)
  have hm3 := PySem.W.mapOf_K (prog := X.prog) (w := X.w) I3.kIn D'.at_ D'.lit
  refine call_meetsIn PySem.F.slot_dict_get hm3.typeIs PySem.F.entry_dict_get (PySem.F.args_dict_get_3 _ _ _) (meets_dict_get_default (strKind X.prog X.w) d (strKind_is X.prog X.w x0 t) D'.low fv) ⟨_, hm3, ?_⟩
  rcases q with ⟨u0, v0, hq, rv, q⟩ | ⟨hq, q⟩
  · rw [hq]
    exact ⟨v0, H3, I3.tok _, rv, q⟩
  · rw [hq]
    exact ⟨z, H3, I3.tok _, rz, q⟩
/-- a module's number, whatever token it bears -/
theorem pe_globI {x : Str} {i : Int} {pos : Pos} (hg : Gl X x) (hm : ∃ t, X.mg x = some (.int i t)) (hd : (x == ("__debug__" : Str)) = false := by decide) : PE X (.Name x pos) (tC (.int i)) := by
  obtain ⟨t, hm⟩ := hm
  exact pe_glob hg hm ⟨t, rfl⟩ hd
end
section
variable {K : PySem.W.Frag} {l : List Nat} {te : TE} {g : TG} {tb : TS} {s : Nat} {σ : L2.St} {H H1 : Hp} {D : Addr} {Qd : Hp → Prop} {En : Ends}
theorem for_text (Pv : Nat → L2.St → Hp → Prop) (h0 : Pv 0 σ H)
    (hs : ∀ (i : Nat) c σ H, l[i]? = some c → Pv i σ H → g (.str (S [c])) σ H fun σ2 H2 => tb { En with nx := Pv (i + 1), ct := Pv (i + 1), bk := En.nx } σ2 H2) (hd : ∀ σ H, Pv l.length σ H → En.nx σ H) :
    ∃ W : Nat → Nat → L2.St → Hp → Prop, (∃ m, W 0 m σ H) ∧ ∀ i m σ H, W i m σ H →
      ((Its (S l)).stop i H ∧ En.nx σ H) ∨ ((Its (S l)).go i H ∧ ∃ N : L2.St → Hp → Prop, (∀ σ' H', N σ' H' → ∃ m', m' < m ∧ W (i + 1) m' σ' H') ∧ ∀ x H', (Its (S l)).yld i H x H' → g x σ H' fun σ2 H2 => tb { En with nx := N, ct := N, bk := En.nx } σ2 H2) := by
  have sz : (S l).cps.size = l.length := by simp [S]
  refine ⟨fun i m σ H => m = l.length - i ∧ i ≤ l.length ∧ Pv i σ H, ⟨l.length, by simp, Nat.zero_le _, h0⟩, ?_⟩
  rintro i m σ H ⟨rfl, hi, p⟩
  by_cases hlt : i < l.length
  · refine .inr ⟨by show i < (S l).cps.size; omega, Pv (i + 1), fun σ' H' p' => ⟨l.length - (i + 1), by omega, rfl, hlt, p'⟩, fun x H' y => ?_⟩
    obtain ⟨e, c, hc, ex⟩ := y
    subst e
    subst ex
    exact hs i c σ _ (S_at hc) p
  · have e : i = l.length := by omega
    subst e
    exact .inl ⟨by show (S l).cps.size ≤ _; omega, hd σ H p⟩
theorem lc_text (Pv : Nat → Hp → Prop) (h0 : Pv 0 (upd H1 D (.lst [])))
    (hs : ∀ (i : Nat) c H, l[i]? = some c → Pv i H → gName s (.str (S [c])) (wipe σ [s]) H fun σ2 H2 => wipe σ2 [s] = wipe σ [s] ∧ tYes σ2 H2 fun b H3 =>
      if b = true then te σ2 H3 fun y H4 => ∃ acc, H4 D = some (.lst acc) ∧ acc.length < sizeLine ∧ Pv (i + 1) (upd H4 D (.lst (acc ++ [y]))) else Pv (i + 1) H3) (hd : ∀ H, Pv l.length H → Qd H) :
    ∃ W : Nat → Nat → Hp → Prop, (∃ m, W 0 m (upd H1 D (.lst []))) ∧ ∀ i m H, W i m H →
      ((Its (S l)).stop i H ∧ Qd H) ∨ ((Its (S l)).go i H ∧ ∃ Nx : Hp → Prop, (∀ H', Nx H' → ∃ m', m' < m ∧ W (i + 1) m' H') ∧ ∀ x H', (Its (S l)).yld i H x H' → gName s x (wipe σ [s]) H' fun σ2 H2 => wipe σ2 [s] = wipe σ [s] ∧ tYes σ2 H2 fun b H3 =>
        if b = true then te σ2 H3 fun y H4 => ∃ acc, H4 D = some (.lst acc) ∧ acc.length < sizeLine ∧ Nx (upd H4 D (.lst (acc ++ [y]))) else Nx H3) := by
  have sz : (S l).cps.size = l.length := by simp [S]
  refine ⟨fun i m H => m = l.length - i ∧ i ≤ l.length ∧ Pv i H, ⟨l.length, by simp, Nat.zero_le _, h0⟩, ?_⟩
  rintro i m H ⟨rfl, hi, p⟩
  by_cases hlt : i < l.length
  · refine .inr ⟨by show i < (S l).cps.size; omega, Pv (i + 1), fun H' p' => ⟨l.length - (i + 1), by omega, rfl, hlt, p'⟩, fun x H' y => ?_⟩
    obtain ⟨e, c, hc, ex⟩ := y
    subst e
    subst ex
    exact hs i c _ (S_at hc) p
  · have e : i = l.length := by omega
    subst e
    exact .inl ⟨by show (S l).cps.size ≤ _; omega, hd H p⟩
/-- [f(c) for c in text], f a value that hangs on the sign alone -/
theorem map_text (f : Nat → V) (hz : l.length ≤ sizeLine) (fresh : H1 D = none)
    (elt : ∀ (i : Nat) c, l[i]? = some c → ∀ H, Same H1 H → ∀ Q' : VK, (∀ H', Same H H' → Q' (f c) H') → te ((σ.set s none).set s (some (.str (S [c])))) H Q')
    (hd : ∀ H, Same H1 H → H D = some (.lst (l.map f)) → Qd H) :
    ∃ W : Nat → Nat → Hp → Prop, (∃ m, W 0 m (upd H1 D (.lst []))) ∧ ∀ i m H, W i m H →
      ((Its (S l)).stop i H ∧ Qd H) ∨ ((Its (S l)).go i H ∧ ∃ Nx : Hp → Prop, (∀ H', Nx H' → ∃ m', m' < m ∧ W (i + 1) m' H') ∧ ∀ x H', (Its (S l)).yld i H x H' → gName s x (wipe σ [s]) H' fun σ2 H2 => wipe σ2 [s] = wipe σ [s] ∧ tYes σ2 H2 fun b H3 =>
        if b = true then te σ2 H3 fun y H4 => ∃ acc, H4 D = some (.lst acc) ∧ acc.length < sizeLine ∧ Nx (upd H4 D (.lst (acc ++ [y]))) else Nx H3) :=
  lc_text (CompSo (fun i v _ => ∃ c, l[i]? = some c ∧ v = f c) H1 D) (comp_start fresh)
    (fun i c H hc so => comp_turn (fun _ _ _ _ h _ => h) hz fresh (List.getElem?_eq_some_iff.mp hc).1 so fun H sm Q' hQ => elt i c hc H sm Q' fun H' sm' => hQ _ H' sm' ⟨c, hc, rfl⟩)
    fun H ⟨sm, ys, hD, hlen, hP⟩ => hd H sm (by rw [← eq_map hlen hP]; exact hD)
end
end Cs

set_option maxRecDepth 100000
set_option maxHeartbeats 4000000
/-! widths of texts -/
namespace Cs
open PySem PySem.Spec PyProof.Rows L2
def alpha : List Nat := (Str.ofString " !\"#$&'()*+,-./0123456789:;<=>?@ABCDEFGHIJKLMNOPQRSTUVWXYZ[\\]^_`" ++ Str.ofString "abcdefghijklmnopqrstuvwxyz{|}~").cps.toList
theorem alpha_len : alpha.length = 94 := by decide +kernel
theorem alpha_small : ∀ c ∈ alpha, c < 128 := by decide +kernel
/-- the width of the sign with the code c -/
def gw (c : Nat) : Int :=
  if c ∈ (Str.ofString "!'.:i|").cps.toList then 1
  else if c ∈ (Str.ofString "(),;[]jl`").cps.toList then 2
  else if c ∈ (Str.ofString " \"*-/1<>I\\^frt{}").cps.toList then 3
  else if c ∈ (Str.ofString "$023456789=?J_abcdeghknopqsuvxyz").cps.toList then 4
  else 5
theorem gw_pos (c : Nat) : 1 ≤ gw c := by unfold gw; split <;> (try decide); split <;> (try decide); split <;> (try decide); split <;> decide
theorem gw_le (c : Nat) : gw c ≤ 5 := by unfold gw; split <;> (try decide); split <;> (try decide); split <;> (try decide); split <;> decide
/-- a text of such signs -/
def Word (l : List Nat) : Prop := ∀ c ∈ l, c ∈ alpha
theorem Word.nil : Word [] := fun _ h => absurd h List.not_mem_nil
theorem Word.app {l m : List Nat} (a : Word l) (b : Word m) : Word (l ++ m) := fun c h => (List.mem_append.mp h).elim (a c) (b c)
theorem Word.one {c : Nat} (h : c ∈ alpha) : Word [c] := fun d hd => by rw [List.mem_singleton.mp hd]; exact h
def tw (l : List Nat) : Int := if l = [] then 0 else (l.map gw).sum + l.length - 1
theorem sum_gw : ∀ l : List Nat, (l.length : Int) ≤ (l.map gw).sum ∧ (l.map gw).sum ≤ 5 * l.length
  | [] => by simp
  | c :: r => by
    have := sum_gw r
    have := gw_pos c
    have := gw_le c
    rw [List.map_cons, List.sum_cons, List.length_cons]
    omega
theorem tw_nn (l : List Nat) : 0 ≤ tw l := by
  unfold tw
  split
  · exact Int.le_refl _
  · have := (sum_gw l).1
    have : 0 < l.length := List.length_pos_iff.mpr (by assumption)
    omega
theorem tw_le (l : List Nat) : tw l ≤ 6 * l.length := by
  unfold tw
  split
  · omega
  · have := (sum_gw l).2
    omega
theorem sum_gw1 : ∀ l : List Nat, (l.map fun c => 1 + gw c).sum = (l.map gw).sum + l.length
  | [] => by simp
  | c :: r => by
    have := sum_gw1 r
    rw [List.map_cons, List.sum_cons, List.map_cons, List.sum_cons, List.length_cons]
    omega
theorem tw_law (l : List Nat) : max ((l.map fun c => 1 + gw c).sum - 1) 0 = tw l := by
  rw [sum_gw1]
  unfold tw
  split
  · rename_i h
    subst h
    show max ((0 : Int) + 0 - 1) 0 = 0
    decide
  · have := (sum_gw l).1
    have : 0 < l.length := List.length_pos_iff.mpr (by assumption)
    omega
theorem tw_app (l m : List Nat) (h1 : l ≠ []) (h2 : m ≠ []) : tw (l ++ m) = tw l + 1 + tw m := by
  unfold tw
  rw [if_neg h1, if_neg h2, if_neg (by simp [h1]), List.map_append, List.sum_append, List.length_append]
  omega
theorem sum_take_map {f : Nat → Int} {l : List Nat} {i : Nat} {c : Nat} (h : l[i]? = some c) : ((l.take (i + 1)).map f).sum = ((l.take i).map f).sum + f c := by
  rw [List.take_add_one, h, List.map_append, List.sum_append]
  simp
/-- the column x is one of a sign's, the first sign at left -/
def ink : List Nat → Int → Int → Bool
  | [], _, _ => false
  | c :: r, left, x => if x < left + gw c then decide (left ≤ x) && !decide (c = 32) else ink r (left + gw c + 1) x
theorem ink_cons (c : Nat) (r : List Nat) (left x : Int) : ink (c :: r) left x = if x < left + gw c then decide (left ≤ x) && !decide (c = 32) else ink r (left + gw c + 1) x := rfl
theorem ink_off : ∀ (l : List Nat) (left x : Int), x < left → ink l left x = false
  | [], _, _, _ => rfl
  | c :: r, left, x, h => by
    have := gw_pos c
    unfold ink
    rw [if_pos (by omega), decide_eq_false (by omega)]
    rfl
/-- .. as the law asks it -/
def ink2 : List Nat → Int → Int → Bool
  | [], _, _ => false
  | c :: r, left, x => if left ≤ x ∧ x < left + gw c then !decide (c = 32) else ink2 r (left + gw c + 1) x
theorem ink2_cons (c : Nat) (r : List Nat) (left x : Int) : ink2 (c :: r) left x = if left ≤ x ∧ x < left + gw c then !decide (c = 32) else ink2 r (left + gw c + 1) x := rfl
theorem ink2_off : ∀ (l : List Nat) (left x : Int), x < left → ink2 l left x = false
  | [], _, _, _ => rfl
  | c :: r, left, x, h => by
    have := gw_pos c
    unfold ink2
    rw [if_neg (by omega)]
    exact ink2_off r _ _ (by omega)
theorem ink_eq : ∀ (l : List Nat) (left x : Int), ink2 l left x = ink l left x
  | [], _, _ => rfl
  | c :: r, left, x => by
    have := gw_pos c
    unfold ink2 ink
    by_cases h : x < left + gw c
    · rw [if_pos h]
      by_cases h2 : left ≤ x
      · rw [if_pos ⟨h2, h⟩, decide_eq_true h2]; rfl
      · rw [if_neg (by omega), decide_eq_false h2, ink2_off r _ _ (by omega)]; rfl
    · rw [if_neg h, if_neg (by omega)]
      exact ink_eq r _ _
def inkT (l : List Nat) (x y : Int) : Bool := (decide (0 ≤ y) && decide (y < 7)) && ink l 0 x
theorem drop_cons {l : List Nat} {i : Nat} {c : Nat} (h : l[i]? = some c) : l.drop i = c :: l.drop (i + 1) := by
  obtain ⟨hi, e⟩ := List.getElem?_eq_some_iff.mp h
  rw [List.drop_eq_getElem_cons hi, e]
/-- the written table of widths -/
structure Glyphs (K : PySem.W.Frag) (w : World) (mg : Str → Option Value) : Prop where
  tab : ∃ (d : Addr) (es : Array DictEntry) (n : Nat), mg "GLYPH_WIDTHS" = some (.ref d) ∧ KDict K w d es n ∧ ∀ c ∈ alpha, (∃ t, findBy Value.isStrOf es (S [c]) = some (.int (gw c) t)) ∨ (findBy Value.isStrOf es (S [c]) = none ∧ gw c = 5)
  other : ∃ t, mg "OTHER_WIDTH" = some (.int 5 t)
  height : ∃ t, mg "TEXT_HEIGHT" = some (.int 7 t)
/-- the check of the table, to be run -/
def tabB (es : Array DictEntry) : Bool := alpha.all fun c => match findBy Value.isStrOf es (S [c]) with
  | some (.int i _) => decide (i = gw c)
  | none => decide (gw c = 5)
  | _ => false
theorem tab_of {es : Array DictEntry} (h : tabB es = true) : ∀ c ∈ alpha, (∃ t, findBy Value.isStrOf es (S [c]) = some (.int (gw c) t)) ∨ (findBy Value.isStrOf es (S [c]) = none ∧ gw c = 5) := fun c hc => by
  have q := List.all_eq_true.mp h c hc
  split at q
  · rename_i i t e
    exact .inl ⟨t, by rw [e, of_decide_eq_true q]⟩
  · rename_i e
    exact .inr ⟨e, of_decide_eq_true q⟩
  · cases q
def sp_glyph_width (K : PySem.W.Frag) : Sp := fun vs H Q _ => ∃ c, vs = [.str (S [c])] ∧ c ∈ alpha ∧ Q (.int (gw c)) H
def sp_text_width (K : PySem.W.Frag) : Sp := fun vs H Q _ => ∃ l, vs = [.str (S l)] ∧ Word l ∧ l.length ≤ 100000 ∧ ∀ H', Same H H' → Q (.int (tw l)) H'
def sp_inked (K : PySem.W.Frag) : Sp := fun vs H Q _ => ∃ l x y, vs = [.str (S l), .int x, .int y] ∧ Word l ∧ Q (.bl (inkT l x y)) H
def sp_law_sign_width (K : PySem.W.Frag) : Sp := fun vs H Q _ => ∃ c, vs = [.str (S [c])] ∧ Q (.int (gw c)) H
def sp_law_width (K : PySem.W.Frag) : Sp := fun vs H Q _ => ∃ l, vs = [.str (S l)] ∧ Q (.int (tw l)) H
def sp_law_inked (K : PySem.W.Frag) : Sp := fun vs H Q _ => ∃ l x y, vs = [.str (S l), .int x, .int y] ∧ Q (.bl (inkT l x y)) H
def sp_law_word (K : PySem.W.Frag) : Sp := fun vs H Q _ => ∃ (t l : Addr), vs = [.ref t] ∧ TapeAt H t l ∧ ∀ m H', TapeAt H' t l → Gr t H H' → Word m → m.length ≤ 5 → Q (.str (S m)) H'
theorem S_lit : S [] = Str.ofString "" := by decide +kernel
theorem S_sp : S [32] = Str.ofString " " := by decide +kernel
theorem S_sp_iff {c : Nat} : (S [c] = Str.ofString " ") ↔ c = 32 := by
  rw [← S_sp]
  constructor
  · intro h
    have := S_inj h
    simpa using this
  · intro h; rw [h]
end Cs

set_option maxRecDepth 100000
set_option maxHeartbeats 4000000
/-! t[a::2] of a tuple -/
namespace Cs
open PySem PySem.Spec PyProof.Rows L2
/-- every other item, from the first on -/
def ev {α : Type} : List α → List α
  | [] => []
  | [a] => [a]
  | a :: _ :: r => a :: ev r
theorem ev_vals : ∀ {xs : List V} {us : List Value}, Vals xs us → Vals (ev xs) (ev us)
  | _, _, .nil => .nil
  | _, _, .cons h .nil => .cons h .nil
  | _, _, .cons h (.cons _ t) => .cons h (ev_vals t)
theorem ev_len {α : Type} : ∀ l : List α, (ev l).length ≤ l.length
  | [] => Nat.le_refl _
  | [_] => Nat.le_refl _
  | _ :: _ :: r => by have := ev_len r; show (ev r).length + 1 ≤ r.length + 1 + 1; omega
theorem ev_pick {α : Type} : ∀ l : List α, ((List.range ((l.length + 1) / 2)).filterMap fun m => l[2 * m]?) = ev l
  | [] => by simp [ev]
  | [a] => by simp [ev]
  | a :: b :: r => by
    have e : ((a :: b :: r).length + 1) / 2 = (r.length + 1) / 2 + 1 := by
      show (r.length + 1 + 1 + 1) / 2 = _
      omega
    rw [e, List.range_succ_eq_map, List.filterMap_cons, List.filterMap_map]
    have e2 : ((fun m => (a :: b :: r)[2 * m]?) ∘ Nat.succ) = fun m => r[2 * m]? := by
      funext m
      show (a :: b :: r)[2 * (m + 1)]? = _
      rw [show 2 * (m + 1) = 2 * m + 1 + 1 from by omega, List.getElem?_cons_succ, List.getElem?_cons_succ]
    rw [e2, ev_pick r]
    rfl
section
variable {prog : Program} {w : World} {A : Around} {E : Value → Shared → Prop} {s : Shared}
theorem slice_two {sl : Addr} {vl : Value} {u : Tok} {lo : Option Int} {n : Nat} {Q : Int × Int × Nat → Shared → Prop} (hs : s.heap.IsSliceOf sl vl .none (.int 2 u)) (pl : IsPart vl lo)
    (h : Q (((HT.sIx n 0 lo : Nat) : Int), 2, (n - HT.sIx n 0 lo + 1) / 2) s) : wpAny (model prog w) A (Builtin.Slice.sliceApplied (.ref sl) (pure (n : Int))) Q E s := by
  obtain ⟨os, hos, hcs, hds⟩ := id hs
  unfold Builtin.Slice.sliceApplied Builtin.Slice.sliceFields
  refine wpAny_bind (wpAny_bind (wpAny_field hos hds (x := vl) rfl (wpAny_bind (wpAny_field hos hds (x := .none) rfl (wpAny_bind (wpAny_field hos hds (x := .int 2 u) rfl (wpAny_pure ?_)))))))
  refine wpAny_bind (HT.slicePart_ (.int 2 u) ?_)
  show wpAny _ _ (if ((2 : Int) == 0) = true then _ else _) _ _ s
  rw [if_neg (by decide)]
  refine wpAny_bind (HT.slicePart_ pl (wpAny_bind (HT.slicePart_ .none (wpAny_bind (wpAny_pure ?_)))))
  have e1 : Builtin.Slice.sliceAdjust lo none 2 (n : Int) = (((HT.sIx n 0 lo : Nat) : Int), (n : Int)) := by
    unfold Builtin.Slice.sliceAdjust
    simp only [show ¬ ((2 : Int) < 0) from by omega, if_false]
    refine Prod.ext ?_ rfl
    cases lo with
    | none => rfl
    | some v => exact HT.clip_eq v n 0
  have hle : HT.sIx n 0 lo ≤ n := HT.sIx_le n 0 (Nat.zero_le _) lo
  have e2 : Builtin.Slice.slicePlaces ((HT.sIx n 0 lo : Nat) : Int) (n : Int) 2 = (n - HT.sIx n 0 lo + 1) / 2 := by
    unfold Builtin.Slice.slicePlaces
    simp only [show (2 : Int) > 0 from by omega, if_true]
    split <;> omega
  show wpAny _ _ (match Builtin.Slice.sliceAdjust lo none 2 (n : Int) with | (lo, hi) => pure (lo, (2 : Int), Builtin.Slice.slicePlaces lo hi 2)) _ _ s
  rw [e1]
  show wpAny _ _ (pure (((HT.sIx n 0 lo : Nat) : Int), (2 : Int), Builtin.Slice.slicePlaces ((HT.sIx n 0 lo : Nat) : Int) (n : Int) 2)) _ _ s
  rw [e2]
  exact wpAny_pure h
theorem pick_two (xs : Array Value) (i : Nat) : ((List.range ((xs.size - i + 1) / 2)).filterMap fun (m : Nat) => xs[((i : Int) + (m : Int) * 2).toNat]?).toArray = (ev (xs.toList.drop i)).toArray := by
  have e : (fun (m : Nat) => xs[((i : Int) + (m : Int) * 2).toNat]?) = fun m => (xs.toList.drop i)[2 * m]? := by
    funext m
    rw [List.getElem?_drop, Array.getElem?_toList]
    congr 1
    omega
  rw [e, ← ev_pick (xs.toList.drop i), List.length_drop, Array.length_toList]
theorem item_two {t sl : Addr} {items : Array Value} {vl : Value} {u : Tok} {lo : Option Int} {Q : Value → Shared → Prop} (ht : IsTup s.heap t items) (hs : s.heap.IsSliceOf sl vl .none (.int 2 u)) (pl : IsPart vl lo)
    (h : Q (.ref s.heap.objs.size) { s with heap := s.heap.push { cls := .type "tuple", data := .seq (ev (items.toList.drop (HT.sIx items.size 0 lo))).toArray } })
    (hsz : items.size ≤ sizeLine) : wpAny (model prog w) A (getItem (.ref t) (.ref sl)) Q E s := by
  have ok : sizeOk (.seq (ev (items.toList.drop (HT.sIx items.size 0 lo))).toArray) := by
    show (ev (items.toList.drop (HT.sIx items.size 0 lo))).toArray.size ≤ sizeLine
    have := ev_len (items.toList.drop (HT.sIx items.size 0 lo))
    rw [List.length_drop] at this
    have e : items.toList.length = items.size := Array.length_toList
    rw [List.size_toArray]
    omega
  obtain ⟨os, hos, hcs, hds⟩ := id hs
  have hTs : s.TypeIs (.ref sl) "slice" := ⟨os, hos, hcs⟩
  unfold getItem
  try with_reducible refine wpAny_holding ?_
  first | refine wpAny_bind (wpAny_pure ?_) | skip
  refine wpAny_bind (wpAny_sequenceKey ht.typeIs (by decide) ?_)
  refine wpAny_bind (wpAny_callSpecial?_slot (name := Str.ofString "__getitem__") ht.typeIs PyProof.Rows.slot_tuple_getitem (wpAny_call_entry PyProof.Rows.slot_tuple_getitem ht.typeIs entry_tuple_getitem ?_ (args_tuple_getitem _ _)))
  show wpAny _ _ (Builtin.Tuple.tupleItemsOf (.ref t) >>= _) _ _ s
  refine wpAny_bind (tupleItemsOf_ ht (wpAny_bind (wpAny_typeOf hTs ?_)))
  rw [if_pos (by decide)]
  refine wpAny_bind (slice_two hs pl ?_)
  have hno : ¬ ((((HT.sIx items.size 0 lo : Nat) : Int) == 0 && (2 : Int) == 1 && ((items.size - HT.sIx items.size 0 lo + 1) / 2) == items.size) = true) := by
    intro q
    rw [Bool.and_eq_true, Bool.and_eq_true] at q
    exact absurd q.1.2 (by decide)
  show wpAny _ _ (if (((HT.sIx items.size 0 lo : Nat) : Int) == 0 && (2 : Int) == 1 && ((items.size - HT.sIx items.size 0 lo + 1) / 2) == items.size) = true then _ else _) _ _ s
  rw [if_neg hno, pick_two]
  first
    | exact wpAny_bind (m := Builtin.Tuple.tupleExact _) (wpAny_newObj_type (wpAny_pure ⟨_, rfl, wpAny_pure h⟩) ok)
    | exact wpAny_bind (m := Builtin.Tuple.tupleExact _) (wpAny_newObj_type (wpAny_bind (wpAny_pure (wpAny_pure ⟨_, rfl, wpAny_pure h⟩))) ok)
    | exact wpAny_bind (wpAny_bind (m := Builtin.Tuple.tupleExact _) (wpAny_newObj_type (wpAny_pure (wpAny_pure ⟨_, rfl, wpAny_pure h⟩)) ok))
    | exact wpAny_bind (wpAny_bind (m := Builtin.Tuple.tupleExact _) (wpAny_newObj_type (wpAny_pure ⟨_, rfl, wpAny_pure h⟩) ok))
end
section
variable {X : Cx} {e : Expr} {te : TE} {lo : Option Expr} {tl : TO} {pos p2 p3 : Pos} {j : Nat}
def tSl2 (K : PySem.W.Frag) (te : TE) (tl : TO) : TE := fun σ H Q => te σ H fun x H1 => tl σ H1 fun l H2 => ∃ a xs, x = .ref a ∧ SqT K H2 a xs ∧ ∀ p, H2 p = none → Q (.ref p) (upd H2 p (.tup (ev (xs.drop (HT.sIx xs.length 0 l)))))
theorem pe_sl2 (K : PySem.W.Frag) (he : PE X e te) (hl : PO X lo tl) (hK : X.K = K := by rfl) : PE X (.Subscript e (.Slice lo none (some (.Constant (.int 2) j p3)) p2) pos) (tSl2 K te tl) := by
  subst hK
  refine ⟨fun pins s σ H Q I h => ?_⟩
  refine Subscript_ (thn (he.run pins s σ H _ I h) fun v s1 ⟨x, H1, I1, r1, q1⟩ => ?_)
  refine wpAny_Slice (thn (hl.run pins s1 σ H1 _ I1 q1) fun vl s2 ⟨l, H2, I2, pl, q2⟩ => ?_)
  rw [evalPart_none]
  refine wpAny_pure (thn ((pe_int (X := X) (i := 2) (j := j) (pos := p3)).run pins s2 σ H2 (fun v H' => v = .int 2 ∧ H' = H2) I2 ⟨rfl, rfl⟩) fun vs s3 ⟨y, H3, I3, ry, e1, e2⟩ => ?_)
  subst e1
  subst e2
  obtain ⟨u, rfl⟩ := (show ∃ t, vs = Value.int 2 t from ry)
  obtain ⟨a, xs, ex, hx, q⟩ := q2
  subst ex
  obtain rfl : v = Value.ref a := r1
  have I4 : Inv X pins σ H3 { s3 with heap := s3.heap.push { cls := .type "slice", data := .fields #[vl, .none, .int 2 u] } } := I3.kept (t' := s3.toks) fun b ob q => Heap.get?_push_of_some _ q
  obtain ⟨its, r, ht, hz⟩ := I4.tuple hx
  have hlen : its.toArray.size = xs.length := by rw [List.size_toArray]; exact r.length.symm
  show wpAny (model X.prog X.w) X.A (subscriptTail e (.Slice lo none (some (.Constant (.int 2) j p3)) p2) (.ref a) (.ref s3.heap.objs.size)) (EP X pins σ Q) X.xe { s3 with heap := s3.heap.push { cls := .type "slice", data := .fields #[vl, .none, .int 2 u] } }
  refine tail_any (ops := [.ref a, .ref s3.heap.objs.size]) ht.typeIs PyProof.Rows.slot_tuple_getitem.lookup ?_ (by with_unfolding_all rfl)
  refine item_two ht (Heap.IsSliceOf.new ..) pl ?_ (by rw [hlen]; exact hz)
  rw [hlen]
  refine ⟨.ref _, _, I4.laid (t' := s3.toks) (o := .tup (ev (xs.drop (HT.sIx xs.length 0 l)))) (fun b ob q => Heap.get?_push_of_some _ q) (Nat.le_refl _) ?_, rfl, q _ (I4.hok.fresh (Nat.le_refl _))⟩
  exact ⟨Nat.le_trans (ev_len _) (by rw [List.length_drop]; omega), _, ev_vals (r.drop (HT.sIx xs.length 0 l)), IsTup.new _ _⟩
end
end Cs

set_option maxRecDepth 100000
set_option maxHeartbeats 4000000
/-! shapes -/
namespace Cs
open PySem PySem.Spec PyProof.Rows L2
/-- v is a tuple of vs -/
def Tup (K : PySem.W.Frag) (H : Hp) (v : V) (vs : List V) : Prop := ∃ a, v = .ref a ∧ SqT K H a vs
theorem Tup.im {K : PySem.W.Frag} {H H' : Hp} {v : V} {vs : List V} (h : Tup K H v vs) (e : Im H H') : Tup K H' v vs := let ⟨a, h1, h2⟩ := h; ⟨a, h1, e.sqT h2⟩
theorem Tup.same {K : PySem.W.Frag} {H H' : Hp} {v : V} {vs : List V} (h : Tup K H v vs) (e : Same H H') : Tup K H' v vs := h.im (Im.same e)
inductive Sh where
  | rect (x y w h : Int)
  | line (x y u v : Int)
  | poly (p : Int × Int) (ps : List (Int × Int))
  | circ (x y r : Int)
  | tS (x y : Int) (l : List Nat)
  | tM (x y : Int) (l : List Nat)
  | tE (x y : Int) (l : List Nat)
def flat : List (Int × Int) → List Int
  | [] => []
  | p :: r => p.1 :: p.2 :: flat r
def Sh.name : Sh → Str
  | .rect .. => Str.ofString "rectangle"
  | .line .. => Str.ofString "line"
  | .poly .. => Str.ofString "polyline"
  | .circ .. => Str.ofString "circle"
  | .tS .. => Str.ofString "text start"
  | .tM .. => Str.ofString "text middle"
  | .tE .. => Str.ofString "text end"
def Sh.pts : Sh → List Int
  | .rect x y w h => [x, y, w, h]
  | .line x y u v => [x, y, u, v]
  | .poly p ps => flat (p :: ps)
  | .circ x y r => [x, y, r]
  | .tS x y _ => [x, y]
  | .tM x y _ => [x, y]
  | .tE x y _ => [x, y]
def Sh.txt : Sh → List Nat
  | .tS _ _ l => l
  | .tM _ _ l => l
  | .tE _ _ l => l
  | _ => []
/-- its corners (of a line, a polyline) -/
def Sh.cor : Sh → List (Int × Int)
  | .line x y u v => [(x, y), (u, v)]
  | .poly p ps => p :: ps
  | _ => []
/-- r is the least rectangle that holds the pixels ps -/
structure IsBB (ps : List (Int × Int)) (r : R) : Prop where
  l1 : r.l ∈ ps.map (·.1)
  l2 : ∀ p ∈ ps, r.l ≤ p.1
  t1 : r.t ∈ ps.map (·.2)
  t2 : ∀ p ∈ ps, r.t ≤ p.2
  r1 : r.l + r.w - 1 ∈ ps.map (·.1)
  r2 : ∀ p ∈ ps, p.1 ≤ r.l + r.w - 1
  b1 : r.t + r.h - 1 ∈ ps.map (·.2)
  b2 : ∀ p ∈ ps, p.2 ≤ r.t + r.h - 1
theorem IsBB.one {ps : List (Int × Int)} {a b : R} (h : IsBB ps a) (k : IsBB ps b) : a = b := by
  have el : a.l = b.l := by
    obtain ⟨p, p1, p2⟩ := List.mem_map.mp h.l1
    obtain ⟨q, q1, q2⟩ := List.mem_map.mp k.l1
    have := h.l2 q q1; have := k.l2 p p1; omega
  have et : a.t = b.t := by
    obtain ⟨p, p1, p2⟩ := List.mem_map.mp h.t1
    obtain ⟨q, q1, q2⟩ := List.mem_map.mp k.t1
    have := h.t2 q q1; have := k.t2 p p1; omega
  have er : a.l + a.w - 1 = b.l + b.w - 1 := by
    obtain ⟨p, p1, p2⟩ := List.mem_map.mp h.r1
    obtain ⟨q, q1, q2⟩ := List.mem_map.mp k.r1
    have := h.r2 q q1; have := k.r2 p p1; omega
  have eb : a.t + a.h - 1 = b.t + b.h - 1 := by
    obtain ⟨p, p1, p2⟩ := List.mem_map.mp h.b1
    obtain ⟨q, q1, q2⟩ := List.mem_map.mp k.b1
    have := h.b2 q q1; have := k.b2 p p1; omega
  obtain ⟨l, t, w, h'⟩ := a
  obtain ⟨l2, t2, w2, h2⟩ := b
  simp only at el et er eb
  subst el et
  have : w = w2 := by omega
  have : h' = h2 := by omega
  simp [*]
/-- r is the rectangle around s -/
def IsBox : Sh → R → Prop
  | .rect x y w h, r => r = ⟨x, y, w, h⟩
  | .line x y u v, r => IsBB [(x, y), (u, v)] r
  | .poly p ps, r => IsBB (p :: ps) r
  | .circ x y q, r => r = ⟨x - q, y - q, 2 * q + 1, 2 * q + 1⟩
  | .tS x y l, r => r = ⟨x, y, tw l, 7⟩
  | .tM x y l, r => r = ⟨x - tw l / 2, y, tw l, 7⟩
  | .tE x y l, r => r = ⟨x - tw l, y, tw l, 7⟩
theorem IsBox.one {s : Sh} {a b : R} (h : IsBox s a) (k : IsBox s b) : a = b := by
  cases s with
  | line x y u v => exact IsBB.one h k
  | poly p ps => exact IsBB.one h k
  | rect x y w h' => exact Eq.trans h (Eq.symm k)
  | circ x y q => exact Eq.trans h (Eq.symm k)
  | tS x y l => exact Eq.trans h (Eq.symm k)
  | tM x y l => exact Eq.trans h (Eq.symm k)
  | tE x y l => exact Eq.trans h (Eq.symm k)
theorem flat_ev : ∀ ps : List (Int × Int), ev (flat ps) = ps.map (·.1)
  | [] => rfl
  | p :: r => by show p.1 :: ev (flat r) = _; rw [flat_ev r]; rfl
theorem flat_od : ∀ ps : List (Int × Int), ev ((flat ps).drop 1) = ps.map (·.2)
  | [] => rfl
  | [p] => rfl
  | p :: q :: r => by
    have := flat_od (q :: r)
    show p.2 :: ev (q.2 :: flat r) = _
    have e : ev (q.2 :: flat r) = ev ((flat (q :: r)).drop 1) := rfl
    rw [e, this]
    rfl
theorem flat_len : ∀ ps : List (Int × Int), (flat ps).length = 2 * ps.length
  | [] => rfl
  | p :: r => by show (flat r).length + 1 + 1 = _; rw [flat_len r, List.length_cons]; omega
theorem flat_app : ∀ a b : List (Int × Int), flat (a ++ b) = flat a ++ flat b
  | [], b => rfl
  | p :: r, b => by show p.1 :: p.2 :: flat (r ++ b) = _; rw [flat_app r b]; rfl
theorem flat_at : ∀ (ps : List (Int × Int)) (i : Nat) (p : Int × Int), ps[i]? = some p → (flat ps)[2 * i]? = some p.1 ∧ (flat ps)[2 * i + 1]? = some p.2
  | [], i, p, h => by simp at h
  | q :: r, 0, p, h => by
    have e : q = p := Option.some.inj h
    subst e
    exact ⟨rfl, rfl⟩
  | q :: r, i + 1, p, h => by
    have := flat_at r i p h
    show (q.1 :: q.2 :: flat r)[2 * (i + 1)]? = _ ∧ (q.1 :: q.2 :: flat r)[2 * (i + 1) + 1]? = _
    rw [show 2 * (i + 1) = 2 * i + 1 + 1 from by omega, List.getElem?_cons_succ, List.getElem?_cons_succ, List.getElem?_cons_succ, List.getElem?_cons_succ]
    exact this
theorem ev_map {α β : Type} (f : α → β) : ∀ l : List α, ev (l.map f) = (ev l).map f
  | [] => rfl
  | [_] => rfl
  | a :: b :: r => by show f a :: ev (r.map f) = _; rw [ev_map f r]; rfl
theorem Sh.pts_cor {s : Sh} (h : s.cor ≠ []) : s.pts = flat s.cor := by
  cases s <;> first | rfl | exact absurd rfl h
theorem bb_of {ps : List (Int × Int)} {L T Rt B : Int} (h1 : L ∈ ps.map (·.1)) (h1' : ∀ z, z ∈ ps.map (·.1) → L ≤ z) (h2 : T ∈ ps.map (·.2)) (h2' : ∀ z, z ∈ ps.map (·.2) → T ≤ z)
    (h3 : Rt ∈ ps.map (·.1)) (h3' : ∀ z, z ∈ ps.map (·.1) → z ≤ Rt) (h4 : B ∈ ps.map (·.2)) (h4' : ∀ z, z ∈ ps.map (·.2) → z ≤ B) : IsBB ps ⟨L, T, Rt - L + 1, B - T + 1⟩ := by
  have e1 : L + (Rt - L + 1) - 1 = Rt := by omega
  have e2 : T + (B - T + 1) - 1 = B := by omega
  refine ⟨h1, fun p hp => h1' _ (List.mem_map.mpr ⟨p, hp, rfl⟩), h2, fun p hp => h2' _ (List.mem_map.mpr ⟨p, hp, rfl⟩), ?_, fun p hp => ?_, ?_, fun p hp => ?_⟩
  · show L + (Rt - L + 1) - 1 ∈ _
    rw [e1]; exact h3
  · show _ ≤ L + (Rt - L + 1) - 1
    rw [e1]; exact h3' _ (List.mem_map.mpr ⟨p, hp, rfl⟩)
  · show T + (B - T + 1) - 1 ∈ _
    rw [e2]; exact h4
  · show _ ≤ T + (B - T + 1) - 1
    rw [e2]; exact h4' _ (List.mem_map.mpr ⟨p, hp, rfl⟩)
def iv (l : List Int) : List V := l.map V.int
structure ShOk (s : Sh) : Prop where
  word : Word s.txt
  tlen : s.txt.length ≤ 1000
  plen : s.pts.length ≤ 1000
def sp_around_points (K : PySem.W.Frag) : Sp := fun vs H Q _ => ∃ (v : V) (ps : List (Int × Int)), vs = [v] ∧ Tup K H v (iv (flat ps)) ∧ ps ≠ [] ∧ ps.length ≤ 1000 ∧ ∀ x r H', Same H H' → IsBB ps r → Rc K H' x r → Q x H'
def sp_around_text (K : PySem.W.Frag) : Sp := fun vs H Q _ => ∃ (s : Sh) (v : V), vs = [.str s.name, v, .str (S s.txt)] ∧ Tup K H v (iv s.pts) ∧ ShOk s ∧ (∃ x y l, s = .tS x y l ∨ s = .tM x y l ∨ s = .tE x y l) ∧ ∀ x r H', Same H H' → IsBox s r → Rc K H' x r → Q x H'
def sp_around (K : PySem.W.Frag) : Sp := fun vs H Q _ => ∃ (s : Sh) (v : V), vs = [.str s.name, v, .str (S s.txt)] ∧ Tup K H v (iv s.pts) ∧ ShOk s ∧ ∀ x r H', Same H H' → IsBox s r → Rc K H' x r → Q x H'
def sp_law_around (K : PySem.W.Frag) : Sp := sp_around K
end Cs

set_option maxRecDepth 100000
set_option maxHeartbeats 4000000
/-! min and max of a tuple of ints -/
namespace Cs
open PySem PySem.Spec PyProof.Rows L2
section
variable {prog : Program} {w : World} {A : Around} {E : Value → Shared → Prop} {s : Shared} {l : Addr} {xs : Array (Int × Tok)} {Q : Value → Shared → Prop}
theorem walk_tup (hl : s.heap.IsTuple l (intItems xs))
    (h : ∀ s₂ : Shared, s₂ = { s with heap := s.heap.push { cls := .type "tuple_iterator", data := .fields #[.ref l, .int 0 0] } } →
      (s₂.heap.IsTupleIter s.heap.objs.size l 0 ∧ s₂.heap.IsTuple l (intItems xs)) → (∀ b ∈ [s.heap.objs.size, l], b < s₂.heap.objs.size) → l ≠ s.heap.objs.size → Q (.ref s.heap.objs.size) s₂) :
    wpAny (model prog w) A (pyIter (.ref l)) Q E s := by
  have hlt : l < s.heap.objs.size := by
    obtain ⟨_, e, _⟩ := hl
    exact Heap.lt_size e
  refine wpAny_pyIter_tuple hl (h _ rfl ⟨⟨_, Heap.get?_push_size _ rfl, rfl, rfl⟩, hl.push _⟩ (fun b hb => ?_) (Nat.ne_of_lt hlt))
  show b < (s.heap.push _).objs.size
  rw [Heap.size_push]
  rcases List.mem_cons.mp hb with rfl | hb
  · exact Nat.lt_succ_self _
  · rw [List.mem_singleton.mp hb]
    exact Nat.lt_succ_of_lt hlt
theorem tup_old {h' : Heap} (hk : ∀ b o, b ∉ [s.heap.objs.size] → (s.heap.push { cls := .type "tuple_iterator", data := .fields #[.ref l, .int 0 0] }).get? b = some o → h'.get? b = some o) :
    ∀ b o, s.heap.get? b = some o → h'.get? b = some o := fun b o e => by
  refine hk b o (fun hm => ?_) (Heap.get?_push_of_some _ e)
  have := Heap.lt_size e
  rw [List.mem_singleton.mp hm] at this
  exact absurd this (Nat.lt_irrefl _)
theorem max_tup (hh : A.handled = none) (hl : s.heap.IsTuple l (intItems xs)) (hne : 0 < xs.size)
    (h : ∀ v h' tk, (intItems xs)[argBest (fun i j => decide (numAt xs i > numAt xs j)) (xs.size - 1)]? = some v → (∀ b o, s.heap.get? b = some o → h'.get? b = some o) → Q v { s with heap := h', toks := tk }) :
    wpAny (model prog w) A (call (.builtin "max") [.ref l]) Q E s := by
  refine call_max_walk (walk_tup hl fun s₂ e st hfp hlI => ?_)
  subst e
  refine ⟨_, _, _, _, _, _, _, rfl, Walks.tuple (A := A.in1) hh _ l hlI (intItems xs), st, hfp, by simpa [intItems] using hne, CmpOf.ints_gt (numAt xs) (fun _ _ => intItems_at), fun v h' tk hP hk => ?_⟩
  exact h v h' tk (by simpa [intItems] using hP) (tup_old hk)
theorem min_tup (hh : A.handled = none) (hl : s.heap.IsTuple l (intItems xs)) (hne : 0 < xs.size)
    (h : ∀ v h' tk, (intItems xs)[argBest (fun i j => decide (numAt xs i < numAt xs j)) (xs.size - 1)]? = some v → (∀ b o, s.heap.get? b = some o → h'.get? b = some o) → Q v { s with heap := h', toks := tk }) :
    wpAny (model prog w) A (call (.builtin "min") [.ref l]) Q E s := by
  refine call_min_walk (walk_tup hl fun s₂ e st hfp hlI => ?_)
  subst e
  refine ⟨_, _, _, _, _, _, _, rfl, Walks.tuple (A := A.in1) hh _ l hlI (intItems xs), st, hfp, by simpa [intItems] using hne, CmpOf.ints_lt (numAt xs) (fun _ _ => intItems_at), fun v h' tk hP hk => ?_⟩
  exact h v h' tk (by simpa [intItems] using hP) (tup_old hk)
end
section
variable {X : Cx}
def rMaxT (K : PySem.W.Frag) : List V → Hp → VK → Prop := fun vs H Q => ∃ (a : Addr) (ns : List Int), vs = [V.ref a] ∧ SqT K H a (ns.map V.int) ∧ 0 < ns.length ∧ ∀ m, m ∈ ns → (∀ y, y ∈ ns → y ≤ m) → Q (.int m) H
def rMinT (K : PySem.W.Frag) : List V → Hp → VK → Prop := fun vs H Q => ∃ (a : Addr) (ns : List Int), vs = [V.ref a] ∧ SqT K H a (ns.map V.int) ∧ 0 < ns.length ∧ ∀ m, m ∈ ns → (∀ y, y ∈ ns → m ≤ y) → Q (.int m) H
theorem cr_maxT (hc : X.calm = true) : CallR X (.builtin "max") (rMaxT X.K) := by
  intro pins s σ H vs us Q I r h
  obtain ⟨a, ns, rfl, hs, hne, q⟩ := h
  obtain ⟨its, rv, hl, _⟩ := I.tuple hs
  rw [Vals.ref1 r]
  have hi := rv.ints
  obtain ⟨xs, e⟩ := hi.allInts.items
  have hn : numsOf (intItems xs).toList = ns := by rw [← e]; exact hi.numsOf
  rw [nums_intItems] at hn
  subst hn
  rw [e] at hl
  have hsz : 0 < xs.size := by simpa using hne
  refine max_tup (I.ok.hd hc) hl hsz fun v h' tk hv hk => ?_
  obtain ⟨t, rfl⟩ := intItems_at hv
  obtain ⟨h1, h2⟩ := argBest_gt (numAt xs) (xs.size - 1)
  refine ⟨.int _, H, I.kept hk, ⟨_, rfl⟩, q _ ?_ fun a ha => ?_⟩
  · rw [numAt_eq]; exact PySem.getD_mem (by rw [List.length_map, Array.length_toList]; omega)
  · obtain ⟨j, hj, rfl⟩ := mem_getD ha
    rw [List.length_map, Array.length_toList] at hj
    rw [← numAt_eq]; exact h2 j (by omega)
theorem cr_minT (hc : X.calm = true) : CallR X (.builtin "min") (rMinT X.K) := by
  intro pins s σ H vs us Q I r h
  obtain ⟨a, ns, rfl, hs, hne, q⟩ := h
  obtain ⟨its, rv, hl, _⟩ := I.tuple hs
  rw [Vals.ref1 r]
  have hi := rv.ints
  obtain ⟨xs, e⟩ := hi.allInts.items
  have hn : numsOf (intItems xs).toList = ns := by rw [← e]; exact hi.numsOf
  rw [nums_intItems] at hn
  subst hn
  rw [e] at hl
  have hsz : 0 < xs.size := by simpa using hne
  refine min_tup (I.ok.hd hc) hl hsz fun v h' tk hv hk => ?_
  obtain ⟨t, rfl⟩ := intItems_at hv
  obtain ⟨h1, h2⟩ := argBest_lt (numAt xs) (xs.size - 1)
  refine ⟨.int _, H, I.kept hk, ⟨_, rfl⟩, q _ ?_ fun a ha => ?_⟩
  · rw [numAt_eq]; exact PySem.getD_mem (by rw [List.length_map, Array.length_toList]; omega)
  · obtain ⟨j, hj, rfl⟩ := mem_getD ha
    rw [List.length_map, Array.length_toList] at hj
    rw [← numAt_eq]; exact h2 j (by omega)
theorem minT (K : PySem.W.Frag) (hc : X.calm = true) (h : X.K = K := by rfl) : CallR X (.builtin "min") (rMinT K) := h ▸ cr_minT hc
theorem maxT (K : PySem.W.Frag) (hc : X.calm = true) (h : X.K = K := by rfl) : CallR X (.builtin "max") (rMaxT K) := h ▸ cr_maxT hc
end
end Cs

set_option maxRecDepth 100000
set_option maxHeartbeats 4000000
/-! The plain layer: a def's text read as a plain program over data. -/
namespace Cs
open PySem PySem.Spec PyProof.Rows L2
/-! ### data without lists -/
mutual
def lf : PyData → Bool
  | .none => true
  | .bool _ => true
  | .int _ => true
  | .str _ => true
  | .list _ => false
  | .tuple xs => lfAll xs
  | .dict _ => false
def lfAll : List PyData → Bool
  | [] => true
  | x :: xs => lf x && lfAll xs
end
theorem lfAll_get : ∀ {ds : List PyData} {i : Nat} {d : PyData}, lfAll ds = true → ds[i]? = some d → lf d = true
  | [], _, _, _, h => by simp at h
  | x :: xs, 0, d, f, h => by
    simp only [lfAll, Bool.and_eq_true] at f
    simp at h
    subst h
    exact f.1
  | x :: xs, i + 1, d, f, h => by
    simp only [lfAll, Bool.and_eq_true] at f
    exact lfAll_get f.2 (by simpa using h)
theorem lfAll_app : ∀ {xs ys : List PyData}, lfAll xs = true → lfAll ys = true → lfAll (xs ++ ys) = true
  | [], _, _, h => h
  | x :: xs, ys, f, h => by
    simp only [lfAll, Bool.and_eq_true] at f
    simp only [List.cons_append, lfAll, Bool.and_eq_true]
    exact ⟨f.1, lfAll_app f.2 h⟩
theorem lfAll_iff : ∀ {ds : List PyData}, lfAll ds = true ↔ ∀ d ∈ ds, lf d = true
  | [] => by simp [lfAll]
  | x :: xs => by simp only [lfAll, Bool.and_eq_true, List.mem_cons, forall_eq_or_imp, lfAll_iff]
end Cs
namespace L2
open PySem PySem.Spec PyProof.Rows Cs
section
variable {K : PySem.W.Frag} {H H' : Hp}
mutual
theorem Dp.imlf (e : Im H H') : ∀ (d : PyData) (v : V), Dp K H v d → lf d = true → Dp K H' v d
  | .none, _, h, _ => by cases h; exact .non
  | .bool _, _, h, _ => by cases h; exact .bl _
  | .int _, _, h, _ => by cases h; exact .int _
  | .str _, _, h, _ => by cases h; exact .str _
  | .list _, _, _, f => by simp [lf] at f
  | .dict _, _, _, f => by simp [lf] at f
  | .tuple ds, _, h, f => by
    cases h with
    | tup hs ha => exact .tup (e.sqT hs) (DpAll.imlf e ds _ ha (by simpa only [lf] using f))
theorem DpAll.imlf (e : Im H H') : ∀ (ds : List PyData) (vs : List V), DpAll K H vs ds → lfAll ds = true → DpAll K H' vs ds
  | [], _, h, _ => by cases h; exact .nil
  | d :: ds, _, h, f => by
    simp only [lfAll, Bool.and_eq_true] at f
    cases h with
    | cons h1 h2 => exact .cons (Dp.imlf e d _ h1 f.1) (DpAll.imlf e ds _ h2 f.2)
end
theorem DpAll.len : ∀ {ds : List PyData} {vs : List V}, DpAll K H vs ds → vs.length = ds.length
  | [], _, h => by cases h; rfl
  | d :: ds, _, h => by
    cases h with
    | cons h1 h2 => simp only [List.length_cons, DpAll.len h2]
theorem DpAll.get : ∀ {ds : List PyData} {vs : List V} {i : Nat} {d : PyData}, DpAll K H vs ds → ds[i]? = some d → ∃ v, vs[i]? = some v ∧ Dp K H v d
  | [], _, _, _, _, e => by simp at e
  | d :: ds, _, 0, _, h, e => by
    cases h with
    | cons h1 h2 => simp at e; subst e; exact ⟨_, rfl, h1⟩
  | d :: ds, _, i + 1, _, h, e => by
    cases h with
    | cons h1 h2 =>
      obtain ⟨v, h3, h4⟩ := DpAll.get (i := i) h2 (by simpa using e)
      exact ⟨v, by simpa using h3, h4⟩
theorem DpAll.getV : ∀ {ds : List PyData} {vs : List V} {i : Nat} {v : V}, DpAll K H vs ds → vs[i]? = some v → ∃ d, ds[i]? = some d ∧ Dp K H v d
  | [], _, _, _, h, e => by cases h; simp at e
  | d :: ds, _, 0, _, h, e => by
    cases h with
    | cons h1 h2 => simp at e; subst e; exact ⟨_, rfl, h1⟩
  | d :: ds, _, i + 1, _, h, e => by
    cases h with
    | cons h1 h2 =>
      obtain ⟨v, h3, h4⟩ := DpAll.getV (i := i) h2 (by simpa using e)
      exact ⟨v, by simpa using h3, h4⟩
theorem DpAll.app : ∀ {ds es : List PyData} {vs us : List V}, DpAll K H vs ds → DpAll K H us es → DpAll K H (vs ++ us) (ds ++ es)
  | [], _, _, _, h, q => by cases h; exact q
  | d :: ds, _, _, _, h, q => by
    cases h with
    | cons h1 h2 => exact .cons h1 (DpAll.app h2 q)
theorem DpAll.take : ∀ {ds : List PyData} {vs : List V} (n : Nat), DpAll K H vs ds → DpAll K H (vs.take n) (ds.take n)
  | _, _, 0, _ => .nil
  | [], _, n + 1, h => by cases h; exact .nil
  | d :: ds, _, n + 1, h => by
    cases h with
    | cons h1 h2 => exact .cons h1 (DpAll.take n h2)
theorem DpAll.drop : ∀ {ds : List PyData} {vs : List V} (n : Nat), DpAll K H vs ds → DpAll K H (vs.drop n) (ds.drop n)
  | _, _, 0, h => h
  | [], _, n + 1, h => by cases h; exact .nil
  | d :: ds, _, n + 1, h => by
    cases h with
    | cons h1 h2 => exact DpAll.drop n h2
theorem DpAll.set : ∀ {ds : List PyData} {vs : List V} (n : Nat) {v : V} {d : PyData}, DpAll K H vs ds → Dp K H v d → DpAll K H (vs.set n v) (ds.set n d)
  | [], _, _, _, _, h, _ => by cases h; exact .nil
  | d :: ds, _, 0, _, _, h, q => by
    cases h with
    | cons h1 h2 => exact .cons q h2
  | d :: ds, _, n + 1, _, _, h, q => by
    cases h with
    | cons h1 h2 => exact .cons h1 (DpAll.set n h2 q)
theorem lfAll_take {ds : List PyData} (n : Nat) (h : lfAll ds = true) : lfAll (ds.take n) = true := lfAll_iff.mpr fun d m => lfAll_iff.mp h d (List.mem_of_mem_take m)
theorem lfAll_drop {ds : List PyData} (n : Nat) (h : lfAll ds = true) : lfAll (ds.drop n) = true := lfAll_iff.mpr fun d m => lfAll_iff.mp h d (List.mem_of_mem_drop m)
theorem lfAll_set {ds : List PyData} (n : Nat) {d : PyData} (h : lfAll ds = true) (f : lf d = true) : lfAll (ds.set n d) = true := lfAll_iff.mpr fun e m => by
  rcases List.mem_or_eq_of_mem_set m with m | m
  · exact lfAll_iff.mp h e m
  · rw [m]; exact f
theorem DpAll.ofInts : ∀ (ns : List Int), DpAll K H (ns.map V.int) (ns.map PyData.int)
  | [] => .nil
  | n :: ns => .cons (.int n) (DpAll.ofInts ns)
end
end L2
namespace Cs
open PySem PySem.Spec PyProof.Rows L2
/-! ### plain programs -/
inductive M (α : Type) where
  | ret (a : α)
  | fail
  | draw (m : Int) (k : Int → M α)
  | any (p : PyData → Prop) (k : PyData → M α)
def M.bind {α β : Type} : M α → (α → M β) → M β
  | .ret a, f => f a
  | .fail, _ => .fail
  | .draw m k, f => .draw m fun v => (k v).bind f
  | .any p k, f => .any p fun v => (k v).bind f
def wp0 {α : Type} : M α → (α → Prop) → Prop
  | .ret a, Q => Q a
  | .fail, _ => False
  | .draw m k, Q => ∀ v, 0 ≤ v → v < max m 1 → wp0 (k v) Q
  | .any p k, Q => ∀ d, p d → wp0 (k d) Q
@[simp] theorem M.ret_bind {α β : Type} (a : α) (f : α → M β) : (M.ret a).bind f = f a := rfl
@[simp] theorem M.fail_bind {α β : Type} (f : α → M β) : (M.fail : M α).bind f = .fail := rfl
@[simp] theorem M.draw_bind {α β : Type} (m : Int) (k : Int → M α) (f : α → M β) : (M.draw m k).bind f = .draw m fun v => (k v).bind f := rfl
@[simp] theorem M.any_bind {α β : Type} (p : PyData → Prop) (k : PyData → M α) (f : α → M β) : (M.any p k).bind f = .any p fun v => (k v).bind f := rfl
@[simp] theorem wp0_ret {α : Type} (a : α) (Q : α → Prop) : wp0 (.ret a) Q = Q a := rfl
theorem wp0_mono {α : Type} {Q Q' : α → Prop} (h : ∀ a, Q a → Q' a) : ∀ {m : M α}, wp0 m Q → wp0 m Q'
  | .ret a, q => h a q
  | .fail, q => q
  | .draw m k, q => fun v h0 h1 => wp0_mono h (q v h0 h1)
  | .any p k, q => fun d h0 => wp0_mono h (q d h0)
theorem wp0_bind {α β : Type} {f : α → M β} {Q : β → Prop} : ∀ {m : M α}, wp0 (m.bind f) Q ↔ wp0 m fun a => wp0 (f a) Q
  | .ret a => Iff.rfl
  | .fail => Iff.rfl
  | .draw m k => ⟨fun q v h0 h1 => wp0_bind.mp (q v h0 h1), fun q v h0 h1 => wp0_bind.mpr (q v h0 h1)⟩
  | .any p k => ⟨fun q d h0 => wp0_bind.mp (q d h0), fun q d h0 => wp0_bind.mpr (q d h0)⟩
theorem M.bind_assoc {α β γ : Type} (f : α → M β) (g : β → M γ) : ∀ m : M α, (m.bind f).bind g = m.bind fun a => (f a).bind g
  | .ret a => rfl
  | .fail => rfl
  | .draw m k => by simp only [draw_bind, M.bind_assoc f g]
  | .any p k => by simp only [any_bind, M.bind_assoc f g]
/-- an object that may change -/
inductive PO where
  | lst (ds : List PyData)
/-- what a slot holds: data, an object of this def's own, one that is lent, the tape -/
inductive C where
  | val (d : PyData)
  | own (o : PO)
  | bor (o : PO)
  | tape
abbrev Ro := List (Option C)
section
variable (tp : Option (Addr × Addr)) (K : PySem.W.Frag)
def GrT (H H' : Hp) : Prop := ∀ b o, H b = some o → tp.map (·.1) ≠ some b → H' b = some o
/-- not the tape's -/
def TNe (a : Addr) : Prop := ∀ t l, tp = some (t, l) → a ≠ t ∧ a ≠ l
def TOk (H : Hp) : Prop := ∀ t l, tp = some (t, l) → TapeAt H t l
def BorL (H : Hp) (b : Addr) (vs : List V) : Prop := Rd H b (.lst vs) ∧ tp.map (·.1) ≠ some b
def OwnO (H : Hp) (a : Addr) : PO → Prop
  | .lst ds => ∃ vs, H a = some (.lst vs) ∧ DpAll K H vs ds ∧ lfAll ds = true
def BorO (H : Hp) (a : Addr) : PO → Prop
  | .lst ds => ∃ vs, BorL tp H a vs ∧ DpAll K H vs ds ∧ lfAll ds = true
def RC (H0 H : Hp) (v : V) : C → Prop
  | .val d => Dp K H v d ∧ lf d = true
  | .own o => ∃ a, v = .ref a ∧ H0 a = none ∧ TNe tp a ∧ OwnO K H a o
  | .bor o => ∃ a, v = .ref a ∧ BorO tp K H a o
  | .tape => ∃ t l, tp = some (t, l) ∧ v = .ref t
/-- what a slot bears: Hq is what the def leaves as it is -/
def SR (Hq H : Hp) (v : V) : C → Prop
  | .val d => Dp K H v d ∧ lf d = true
  | .own o => ∃ a, v = .ref a ∧ Hq a = none ∧ TNe tp a ∧ OwnO K H a o
  | .bor o => ∃ a, v = .ref a ∧ BorO tp K Hq a o
  | .tape => ∃ t l, tp = some (t, l) ∧ v = .ref t
structure Rel (He Hq H : Hp) (σ : L2.St) (ρ : Ro) : Prop where
  len : σ.length = ρ.length
  at_ : ∀ (i : Nat) (c : C), ρ[i]? = some (some c) → ∃ v, σ[i]? = some (some v) ∧ SR tp K Hq H v c
  dist : ∀ (i j : Nat) (a : Addr) (o o' : PO), ρ[i]? = some (some (.own o)) → ρ[j]? = some (some (.own o')) → σ[i]? = some (some (.ref a)) → σ[j]? = some (some (.ref a)) → i = j
  sub : GrT tp He Hq
  gr : GrT tp Hq H
  tok : TOk tp H
  he : ∀ (t l : Addr), tp = some (t, l) → Hq t = none ∨ ∃ xs, Hq t = some (.lst xs)
end
section
variable {tp : Option (Addr × Addr)} {K : PySem.W.Frag} {H H' H'' H0 H1 He : Hp} {Hq : Hp} {σ : L2.St} {ρ : Ro}
theorem GrT.refl : GrT tp H H := fun _ _ e _ => e
theorem GrT.trans (a : GrT tp H H') (b : GrT tp H' H'') : GrT tp H H'' := fun c o e n => b c o (a c o e n) n
theorem GrT.of (a : Same H H') : GrT tp H H' := fun b o e _ => a b o e
theorem GrT.im (g : GrT tp H H') (t : TOk tp H) : Im H H' := by
  cases tp with
  | none => exact Im.same fun b o e => g b o e (by simp)
  | some q =>
    obtain ⟨a, l⟩ := q
    exact (t a l rfl).im fun b o e n => g b o e (by simpa using fun z => n z.symm)
theorem GrT.free (g : GrT tp H H') (t : TOk tp H') {b : Addr} (h : H' b = none) : H b = none := by
  cases e : H b with
  | none => rfl
  | some o =>
    by_cases q : tp.map (·.1) = some b
    · cases tp with
      | none => simp at q
      | some r =>
        obtain ⟨a, l⟩ := r
        obtain ⟨xs, e2⟩ := (t a l rfl).list
        have : a = b := by simpa using q
        subst this
        rw [h] at e2
        cases e2
    · rw [g b o e q] at h
      cases h
theorem TOk.same (t : TOk tp H) (e : Same H H') : TOk tp H' := fun a l h => (t a l h).same e
theorem TNe.ne {a : Addr} (h : TNe tp a) : tp.map (·.1) ≠ some a := by
  cases tp with
  | none => simp
  | some r =>
    obtain ⟨t, l⟩ := r
    simpa using fun z => (h t l rfl).1 z.symm
theorem TOk.tne (t : TOk tp H) {p : Addr} (h : H p = none) : TNe tp p := fun a l e => ⟨(t a l e).ne_t h, (t a l e).ne_l h⟩
theorem TOk.ne (t : TOk tp H) {p : Addr} (h : H p = none) : tp.map (·.1) ≠ some p := by
  cases tp with
  | none => simp
  | some r =>
    obtain ⟨a, l⟩ := r
    have := (t a l rfl).ne_t h
    simpa using fun z => this z.symm
theorem BorL.gr {b : Addr} {vs : List V} (h : BorL tp H b vs) (g : GrT tp H H') : BorL tp H' b vs := by
  rcases h with ⟨h | ⟨o, h⟩, n⟩
  · exact ⟨.inl (g _ _ h n), n⟩
  · exact ⟨.inr ⟨o, g _ _ h n⟩, n⟩
theorem BorL.sq {b : Addr} {vs : List V} (h : BorL tp H b vs) : SqL K H b vs := by
  exact .inl h.1
theorem OwnO.gr {a : Addr} {o : PO} (h : OwnO K H a o) (g : GrT tp H H') (t : TOk tp H) (n : TNe tp a) : OwnO K H' a o := by
  cases o with
  | lst ds =>
    obtain ⟨vs, h1, h2, h3⟩ := h
    exact ⟨vs, g _ _ h1 n.ne, h2.imlf (g.im t) ds _ h3, h3⟩
theorem BorO.gr {a : Addr} {o : PO} (h : BorO tp K H a o) (g : GrT tp H H') (t : TOk tp H) : BorO tp K H' a o := by
  cases o with
  | lst ds =>
    obtain ⟨vs, h1, h2, h3⟩ := h
    exact ⟨vs, h1.gr g, h2.imlf (g.im t) ds _ h3, h3⟩
theorem OwnO.bor {a : Addr} {o : PO} (h : OwnO K H a o) (n : TNe tp a) : BorO tp K H a o := by
  cases o with
  | lst ds =>
    obtain ⟨vs, h1, h2, h3⟩ := h
    exact ⟨vs, ⟨.inl h1, n.ne⟩, h2, h3⟩
theorem RC.gr {v : V} {c : C} (h : RC tp K H0 H v c) (g : GrT tp H H') (t : TOk tp H) : RC tp K H0 H' v c := by
  cases c with
  | val d => exact ⟨h.1.imlf (g.im t) d _ h.2, h.2⟩
  | own o =>
    obtain ⟨a, e, f, n, h⟩ := h
    exact ⟨a, e, f, n, h.gr g t n⟩
  | bor o =>
    obtain ⟨a, e, h⟩ := h
    exact ⟨a, e, h.gr g t⟩
  | tape => exact h
theorem RC.base {v : V} {c : C} (h : RC tp K H1 H v c) (g : GrT tp H0 H1) (t : TOk tp H1) : RC tp K H0 H v c := by
  cases c with
  | val d => exact h
  | own o =>
    obtain ⟨a, e, f, n, h⟩ := h
    exact ⟨a, e, g.free t f, n, h⟩
  | bor o => exact h
  | tape => exact h
theorem SR.gr {v : V} {c : C} (h : SR tp K Hq H v c) (g : GrT tp H H') (t : TOk tp H) : SR tp K Hq H' v c := by
  cases c with
  | val d => exact ⟨h.1.imlf (g.im t) d _ h.2, h.2⟩
  | own o =>
    obtain ⟨a, e, f, n, h⟩ := h
    exact ⟨a, e, f, n, h.gr g t n⟩
  | bor o => exact h
  | tape => exact h
theorem Rel.go (r : Rel tp K He Hq H σ ρ) (g : GrT tp H H') (t : TOk tp H') : Rel tp K He Hq H' σ ρ :=
  ⟨r.len, fun i c e => let ⟨v, h1, h2⟩ := r.at_ i c e; ⟨v, h1, h2.gr g r.tok⟩, r.dist, r.sub, r.gr.trans g, t, r.he⟩
/-- data that a thing reads as -/
def PO.dat : PO → Option PyData
  | .lst ds => some (.list ds)
def C.dat : C → Option PyData
  | .val d => some d
  | .own o => o.dat
  | .bor o => o.dat
  | .tape => none
theorem RC.dp {v : V} {c : C} {d : PyData} (h : RC tp K H0 H v c) (e : c.dat = some d) : Dp K H v d := by
  cases c with
  | val d' => cases e; exact h.1
  | own o =>
    obtain ⟨a, rfl, _, _, h⟩ := h
    cases o with
    | lst ds =>
      cases e
      obtain ⟨vs, h1, h2, _⟩ := h
      exact .lst (SqL.of h1) h2
  | bor o =>
    obtain ⟨a, rfl, h⟩ := h
    cases o with
    | lst ds =>
      cases e
      obtain ⟨vs, h1, h2, _⟩ := h
      exact .lst h1.sq h2
  | tape => cases e
/-- what follows an expression -/
def Post (tp : Option (Addr × Addr)) (K : PySem.W.Frag) (H : Hp) (Q : VK) (c : C) : Prop := ∀ v H', GrT tp H H' → TOk tp H' → RC tp K H H' v c → Q v H'
/-- the reading t is served by the plain program g -/
def RE (K : PySem.W.Frag) (t : TE) (g : Ro → M C) : Prop := ∀ tp He Hq ρ σ H Q, Rel tp K He Hq H σ ρ → wp0 (g ρ) (Post tp K H Q) → t σ H Q
def PostB (tp : Option (Addr × Addr)) (H : Hp) (Q : Bool → Hp → Prop) (b : Bool) : Prop := ∀ H', GrT tp H H' → TOk tp H' → Q b H'
def RT (K : PySem.W.Frag) (t : TT) (g : Ro → M Bool) : Prop := ∀ tp He Hq ρ σ H Q, Rel tp K He Hq H σ ρ → wp0 (g ρ) (PostB tp H Q) → t σ H Q
def RCs (tp : Option (Addr × Addr)) (K : PySem.W.Frag) (H0 H : Hp) : List V → List C → Prop
  | [], [] => True
  | v :: vs, c :: cs => RC tp K H0 H v c ∧ RCs tp K H0 H vs cs
  | _, _ => False
def PostA (tp : Option (Addr × Addr)) (K : PySem.W.Frag) (H : Hp) (Q : List V → Hp → Prop) (cs : List C) : Prop := ∀ vs H', GrT tp H H' → TOk tp H' → RCs tp K H H' vs cs → Q vs H'
def RA (K : PySem.W.Frag) (t : TA) (g : Ro → M (List C)) : Prop := ∀ tp He Hq ρ σ H Q, Rel tp K He Hq H σ ρ → wp0 (g ρ) (PostA tp K H Q) → t σ H Q
/-- behind one expression, another -/
theorem Post.step {m : M C} {P Q : C → Prop} (h : wp0 m P) (k : ∀ c, P c → Q c) : wp0 m Q := wp0_mono k h
/-! ### names and constants -/
def gVar (i : Nat) (ρ : Ro) : M C := match ρ[i]? with
  | some (some (.own o)) => .ret (.bor o)
  | some (some c) => .ret c
  | _ => .fail
theorem Rel.im (r : Rel tp K He Hq H σ ρ) : Im Hq H := by
  have n : ∀ b o, Hq b = some o → (∀ xs, o ≠ .lst xs) → tp.map (·.1) ≠ some b := fun b o e h z => by
    cases tp with
    | none => simp at z
    | some w =>
      obtain ⟨t, l⟩ := w
      have : t = b := by simpa using z
      subst this
      rcases r.he t l rfl with q | ⟨xs, q⟩
      · rw [q] at e; cases e
      · rw [q] at e; cases e; exact h xs rfl
  exact ⟨fun b xs e => r.gr b _ e (n b _ e fun _ z => by cases z), fun b o u e => r.gr b _ e (n b _ e fun _ z => by cases z)⟩
theorem Rel.bor (r : Rel tp K He Hq H σ ρ) {a : Addr} {o : PO} (h : BorO tp K Hq a o) : BorO tp K H a o := by
  cases o with
  | lst ds =>
    obtain ⟨vs, h1, h2, h3⟩ := h
    exact ⟨vs, h1.gr r.gr, h2.imlf r.im ds _ h3, h3⟩
def C.lend : C → C
  | .own o => .bor o
  | c => c
theorem RC.lend {v : V} {c : C} (h : RC tp K H0 H v c) : RC tp K H1 H v c.lend := by
  cases c with
  | val d => exact h
  | own o =>
    obtain ⟨a, e, f, n, h⟩ := h
    exact ⟨a, e, h.bor n⟩
  | bor o => exact h
  | tape => exact h
theorem Rel.var (r : Rel tp K He Hq H σ ρ) {i : Nat} {c : C} (e : ρ[i]? = some (some c)) : ∃ v, σ[i]? = some (some v) ∧ RC tp K H H v c.lend := by
  obtain ⟨v, h1, h2⟩ := r.at_ i c e
  refine ⟨v, h1, ?_⟩
  cases c with
  | val d => exact h2
  | own o =>
    obtain ⟨a, e, f, n, h⟩ := h2
    exact ⟨a, e, h.bor n⟩
  | bor o =>
    obtain ⟨a, e, h⟩ := h2
    exact ⟨a, e, r.bor h⟩
  | tape => exact h2
theorem re_var {i : Nat} : RE K (tVar i) (gVar i) := by
  intro tp He Hq ρ σ H Q r h
  unfold gVar at h
  split at h
  · rename_i o e
    obtain ⟨v, h1, h2⟩ := r.var e
    exact ⟨v, h1, h v H .refl r.tok h2⟩
  · rename_i e
    obtain ⟨v, h1, h2⟩ := r.var e
    refine ⟨v, h1, h v H .refl r.tok ?_⟩
    rename_i c' n
    cases c' with
    | own o => exact absurd rfl (n o)
    | val d => exact h2
    | bor d => exact h2
    | tape => exact h2
  · exact h.elim
def gC (d : PyData) (_ : Ro) : M C := .ret (.val d)
theorem re_con {v : V} {d : PyData} (h : ∀ H, Dp K H v d) (f : lf d = true) : RE K (tC v) (gC d) := fun tp He Hq ρ σ H Q r q => q v H .refl r.tok ⟨h H, f⟩
theorem re_int {i : Int} : RE K (tC (.int i)) (gC (.int i)) := re_con (fun _ => .int i) rfl
theorem re_str {x : Str} : RE K (tC (.str x)) (gC (.str x)) := re_con (fun _ => .str x) rfl
theorem re_bl {b : Bool} : RE K (tC (.bl b)) (gC (.bool b)) := re_con (fun _ => .bl b) rfl
theorem re_non : RE K (tC .non) (gC .none) := re_con (fun _ => .non) rfl
/-! ### arguments, displays -/
def gaNil (_ : Ro) : M (List C) := .ret []
def gaCons (g : Ro → M C) (gs : Ro → M (List C)) (ρ : Ro) : M (List C) := (g ρ).bind fun c => (gs ρ).bind fun cs => .ret (c :: cs)
theorem RCs.gr : ∀ {vs : List V} {cs : List C}, RCs tp K H0 H vs cs → GrT tp H H' → TOk tp H → RCs tp K H0 H' vs cs
  | [], [], _, _, _ => trivial
  | v :: vs, c :: cs, h, g, t => ⟨h.1.gr g t, RCs.gr h.2 g t⟩
  | [], _ :: _, h, _, _ => h.elim
  | _ :: _, [], h, _, _ => h.elim
theorem RCs.base : ∀ {vs : List V} {cs : List C}, RCs tp K H1 H vs cs → GrT tp H0 H1 → TOk tp H1 → RCs tp K H0 H vs cs
  | [], [], _, _, _ => trivial
  | v :: vs, c :: cs, h, g, t => ⟨h.1.base g t, RCs.base h.2 g t⟩
  | [], _ :: _, h, _, _ => h.elim
  | _ :: _, [], h, _, _ => h.elim
theorem ra_nil : RA K tNil gaNil := fun tp He Hq ρ σ H Q r q => q [] H .refl r.tok trivial
theorem ra_cons {t : TE} {u : TA} {g : Ro → M C} {gs : Ro → M (List C)} (h1 : RE K t g) (h2 : RA K u gs) : RA K (tCons t u) (gaCons g gs) := by
  intro tp He Hq ρ σ H Q r h
  refine h1 tp He Hq ρ σ H _ r (wp0_mono (fun c hc => ?_) (wp0_bind.mp h))
  intro x H1 g1 t1 rc
  refine h2 tp He Hq ρ σ H1 _ (r.go g1 t1) (wp0_mono (fun cs hcs => ?_) (wp0_bind.mp hc))
  intro xs H2 g2 t2 rcs
  exact hcs (x :: xs) H2 (g1.trans g2) t2 ⟨rc.gr g2 t1, rcs.base g1 t1⟩
def datas : List C → Option (List PyData)
  | [] => some []
  | .val d :: cs => (datas cs).map (d :: ·)
  | _ :: _ => none
theorem datas_dp : ∀ {vs : List V} {cs : List C} {ds : List PyData}, RCs tp K H0 H vs cs → datas cs = some ds → DpAll K H vs ds ∧ lfAll ds = true
  | [], [], ds, _, e => by cases e; exact ⟨.nil, rfl⟩
  | v :: vs, .val d :: cs, ds, h, e => by
    unfold datas at e
    cases q : datas cs with
    | none => rw [q] at e; cases e
    | some es =>
      rw [q] at e
      cases e
      obtain ⟨a1, a2⟩ := datas_dp h.2 q
      exact ⟨.cons h.1.1 a1, by simp only [lfAll, Bool.and_eq_true]; exact ⟨h.1.2, a2⟩⟩
  | _ :: _, .own _ :: _, _, _, e => by cases e
  | _ :: _, .bor _ :: _, _, _, e => by cases e
  | _ :: _, .tape :: _, _, _, e => by cases e
  | [], _ :: _, _, h, _ => h.elim
  | _ :: _, [], _, h, _ => h.elim
/-- lengths that the model holds -/
def lenOk (n : Nat) : Bool := decide (n ≤ 16777216)
theorem lenOk_le {n : Nat} (h : lenOk n = true) : n ≤ sizeLine := by rw [show sizeLine = 16777216 by decide]; exact of_decide_eq_true h
def oTup (cs : List C) : M C := match datas cs with
  | some ds => if lenOk ds.length = true then .ret (.val (.tuple ds)) else .fail
  | none => .fail
def oLst (cs : List C) : M C := match datas cs with
  | some ds => if lenOk ds.length = true then .ret (.own (.lst ds)) else .fail
  | none => .fail
def gTupE (gs : Ro → M (List C)) (ρ : Ro) : M C := (gs ρ).bind oTup
def gLst (gs : Ro → M (List C)) (ρ : Ro) : M C := (gs ρ).bind oLst
theorem re_tup {u : TA} {gs : Ro → M (List C)} (h1 : RA K u gs) : RE K (tTup u) (gTupE gs) := by
  intro tp He Hq ρ σ H Q r h
  refine h1 tp He Hq ρ σ H _ r (wp0_mono (fun cs hcs => ?_) (wp0_bind.mp h))
  intro xs H1 g1 t1 rc
  unfold oTup at hcs
  split at hcs
  · rename_i ds e
    obtain ⟨a1, a2⟩ := datas_dp rc e
    split at hcs
    · rename_i l
      refine ⟨by rw [a1.len]; exact lenOk_le l, fun p hp => hcs _ _ (g1.trans (.of (Same.new hp))) (t1.same (Same.new hp)) ⟨.tup (SqT.of upd_same) (a1.imlf (Im.new hp) ds _ a2), by simp only [lf]; exact a2⟩⟩
    · exact hcs.elim
  · exact hcs.elim
theorem re_lst {u : TA} {gs : Ro → M (List C)} (h1 : RA K u gs) : RE K (tLst u) (gLst gs) := by
  intro tp He Hq ρ σ H Q r h
  refine h1 tp He Hq ρ σ H _ r (wp0_mono (fun cs hcs => ?_) (wp0_bind.mp h))
  intro xs H1 g1 t1 rc
  unfold oLst at hcs
  split at hcs
  · rename_i ds e
    obtain ⟨a1, a2⟩ := datas_dp rc e
    split at hcs
    · rename_i l
      refine ⟨by rw [a1.len]; exact lenOk_le l, fun p hp => hcs _ _ (g1.trans (.of (Same.new hp))) (t1.same (Same.new hp)) ⟨p, rfl, g1.free t1 hp, t1.tne hp, xs, upd_same, a1.imlf (Im.new hp) ds _ a2, a2⟩⟩
    · exact hcs.elim
  · exact hcs.elim
end
end Cs

set_option maxRecDepth 100000
set_option maxHeartbeats 4000000
/-! operators by values -/
namespace Cs
open PySem PySem.Spec PyProof.Rows L2
section
variable {tp : Option (Addr × Addr)} {K : PySem.W.Frag} {H H' H'' H0 H1 He : Hp} {Hq : Hp} {σ : L2.St} {ρ : Ro}
def OpS (K : PySem.W.Frag) (r : R2) (op : C → C → M C) : Prop := ∀ tp H0 H x y cx cy Q, GrT tp H0 H → TOk tp H → RC tp K H0 H x cx → RC tp K H0 H y cy → wp0 (op cx cy) (Post tp K H0 Q) → r x y H Q
def gOp (op : C → C → M C) (ga gb : Ro → M C) (ρ : Ro) : M C := (ga ρ).bind fun a => (gb ρ).bind fun b => op a b
theorem re_op {r : R2} {op : C → C → M C} {ta tb : TE} {ga gb : Ro → M C} (ho : OpS K r op) (ha : RE K ta ga) (hb : RE K tb gb) : RE K (tOp r ta tb) (gOp op ga gb) := by
  intro tp He Hq ρ σ H Q rl h
  refine ha tp He Hq ρ σ H _ rl (wp0_mono (fun a h1 => ?_) (wp0_bind.mp h))
  intro x H1 g1 t1 rx
  refine hb tp He Hq ρ σ H1 _ (rl.go g1 t1) (wp0_mono (fun b h2 => ?_) (wp0_bind.mp h1))
  intro y H2 g2 t2 ry
  exact ho tp H H2 x y a b Q (g1.trans g2) t2 (rx.gr g2 t1) (ry.base g1 t1) h2
def UnS (K : PySem.W.Frag) (r : V → Hp → VK → Prop) (op : C → M C) : Prop := ∀ tp H0 H x cx Q, GrT tp H0 H → TOk tp H → RC tp K H0 H x cx → wp0 (op cx) (Post tp K H0 Q) → r x H Q
def gUn (op : C → M C) (ga : Ro → M C) (ρ : Ro) : M C := (ga ρ).bind op
theorem re_un {r : V → Hp → VK → Prop} {op : C → M C} {ta : TE} {ga : Ro → M C} (ho : UnS K r op) (ha : RE K ta ga) : RE K (tUn r ta) (gUn op ga) := by
  intro tp He Hq ρ σ H Q rl h
  refine ha tp He Hq ρ σ H _ rl (wp0_mono (fun a h1 => ?_) (wp0_bind.mp h))
  intro x H1 g1 t1 rx
  exact ho tp H H1 x a Q g1 t1 rx h1
/-- a flat answer, the heap as it is -/
theorem Post.at_ {Q : VK} {c : C} {v : V} (p : Post tp K H0 Q c) (g : GrT tp H0 H) (t : TOk tp H) (r : RC tp K H0 H v c) : Q v H := p v H g t r
theorem Post.int {Q : VK} {i : Int} (p : Post tp K H0 Q (.val (.int i))) (g : GrT tp H0 H) (t : TOk tp H) : Q (.int i) H := p _ H g t ⟨.int i, rfl⟩
theorem Post.bl {Q : VK} {b : Bool} (p : Post tp K H0 Q (.val (.bool b))) (g : GrT tp H0 H) (t : TOk tp H) : Q (.bl b) H := p _ H g t ⟨.bl b, rfl⟩
theorem Post.str {Q : VK} {b : Str} (p : Post tp K H0 Q (.val (.str b))) (g : GrT tp H0 H) (t : TOk tp H) : Q (.str b) H := p _ H g t ⟨.str b, rfl⟩
theorem Post.non {Q : VK} (p : Post tp K H0 Q (.val .none)) (g : GrT tp H0 H) (t : TOk tp H) : Q .non H := p _ H g t ⟨.non, rfl⟩
theorem Post.tup {Q : VK} {ds : List PyData} {vs : List V} {a : Addr} (p : Post tp K H0 Q (.val (.tuple ds))) (g : GrT tp H0 H) (t : TOk tp H) (n : H a = none) (h : DpAll K H vs ds) (f : lfAll ds = true) : Q (.ref a) (upd H a (.tup vs)) :=
  p _ _ (g.trans (.of (Same.new n))) (t.same (Same.new n)) ⟨.tup (SqT.of upd_same) (h.imlf (Im.new n) ds _ f), by simp only [lf]; exact f⟩
theorem Post.lst {Q : VK} {ds : List PyData} {vs : List V} {a : Addr} (p : Post tp K H0 Q (.own (.lst ds))) (g : GrT tp H0 H) (t : TOk tp H) (n : H a = none) (h : DpAll K H vs ds) (f : lfAll ds = true) : Q (.ref a) (upd H a (.lst vs)) :=
  p _ _ (g.trans (.of (Same.new n))) (t.same (Same.new n)) ⟨a, rfl, g.free t n, t.tne n, vs, upd_same, h.imlf (Im.new n) ds _ f, f⟩
theorem RC.int {v : V} {i : Int} (h : RC tp K H0 H v (.val (.int i))) : v = .int i := by obtain ⟨h, _⟩ := h; cases h; rfl
theorem RC.bl {v : V} {i : Bool} (h : RC tp K H0 H v (.val (.bool i))) : v = .bl i := by obtain ⟨h, _⟩ := h; cases h; rfl
theorem RC.str {v : V} {i : Str} (h : RC tp K H0 H v (.val (.str i))) : v = .str i := by obtain ⟨h, _⟩ := h; cases h; rfl
theorem RC.non {v : V} (h : RC tp K H0 H v (.val .none)) : v = .non := by obtain ⟨h, _⟩ := h; cases h; rfl
theorem RC.tup {v : V} {ds : List PyData} (h : RC tp K H0 H v (.val (.tuple ds))) : ∃ a vs, v = .ref a ∧ SqT K H a vs ∧ DpAll K H vs ds ∧ lfAll ds = true := by
  obtain ⟨h, f⟩ := h
  cases h with
  | tup h1 h2 => exact ⟨_, _, rfl, h1, h2, by simpa only [lf] using f⟩
/-- a list, read -/
def C.items : C → Option (List PyData)
  | .own (.lst ds) => some ds
  | .bor (.lst ds) => some ds
  | _ => none
theorem RC.rd {v : V} {c : C} {ds : List PyData} (h : RC tp K H0 H v c) (e : c.items = some ds) : ∃ a vs, v = .ref a ∧ Rd H a (.lst vs) ∧ DpAll K H vs ds ∧ lfAll ds = true := by
  cases c with
  | val d => cases e
  | tape => cases e
  | own o =>
    cases o with
    | lst es =>
      cases e
      obtain ⟨a, rfl, _, _, vs, h1, h2, h3⟩ := h
      exact ⟨a, vs, rfl, .inl h1, h2, h3⟩
  | bor o =>
    cases o with
    | lst es =>
      cases e
      obtain ⟨a, rfl, vs, h1, h2, h3⟩ := h
      exact ⟨a, vs, rfl, h1.1, h2, h3⟩
/-! ### + -/
def rCatR : R2 := fun x y H Q => ∃ l b xs zs, x = .ref l ∧ y = .ref b ∧ Rd H l (.lst xs) ∧ Rd H b (.lst zs) ∧ xs.length + zs.length ≤ sizeLine ∧ ∀ p, H p = none → Q (.ref p) (upd H p (.lst (xs ++ zs)))
theorem op_catR {X : Cx} : OpR X (binaryOp .Add) rCatR := by
  intro pins s σ H x y v u Q I rx ry h
  obtain ⟨l, b, xs, zs, rfl, rfl, hH, hB, hz, q⟩ := h
  cases rx
  cases ry
  obtain ⟨z, its, n, r, e⟩ := hH.ok I.hok
  obtain ⟨z2, its2, n2, r2, e2⟩ := hB.ok I.hok
  have hl := r.length
  have hl2 := r2.length
  refine PySem.P.add_list e e2 ?_ (by rw [List.size_toArray, List.size_toArray]; omega)
  have ea : its.toArray ++ its2.toArray = (its ++ its2).toArray := by simp
  rw [ea]
  exact ⟨.ref _, _, I.lnew (t' := s.toks) (r.append r2) (by rw [List.length_append]; omega), rfl, q _ I.fresh⟩
def rAddS : R2 := fun x y H Q => ∃ i j, x = .str i ∧ y = .str j ∧ i.length + j.length ≤ sizeLine ∧ Q (.str (i ++ j)) H
def rAddU (K : PySem.W.Frag) : R2 := fun x y H Q => rI0 (fun i j => .int (i + j)) x y H Q ∨ rAddS x y H Q ∨ rCatA K x y H Q ∨ rCatR x y H Q
theorem opAdd (K : PySem.W.Frag) {X : Cx} (h : X.K = K := by rfl) : OpR X (binaryOp .Add) (rAddU K) := by
  subst h
  intro pins s σ H x y v u Q I rx ry h
  rcases h with h | h | h | h
  · exact op_add pins s σ H x y v u Q I rx ry h
  · exact op_add_str pins s σ H x y v u Q I rx ry h
  · exact op_catA pins s σ H x y v u Q I rx ry h
  · exact op_catR pins s σ H x y v u Q I rx ry h
def addL : Option (List PyData) → Option (List PyData) → M C
  | some ds, some es => if lenOk (ds.length + es.length) = true then .ret (.own (.lst (ds ++ es))) else .fail
  | _, _ => .fail
def oAdd : C → C → M C
  | .val (.int i), .val (.int j) => .ret (.val (.int (i + j)))
  | .val (.str i), .val (.str j) => if lenOk (i.length + j.length) = true then .ret (.val (.str (i ++ j))) else .fail
  | .val (.tuple ds), .val (.tuple es) => if lenOk (ds.length + es.length) = true then .ret (.val (.tuple (ds ++ es))) else .fail
  | cx, cy => addL cx.items cy.items
theorem addL_ok {x y : V} {cx cy : C} {Q : VK} (g : GrT tp H0 H) (t : TOk tp H) (rx : RC tp K H0 H x cx) (ry : RC tp K H0 H y cy) (h : wp0 (addL cx.items cy.items) (Post tp K H0 Q)) : rAddU K x y H Q := by
  unfold addL at h
  split at h
  · rename_i ds es e1 e2
    obtain ⟨a, vs, rfl, q1, q2, q3⟩ := rx.rd e1
    obtain ⟨b, us, rfl, p1, p2, p3⟩ := ry.rd e2
    split at h
    · rename_i l
      exact .inr (.inr (.inr ⟨a, b, vs, us, rfl, rfl, q1, p1, by rw [q2.len, p2.len]; exact lenOk_le l, fun p hp => Post.lst h g t hp (q2.app p2) (lfAll_app q3 p3)⟩))
    · exact h.elim
  · exact h.elim
theorem os_add : OpS K (rAddU K) oAdd := by
  intro tp H0 H x y cx cy Q g t rx ry h
  unfold oAdd at h
  split at h
  · rename_i i j
    cases rx.int; cases ry.int
    exact .inl ⟨i, j, rfl, rfl, Post.int h g t⟩
  · rename_i i j
    cases rx.str; cases ry.str
    split at h
    · rename_i l
      exact .inr (.inl ⟨i, j, rfl, rfl, lenOk_le l, Post.str h g t⟩)
    · exact h.elim
  · rename_i ds es
    obtain ⟨a, vs, rfl, q1, q2, q3⟩ := rx.tup
    obtain ⟨b, us, rfl, p1, p2, p3⟩ := ry.tup
    split at h
    · rename_i l
      refine .inr (.inr (.inl ⟨a, b, vs, us, rfl, rfl, q1, p1, by rw [q2.len, p2.len]; exact lenOk_le l, fun e => ?_, fun _ e => ?_, fun _ _ p hp => Post.tup h g t hp (q2.app p2) (lfAll_app q3 p3)⟩))
      · subst e
        cases q2
        exact Post.at_ h g t ry
      · subst e
        cases p2
        rw [List.append_nil] at h
        exact Post.at_ h g t rx
    · exact h.elim
  · exact addL_ok g t rx ry h
/-! ### - * // % ** -/
def oInt (f : Int → Int → PyData) (c : Int → Int → Bool) : C → C → M C
  | .val (.int i), .val (.int j) => if c i j = true then .ret (.val (f i j)) else .fail
  | _, _ => .fail
theorem os_int {f : Int → Int → Int} {c : Int → Int → Bool} {R : Int → Int → Prop} (h : ∀ i j, c i j = true → R i j) : OpS K (rI R fun i j => .int (f i j)) (oInt (fun i j => .int (f i j)) c) := by
  intro tp H0 H x y cx cy Q g t rx ry q
  unfold oInt at q
  split at q
  · rename_i i j
    cases rx.int; cases ry.int
    split at q
    · rename_i e
      exact ⟨i, j, rfl, rfl, h i j e, Post.int q g t⟩
    · exact q.elim
  · exact q.elim
theorem os_int0 {f : Int → Int → Int} : OpS K (rI0 fun i j => .int (f i j)) (oInt (fun i j => .int (f i j)) fun _ _ => true) := by
  intro tp H0 H x y cx cy Q g t rx ry q
  unfold oInt at q
  split at q
  · rename_i i j
    cases rx.int; cases ry.int
    split at q
    · rename_i e
      exact ⟨i, j, rfl, rfl, Post.int q g t⟩
    · exact q.elim
  · exact q.elim
theorem os_cmp0 {f : Int → Int → Bool} : OpS K (rI0 fun i j => .bl (f i j)) (oInt (fun i j => .bool (f i j)) fun _ _ => true) := by
  intro tp H0 H x y cx cy Q g t rx ry q
  unfold oInt at q
  split at q
  · rename_i i j
    cases rx.int; cases ry.int
    split at q
    · rename_i e
      exact ⟨i, j, rfl, rfl, Post.bl q g t⟩
    · exact q.elim
  · exact q.elim
abbrev oSub : C → C → M C := oInt (fun i j => .int (i - j)) fun _ _ => true
abbrev oLt : C → C → M C := oInt (fun i j => .bool (decide (i < j))) fun _ _ => true
abbrev oLe : C → C → M C := oInt (fun i j => .bool (decide (i ≤ j))) fun _ _ => true
abbrev oGt : C → C → M C := oInt (fun i j => .bool (decide (j < i))) fun _ _ => true
abbrev oGe : C → C → M C := oInt (fun i j => .bool (decide (j ≤ i))) fun _ _ => true
def cMul (i j : Int) : Bool := decide (i.natAbs.log2 + j.natAbs.log2 < 1000000)
def cDiv (_ j : Int) : Bool := decide (0 < j) && decide (j.natAbs.log2 < 9000)
def cMod (_ j : Int) : Bool := decide (0 < j)
def cPow (i j : Int) : Bool := decide (0 ≤ j) && (decide (j ≤ 1000000) && decide (i.natAbs < 18446744073709551616))
abbrev oFdiv : C → C → M C := oInt (fun i j => .int (i / j)) cDiv
abbrev oMod : C → C → M C := oInt (fun i j => .int (i % j)) cMod
abbrev oPow : C → C → M C := oInt (fun i j => .int (i ^ j.toNat)) cPow
theorem os_sub : OpS K (rI0 fun i j => .int (i - j)) oSub := os_int0 (f := fun i j => i - j)
theorem os_fdiv : OpS K (rI CDivW fun i j => .int (i / j)) oFdiv := os_int (f := fun i j => i / j) fun i j h => by
  simp only [cDiv, Bool.and_eq_true, decide_eq_true_eq] at h
  exact h
/-- // by any divisor -/
def CDivA (_ j : Int) : Prop := j ≠ 0 ∧ j.natAbs.log2 < 9000
theorem op_fdivA {X : Cx} : OpR X (binaryOp .FloorDiv) (rI CDivA fun i j => .int (i.fdiv j)) := opI fun i j _ _ _ _ _ hc q => floordiv_int hc.1 q (.inl (PyProof.noPylong_of_log2 hc.2))
def cDivA (_ j : Int) : Bool := !decide (j = 0) && decide (j.natAbs.log2 < 9000)
abbrev oFdivA : C → C → M C := oInt (fun i j => .int (i.fdiv j)) cDivA
theorem os_fdivA : OpS K (rI CDivA fun i j => .int (i.fdiv j)) oFdivA := os_int (f := fun i j => i.fdiv j) fun i j h => by
  simp only [cDivA, Bool.and_eq_true, Bool.not_eq_true', decide_eq_false_iff_not, decide_eq_true_eq] at h
  exact h
theorem os_mod : OpS K (rI (fun _ j => 0 < j) fun i j => .int (i % j)) oMod := os_int (f := fun i j => i % j) fun i j h => of_decide_eq_true h
theorem os_pow : OpS K (rI CPow fun i j => .int (i ^ j.toNat)) oPow := os_int (f := fun i j => i ^ j.toNat) fun i j h => by
  simp only [cPow, Bool.and_eq_true, decide_eq_true_eq] at h
  exact ⟨h.1, h.2.1, by have := h.2.2; show _ < 18446744073709551616; exact this⟩
/-! ### * -/
def rRepR : R2 := fun x y H Q => ∃ l k xs, x = .ref l ∧ y = .int k ∧ H l = some (.lst xs) ∧ -(2 ^ 63) ≤ k ∧ k < 2 ^ 63 ∧ xs.length * k.toNat ≤ sizeLine ∧
  ∀ p, H p = none → Q (.ref p) (upd H p (.lst (List.replicate k.toNat xs).flatten))
def rMulU (K : PySem.W.Frag) : R2 := fun x y H Q => rI CMulW (fun i j => .int (i * j)) x y H Q ∨ rRepT K x y H Q ∨ rRep x y H Q
theorem opMul (K : PySem.W.Frag) {X : Cx} (h : X.K = K := by rfl) : OpR X (binaryOp .Mult) (rMulU K) := by
  subst h
  intro pins s σ H x y v u Q I rx ry h
  rcases h with h | h | h
  · exact op_mulW pins s σ H x y v u Q I rx ry h
  · exact op_repT pins s σ H x y v u Q I rx ry h
  · exact op_rep pins s σ H x y v u Q I rx ry h
def repD (k : Nat) (ds : List PyData) : List PyData := (List.replicate k ds).flatten
theorem dpRep {vs : List V} {ds : List PyData} (h : DpAll K H vs ds) : ∀ k : Nat, DpAll K H (List.replicate k vs).flatten (repD k ds)
  | 0 => .nil
  | k + 1 => by
    unfold repD
    rw [List.replicate_succ, List.replicate_succ, List.flatten_cons, List.flatten_cons]
    exact h.app (dpRep h k)
theorem lfAll_rep {ds : List PyData} (h : lfAll ds = true) : ∀ k : Nat, lfAll (repD k ds) = true
  | 0 => rfl
  | k + 1 => by
    unfold repD
    rw [List.replicate_succ, List.flatten_cons]
    exact lfAll_app h (lfAll_rep h k)
def cRepT (ds : List PyData) (k : Int) : Bool := !ds.isEmpty && (decide (2 ≤ k) && (decide (k ≤ 1000) && decide (ds.length ≤ 1000)))
def cRepL (ds : List PyData) (k : Int) : Bool := decide (-9223372036854775808 ≤ k) && (decide (k < 9223372036854775808) && lenOk (ds.length * k.toNat))
def oMul : C → C → M C
  | .val (.int i), .val (.int j) => if cMul i j = true then .ret (.val (.int (i * j))) else .fail
  | .val (.tuple ds), .val (.int k) => if cRepT ds k = true then .ret (.val (.tuple (repD k.toNat ds))) else .fail
  | .own (.lst ds), .val (.int k) => if cRepL ds k = true then .ret (.own (.lst (repD k.toNat ds))) else .fail
  | _, _ => .fail
theorem os_mul : OpS K (rMulU K) oMul := by
  intro tp H0 H x y cx cy Q g t rx ry h
  unfold oMul at h
  split at h
  · rename_i i j
    cases rx.int; cases ry.int
    split at h
    · rename_i e
      exact .inl ⟨i, j, rfl, rfl, (show i.natAbs.log2 + j.natAbs.log2 < 1000000 from of_decide_eq_true e), Post.int h g t⟩
    · exact h.elim
  · rename_i ds k
    obtain ⟨a, vs, rfl, q1, q2, q3⟩ := rx.tup
    cases ry.int
    split at h
    · rename_i e
      simp only [cRepT, Bool.and_eq_true, decide_eq_true_eq, Bool.not_eq_true'] at e
      refine .inr (.inl ⟨a, k, vs, rfl, rfl, q1, fun z => ?_, e.2.1, e.2.2.1, by rw [q2.len]; exact e.2.2.2, fun p hp => Post.tup h g t hp (dpRep q2 _) (lfAll_rep q3 _)⟩)
      subst z
      cases q2
      simp at e
    · exact h.elim
  · rename_i ds k
    obtain ⟨a, rfl, _, _, vs, q1, q2, q3⟩ := rx
    cases ry.int
    split at h
    · rename_i e
      simp only [cRepL, Bool.and_eq_true, decide_eq_true_eq] at e
      exact .inr (.inr ⟨a, k, vs, rfl, rfl, q1, e.1, e.2.1, by rw [q2.len]; exact lenOk_le e.2.2, fun p hp => Post.lst h g t hp (dpRep q2 _) (lfAll_rep q3 _)⟩)
    · exact h.elim
  · exact h.elim
/-! ### -x -/
def oNeg : C → M C
  | .val (.int i) => .ret (.val (.int (-i)))
  | _ => .fail
theorem us_neg : UnS K (rU fun i => .int (-i)) oNeg := by
  intro tp H0 H x cx Q g t rx h
  unfold oNeg at h
  split at h
  · rename_i i
    cases rx.int
    exact ⟨i, rfl, Post.int h g t⟩
  · exact h.elim
/-! ### == != is in -/
def rEqU (K : PySem.W.Frag) (n : Bool) : R2 := fun x y H Q => (∃ i j, x = .str i ∧ y = .str j ∧ Q (.bl (n ^^ decide (i = j))) H) ∨ ∃ d e, Dp K H x d ∧ Dp K H y e ∧ SeqAt.shaped d = true ∧ SeqAt.shaped e = true ∧ Q (.bl (n ^^ PyData.eqv d e)) H
theorem dec_strV {i j : Str} : decide (V.str i = V.str j) = decide (i = j) := by
  by_cases h : i = j
  · subst h; simp
  · rw [decide_eq_false h, decide_eq_false (fun z => h (V.str.inj z))]
theorem opEq (K : PySem.W.Frag) {X : Cx} (hu : X.A.units + 64 < cLine) (h : X.K = K := by rfl) : OpR X (compareOp .Eq) (rEqU K false) := by
  subst h
  intro pins s σ H x y v u Q I rx ry h
  rcases h with ⟨i, j, rfl, rfl, q⟩ | ⟨d, e, h1, h2, h3, h4, q⟩
  · rw [Bool.false_xor] at q
    exact op_eq pins s σ H _ _ v u Q I rx ry ⟨rfl, by rw [dec_strV]; exact q⟩
  · rw [Bool.false_xor] at q
    exact op_eqD hu pins s σ H x y v u Q I rx ry ⟨d, e, h1, h2, h3, h4, q⟩
theorem opNe (K : PySem.W.Frag) {X : Cx} (hu : X.A.units + 64 < cLine) (h : X.K = K := by rfl) : OpR X (compareOp .NotEq) (rEqU K true) := by
  subst h
  intro pins s σ H x y v u Q I rx ry h
  rcases h with ⟨i, j, rfl, rfl, q⟩ | ⟨d, e, h1, h2, h3, h4, q⟩
  · rw [Bool.true_xor] at q
    exact op_ne pins s σ H _ _ v u Q I rx ry ⟨rfl, by rw [dec_strV]; exact q⟩
  · rw [Bool.true_xor] at q
    exact op_neD hu pins s σ H x y v u Q I rx ry ⟨d, e, h1, h2, h3, h4, q⟩
def oEqD (n : Bool) : Option PyData → Option PyData → M C
  | some (.str i), some (.str j) => .ret (.val (.bool (n ^^ decide (i = j))))
  | some d, some e => if (SeqAt.shaped d && SeqAt.shaped e) = true then .ret (.val (.bool (n ^^ PyData.eqv d e))) else .fail
  | _, _ => .fail
def oEq (a b : C) : M C := oEqD false a.dat b.dat
def oNe (a b : C) : M C := oEqD true a.dat b.dat
theorem eqD_ok {n : Bool} {x y : V} {cx cy : C} {Q : VK} (g : GrT tp H0 H) (t : TOk tp H) (rx : RC tp K H0 H x cx) (ry : RC tp K H0 H y cy) (h : wp0 (oEqD n cx.dat cy.dat) (Post tp K H0 Q)) : rEqU K n x y H Q := by
  unfold oEqD at h
  split at h
  · rename_i i j h1 h2
    have r1 := rx.dp h1
    have r2 := ry.dp h2
    cases r1; cases r2
    exact .inl ⟨i, j, rfl, rfl, Post.bl h g t⟩
  · rename_i d e _ h1 h2
    split at h
    · rename_i s
      simp only [Bool.and_eq_true] at s
      exact .inr ⟨d, e, rx.dp h1, ry.dp h2, s.1, s.2, Post.bl h g t⟩
    · exact h.elim
  · exact h.elim
theorem os_eq : OpS K (rEqU K false) oEq := fun tp H0 H x y cx cy Q g t rx ry h => eqD_ok g t rx ry h
theorem os_ne : OpS K (rEqU K true) oNe := fun tp H0 H x y cx cy Q g t rx ry h => eqD_ok g t rx ry h
def C.isN : C → Bool
  | .val .none => true
  | _ => false
theorem RC.isN {v : V} {c : C} (h : RC tp K H0 H v c) : decide (v = .non) = c.isN := by
  cases c with
  | val d =>
    obtain ⟨h, f⟩ := h
    cases h <;> rfl
  | own o => obtain ⟨a, rfl, _⟩ := h; rfl
  | bor o => obtain ⟨a, rfl, _⟩ := h; rfl
  | tape => obtain ⟨a, _, _, rfl⟩ := h; rfl
def oIs : C → C → M C
  | a, .val .none => .ret (.val (.bool a.isN))
  | _, _ => .fail
def oIsNot : C → C → M C
  | a, .val .none => .ret (.val (.bool (!a.isN)))
  | _, _ => .fail
theorem os_is : OpS K (fun x y H Q => y = .non ∧ Q (.bl (decide (x = .non))) H) oIs := by
  intro tp H0 H x y cx cy Q g t rx ry h
  unfold oIs at h
  split at h
  · cases ry.non
    exact ⟨rfl, by rw [rx.isN]; exact Post.bl h g t⟩
  · exact h.elim
theorem os_isnot : OpS K (fun x y H Q => y = .non ∧ Q (.bl (!decide (x = .non))) H) oIsNot := by
  intro tp H0 H x y cx cy Q g t rx ry h
  unfold oIsNot at h
  split at h
  · cases ry.non
    exact ⟨rfl, by rw [rx.isN]; exact Post.bl h g t⟩
  · exact h.elim
def rInU (K : PySem.W.Frag) (n : Bool) : R2 := fun x y H Q => (∃ d ds, Dp K H x d ∧ (Dp K H y (.list ds) ∨ Dp K H y (.tuple ds)) ∧ SeqAt.shaped d = true ∧ SeqAt.shaped (.list ds) = true ∧ Q (.bl (n ^^ ds.any fun z => PyData.eqv z d)) H) ∨
  (∃ (c : Nat) (z : Str), x = .str ⟨#[c]⟩ ∧ y = .str z ∧ Q (.bl (n ^^ decide (c ∈ z.cps.toList))) H)
theorem shaped_tup {ds : List PyData} (h : SeqAt.shaped (.list ds) = true) : SeqAt.shaped (.tuple ds) = true := by
  have e : SeqAt.shaped (.list ds) = ((PyData.canLay0 (.list ds)) && decide ((PyData.depth (.list ds)) ≤ 64)) := rfl
  have e' : SeqAt.shaped (.tuple ds) = ((PyData.canLay0 (.tuple ds)) && decide ((PyData.depth (.tuple ds)) ≤ 64)) := rfl
  rw [e] at h
  rw [e']
  simp only [PyData.canLay0, PyData.depth] at h ⊢
  exact h
theorem opIn (K : PySem.W.Frag) {X : Cx} (hu : X.A.units + 65 < cLine) (h : X.K = K := by rfl) : OpR X (compareOp .In) (rInU K false) := by
  subst h
  intro pins s σ H x y v u Q I rx ry h
  rcases h with ⟨d, ds, hd, he | he, sd, se, q⟩ | h
  · rw [Bool.false_xor] at q
    exact op_inD hu pins s σ H x y v u Q I rx ry ⟨d, ds, hd, he, sd, se, q⟩
  · rw [Bool.false_xor] at q
    obtain ⟨as, r1⟩ := Dp.reads I d x v hd rx
    obtain ⟨bs, r2⟩ := Dp.reads I (.tuple ds) y u he ry
    exact SeqAt.in_tuple_reads r2 r1 (SeqAt.canLay_of_shaped se) (SeqAt.canLay_of_shaped sd) (room_in_shaped sd hu) ⟨.bl _, H, I, rfl, q⟩
  · obtain ⟨c, z, h1, h2, q⟩ := h
    rw [Bool.false_xor] at q
    exact op_in_sign pins s σ H x y v u Q I rx ry ⟨c, z, h1, h2, q⟩
theorem opNotIn (K : PySem.W.Frag) {X : Cx} (hu : X.A.units + 65 < cLine) (h : X.K = K := by rfl) : OpR X (compareOp .NotIn) (rInU K true) := by
  subst h
  intro pins s σ H x y v u Q I rx ry h
  rcases h with ⟨d, ds, hd, he | he, sd, se, q⟩ | h
  · rw [Bool.true_xor] at q
    exact op_notInD hu pins s σ H x y v u Q I rx ry ⟨d, ds, hd, he, sd, se, q⟩
  · rw [Bool.true_xor] at q
    obtain ⟨as, r1⟩ := Dp.reads I d x v hd rx
    obtain ⟨bs, r2⟩ := Dp.reads I (.tuple ds) y u he ry
    exact SeqAt.notIn_tuple_reads r2 r1 (SeqAt.canLay_of_shaped se) (SeqAt.canLay_of_shaped sd) (room_in_shaped sd hu) ⟨.bl _, H, I, rfl, q⟩
  · obtain ⟨c, z, h1, h2, q⟩ := h
    rw [Bool.true_xor] at q
    exact op_notIn_sign pins s σ H x y v u Q I rx ry ⟨c, z, h1, h2, q⟩
def oInD (n : Bool) (d : PyData) (ds : List PyData) : M C := if (SeqAt.shaped d && SeqAt.shaped (.list ds)) = true then .ret (.val (.bool (n ^^ ds.any fun z => PyData.eqv z d))) else .fail
def oInS (n : Bool) (x : Str) (z : Str) : M C := if x.cps.size = 1 then .ret (.val (.bool (n ^^ decide (x.cps.getD 0 0 ∈ z.cps.toList)))) else .fail
def oInX (n : Bool) : Option PyData → Option PyData → M C
  | some (.str x), some (.str z) => oInS n x z
  | some d, some (.list ds) => oInD n d ds
  | some d, some (.tuple ds) => oInD n d ds
  | _, _ => .fail
def oIn (a b : C) : M C := oInX false a.dat b.dat
def oNotIn (a b : C) : M C := oInX true a.dat b.dat
theorem inX_ok {n : Bool} {x y : V} {cx cy : C} {Q : VK} (g : GrT tp H0 H) (t : TOk tp H) (rx : RC tp K H0 H x cx) (ry : RC tp K H0 H y cy) (h : wp0 (oInX n cx.dat cy.dat) (Post tp K H0 Q)) : rInU K n x y H Q := by
  unfold oInX at h
  split at h
  · rename_i x' z h1 h2
    unfold oInS at h
    split at h
    · rename_i e
      have r1 := rx.dp h1
      have r2 := ry.dp h2
      cases r1
      cases r2
      obtain ⟨⟨l⟩⟩ := x'
      cases l with
      | nil => simp at e
      | cons c l =>
        cases l with
        | nil => exact .inr ⟨c, z, rfl, rfl, Post.bl h g t⟩
        | cons _ _ => simp at e
    · exact h.elim
  · rename_i d ds h1 h2
    unfold oInD at h
    split at h
    · rename_i e
      simp only [Bool.and_eq_true] at e
      exact .inl ⟨d, ds, rx.dp h1, .inl (ry.dp h2), e.1, e.2, Post.bl h g t⟩
    · exact h.elim
  · rename_i d ds h1 h2
    unfold oInD at h
    split at h
    · rename_i e
      simp only [Bool.and_eq_true] at e
      exact .inl ⟨d, ds, rx.dp h1, .inr (ry.dp h2), e.1, e.2, Post.bl h g t⟩
    · exact h.elim
  · exact h.elim
theorem os_in : OpS K (rInU K false) oIn := fun tp H0 H x y cx cy Q g t rx ry h => inX_ok g t rx ry h
theorem os_notin : OpS K (rInU K true) oNotIn := fun tp H0 H x y cx cy Q g t rx ry h => inX_ok g t rx ry h
end
end Cs

set_option maxRecDepth 100000
set_option maxHeartbeats 4000000
/-! tests, subscripts, calls -/
namespace Cs
open PySem PySem.Spec PyProof.Rows L2
section
variable {tp : Option (Addr × Addr)} {K : PySem.W.Frag} {H H' H'' H0 H1 He : Hp} {Hq : Hp} {σ : L2.St} {ρ : Ro}
/-! ### truth -/
def truD : PyData → M Bool
  | .none => .ret false
  | .bool b => .ret b
  | .int i => .ret (i != 0)
  | .str x => if lenOk x.length = true then .ret ((x.length : Int) != 0) else .fail
  | .tuple xs => .ret (!xs.isEmpty)
  | .list xs => .ret (!xs.isEmpty)
  | .dict _ => .fail
def oTru (c : C) : M Bool := match c.dat with
  | some d => truD d
  | none => .fail
theorem dp_empty {vs : List V} {ds : List PyData} (h : DpAll K H vs ds) : vs.isEmpty = ds.isEmpty := by
  cases h <;> rfl
theorem tru_of {v : V} {d : PyData} (h : Dp K H v d) {Q : Bool → Prop} (q : wp0 (truD d) Q) : ∃ k, TruV K v H k ∧ Q k := by
  cases h with
  | non => exact ⟨_, rfl, q⟩
  | bl b => exact ⟨_, rfl, q⟩
  | int i => exact ⟨_, rfl, q⟩
  | str x =>
    unfold truD at q
    dsimp only at q
    split at q
    · rename_i l
      exact ⟨_, ⟨lenOk_le l, rfl⟩, q⟩
    · exact q.elim
  | lst h1 h2 => exact ⟨_, .inl ⟨_, h1, rfl⟩, by rw [dp_empty h2]; exact q⟩
  | tup h1 h2 => exact ⟨_, .inr (.inl ⟨_, h1, rfl⟩), by rw [dp_empty h2]; exact q⟩
def gTru (g : Ro → M C) (ρ : Ro) : M Bool := (g ρ).bind oTru
theorem oTru_ok {x : V} {c : C} {Q : Bool → Prop} (rx : RC tp K H0 H x c) (h : wp0 (oTru c) Q) : ∃ k, TruV K x H k ∧ Q k := by
  unfold oTru at h
  split at h
  · rename_i d e
    exact tru_of (rx.dp e) h
  · exact h.elim
theorem rt_tru {ta : TE} {ga : Ro → M C} (ha : RE K ta ga) : RT K (tTru K ta) (gTru ga) := by
  intro tp He Hq ρ σ H Q rl h
  refine ha tp He Hq ρ σ H _ rl (wp0_mono (fun a h1 => ?_) (wp0_bind.mp h))
  intro x H1 g1 t1 rx
  obtain ⟨k, h2, h3⟩ := oTru_ok rx h1
  exact ⟨k, h2, h3 H1 g1 t1⟩
def oBl : C → M Bool
  | .val (.bool b) => .ret b
  | _ => .fail
def gTest (g : Ro → M C) (ρ : Ro) : M Bool := (g ρ).bind oBl
theorem oBl_ok {x : V} {c : C} {Q : Bool → Prop} (rx : RC tp K H0 H x c) (h : wp0 (oBl c) Q) : ∃ k, x = .bl k ∧ Q k := by
  unfold oBl at h
  split at h
  · cases rx.bl
    exact ⟨_, rfl, h⟩
  · exact h.elim
theorem rt_test {ta : TE} {ga : Ro → M C} (ha : RE K ta ga) : RT K (tTest ta) (gTest ga) := by
  intro tp He Hq ρ σ H Q rl h
  refine ha tp He Hq ρ σ H _ rl (wp0_mono (fun a h1 => ?_) (wp0_bind.mp h))
  intro x H1 g1 t1 rx
  obtain ⟨k, h2, h3⟩ := oBl_ok rx h1
  exact ⟨k, h2, h3 H1 g1 t1⟩
def gAnd (g1 g2 : Ro → M Bool) (ρ : Ro) : M Bool := (g1 ρ).bind fun b => if b = true then g2 ρ else .ret false
def gOr (g1 g2 : Ro → M Bool) (ρ : Ro) : M Bool := (g1 ρ).bind fun b => if b = true then .ret true else g2 ρ
def gNot (g1 : Ro → M Bool) (ρ : Ro) : M Bool := (g1 ρ).bind fun b => .ret (!b)
theorem rt_and {t u : TT} {g1 g2 : Ro → M Bool} (h1 : RT K t g1) (h2 : RT K u g2) : RT K (tAnd t u) (gAnd g1 g2) := by
  intro tp He Hq ρ σ H Q rl h
  refine h1 tp He Hq ρ σ H _ rl (wp0_mono (fun b hb => ?_) (wp0_bind.mp h))
  intro H1 e1 t1
  cases b with
  | true =>
    rw [if_pos rfl] at hb ⊢
    exact h2 tp He Hq ρ σ H1 _ (rl.go e1 t1) (wp0_mono (fun b hb H2 e2 t2 => hb H2 (e1.trans e2) t2) hb)
  | false =>
    rw [if_neg Bool.false_ne_true] at hb ⊢
    exact hb H1 e1 t1
theorem rt_or {t u : TT} {g1 g2 : Ro → M Bool} (h1 : RT K t g1) (h2 : RT K u g2) : RT K (tOr t u) (gOr g1 g2) := by
  intro tp He Hq ρ σ H Q rl h
  refine h1 tp He Hq ρ σ H _ rl (wp0_mono (fun b hb => ?_) (wp0_bind.mp h))
  intro H1 e1 t1
  cases b with
  | true =>
    rw [if_pos rfl] at hb ⊢
    exact hb H1 e1 t1
  | false =>
    rw [if_neg Bool.false_ne_true] at hb ⊢
    exact h2 tp He Hq ρ σ H1 _ (rl.go e1 t1) (wp0_mono (fun b hb H2 e2 t2 => hb H2 (e1.trans e2) t2) hb)
theorem rt_not {t : TT} {g1 : Ro → M Bool} (h1 : RT K t g1) : RT K (tNot t) (gNot g1) := by
  intro tp He Hq ρ σ H Q rl h
  refine h1 tp He Hq ρ σ H _ rl (wp0_mono (fun b hb => ?_) (wp0_bind.mp h))
  intro H1 e1 t1
  exact hb H1 e1 t1
/-! ### and, or, not, if as values -/
theorem andT (K : PySem.W.Frag) {X : Cx} {a b : Expr} {rest : List Expr} {pos : Pos} {ta tb : TE} (ha : PE X a ta) (hb : PE X (.BoolOp .And (b :: rest) pos) tb) (h : X.K = K := by rfl) : PE X (.BoolOp .And (a :: b :: rest) pos) (tAndT K ta tb) := h ▸ pe_andT ha hb
theorem orT (K : PySem.W.Frag) {X : Cx} {a b : Expr} {rest : List Expr} {pos : Pos} {ta tb : TE} (ha : PE X a ta) (hb : PE X (.BoolOp .Or (b :: rest) pos) tb) (h : X.K = K := by rfl) : PE X (.BoolOp .Or (a :: b :: rest) pos) (tOrT K ta tb) := h ▸ pe_orT ha hb
theorem notT (K : PySem.W.Frag) {X : Cx} {a : Expr} {pos : Pos} {ta : TE} (ha : PE X a ta) (h : X.K = K := by rfl) : PE X (.UnaryOp .Not a pos) (tNotT K ta) := h ▸ pe_notT ha
def gAndT (g1 g2 : Ro → M C) (ρ : Ro) : M C := (g1 ρ).bind fun c => (oTru c).bind fun b => if b = true then g2 ρ else .ret c
def gOrT (g1 g2 : Ro → M C) (ρ : Ro) : M C := (g1 ρ).bind fun c => (oTru c).bind fun b => if b = true then .ret c else g2 ρ
def gNotT (g1 : Ro → M C) (ρ : Ro) : M C := (g1 ρ).bind fun c => (oTru c).bind fun b => .ret (.val (.bool (!b)))
theorem Post.after {Q : VK} {c : C} (p : Post tp K H0 Q c) (g : GrT tp H0 H) (t : TOk tp H) : Post tp K H Q c := fun v H' g' t' r => p v H' (g.trans g') t' (r.base g t)
theorem re_and {ta tb : TE} {g1 g2 : Ro → M C} (h1 : RE K ta g1) (h2 : RE K tb g2) : RE K (tAndT K ta tb) (gAndT g1 g2) := by
  intro tp He Hq ρ σ H Q rl h
  refine h1 tp He Hq ρ σ H _ rl (wp0_mono (fun c hc => ?_) (wp0_bind.mp h))
  intro x H1 e1 t1 rx
  obtain ⟨k, h3, h4⟩ := oTru_ok rx (wp0_bind.mp hc)
  refine ⟨k, h3, ?_⟩
  cases k with
  | true =>
    rw [if_pos rfl] at h4 ⊢
    exact h2 tp He Hq ρ σ H1 _ (rl.go e1 t1) (wp0_mono (fun b hb => hb.after e1 t1) h4)
  | false =>
    rw [if_neg Bool.false_ne_true] at h4 ⊢
    exact h4 x H1 e1 t1 rx
theorem re_or {ta tb : TE} {g1 g2 : Ro → M C} (h1 : RE K ta g1) (h2 : RE K tb g2) : RE K (tOrT K ta tb) (gOrT g1 g2) := by
  intro tp He Hq ρ σ H Q rl h
  refine h1 tp He Hq ρ σ H _ rl (wp0_mono (fun c hc => ?_) (wp0_bind.mp h))
  intro x H1 e1 t1 rx
  obtain ⟨k, h3, h4⟩ := oTru_ok rx (wp0_bind.mp hc)
  refine ⟨k, h3, ?_⟩
  cases k with
  | true =>
    rw [if_pos rfl] at h4 ⊢
    exact h4 x H1 e1 t1 rx
  | false =>
    rw [if_neg Bool.false_ne_true] at h4 ⊢
    exact h2 tp He Hq ρ σ H1 _ (rl.go e1 t1) (wp0_mono (fun b hb => hb.after e1 t1) h4)
theorem re_not {ta : TE} {g1 : Ro → M C} (h1 : RE K ta g1) : RE K (tNotT K ta) (gNotT g1) := by
  intro tp He Hq ρ σ H Q rl h
  refine h1 tp He Hq ρ σ H _ rl (wp0_mono (fun c hc => ?_) (wp0_bind.mp h))
  intro x H1 e1 t1 rx
  obtain ⟨k, h3, h4⟩ := oTru_ok rx (wp0_bind.mp hc)
  exact ⟨k, h3, Post.bl h4 e1 t1⟩
def gIfE (gc : Ro → M Bool) (g1 g2 : Ro → M C) (ρ : Ro) : M C := (gc ρ).bind fun b => if b = true then g1 ρ else g2 ρ
theorem re_if {t : TT} {ta tb : TE} {gc : Ro → M Bool} {g1 g2 : Ro → M C} (hc : RT K t gc) (h1 : RE K ta g1) (h2 : RE K tb g2) : RE K (tIf t ta tb) (gIfE gc g1 g2) := by
  intro tp He Hq ρ σ H Q rl h
  refine hc tp He Hq ρ σ H _ rl (wp0_mono (fun b hb => ?_) (wp0_bind.mp h))
  intro H1 e1 t1
  cases b with
  | true =>
    rw [if_pos rfl] at hb ⊢
    exact h1 tp He Hq ρ σ H1 _ (rl.go e1 t1) (wp0_mono (fun b hb => hb.after e1 t1) hb)
  | false =>
    rw [if_neg Bool.false_ne_true] at hb ⊢
    exact h2 tp He Hq ρ σ H1 _ (rl.go e1 t1) (wp0_mono (fun b hb => hb.after e1 t1) hb)
/-! ### a < b < c -/
def gChain (o1 o2 : C → C → M C) (ga gb gc : Ro → M C) (ρ : Ro) : M C := (ga ρ).bind fun a => (gb ρ).bind fun b => (o1 a.lend b.lend).bind fun r => (oBl r).bind fun k => if k = true then (gc ρ).bind fun c => o2 b c else .ret (.val (.bool false))
theorem re_chain {r r' : R2} {o1 o2 : C → C → M C} {ta tb tc : TE} {ga gb gc : Ro → M C} (ho : OpS K r o1) (ho' : OpS K r' o2) (ha : RE K ta ga) (hb : RE K tb gb) (hc : RE K tc gc) : RE K (tChain r r' ta tb tc) (gChain o1 o2 ga gb gc) := by
  intro tp He Hq ρ σ H Q rl h
  refine ha tp He Hq ρ σ H _ rl (wp0_mono (fun a h1 => ?_) (wp0_bind.mp h))
  intro x H1 g1 t1 rx
  refine hb tp He Hq ρ σ H1 _ (rl.go g1 t1) (wp0_mono (fun b h2 => ?_) (wp0_bind.mp h1))
  intro y H2 g2 t2 ry
  refine ho tp H2 H2 x y a.lend b.lend _ .refl t2 (rx.gr g2 t1).lend ry.lend (wp0_mono (fun c h3 => ?_) (wp0_bind.mp h2))
  intro z H3 g3 t3 rz
  obtain ⟨k, e, h4⟩ := oBl_ok rz (wp0_bind.mp h3)
  refine ⟨k, e, ?_⟩
  cases k with
  | true =>
    rw [if_pos rfl] at h4 ⊢
    refine hc tp He Hq ρ σ H3 _ (((rl.go g1 t1).go g2 t2).go g3 t3) (wp0_mono (fun c h5 => ?_) (wp0_bind.mp h4))
    intro w H4 g4 t4 rw'
    exact ho' tp H H4 y w b c Q (g1.trans (g2.trans (g3.trans g4))) t4 ((ry.base g1 t1).gr (g3.trans g4) t2) (rw'.base (g1.trans (g2.trans g3)) t3) h5
  | false =>
    rw [if_neg Bool.false_ne_true] at h4 ⊢
    exact Post.bl h4 (g1.trans (g2.trans g3)) t3
/-! ### subscripts, slices -/
theorem ixU (K : PySem.W.Frag) {X : Cx} (h : X.K = K := by rfl) : IxR X (rIx K) := h ▸ ix_seq
def atD (ds : List PyData) (i : Int) : M C := match atI ds i with
  | some d => .ret (.val d)
  | none => .fail
def atS (z : Str) (i : Int) : M C := if lenOk z.length = true then (match atI z.cps.toList i with
  | some c => .ret (.val (.str ⟨#[c]⟩))
  | none => .fail) else .fail
def oIx (cx cy : C) : M C := match cy with
  | .val (.int i) => (match cx with
    | .val (.tuple ds) => atD ds i
    | .val (.str z) => atS z i
    | cx => (match cx.items with
      | some ds => atD ds i
      | none => .fail))
  | _ => .fail
theorem dp_at {vs : List V} {ds : List PyData} {i : Int} {d : PyData} (h : DpAll K H vs ds) (f : lfAll ds = true) (e : atI ds i = some d) : ∃ v, atI vs i = some v ∧ Dp K H v d ∧ lf d = true := by
  unfold atI at e ⊢
  rw [h.len]
  cases q : ixN ds.length i with
  | none => rw [q] at e; cases e
  | some j =>
    rw [q] at e
    obtain ⟨v, h1, h2⟩ := h.get (show ds[j]? = some d from e)
    exact ⟨v, h1, h2, lfAll_get f (show ds[j]? = some d from e)⟩
theorem atD_ok {vs : List V} {ds : List PyData} {i : Int} {Q : VK} (g : GrT tp H0 H) (t : TOk tp H) (h : DpAll K H vs ds) (f : lfAll ds = true) (q : wp0 (atD ds i) (Post tp K H0 Q)) : ∃ v, atI vs i = some v ∧ Q v H := by
  unfold atD at q
  split at q
  · rename_i d e
    obtain ⟨v, h1, h2, h3⟩ := dp_at h f e
    exact ⟨v, h1, Post.at_ q g t ⟨h2, h3⟩⟩
  · exact q.elim
theorem os_ix : OpS K (rIx K) oIx := by
  intro tp H0 H x y cx cy Q g t rx ry h
  unfold oIx at h
  split at h
  · rename_i i
    cases ry.int
    split at h
    · rename_i ds
      obtain ⟨a, vs, rfl, q1, q2, q3⟩ := rx.tup
      obtain ⟨v, e, q⟩ := atD_ok g t q2 q3 h
      exact .inr (.inl ⟨a, vs, i, v, rfl, rfl, q1, e, q⟩)
    · rename_i z
      cases rx.str
      unfold atS at h
      split at h
      · rename_i l
        split at h
        · rename_i c e
          exact .inr (.inr ⟨z, i, c, rfl, rfl, lenOk_le l, e, Post.str h g t⟩)
        · exact h.elim
      · exact h.elim
    · split at h
      · rename_i ds e
        obtain ⟨a, vs, rfl, q1, q2, q3⟩ := rx.rd e
        obtain ⟨v, e, q⟩ := atD_ok g t q2 q3 h
        exact .inl ⟨a, vs, i, v, rfl, rfl, .inl q1, e, q⟩
      · exact h.elim
  · exact h.elim
def RO (K : PySem.W.Frag) (t : TO) (g : Ro → M (Option Int)) : Prop := ∀ tp He Hq ρ σ H (Q : Option Int → Hp → Prop), Rel tp K He Hq H σ ρ → wp0 (g ρ) (fun o => ∀ H', GrT tp H H' → TOk tp H' → Q o H') → t σ H Q
def gNo (_ : Ro) : M (Option Int) := .ret none
def oInt? : C → M (Option Int)
  | .val (.int i) => .ret (some i)
  | _ => .fail
def gSome (g : Ro → M C) (ρ : Ro) : M (Option Int) := (g ρ).bind oInt?
theorem ro_no : RO K tNoPart gNo := fun tp He Hq ρ σ H Q rl h => h H .refl rl.tok
theorem ro_some {t : TE} {g : Ro → M C} (h1 : RE K t g) : RO K (tPart t) (gSome g) := by
  intro tp He Hq ρ σ H Q rl h
  refine h1 tp He Hq ρ σ H _ rl (wp0_mono (fun c hc => ?_) (wp0_bind.mp h))
  intro x H1 g1 t1 rx
  unfold oInt? at hc
  split at hc
  · cases rx.int
    exact ⟨_, rfl, hc H1 g1 t1⟩
  · exact hc.elim
def cutD (ds : List PyData) (lo hi : Option Int) : List PyData := (ds.drop (HT.sIx ds.length 0 lo)).take (HT.sIx ds.length ds.length hi - HT.sIx ds.length 0 lo)
theorem dp_cut {vs : List V} {ds : List PyData} (h : DpAll K H vs ds) (lo hi : Option Int) : DpAll K H (cutV vs lo hi) (cutD ds lo hi) := by
  unfold cutV cutD
  rw [h.len]
  exact (h.drop _).take _
theorem lf_cut {ds : List PyData} (f : lfAll ds = true) (lo hi : Option Int) : lfAll (cutD ds lo hi) = true := lfAll_take _ (lfAll_drop _ f)
theorem cut_whole {ds : List PyData} {lo hi : Option Int} (h : HT.sIx ds.length 0 lo = 0 ∧ HT.sIx ds.length ds.length hi = ds.length) : cutD ds lo hi = ds := by
  unfold cutD
  rw [h.1, h.2, List.drop_zero, Nat.sub_zero, List.take_length]
def rSlU (K : PySem.W.Frag) : V → Option Int → Option Int → Hp → VK → Prop := fun x lo hi H Q => rSlL K x lo hi H Q ∨ rSlA K x lo hi H Q ∨ rSlS x lo hi H Q
theorem slU (K : PySem.W.Frag) {X : Cx} (h : X.K = K := by rfl) : SlR X (rSlU K) := h ▸ sl_list.or (sl_tupA.or sl_str)
def oSl (c : C) (lo hi : Option Int) : M C := match c with
  | .val (.tuple ds) => .ret (.val (.tuple (cutD ds lo hi)))
  | .val (.str z) => if lenOk z.length = true then .ret (.val (.str (cutS z lo hi))) else .fail
  | c => (match c.items with
    | some ds => .ret (.own (.lst (cutD ds lo hi)))
    | none => .fail)
def gSl (g : Ro → M C) (l u : Ro → M (Option Int)) (ρ : Ro) : M C := (g ρ).bind fun c => (l ρ).bind fun lo => (u ρ).bind fun hi => oSl c lo hi
theorem re_sl {te : TE} {tl th : TO} {g : Ro → M C} {l u : Ro → M (Option Int)} (h1 : RE K te g) (h2 : RO K tl l) (h3 : RO K th u) : RE K (tSl (rSlU K) te tl th) (gSl g l u) := by
  intro tp He Hq ρ σ H Q rl h
  refine h1 tp He Hq ρ σ H _ rl (wp0_mono (fun c hc => ?_) (wp0_bind.mp h))
  intro x H1 g1 t1 rx
  refine h2 tp He Hq ρ σ H1 _ (rl.go g1 t1) (wp0_mono (fun lo hlo => ?_) (wp0_bind.mp hc))
  intro H2 g2 t2
  refine h3 tp He Hq ρ σ H2 _ ((rl.go g1 t1).go g2 t2) (wp0_mono (fun hi hhi => ?_) (wp0_bind.mp hlo))
  intro H3 g3 t3
  have rx3 := (rx.gr g2 t1).gr g3 t2
  have g := g1.trans (g2.trans g3)
  unfold oSl at hhi
  split at hhi
  · rename_i ds
    obtain ⟨a, vs, rfl, q1, q2, q3⟩ := rx3.tup
    refine .inr (.inl ⟨a, vs, rfl, q1, fun e => ?_, fun _ p hp => Post.tup hhi g t3 hp (dp_cut q2 lo hi) (lf_cut q3 lo hi)⟩)
    rw [q2.len] at e
    rw [cut_whole e] at hhi
    exact Post.at_ hhi g t3 rx3
  · rename_i z
    cases rx3.str
    split at hhi
    · rename_i l
      exact .inr (.inr ⟨z, rfl, lenOk_le l, Post.str hhi g t3⟩)
    · exact hhi.elim
  · split at hhi
    · rename_i ds e
      obtain ⟨a, vs, rfl, q1, q2, q3⟩ := rx3.rd e
      exact .inl ⟨a, vs, rfl, .inl q1, fun p hp => Post.lst hhi g t3 hp (dp_cut q2 lo hi) (lf_cut q3 lo hi)⟩
    · exact hhi.elim
/-- t[a::2] -/
def gSl2 (g : Ro → M C) (l : Ro → M (Option Int)) (ρ : Ro) : M C := (g ρ).bind fun c => (l ρ).bind fun lo => match c with
  | .val (.tuple ds) => .ret (.val (.tuple (ev (ds.drop (HT.sIx ds.length 0 lo)))))
  | _ => .fail
theorem dp_ev : ∀ {vs : List V} {ds : List PyData}, DpAll K H vs ds → DpAll K H (ev vs) (ev ds)
  | [], _, h => by cases h; exact .nil
  | [_], _, h => by
    cases h with
    | cons h1 h2 => cases h2; exact .cons h1 .nil
  | _ :: _ :: vs, _, h => by
    cases h with
    | cons h1 h2 =>
      cases h2 with
      | cons h3 h4 => exact .cons h1 (dp_ev h4)
theorem lf_ev : ∀ {ds : List PyData}, lfAll ds = true → lfAll (ev ds) = true
  | [], _ => rfl
  | [_], h => h
  | a :: b :: ds, h => by
    simp only [lfAll, Bool.and_eq_true] at h
    show lfAll (a :: ev ds) = true
    simp only [lfAll, Bool.and_eq_true]
    exact ⟨h.1, lf_ev h.2.2⟩
theorem re_sl2 {te : TE} {tl : TO} {g : Ro → M C} {l : Ro → M (Option Int)} (h1 : RE K te g) (h2 : RO K tl l) : RE K (tSl2 K te tl) (gSl2 g l) := by
  intro tp He Hq ρ σ H Q rl h
  refine h1 tp He Hq ρ σ H _ rl (wp0_mono (fun c hc => ?_) (wp0_bind.mp h))
  intro x H1 g1 t1 rx
  refine h2 tp He Hq ρ σ H1 _ (rl.go g1 t1) (wp0_mono (fun lo hlo => ?_) (wp0_bind.mp hc))
  intro H2 g2 t2
  have rx2 := rx.gr g2 t1
  split at hlo
  · rename_i ds
    obtain ⟨a, vs, rfl, q1, q2, q3⟩ := rx2.tup
    refine ⟨a, vs, rfl, q1, fun p hp => ?_⟩
    rw [q2.len]
    exact Post.tup hlo (g1.trans g2) t2 hp (dp_ev (q2.drop _)) (lf_ev (lfAll_drop _ q3))
  · exact hlo.elim
/-! ### calls of what is built in -/
def CallS (K : PySem.W.Frag) (r : List V → Hp → VK → Prop) (op : List C → M C) : Prop := ∀ tp H0 H vs cs Q, GrT tp H0 H → TOk tp H → RCs tp K H0 H vs cs → wp0 (op cs) (Post tp K H0 Q) → r vs H Q
def gCall (op : List C → M C) (gs : Ro → M (List C)) (ρ : Ro) : M C := (gs ρ).bind op
theorem re_call {r : List V → Hp → VK → Prop} {op : List C → M C} {t : TA} {gs : Ro → M (List C)} (ho : CallS K r op) (h1 : RA K t gs) : RE K (tCB r t) (gCall op gs) := by
  intro tp He Hq ρ σ H Q rl h
  refine h1 tp He Hq ρ σ H _ rl (wp0_mono (fun cs hc => ?_) (wp0_bind.mp h))
  intro vs H1 g1 t1 rx
  exact ho tp H H1 vs cs Q g1 t1 rx hc
theorem RCs.one {vs : List V} {c : C} (h : RCs tp K H0 H vs [c]) : ∃ v, vs = [v] ∧ RC tp K H0 H v c := by
  cases vs with
  | nil => exact h.elim
  | cons v vs =>
    cases vs with
    | nil => exact ⟨v, rfl, h.1⟩
    | cons _ _ => exact h.2.elim
theorem RCs.two {vs : List V} {c d : C} (h : RCs tp K H0 H vs [c, d]) : ∃ v w, vs = [v, w] ∧ RC tp K H0 H v c ∧ RC tp K H0 H w d := by
  cases vs with
  | nil => exact h.elim
  | cons v vs =>
    obtain ⟨w, e, q⟩ := RCs.one h.2
    exact ⟨v, w, by rw [e], h.1, q⟩
/-- a call of one thing that is read as data -/
def o1 (f : PyData → M C) : List C → M C
  | [c] => (match c.dat with
    | some d => f d
    | none => .fail)
  | _ => .fail
theorem o1_ok {f : PyData → M C} {vs : List V} {cs : List C} {P : C → Prop} (r : RCs tp K H0 H vs cs) (h : wp0 (o1 f cs) P) : ∃ v d, vs = [v] ∧ Dp K H v d ∧ wp0 (f d) P := by
  unfold o1 at h
  split at h
  · obtain ⟨v, rfl, q⟩ := r.one
    split at h
    · rename_i d e
      exact ⟨v, d, rfl, q.dp e, h⟩
    · exact h.elim
  · exact h.elim
def lenD : PyData → M C
  | .str x => if lenOk x.length = true then .ret (.val (.int x.length)) else .fail
  | .tuple xs => .ret (.val (.int xs.length))
  | .list xs => .ret (.val (.int xs.length))
  | _ => .fail
abbrev oLen := o1 lenD
theorem cs_len : CallS K (rLen K) oLen := by
  intro tp H0 H vs cs Q g t r h
  obtain ⟨v, d, rfl, q, h⟩ := o1_ok r h
  cases q with
  | str x =>
    unfold lenD at h
    dsimp only at h
    split at h
    · rename_i l
      exact ⟨_, _, rfl, ⟨lenOk_le l, rfl⟩, Post.int h g t⟩
    · exact h.elim
  | tup h1 h2 => exact ⟨_, _, rfl, .inr ⟨_, h1, rfl⟩, by rw [h2.len]; exact Post.int h g t⟩
  | lst h1 h2 => exact ⟨_, _, rfl, .inl ⟨_, h1, rfl⟩, by rw [h2.len]; exact Post.int h g t⟩
  | non => exact h.elim
  | bl _ => exact h.elim
  | int _ => exact h.elim
def absD : PyData → M C
  | .int i => .ret (.val (.int (if i < 0 then -i else i)))
  | _ => .fail
abbrev oAbs := o1 absD
theorem cs_abs : CallS K (fun xs H Q => ∃ i, xs = [.int i] ∧ Q (.int (if i < 0 then -i else i)) H) oAbs := by
  intro tp H0 H vs cs Q g t r h
  obtain ⟨v, d, rfl, q, h⟩ := o1_ok r h
  cases q with
  | int i => exact ⟨i, rfl, Post.int h g t⟩
  | _ => exact h.elim
def intD : PyData → M C
  | .int i => .ret (.val (.int i))
  | .bool b => .ret (.val (.int (if b then 1 else 0)))
  | _ => .fail
abbrev oIntC := o1 intD
theorem cs_int : CallS K (fun xs H Q => (∃ i, xs = [.int i] ∧ Q (.int i) H) ∨ ∃ k, xs = [.bl k] ∧ Q (.int (if k then 1 else 0)) H) oIntC := by
  intro tp H0 H vs cs Q g t r h
  obtain ⟨v, d, rfl, q, h⟩ := o1_ok r h
  cases q with
  | int i => exact .inl ⟨i, rfl, Post.int h g t⟩
  | bl b => exact .inr ⟨b, rfl, Post.int h g t⟩
  | _ => exact h.elim
def strD : PyData → M C
  | .int i => if decide (i.natAbs.log2 < 1920) = true then .ret (.val (.str (toString i))) else .fail
  | _ => .fail
abbrev oStr := o1 strD
theorem cs_str : CallS K (fun xs H Q => ∃ i : Int, xs = [.int i] ∧ i.natAbs.log2 < 1920 ∧ Q (.str (toString i)) H) oStr := by
  intro tp H0 H vs cs Q g t r h
  obtain ⟨v, d, rfl, q, h⟩ := o1_ok r h
  cases q with
  | int i =>
    unfold strD at h
    dsimp only at h
    split at h
    · rename_i l
      exact ⟨i, rfl, of_decide_eq_true l, Post.str h g t⟩
    · exact h.elim
  | _ => exact h.elim
/-- what repr asks of data, as a test -/
def repOk (d : PyData) : Bool := plainD d && (decide (d.depth ≤ 40) && decide (cost d ≤ 16777216))
theorem repOk_of {d : PyData} (h : repOk d = true) : RepOk d := by
  simp only [repOk, Bool.and_eq_true, decide_eq_true_eq] at h
  exact ⟨h.1, h.2.1, by rw [show sizeLine = 16777216 by decide]; exact h.2.2⟩
def repD1 (d : PyData) : M C := if repOk d = true then .ret (.val (.str d.shown)) else .fail
abbrev oRepr := o1 repD1
theorem cs_repr : CallS K (rRepr K) oRepr := by
  intro tp H0 H vs cs Q g t r h
  obtain ⟨v, d, rfl, q, h⟩ := o1_ok r h
  unfold repD1 at h
  split at h
  · rename_i l
    exact repr_go q (repOk_of l) (Post.str h g t)
  · exact h.elim
/-! min and max -/
def oMax2 : List C → M C
  | [.val (.int i), .val (.int j)] => .ret (.val (.int (max i j)))
  | _ => .fail
def oMin2 : List C → M C
  | [.val (.int i), .val (.int j)] => .ret (.val (.int (min i j)))
  | _ => .fail
theorem cs_max2 : CallS K (fun xs H Q => ∃ i j : Int, xs = [.int i, .int j] ∧ Q (.int (if j > i then j else i)) H) oMax2 := by
  intro tp H0 H vs cs Q g t r h
  unfold oMax2 at h
  split at h
  · rename_i i j
    obtain ⟨v, w, rfl, q1, q2⟩ := r.two
    cases q1.int; cases q2.int
    refine ⟨i, j, rfl, ?_⟩
    rw [show (if j > i then j else i) = max i j by split <;> omega]
    exact Post.int h g t
  · exact h.elim
theorem cs_min2 : CallS K (fun xs H Q => ∃ i j : Int, xs = [.int i, .int j] ∧ Q (.int (if j < i then j else i)) H) oMin2 := by
  intro tp H0 H vs cs Q g t r h
  unfold oMin2 at h
  split at h
  · rename_i i j
    obtain ⟨v, w, rfl, q1, q2⟩ := r.two
    cases q1.int; cases q2.int
    refine ⟨i, j, rfl, ?_⟩
    rw [show (if j < i then j else i) = min i j by split <;> omega]
    exact Post.int h g t
  · exact h.elim
def intsOf : List PyData → Option (List Int)
  | [] => some []
  | .int i :: ds => (intsOf ds).map (i :: ·)
  | _ :: _ => none
theorem intsOf_map : ∀ ns : List Int, intsOf (ns.map PyData.int) = some ns
  | [] => rfl
  | n :: ns => by rw [List.map_cons, intsOf, intsOf_map ns]; rfl
theorem intsOf_dp : ∀ {vs : List V} {ds : List PyData} {ns : List Int}, DpAll K H vs ds → intsOf ds = some ns → vs = ns.map V.int
  | _, [], ns, h, e => by cases e; cases h; rfl
  | _, .int i :: ds, ns, h, e => by
    unfold intsOf at e
    cases q : intsOf ds with
    | none => rw [q] at e; cases e
    | some ms =>
      rw [q] at e
      cases e
      cases h with
      | cons h1 h2 =>
        cases h1
        rw [intsOf_dp h2 q]
        rfl
  | _, .none :: _, _, _, e => by cases e
  | _, .bool _ :: _, _, _, e => by cases e
  | _, .str _ :: _, _, _, e => by cases e
  | _, .list _ :: _, _, _, e => by cases e
  | _, .tuple _ :: _, _, _, e => by cases e
  | _, .dict _ :: _, _, _, e => by cases e
def maxL : List Int → Int
  | [] => 0
  | [x] => x
  | x :: y :: r => max x (maxL (y :: r))
def minL : List Int → Int
  | [] => 0
  | [x] => x
  | x :: y :: r => min x (minL (y :: r))
theorem maxL_mem : ∀ {ns : List Int}, 0 < ns.length → maxL ns ∈ ns ∧ ∀ y ∈ ns, y ≤ maxL ns
  | [x], _ => by simp [maxL]
  | x :: y :: r, _ => by
    obtain ⟨h1, h2⟩ := maxL_mem (ns := y :: r) (by simp)
    refine ⟨?_, fun z hz => ?_⟩
    · unfold maxL
      by_cases h : x ≤ maxL (y :: r)
      · rw [show max x (maxL (y :: r)) = maxL (y :: r) by omega]; exact List.mem_cons_of_mem _ h1
      · rw [show max x (maxL (y :: r)) = x by omega]; exact List.mem_cons_self
    · unfold maxL
      rcases List.mem_cons.mp hz with rfl | hz
      · omega
      · have := h2 z hz; omega
theorem minL_mem : ∀ {ns : List Int}, 0 < ns.length → minL ns ∈ ns ∧ ∀ y ∈ ns, minL ns ≤ y
  | [x], _ => by simp [minL]
  | x :: y :: r, _ => by
    obtain ⟨h1, h2⟩ := minL_mem (ns := y :: r) (by simp)
    refine ⟨?_, fun z hz => ?_⟩
    · unfold minL
      by_cases h : x ≤ minL (y :: r)
      · rw [show min x (minL (y :: r)) = x by omega]; exact List.mem_cons_self
      · rw [show min x (minL (y :: r)) = minL (y :: r) by omega]; exact List.mem_cons_of_mem _ h1
    · unfold minL
      rcases List.mem_cons.mp hz with rfl | hz
      · omega
      · have := h2 z hz; omega
def foldD (f : List Int → Int) (ne : Bool) : PyData → M C
  | .tuple ds => (match intsOf ds with
    | some ns => if (ne && ns.isEmpty) = true then .fail else .ret (.val (.int (f ns)))
    | none => .fail)
  | .list ds => (match intsOf ds with
    | some ns => if (ne && ns.isEmpty) = true then .fail else .ret (.val (.int (f ns)))
    | none => .fail)
  | _ => .fail
theorem foldD_ok {f : List Int → Int} {ne : Bool} {v : V} {d : PyData} {P : C → Prop} (q : Dp K H v d) (h : wp0 (foldD f ne d) P) : ∃ a ns, v = .ref a ∧ (SqL K H a (ns.map V.int) ∨ SqT K H a (ns.map V.int)) ∧ (ne = true → 0 < ns.length) ∧ P (.val (.int (f ns))) := by
  have go : ∀ {ns : List Int}, wp0 (if (ne && ns.isEmpty) = true then (.fail : M C) else .ret (.val (.int (f ns)))) P → (ne = true → 0 < ns.length) ∧ P (.val (.int (f ns))) := fun {ns} h => by
    split at h
    · exact h.elim
    · rename_i z
      refine ⟨fun e => ?_, h⟩
      subst e
      cases ns with
      | nil => simp at z
      | cons _ _ => simp
  cases q with
  | tup h1 h2 =>
    unfold foldD at h
    dsimp only at h
    split at h
    · rename_i ns e
      have := intsOf_dp h2 e
      subst this
      obtain ⟨a1, a2⟩ := go h
      exact ⟨_, ns, rfl, .inr h1, a1, a2⟩
    · exact h.elim
  | lst h1 h2 =>
    unfold foldD at h
    dsimp only at h
    split at h
    · rename_i ns e
      have := intsOf_dp h2 e
      subst this
      obtain ⟨a1, a2⟩ := go h
      exact ⟨_, ns, rfl, .inl h1, a1, a2⟩
    · exact h.elim
  | _ => exact h.elim
def rMaxU (K : PySem.W.Frag) : List V → Hp → VK → Prop := fun vs H Q => rMax K vs H Q ∨ rMaxT K vs H Q
def rMinU (K : PySem.W.Frag) : List V → Hp → VK → Prop := fun vs H Q => rMin K vs H Q ∨ rMinT K vs H Q
theorem CallR.or {X : Cx} {f : Value} {r r' : List V → Hp → VK → Prop} (h : CallR X f r) (h' : CallR X f r') : CallR X f (fun vs H Q => r vs H Q ∨ r' vs H Q) := by
  intro pins s σ H vs us Q I rv q
  rcases q with q | q
  · exact h pins s σ H vs us Q I rv q
  · exact h' pins s σ H vs us Q I rv q
theorem maxU (K : PySem.W.Frag) {X : Cx} (hc : X.calm = true) (h : X.K = K := by rfl) : CallR X (.builtin "max") (rMaxU K) := h ▸ CallR.or (cr_max hc) (cr_maxT hc)
theorem minU (K : PySem.W.Frag) {X : Cx} (hc : X.calm = true) (h : X.K = K := by rfl) : CallR X (.builtin "min") (rMinU K) := h ▸ CallR.or (cr_min hc) (cr_minT hc)
abbrev oMaxL := o1 (foldD maxL true)
abbrev oMinL := o1 (foldD minL true)
abbrev oSum := o1 (foldD List.sum false)
theorem cs_maxL : CallS K (rMaxU K) oMaxL := by
  intro tp H0 H vs cs Q g t r h
  obtain ⟨v, d, rfl, q, h⟩ := o1_ok r h
  obtain ⟨a, ns, rfl, hs, hn, p⟩ := foldD_ok q h
  have hn := hn rfl
  have fin : ∀ m, m ∈ ns → (∀ y, y ∈ ns → y ≤ m) → Q (.int m) H := fun m h1 h2 => by
    obtain ⟨b1, b2⟩ := maxL_mem hn
    have : m = maxL ns := Int.le_antisymm (b2 m h1) (h2 _ b1)
    rw [this]
    exact Post.int p g t
  rcases hs with hs | hs
  · exact .inl ⟨a, ns, rfl, hs, hn, fin⟩
  · exact .inr ⟨a, ns, rfl, hs, hn, fin⟩
theorem cs_minL : CallS K (rMinU K) oMinL := by
  intro tp H0 H vs cs Q g t r h
  obtain ⟨v, d, rfl, q, h⟩ := o1_ok r h
  obtain ⟨a, ns, rfl, hs, hn, p⟩ := foldD_ok q h
  have hn := hn rfl
  have fin : ∀ m, m ∈ ns → (∀ y, y ∈ ns → m ≤ y) → Q (.int m) H := fun m h1 h2 => by
    obtain ⟨b1, b2⟩ := minL_mem hn
    have : m = minL ns := Int.le_antisymm (h2 _ b1) (b2 m h1)
    rw [this]
    exact Post.int p g t
  rcases hs with hs | hs
  · exact .inl ⟨a, ns, rfl, hs, hn, fin⟩
  · exact .inr ⟨a, ns, rfl, hs, hn, fin⟩
/-- sum of a list (of a tuple: no rule) -/
def sumD : PyData → M C
  | .list ds => (match intsOf ds with
    | some ns => .ret (.val (.int ns.sum))
    | none => .fail)
  | _ => .fail
abbrev oSumL := o1 sumD
theorem cs_sum : CallS K (rSum K) oSumL := by
  intro tp H0 H vs cs Q g t r h
  obtain ⟨v, d, rfl, q, h⟩ := o1_ok r h
  cases q with
  | lst h1 h2 =>
    unfold sumD at h
    dsimp only at h
    split at h
    · rename_i ns e
      have := intsOf_dp h2 e
      subst this
      exact ⟨_, ns, rfl, h1, Post.int h g t⟩
    · exact h.elim
  | _ => exact h.elim
def blsOf : List PyData → Option (List Bool)
  | [] => some []
  | .bool i :: ds => (blsOf ds).map (i :: ·)
  | _ :: _ => none
theorem blsOf_dp : ∀ {vs : List V} {ds : List PyData} {ns : List Bool}, DpAll K H vs ds → blsOf ds = some ns → vs = ns.map V.bl
  | _, [], ns, h, e => by cases e; cases h; rfl
  | _, .bool i :: ds, ns, h, e => by
    unfold blsOf at e
    cases q : blsOf ds with
    | none => rw [q] at e; cases e
    | some ms =>
      rw [q] at e
      cases e
      cases h with
      | cons h1 h2 =>
        cases h1
        rw [blsOf_dp h2 q]
        rfl
  | _, .none :: _, _, _, e => by cases e
  | _, .int _ :: _, _, _, e => by cases e
  | _, .str _ :: _, _, _, e => by cases e
  | _, .list _ :: _, _, _, e => by cases e
  | _, .tuple _ :: _, _, _, e => by cases e
  | _, .dict _ :: _, _, _, e => by cases e
theorem blsOf_map : ∀ ns : List Bool, blsOf (ns.map PyData.bool) = some ns
  | [] => rfl
  | n :: ns => by rw [List.map_cons, blsOf, blsOf_map ns]; rfl
def bigD (f : List Bool → Bool) : PyData → M C
  | .list ds => (match blsOf ds with
    | some ns => .ret (.val (.bool (f ns)))
    | none => .fail)
  | _ => .fail
abbrev oAny := o1 (bigD fun bs => bs.any id)
abbrev oAll := o1 (bigD fun bs => bs.all id)
theorem cs_any : CallS K (rAny K) oAny := by
  intro tp H0 H vs cs Q g t r h
  obtain ⟨v, d, rfl, q, h⟩ := o1_ok r h
  cases q with
  | lst h1 h2 =>
    unfold bigD at h
    dsimp only at h
    split at h
    · rename_i ns e
      have := blsOf_dp h2 e
      subst this
      exact ⟨_, ns, rfl, h1, Post.bl h g t⟩
    · exact h.elim
  | _ => exact h.elim
theorem cs_all : CallS K (rAll K) oAll := by
  intro tp H0 H vs cs Q g t r h
  obtain ⟨v, d, rfl, q, h⟩ := o1_ok r h
  cases q with
  | lst h1 h2 =>
    unfold bigD at h
    dsimp only at h
    split at h
    · rename_i ns e
      have := blsOf_dp h2 e
      subst this
      exact ⟨_, ns, rfl, h1, Post.bl h g t⟩
    · exact h.elim
  | _ => exact h.elim
theorem anyK (K : PySem.W.Frag) {X : Cx} (hc : X.calm = true) (h : X.K = K := by rfl) : CallR X (.builtin "any") (rAny K) := h ▸ cr_any hc
theorem allK (K : PySem.W.Frag) {X : Cx} (hc : X.calm = true) (h : X.K = K := by rfl) : CallR X (.builtin "all") (rAll K) := h ▸ cr_all hc
/-! list(x), tuple(x) -/
def oListC : List C → M C
  | [.val (.tuple ds)] => .ret (.own (.lst ds))
  | [c] => (match c.items with
    | some ds => .ret (.own (.lst ds))
    | none => .fail)
  | _ => .fail
def oTupC : List C → M C
  | [.val (.tuple ds)] => .ret (.val (.tuple ds))
  | [c] => (match c.items with
    | some ds => .ret (.val (.tuple ds))
    | none => .fail)
  | _ => .fail
theorem cs_list : CallS K (rListOf K) oListC := by
  intro tp H0 H vs cs Q g t r h
  unfold oListC at h
  split at h
  · obtain ⟨v, rfl, q⟩ := r.one
    obtain ⟨a, us, rfl, q1, q2, q3⟩ := q.tup
    exact ⟨a, us, rfl, .inr q1, fun p hp => Post.lst h g t hp q2 q3⟩
  · obtain ⟨v, rfl, q⟩ := r.one
    split at h
    · rename_i ds e
      obtain ⟨a, us, rfl, q1, q2, q3⟩ := q.rd e
      exact ⟨a, us, rfl, .inl (.inl q1), fun p hp => Post.lst h g t hp q2 q3⟩
    · exact h.elim
  · exact h.elim
theorem cs_tuple : CallS K (rTupOf K) oTupC := by
  intro tp H0 H vs cs Q g t r h
  unfold oTupC at h
  split at h
  · obtain ⟨v, rfl, q⟩ := r.one
    obtain ⟨a, us, rfl, q1, q2, q3⟩ := q.tup
    exact ⟨a, us, rfl, .inr ⟨q1, Post.at_ h g t q⟩⟩
  · obtain ⟨v, rfl, q⟩ := r.one
    split at h
    · rename_i ds e
      obtain ⟨a, us, rfl, q1, q2, q3⟩ := q.rd e
      exact ⟨a, us, rfl, .inl ⟨.inl q1, fun p hp => Post.tup h g t hp q2 q3⟩⟩
    · exact h.elim
  · exact h.elim
/-! math.gcd -/
def oGcd : List C → M C
  | [.val (.int i), .val (.int j)] => .ret (.val (.int ((Nat.gcd i.natAbs j.natAbs : Nat) : Int)))
  | _ => .fail
theorem cs_gcd : CallS K rGcd oGcd := by
  intro tp H0 H vs cs Q g t r h
  unfold oGcd at h
  split at h
  · rename_i i j
    obtain ⟨v, w, rfl, q1, q2⟩ := r.two
    cases q1.int; cases q2.int
    exact ⟨i, j, rfl, Post.int h g t⟩
  · exact h.elim
/-! isinstance(x, T), x flat -/
def isiD (T : String) : PyData → M C
  | .none => (match kitB "NoneType" T with | some b => .ret (.val (.bool b)) | none => .fail)
  | .bool _ => (match kitB "bool" T with | some b => .ret (.val (.bool b)) | none => .fail)
  | .int _ => (match kitB "int" T with | some b => .ret (.val (.bool b)) | none => .fail)
  | .str _ => (match kitB "str" T with | some b => .ret (.val (.bool b)) | none => .fail)
  | _ => .fail
end
end Cs

set_option maxRecDepth 100000
set_option maxHeartbeats 4000000
/-! statements, loops, comprehensions, defs -/
namespace Cs
open PySem PySem.Spec PyProof.Rows L2
inductive Res where
  | nx (ρ : Ro)
  | rt (c : C)
  | bk (ρ : Ro)
  | ct (ρ : Ro)
section
variable {tp : Option (Addr × Addr)} {K : PySem.W.Frag} {H H' H'' H0 H1 He : Hp} {Hq : Hp} {σ : L2.St} {ρ : Ro}
def NxOk (tp : Option (Addr × Addr)) (K : PySem.W.Frag) (He Hq : Hp) (F : L2.St → Hp → Prop) (ρ : Ro) : Prop := ∀ σ' H' Hq', GrT tp Hq Hq' → Rel tp K He Hq' H' σ' ρ → F σ' H'
def PostS (tp : Option (Addr × Addr)) (K : PySem.W.Frag) (He Hq : Hp) (D : Ends) : Res → Prop
  | .nx ρ => NxOk tp K He Hq D.nx ρ
  | .bk ρ => NxOk tp K He Hq D.bk ρ
  | .ct ρ => NxOk tp K He Hq D.ct ρ
  | .rt c => ∀ v H', GrT tp He H' → TOk tp H' → RC tp K He H' v c → D.rt v H'
def RS (K : PySem.W.Frag) (t : TS) (m : Ro → M Res) : Prop := ∀ tp He Hq ρ σ H D, Rel tp K He Hq H σ ρ → wp0 (m ρ) (PostS tp K He Hq D) → t D σ H
theorem NxOk.mono {F : L2.St → Hp → Prop} {Hq2 : Hp} (h : NxOk tp K He Hq F ρ) (g : GrT tp Hq Hq2) : NxOk tp K He Hq2 F ρ := fun σ' H' Hq' g' r => h σ' H' Hq' (g.trans g') r
theorem PostS.mono {D : Ends} {Hq2 : Hp} {r : Res} (h : PostS tp K He Hq D r) (g : GrT tp Hq Hq2) : PostS tp K He Hq2 D r := by
  cases r with
  | nx ρ => exact NxOk.mono h g
  | bk ρ => exact NxOk.mono h g
  | ct ρ => exact NxOk.mono h g
  | rt c => exact h
/-! ### blocks -/
def mNext (ρ : Ro) : M Res := .ret (.nx ρ)
def mSeq (m n : Ro → M Res) (ρ : Ro) : M Res := (m ρ).bind fun r => match r with
  | .nx ρ' => n ρ'
  | r => .ret r
def mBreak (ρ : Ro) : M Res := .ret (.bk ρ)
def mCont (ρ : Ro) : M Res := .ret (.ct ρ)
theorem rs_next : RS K tNext mNext := fun tp He Hq ρ σ H D r h => h σ H Hq .refl r
theorem rs_break : RS K tBreak mBreak := fun tp He Hq ρ σ H D r h => h σ H Hq .refl r
theorem rs_cont : RS K tCont mCont := fun tp He Hq ρ σ H D r h => h σ H Hq .refl r
theorem rs_seq {t u : TS} {m n : Ro → M Res} (h1 : RS K t m) (h2 : RS K u n) : RS K (tSeq t u) (mSeq m n) := by
  intro tp He Hq ρ σ H D r h
  refine h1 tp He Hq ρ σ H _ r (wp0_mono (fun q hq => ?_) (wp0_bind.mp h))
  cases q with
  | nx ρ' => exact fun σ' H' Hq' g' r' => h2 tp He Hq' ρ' σ' H' D r' (wp0_mono (fun q hq => hq.mono g') hq)
  | bk ρ' => exact hq
  | ct ρ' => exact hq
  | rt c => exact hq
def mDrop (g : Ro → M C) (ρ : Ro) : M Res := (g ρ).bind fun _ => .ret (.nx ρ)
theorem rs_drop {te : TE} {g : Ro → M C} (h1 : RE K te g) : RS K (tDrop te) (mDrop g) := by
  intro tp He Hq ρ σ H D r h
  refine h1 tp He Hq ρ σ H _ r (wp0_mono (fun c hc => ?_) (wp0_bind.mp h))
  intro x H1 g1 t1 rx
  exact hc σ H1 Hq .refl (r.go g1 t1)
def mRet (g : Ro → M C) (ρ : Ro) : M Res := (g ρ).bind fun c => .ret (.rt c)
theorem rs_ret {te : TE} {g : Ro → M C} (h1 : RE K te g) : RS K (tRet te) (mRet g) := by
  intro tp He Hq ρ σ H D r h
  refine h1 tp He Hq ρ σ H _ r (wp0_mono (fun c hc => ?_) (wp0_bind.mp h))
  intro x H1 g1 t1 rx
  exact hc x H1 ((r.sub.trans r.gr).trans g1) t1 (rx.base (r.sub.trans r.gr) r.tok)
/-- return of a name: what is the def's own is handed over -/
def mRetV (i : Nat) (ρ : Ro) : M Res := match ρ[i]? with
  | some (some c) => .ret (.rt c)
  | _ => .fail
theorem rs_retV {i : Nat} : RS K (tRet (tVar i)) (mRetV i) := by
  intro tp He Hq ρ σ H D r h
  unfold mRetV at h
  split at h
  · rename_i c e
    obtain ⟨v, h1, h2⟩ := r.at_ i c e
    refine ⟨v, h1, h v H (r.sub.trans r.gr) r.tok ?_⟩
    cases c with
    | val d => exact h2
    | own o =>
      obtain ⟨a, e, f, n, h⟩ := h2
      refine ⟨a, e, ?_, n, h⟩
      cases q : He a with
      | none => rfl
      | some o =>
        rw [r.sub a o q n.ne] at f
        cases f
    | bor o =>
      obtain ⟨a, e, h⟩ := h2
      exact ⟨a, e, r.bor h⟩
    | tape => exact h2
  · exact h.elim
def mRetN (_ : Ro) : M Res := .ret (.rt (.val .none))
theorem rs_retN : RS K tRetN mRetN := fun tp He Hq ρ σ H D r h => h .non H (r.sub.trans r.gr) r.tok ⟨.non, rfl⟩
def mIf (gc : Ro → M Bool) (m n : Ro → M Res) (ρ : Ro) : M Res := (gc ρ).bind fun b => if b = true then m ρ else n ρ
theorem rs_if {c : TT} {t u : TS} {gc : Ro → M Bool} {m n : Ro → M Res} (hc : RT K c gc) (h1 : RS K t m) (h2 : RS K u n) : RS K (tIfS c t u) (mIf gc m n) := by
  intro tp He Hq ρ σ H D r h
  refine hc tp He Hq ρ σ H _ r (wp0_mono (fun b hb => ?_) (wp0_bind.mp h))
  intro H1 g1 t1
  cases b with
  | true =>
    rw [if_pos rfl] at hb ⊢
    exact h1 tp He Hq ρ σ H1 D (r.go g1 t1) hb
  | false =>
    rw [if_neg Bool.false_ne_true] at hb ⊢
    exact h2 tp He Hq ρ σ H1 D (r.go g1 t1) hb
/-! ### targets -/
def asgR (i : Nat) (c : C) (ρ : Ro) : M Ro := match ρ[i]? with
  | some _ => (match c with
    | .val d => .ret (ρ.set i (some (.val d)))
    | .own o => .ret (ρ.set i (some (.own o)))
    | _ => .fail)
  | none => .fail
theorem Rel.put {v : V} {c : C} {i : Nat} (r : Rel tp K He Hq H σ ρ) (s : SR tp K Hq H v c) (d : ∀ (a : Addr) (o : PO), c = .own o → v = .ref a → ∀ (j : Nat) (o' : PO), ρ[j]? = some (some (.own o')) → σ[j]? ≠ some (some (.ref a))) :
    Rel tp K He Hq H (σ.set i (some v)) (ρ.set i (some c)) := by
  refine ⟨by rw [List.length_set, List.length_set, r.len], fun j c' e => ?_, fun j k a o o' e1 e2 e3 e4 => ?_, r.sub, r.gr, r.tok, r.he⟩
  · by_cases hij : i = j
    · subst hij
      have hl : i < ρ.length := by
        have := (List.getElem?_eq_some_iff.mp e).1
        rwa [List.length_set] at this
      rw [List.getElem?_set_self hl] at e
      cases e
      exact ⟨v, List.getElem?_set_self (by rw [r.len]; exact hl), s⟩
    · rw [List.getElem?_set_ne hij] at e
      obtain ⟨u, h1, h2⟩ := r.at_ j c' e
      exact ⟨u, by rw [List.getElem?_set_ne hij]; exact h1, h2⟩
  · by_cases hij : i = j
    · subst hij
      by_cases hik : i = k
      · exact hik
      · have hl : i < ρ.length := by
          have := (List.getElem?_eq_some_iff.mp e1).1
          rwa [List.length_set] at this
        rw [List.getElem?_set_self hl] at e1
        rw [List.getElem?_set_self (by rw [r.len]; exact hl)] at e3
        rw [List.getElem?_set_ne hik] at e2 e4
        have e1' : c = .own o := by simpa using e1
        have e3' : v = .ref a := by simpa using e3
        exact absurd e4 (d a o e1' e3' k o' e2)
    · rw [List.getElem?_set_ne hij] at e1 e3
      by_cases hik : i = k
      · subst hik
        have hl : i < ρ.length := by
          have := (List.getElem?_eq_some_iff.mp e2).1
          rwa [List.length_set] at this
        rw [List.getElem?_set_self hl] at e2
        rw [List.getElem?_set_self (by rw [r.len]; exact hl)] at e4
        have e2' : c = .own o' := by simpa using e2
        have e4' : v = .ref a := by simpa using e4
        exact absurd e3 (d a o' e2' e4' j o e1)
      · rw [List.getElem?_set_ne hik] at e2 e4
        exact r.dist j k a o o' e1 e2 e3 e4
/-- only the slots sl are stored to -/
def Off (sl : List Nat) (σ σ' : L2.St) : Prop := σ'.length = σ.length ∧ ∀ j : Nat, j ∉ sl → σ'[j]? = σ[j]?
theorem Off.refl {sl : List Nat} {σ : L2.St} : Off sl σ σ := ⟨rfl, fun _ _ => rfl⟩
theorem Off.trans {s1 s2 : List Nat} {σ σ1 σ2 : L2.St} (h : Off s1 σ σ1) (q : Off s2 σ1 σ2) : Off (s1 ++ s2) σ σ2 :=
  ⟨q.1.trans h.1, fun j hj => by
    simp only [List.mem_append, not_or] at hj
    rw [q.2 j hj.2, h.2 j hj.1]⟩
def RG (K : PySem.W.Frag) (g : TG) (a : C → Ro → M Ro) (sl : List Nat) : Prop := ∀ tp He Hq ρ σ Hb H v c (Q : L2.St → Hp → Prop), Rel tp K He Hq Hb σ ρ → GrT tp Hb H → TOk tp H → RC tp K Hb H v c → wp0 (a c ρ) (fun ρ' => ∀ σ', Off sl σ σ' → Rel tp K He Hq H σ' ρ' → Q σ' H) → g v σ H Q
theorem RC.sr {Hb : Hp} {v : V} {c : C} (r : Rel tp K He Hq Hb σ ρ) (h : RC tp K Hb H v c) (n : ∀ o, c ≠ .bor o) : SR tp K Hq H v c := by
  cases c with
  | val d => exact h
  | own o =>
    obtain ⟨a, e, f, k, h⟩ := h
    exact ⟨a, e, r.gr.free r.tok f, k, h⟩
  | bor o => exact absurd rfl (n o)
  | tape => exact h
theorem rg_name {i : Nat} : RG K (gName i) (asgR i) [i] := by
  have off : ∀ {σ : L2.St} {v : V}, Off [i] σ (σ.set i (some v)) := fun {σ v} => ⟨List.length_set, fun j hj => List.getElem?_set_ne (fun z => hj (by simp [z]))⟩
  intro tp He Hq ρ σ Hb H v c Q r g t rc h
  unfold asgR at h
  split at h
  · split at h
    · rename_i d
      exact h _ off ((r.go g t).put (rc.sr r (fun _ z => by cases z)) (fun _ _ z => by cases z))
    · rename_i o
      refine h _ off ((r.go g t).put (rc.sr r (fun _ z => by cases z)) (fun a o2 z e j o' hj hs => ?_))
      obtain ⟨a', e', f, n, q⟩ := rc
      obtain ⟨u, hu, hr⟩ := r.at_ j _ hj
      obtain ⟨b, eb, _, _, qb⟩ := hr
      rw [hs] at hu
      cases hu
      cases eb
      rw [e] at e'
      cases e'
      cases o' with
      | lst ds =>
        obtain ⟨vs, h1, _⟩ := qb
        rw [f] at h1
        cases h1
    · exact h.elim
  · exact h.elim
def RGs (K : PySem.W.Frag) (g : TGs) (a : List PyData → Ro → M Ro) (sl : List Nat) : Prop := ∀ tp He Hq ρ σ H vs ds (Q : L2.St → Hp → Prop), Rel tp K He Hq H σ ρ → DpAll K H vs ds → lfAll ds = true → wp0 (a ds ρ) (fun ρ' => ∀ σ', Off sl σ σ' → Rel tp K He Hq H σ' ρ' → Q σ' H) → g vs σ H Q
def aNil : List PyData → Ro → M Ro
  | [], ρ => .ret ρ
  | _, _ => .fail
def aCons (a : C → Ro → M Ro) (as : List PyData → Ro → M Ro) : List PyData → Ro → M Ro
  | d :: ds, ρ => (a (.val d) ρ).bind fun ρ' => as ds ρ'
  | [], _ => .fail
def aTup (n : Nat) (as : List PyData → Ro → M Ro) : C → Ro → M Ro
  | .val (.tuple ds), ρ => if ds.length = n then as ds ρ else .fail
  | _, _ => .fail
theorem rgs_nil : RGs K gNil aNil [] := by
  intro tp He Hq ρ σ H vs ds Q r hd f h
  unfold aNil at h
  split at h
  · cases hd
    exact ⟨rfl, h σ .refl r⟩
  · exact h.elim
theorem rgs_cons {g : TG} {gs : TGs} {a : C → Ro → M Ro} {as : List PyData → Ro → M Ro} {s1 s2 : List Nat} (h1 : RG K g a s1) (h2 : RGs K gs as s2) : RGs K (gCons g gs) (aCons a as) (s1 ++ s2) := by
  intro tp He Hq ρ σ H vs ds Q r hd f h
  unfold aCons at h
  split at h
  · rename_i d ds
    simp only [lfAll, Bool.and_eq_true] at f
    cases hd with
    | cons q1 q2 =>
      refine ⟨_, _, rfl, h1 tp He Hq ρ σ H H _ (.val d) _ r .refl r.tok ⟨q1, f.1⟩ (wp0_mono (fun ρ' hρ => ?_) (wp0_bind.mp h))⟩
      intro σ' o' r'
      exact h2 tp He Hq ρ' σ' H _ ds Q r' q2 f.2 (wp0_mono (fun ρ2 h2 σ2 o2 r2 => h2 σ2 (o'.trans o2) r2) hρ)
  · exact h.elim
theorem rg_tup {n : Nat} {gs : TGs} {as : List PyData → Ro → M Ro} {sl : List Nat} (h2 : RGs K gs as sl) : RG K (gTup K n gs) (aTup n as) sl := by
  intro tp He Hq ρ σ Hb H v c Q r g t rc h
  unfold aTup at h
  split at h
  · rename_i ds
    obtain ⟨a, vs, rfl, q1, q2, q3⟩ := rc.tup
    split at h
    · rename_i e
      exact ⟨a, vs, rfl, q1, by rw [q2.len]; exact e, h2 tp He Hq ρ σ H vs ds Q (r.go g t) q2 q3 h⟩
    · exact h.elim
  · exact h.elim
def mAsg (g : Ro → M C) (a : C → Ro → M Ro) (ρ : Ro) : M Res := (g ρ).bind fun c => (a c ρ).bind fun ρ' => .ret (.nx ρ')
theorem rs_asg {te : TE} {g : TG} {ge : Ro → M C} {a : C → Ro → M Ro} {sl : List Nat} (h1 : RE K te ge) (h2 : RG K g a sl) : RS K (tAsg te g) (mAsg ge a) := by
  intro tp He Hq ρ σ H D r h
  refine h1 tp He Hq ρ σ H _ r (wp0_mono (fun c hc => ?_) (wp0_bind.mp h))
  intro x H1 g1 t1 rx
  exact h2 tp He Hq ρ σ H H1 x c _ r g1 t1 rx (wp0_mono (fun ρ' hρ σ' _ r' => hρ σ' H1 Hq .refl r') (wp0_bind.mp hc))
/-- a, b = x, y -/
def mPar (i j : Nat) (gs : Ro → M (List C)) (ρ : Ro) : M Res := (gs ρ).bind fun cs => match cs with
  | [c, d] => (asgR i c ρ).bind fun ρ1 => (match d with
    | .own _ => (.fail : M Res)
    | d => (asgR j d ρ1).bind fun ρ2 => .ret (.nx ρ2))
  | _ => .fail
theorem rs_par {i j : Nat} {ta : TA} {gs : Ro → M (List C)} (h1 : RA K ta gs) : RS K (tPar2 i j ta) (mPar i j gs) := by
  intro tp He Hq ρ σ H D r h
  refine h1 tp He Hq ρ σ H _ r (wp0_mono (fun cs hc => ?_) (wp0_bind.mp h))
  intro vs H1 g1 t1 rx
  split at hc
  · rename_i c d
    obtain ⟨v, w, rfl, q1, q2⟩ := rx.two
    refine ⟨v, w, rfl, rg_name tp He Hq ρ σ H H1 v c _ r g1 t1 q1 (wp0_mono (fun ρ1 h2 σ1 _ r1 => ?_) (wp0_bind.mp hc))⟩
    split at h2
    · exact h2.elim
    · rename_i n
      have q3 : RC tp K H1 H1 w d := by
        cases d with
        | own o => exact absurd rfl (n o)
        | val d => exact q2
        | bor d => exact q2
        | tape => exact q2
      exact rg_name tp He Hq ρ1 σ1 H1 H1 w d _ r1 .refl t1 q3 (wp0_mono (fun ρ2 h3 σ2 _ r2 => h3 σ2 H1 Hq .refl r2) (wp0_bind.mp h2))
  · exact hc.elim
/-! ### a list of one's own is changed -/
def setOwn (i : Nat) (ds : List PyData) (ρ : Ro) : Ro := ρ.set i (some (.own (.lst ds)))
theorem Rel.own {i : Nat} {ds ds' : List PyData} {vs' : List V} (r : Rel tp K He Hq H σ ρ) (e : ρ[i]? = some (some (.own (.lst ds)))) : ∃ a vs, σ[i]? = some (some (.ref a)) ∧ H a = some (.lst vs) ∧ DpAll K H vs ds ∧ lfAll ds = true ∧
    (∀ vs' ds', DpAll K H vs' ds' → lfAll ds' = true → Rel tp K He Hq (upd H a (.lst vs')) σ (setOwn i ds' ρ)) := by
  obtain ⟨v, h1, a, e2, f, n, vs, h2, h3, h4⟩ := r.at_ i _ e
  subst e2
  refine ⟨a, vs, h1, h2, h3, h4, fun vs' ds' hd hf => ?_⟩
  have im : Im H (upd H a (.lst vs')) := Im.set h2
  have hl : i < ρ.length := (List.getElem?_eq_some_iff.mp e).1
  refine ⟨by unfold setOwn; rw [List.length_set, r.len], fun j c ej => ?_, fun j k b o o' e1 e2 e3 e4 => ?_, r.sub, fun b o eb nb => ?_, fun t l et => ?_, r.he⟩
  · unfold setOwn at ej
    by_cases hij : i = j
    · subst hij
      rw [List.getElem?_set_self hl] at ej
      cases ej
      exact ⟨_, h1, a, rfl, f, n, vs', upd_same, hd.imlf im ds' _ hf, hf⟩
    · rw [List.getElem?_set_ne hij] at ej
      obtain ⟨u, q1, q2⟩ := r.at_ j c ej
      refine ⟨u, q1, ?_⟩
      cases c with
      | val d => exact ⟨q2.1.imlf im d _ q2.2, q2.2⟩
      | own o =>
        obtain ⟨b, eb, fb, nb, q⟩ := q2
        have hne : b ≠ a := fun z => by
          subst z
          subst eb
          exact hij (r.dist i j b _ _ e ej h1 q1)
        refine ⟨b, eb, fb, nb, ?_⟩
        cases o with
        | lst es =>
          obtain ⟨us, p1, p2, p3⟩ := q
          exact ⟨us, by rw [upd_ne hne]; exact p1, p2.imlf im es _ p3, p3⟩
      | bor o => exact q2
      | tape => exact q2
  · have own_of : ∀ {m : Nat} {o : PO}, (setOwn i ds' ρ)[m]? = some (some (.own o)) → ∃ o, ρ[m]? = some (some (.own o)) := fun {m o} em => by
      unfold setOwn at em
      by_cases him : i = m
      · subst him; exact ⟨_, e⟩
      · rw [List.getElem?_set_ne him] at em; exact ⟨_, em⟩
    obtain ⟨o1, e1'⟩ := own_of e1
    obtain ⟨o2, e2'⟩ := own_of e2
    exact r.dist j k b o1 o2 e1' e2' e3 e4
  · have hne : b ≠ a := fun z => by subst z; rw [f] at eb; cases eb
    rw [upd_ne hne]
    exact r.gr b o eb nb
  · exact (r.tok t l et).upd (n t l et).1 (n t l et).2
end
end Cs

set_option maxRecDepth 100000
set_option maxHeartbeats 4000000
/-! what is walked; for, while, comprehensions -/
namespace Cs
open PySem PySem.Spec PyProof.Rows L2
/-- a list, a tuple or a text, walked -/
def iSeq (K : PySem.W.Frag) (tl : TE) : TI := fun σ H R => tl σ H fun x H1 => (∃ a, x = .ref a ∧ (∃ xs, SqL K H1 a xs) ∧ R (Itl K a) H1) ∨ (∃ a, x = .ref a ∧ (∃ xs, SqT K H1 a xs) ∧ R (Itt K a) H1) ∨ (∃ z, x = .str z ∧ R (Its z) H1)
theorem pi_seq (K : PySem.W.Frag) {X : Cx} {tg l : Expr} {tl : TE} (hl : PE X l tl) (h : X.K = K := by rfl) : PI X tg l (iSeq K tl) := by
  subst h
  refine ⟨fun pins s σ H R I h => ?_⟩
  refine thn (hl.run pins s σ H _ I h) fun v s1 ⟨x, H1, I1, r1, q1⟩ => ?_
  rcases q1 with ⟨a, e, ⟨xs, hq⟩, q⟩ | ⟨a, e, ⟨xs, hq⟩, q⟩ | ⟨z, e, q⟩
  · subst e
    cases r1
    obtain ⟨its, rv, p, hz⟩ := I1.list hq
    refine wpAny_pyIter_list p.isList ?_
    refine ⟨s1.heap.objs.size, [s1.heap.objs.size], _, _, H1, rfl, I1.kept (t' := s1.toks) fun b o e => Heap.get?_push_of_some _ e, turn_list a _, ⟨_, Heap.get?_push_size _ rfl, rfl, rfl⟩, fun b hb => ?_, q⟩
    have e : b = s1.heap.objs.size := by simpa using hb
    subst e
    exact I1.fpOk (Nat.le_refl _) (I1.hok.fresh (Nat.le_refl _))
  · subst e
    cases r1
    obtain ⟨its, rv, p, hz⟩ := I1.tuple hq
    refine wpAny_pyIter_tuple (show s1.heap.IsTuple a its.toArray from p) ?_
    refine ⟨s1.heap.objs.size, [s1.heap.objs.size], _, _, H1, rfl, I1.kept (t' := s1.toks) fun b o e => Heap.get?_push_of_some _ e, turn_tuple a _, ⟨_, Heap.get?_push_size _ rfl, rfl, rfl⟩, fun b hb => ?_, q⟩
    have e : b = s1.heap.objs.size := by simpa using hb
    subst e
    exact I1.fpOk (Nat.le_refl _) (I1.hok.fresh (Nat.le_refl _))
  · subst e
    obtain ⟨t, rfl⟩ := r1
    cases ha : z.cps.all (· < 128)
    · exact wpAny_pyIter_wide ha (pi_one (tk := s1.toks) I1 _ (turn_str _ z t "str_iterator" (.inr rfl)) ⟨_, Heap.get?_push_size _ rfl, rfl, rfl⟩ q)
    · exact wpAny_pyIter_ascii ha (pi_one (tk := s1.toks) I1 _ (turn_str _ z t "str_ascii_iterator" (.inl rfl)) ⟨_, Heap.get?_push_size _ rfl, rfl, rfl⟩ q)
section
variable {tp : Option (Addr × Addr)} {K : PySem.W.Frag} {H H' H'' H0 H1 He : Hp} {Hq : Hp} {σ : L2.St} {ρ : Ro}
/-- the walk J yields the data ds, while tuples stay and what stands at pa stays -/
def Wk (K : PySem.W.Frag) (H1 : Hp) (J : It) (pa : List Addr) (ds : List PyData) : Prop := ∀ H', Im H1 H' → (∀ p ∈ pa, ∀ o, H1 p = some o → H' p = some o) →
  J.stop ds.length H' ∧ ∀ (i : Nat) (d : PyData), ds[i]? = some d → J.go i H' ∧ ∀ x H'', J.yld i H' x H'' → Same H' H'' ∧ Dp K H'' x d
theorem wk_list {a : Addr} {vs : List V} {ds : List PyData} (h : Rd H1 a (.lst vs)) (hd : DpAll K H1 vs ds) (f : lfAll ds = true) : Wk K H1 (Itl K a) [a] ds := by
  intro H' im kp
  have hs : SqL K H' a vs := by
    rcases h with h | ⟨o, h⟩
    · exact .inl (.inl (kp a (by simp) _ h))
    · exact .inl (.inr ⟨o, im.frz _ _ _ h⟩)
  have hd' := hd.imlf im ds _ f
  refine ⟨⟨vs, hs, by rw [hd.len]; exact Nat.le_refl _⟩, fun i d e => ?_⟩
  obtain ⟨v, h1, h2⟩ := hd'.get e
  refine ⟨⟨vs, v, hs, h1⟩, fun x H'' y => ?_⟩
  obtain ⟨e1, y⟩ := y
  subst e1
  have := y vs hs
  rw [h1] at this
  cases this
  exact ⟨fun _ _ e => e, h2⟩
theorem wk_tup {a : Addr} {vs : List V} {ds : List PyData} (h : SqT K H1 a vs) (hd : DpAll K H1 vs ds) (f : lfAll ds = true) : Wk K H1 (Itt K a) [] ds := by
  intro H' im kp
  have hs : SqT K H' a vs := im.sqT h
  have hd' := hd.imlf im ds _ f
  refine ⟨⟨vs, hs, by rw [hd.len]; exact Nat.le_refl _⟩, fun i d e => ?_⟩
  obtain ⟨v, h1, h2⟩ := hd'.get e
  refine ⟨⟨vs, v, hs, h1⟩, fun x H'' y => ?_⟩
  obtain ⟨e1, y⟩ := y
  subst e1
  have := y vs hs
  rw [h1] at this
  cases this
  exact ⟨fun _ _ e => e, h2⟩
def signsD (z : Str) : List PyData := z.cps.toList.map fun c => .str ⟨#[c]⟩
theorem lf_signs (z : Str) : lfAll (signsD z) = true := lfAll_iff.mpr fun d m => by
  obtain ⟨c, _, rfl⟩ := List.mem_map.mp m
  rfl
theorem wk_str {z : Str} : Wk K H1 (Its z) [] (signsD z) := by
  intro H' im kp
  refine ⟨show z.cps.size ≤ (signsD z).length by simp [signsD], fun i d e => ?_⟩
  unfold signsD at e
  rw [List.getElem?_map] at e
  cases q : z.cps.toList[i]? with
  | none => rw [q] at e; cases e
  | some c =>
    rw [q] at e
    cases e
    have hi := (List.getElem?_eq_some_iff.mp q).1
    refine ⟨show i < z.cps.size by simpa using hi, fun x H'' y => ?_⟩
    obtain ⟨e1, c', hc, e2⟩ := y
    subst e1 e2
    have q' : z.cps[i]? = some c := by simpa using q
    rw [q'] at hc
    cases hc
    exact ⟨fun _ _ e => e, .str _⟩
def rngD (lo c : Int) (n : Nat) : List PyData := (List.range n).map fun i => .int (lo + (i : Nat) * c)
theorem lf_rng (lo c : Int) (n : Nat) : lfAll (rngD lo c n) = true := lfAll_iff.mpr fun d m => by
  obtain ⟨c, _, rfl⟩ := List.mem_map.mp m
  rfl
theorem rngD_get {lo c : Int} {n i : Nat} {d : PyData} (e : (rngD lo c n)[i]? = some d) : i < n ∧ d = .int (lo + (i : Nat) * c) := by
  unfold rngD at e
  rw [List.getElem?_map] at e
  cases q : (List.range n)[i]? with
  | none => rw [q] at e; cases e
  | some j =>
    rw [q] at e
    cases e
    have hi := (List.getElem?_eq_some_iff.mp q).1
    rw [List.getElem?_range (by simpa using hi)] at q
    cases q
    exact ⟨by simpa using hi, rfl⟩
theorem wk_rng {lo : Int} {n : Nat} : Wk K H1 (Itr lo n) [] (rngD lo 1 n) := by
  intro H' im kp
  refine ⟨show n ≤ (rngD lo 1 n).length by simp [rngD], fun i d e => ?_⟩
  obtain ⟨h1, rfl⟩ := rngD_get e
  refine ⟨h1, fun x H'' y => ?_⟩
  obtain ⟨e1, e2⟩ := y
  subst e1 e2
  rw [Int.mul_one]
  exact ⟨fun _ _ e => e, .int _⟩
theorem wk_rngC {lo c : Int} {n : Nat} : Wk K H1 (Itc lo c n) [] (rngD lo c n) := by
  intro H' im kp
  refine ⟨show n ≤ (rngD lo c n).length by simp [rngD], fun i d e => ?_⟩
  obtain ⟨h1, rfl⟩ := rngD_get e
  refine ⟨h1, fun x H'' y => ?_⟩
  obtain ⟨e1, e2⟩ := y
  subst e1 e2
  exact ⟨fun _ _ e => e, .int _⟩
theorem lf_rev {ds : List PyData} (f : lfAll ds = true) : lfAll ds.reverse = true := lfAll_iff.mpr fun d m => lfAll_iff.mp f d (List.mem_reverse.mp m)
theorem rev_get {ds : List PyData} {i : Nat} {d : PyData} (e : ds.reverse[i]? = some d) : i < ds.length ∧ ds[ds.length - 1 - i]? = some d := by
  have hi : i < ds.length := by have := (List.getElem?_eq_some_iff.mp e).1; simpa using this
  rw [List.getElem?_reverse hi] at e
  exact ⟨hi, e⟩
theorem wk_revT {a : Addr} {vs : List V} {ds : List PyData} (h : SqT K H1 a vs) (hd : DpAll K H1 vs ds) (f : lfAll ds = true) : Wk K H1 (RT.ItvT K a vs.length) [] ds.reverse := by
  intro H' im kp
  have hs : SqT K H' a vs := im.sqT h
  have hd' := hd.imlf im ds _ f
  refine ⟨show vs.length ≤ ds.reverse.length by rw [hd.len, List.length_reverse]; exact Nat.le_refl _, fun i d e => ?_⟩
  obtain ⟨hi, e⟩ := rev_get e
  obtain ⟨v, h1, h2⟩ := hd'.get e
  rw [← hd.len] at h1 hi
  refine ⟨⟨hi, vs, v, hs, h1⟩, fun x H'' y => ?_⟩
  obtain ⟨e1, y⟩ := y
  subst e1
  have := y vs hs
  rw [h1] at this
  cases this
  exact ⟨fun _ _ e => e, h2⟩
theorem wk_revL {a : Addr} {vs : List V} {ds : List PyData} (h : Rd H1 a (.lst vs)) (hd : DpAll K H1 vs ds) (f : lfAll ds = true) : Wk K H1 (Itv K a vs.length) [a] ds.reverse := by
  intro H' im kp
  have hs : SqL K H' a vs := by
    rcases h with h | ⟨o, h⟩
    · exact .inl (.inl (kp a (by simp) _ h))
    · exact .inl (.inr ⟨o, im.frz _ _ _ h⟩)
  have hd' := hd.imlf im ds _ f
  refine ⟨show vs.length ≤ ds.reverse.length by rw [hd.len, List.length_reverse]; exact Nat.le_refl _, fun i d e => ?_⟩
  obtain ⟨hi, e⟩ := rev_get e
  obtain ⟨v, h1, h2⟩ := hd'.get e
  rw [← hd.len] at h1 hi
  refine ⟨⟨hi, vs, v, hs, h1⟩, fun x H'' y => ?_⟩
  obtain ⟨e1, y⟩ := y
  subst e1
  have := y vs hs
  rw [h1] at this
  cases this
  exact ⟨fun _ _ e => e, h2⟩
/-! ### the sources -/
def OwnFree (σ : L2.St) (ρ : Ro) (pa : List Addr) : Prop := ∀ (p : Addr) (j : Nat) (o : PO), p ∈ pa → ρ[j]? = some (some (.own o)) → σ[j]? ≠ some (some (.ref p))
def RI (K : PySem.W.Frag) (s : Bool) (wi : TI) (its : Ro → M (List PyData)) : Prop := ∀ tp He Hq ρ σ H (Q : It → Hp → Prop), Rel tp K He Hq H σ ρ →
  wp0 (its ρ) (fun ds => ∀ J H1 pa, GrT tp H H1 → TOk tp H1 → lfAll ds = true → Wk K H1 J pa ds → (∀ p ∈ pa, tp.map (·.1) ≠ some p) → (s = true → OwnFree σ ρ pa) → Q J H1) → wi σ H Q
def itD : C → M (List PyData)
  | .val (.tuple ds) => .ret ds
  | .val (.str z) => .ret (signsD z)
  | .own (.lst ds) => .ret ds
  | _ => .fail
/-- a thing made in place -/
def gIt (g : Ro → M C) (ρ : Ro) : M (List PyData) := (g ρ).bind itD
theorem Rel.nown (r : Rel tp K He Hq H σ ρ) {p : Addr} (h : H p = none) {j : Nat} {o : PO} (e : ρ[j]? = some (some (.own o))) : σ[j]? ≠ some (some (.ref p)) := fun hs => by
  obtain ⟨v, h1, a, e2, _, _, q⟩ := r.at_ j _ e
  rw [hs] at h1
  cases h1
  cases e2
  cases o with
  | lst ds =>
    obtain ⟨vs, h3, _⟩ := q
    rw [h] at h3
    cases h3
theorem ri_seq {te : TE} {g : Ro → M C} {s : Bool} (h1 : RE K te g) : RI K s (iSeq K te) (gIt g) := by
  intro tp He Hq ρ σ H Q r h
  refine h1 tp He Hq ρ σ H _ r (wp0_mono (fun c hc => ?_) (wp0_bind.mp h))
  intro x H1 g1 t1 rx
  unfold itD at hc
  split at hc
  · rename_i ds
    obtain ⟨a, vs, rfl, q1, q2, q3⟩ := rx.tup
    exact .inr (.inl ⟨a, rfl, ⟨vs, q1⟩, hc _ H1 [] g1 t1 q3 (wk_tup q1 q2 q3) (fun _ m => by simp at m) (fun _ _ _ _ m => by simp at m)⟩)
  · rename_i z
    cases rx.str
    exact .inr (.inr ⟨z, rfl, hc _ H1 [] g1 t1 (lf_signs z) wk_str (fun _ m => by simp at m) (fun _ _ _ _ m => by simp at m)⟩)
  · rename_i ds
    obtain ⟨a, rfl, f, n, vs, q1, q2, q3⟩ := rx
    refine .inl ⟨a, rfl, ⟨vs, SqL.of q1⟩, hc _ H1 [a] g1 t1 q3 (wk_list (.inl q1) q2 q3) (fun p m => ?_) (fun _ p j o m e => ?_)⟩
    · have : p = a := by simpa using m
      subst this
      exact n.ne
    · have : p = a := by simpa using m
      subst this
      exact r.nown f e
  · exact hc.elim
/-- a name -/
def itV : C → M (List PyData)
  | .val (.tuple ds) => .ret ds
  | .val (.str z) => .ret (signsD z)
  | .bor (.lst ds) => .ret ds
  | .own (.lst ds) => .ret ds
  | _ => .fail
def itVs : C → M (List PyData)
  | .val (.tuple ds) => .ret ds
  | .val (.str z) => .ret (signsD z)
  | .bor (.lst ds) => .ret ds
  | _ => .fail
def gItV (s : Bool) (i : Nat) (ρ : Ro) : M (List PyData) := match ρ[i]? with
  | some (some c) => if s = true then itVs c else itV c
  | _ => .fail
theorem ri_var {i : Nat} {s : Bool} : RI K s (iSeq K (tVar i)) (gItV s i) := by
  intro tp He Hq ρ σ H Q r h
  unfold gItV at h
  split at h
  · rename_i c e
    obtain ⟨v, h1, h2⟩ := r.at_ i c e
    refine ⟨v, h1, ?_⟩
    have tup : ∀ {ds : List PyData}, SR tp K Hq H v (.val (.tuple ds)) → wp0 (.ret ds : M (List PyData)) (fun ds => ∀ J H1 pa, GrT tp H H1 → TOk tp H1 → lfAll ds = true → Wk K H1 J pa ds → (∀ p ∈ pa, tp.map (·.1) ≠ some p) → (s = true → OwnFree σ ρ pa) → Q J H1) → (∃ a, v = .ref a ∧ (∃ xs, SqL K H a xs) ∧ Q (Itl K a) H) ∨ (∃ a, v = .ref a ∧ (∃ xs, SqT K H a xs) ∧ Q (Itt K a) H) ∨ (∃ z, v = .str z ∧ Q (Its z) H) := fun {ds} h2 h => by
      have h2' : RC tp K H H v (.val (.tuple ds)) := h2
      obtain ⟨a, vs, rfl, q1, q2, q3⟩ := h2'.tup
      exact .inr (.inl ⟨a, rfl, ⟨vs, q1⟩, h _ H [] .refl r.tok q3 (wk_tup q1 q2 q3) (fun _ m => by simp at m) (fun _ _ _ _ m => by simp at m)⟩)
    have str : ∀ {z : Str}, SR tp K Hq H v (.val (.str z)) → wp0 (.ret (signsD z) : M (List PyData)) (fun ds => ∀ J H1 pa, GrT tp H H1 → TOk tp H1 → lfAll ds = true → Wk K H1 J pa ds → (∀ p ∈ pa, tp.map (·.1) ≠ some p) → (s = true → OwnFree σ ρ pa) → Q J H1) → (∃ a, v = .ref a ∧ (∃ xs, SqL K H a xs) ∧ Q (Itl K a) H) ∨ (∃ a, v = .ref a ∧ (∃ xs, SqT K H a xs) ∧ Q (Itt K a) H) ∨ (∃ z, v = .str z ∧ Q (Its z) H) := fun {z} h2 h => by
      have h2' : RC tp K H H v (.val (.str z)) := h2
      cases h2'.str
      exact .inr (.inr ⟨z, rfl, h _ H [] .refl r.tok (lf_signs z) wk_str (fun _ m => by simp at m) (fun _ _ _ _ m => by simp at m)⟩)
    have bor : ∀ {ds : List PyData}, SR tp K Hq H v (.bor (.lst ds)) → wp0 (.ret ds : M (List PyData)) (fun ds => ∀ J H1 pa, GrT tp H H1 → TOk tp H1 → lfAll ds = true → Wk K H1 J pa ds → (∀ p ∈ pa, tp.map (·.1) ≠ some p) → (s = true → OwnFree σ ρ pa) → Q J H1) → (∃ a, v = .ref a ∧ (∃ xs, SqL K H a xs) ∧ Q (Itl K a) H) ∨ (∃ a, v = .ref a ∧ (∃ xs, SqT K H a xs) ∧ Q (Itt K a) H) ∨ (∃ z, v = .str z ∧ Q (Its z) H) := fun {ds} h2 h => by
      obtain ⟨a, rfl, q⟩ := h2
      obtain ⟨vs, q1, q2, q3⟩ := r.bor q
      obtain ⟨ws, p1, _, _⟩ := q
      refine .inl ⟨a, rfl, ⟨vs, q1.sq⟩, h _ H [a] .refl r.tok q3 (wk_list q1.1 q2 q3) (fun p m => ?_) (fun _ p j o m e => ?_)⟩
      · have : p = a := by simpa using m
        subst this
        exact q1.2
      · have : p = a := by simpa using m
        subst this
        intro hs
        obtain ⟨v', h3, b, e3, f, _⟩ := r.at_ j _ e
        rw [hs] at h3
        cases h3
        cases e3
        rcases p1.1 with z | ⟨_, z⟩ <;> (rw [f] at z; cases z)
    split at h
    · unfold itVs at h
      split at h
      · exact tup h2 h
      · exact str h2 h
      · exact bor h2 h
      · exact h.elim
    · rename_i ns
      unfold itV at h
      split at h
      · exact tup h2 h
      · exact str h2 h
      · exact bor h2 h
      · rename_i ds
        obtain ⟨a, rfl, f, n, vs, q1, q2, q3⟩ := h2
        refine .inl ⟨a, rfl, ⟨vs, SqL.of q1⟩, h _ H [a] .refl r.tok q3 (wk_list (.inl q1) q2 q3) (fun p m => ?_) (fun z => absurd z ns)⟩
        have : p = a := by simpa using m
        subst this
        exact n.ne
      · exact h.elim
  · exact h.elim
/-! range -/
def rngOk (i : Int) : Bool := decide (-4611686018427387904 ≤ i) && decide (i < 4611686018427387904)
theorem rngOk_of {i : Int} (h : rngOk i = true) : -(2 ^ 62) ≤ i ∧ i < 2 ^ 62 := by
  simp only [rngOk, Bool.and_eq_true, decide_eq_true_eq] at h
  exact h
def itR1 : List C → M (List PyData)
  | [.val (.int j)] => if rngOk j = true then .ret (rngD 0 1 j.toNat) else .fail
  | _ => .fail
def itR2 : List C → M (List PyData)
  | [.val (.int i), .val (.int j)] => if (rngOk i && rngOk j) = true then .ret (rngD i 1 (j - i).toNat) else .fail
  | _ => .fail
def gItR1 (gs : Ro → M (List C)) (ρ : Ro) : M (List PyData) := (gs ρ).bind itR1
def gItR2 (gs : Ro → M (List C)) (ρ : Ro) : M (List PyData) := (gs ρ).bind itR2
theorem ri_rng1 {ta : TA} {gs : Ro → M (List C)} {s : Bool} (h1 : RA K ta gs) : RI K s (iRng1 ta) (gItR1 gs) := by
  intro tp He Hq ρ σ H Q r h
  refine h1 tp He Hq ρ σ H _ r (wp0_mono (fun cs hc => ?_) (wp0_bind.mp h))
  intro vs H1 g1 t1 rx
  unfold itR1 at hc
  split at hc
  · rename_i j
    obtain ⟨v, rfl, q⟩ := rx.one
    cases q.int
    split at hc
    · rename_i l
      obtain ⟨l1, l2⟩ := rngOk_of l
      exact ⟨j, rfl, l1, l2, hc _ H1 [] g1 t1 (lf_rng _ _ _) wk_rng (fun _ m => by simp at m) (fun _ _ _ _ m => by simp at m)⟩
    · exact hc.elim
  · exact hc.elim
theorem ri_rng2 {ta : TA} {gs : Ro → M (List C)} {s : Bool} (h1 : RA K ta gs) : RI K s (iRng2 ta) (gItR2 gs) := by
  intro tp He Hq ρ σ H Q r h
  refine h1 tp He Hq ρ σ H _ r (wp0_mono (fun cs hc => ?_) (wp0_bind.mp h))
  intro vs H1 g1 t1 rx
  unfold itR2 at hc
  split at hc
  · rename_i i j
    obtain ⟨v, w, rfl, q, q'⟩ := rx.two
    cases q.int; cases q'.int
    split at hc
    · rename_i l
      simp only [Bool.and_eq_true] at l
      obtain ⟨l1, l2⟩ := rngOk_of l.1
      obtain ⟨l3, l4⟩ := rngOk_of l.2
      exact ⟨i, j, rfl, ⟨l1, l2, l3, l4⟩, hc _ H1 [] g1 t1 (lf_rng _ _ _) wk_rng (fun _ m => by simp at m) (fun _ _ _ _ m => by simp at m)⟩
    · exact hc.elim
  · exact hc.elim
/-! ### for -/
theorem GrT.imH (g : GrT tp Hq H') (h : ∀ (t l : Addr), tp = some (t, l) → Hq t = none ∨ ∃ xs, Hq t = some (.lst xs)) : Im Hq H' := by
  have n : ∀ b o, Hq b = some o → (∀ xs, o ≠ .lst xs) → tp.map (·.1) ≠ some b := fun b o e k z => by
    cases tp with
    | none => simp at z
    | some w =>
      obtain ⟨t, l⟩ := w
      have : t = b := by simpa using z
      subst this
      rcases h t l rfl with q | ⟨xs, q⟩
      · rw [q] at e; cases e
      · rw [q] at e; cases e; exact k xs rfl
  exact ⟨fun b xs e => g b _ e (n b _ e fun _ z => by cases z), fun b o u e => g b _ e (n b _ e fun _ z => by cases z)⟩
def forL (a : C → Ro → M Ro) (b : Ro → M Res) : List PyData → Ro → M Res
  | [], ρ => .ret (.nx ρ)
  | d :: ds, ρ => (a (.val d) ρ).bind fun ρ1 => (b ρ1).bind fun r => match r with
    | .nx ρ' => forL a b ds ρ'
    | .ct ρ' => forL a b ds ρ'
    | .bk ρ' => .ret (.nx ρ')
    | .rt c => .ret (.rt c)
theorem for_go {J : It} {pa : List Addr} {ds : List PyData} {g : TG} {tb : TS} {D : Ends} {a : C → Ro → M Ro} {b : Ro → M Res} {sl : List Nat} (hg : RG K g a sl) (hb : RS K tb b) (r : Rel tp K He Hq H1 σ ρ) (f : lfAll ds = true) (w : Wk K Hq J pa ds)
    (np : ∀ p ∈ pa, tp.map (·.1) ≠ some p) (h : wp0 (forL a b ds ρ) (PostS tp K He Hq D)) :
    ∃ W : Nat → Nat → L2.St → Hp → Prop, (∃ m, W 0 m σ H1) ∧ ∀ i m σ H, W i m σ H →
      (J.stop i H ∧ D.nx σ H) ∨ (J.go i H ∧ ∃ N : L2.St → Hp → Prop, (∀ σ' H', N σ' H' → ∃ m', m' < m ∧ W (i + 1) m' σ' H') ∧ ∀ x H', J.yld i H x H' → g x σ H' fun σ2 H2 => tb { D with nx := N, ct := N, bk := D.nx } σ2 H2) := by
  refine ⟨fun i m σ H => m = ds.length - i ∧ i ≤ ds.length ∧ ∃ ρ' Hq', GrT tp Hq Hq' ∧ Rel tp K He Hq' H σ ρ' ∧ wp0 (forL a b (ds.drop i) ρ') (PostS tp K He Hq' D), ⟨ds.length, rfl, Nat.zero_le _, ρ, Hq, .refl, r, h⟩, ?_⟩
  rintro i m σ' H' ⟨rfl, hi, ρ', Hq', g', r', h'⟩
  have gr : GrT tp Hq H' := g'.trans r'.gr
  obtain ⟨st, go⟩ := w H' (gr.imH r.he) (fun p hp o e => gr p o e (np p hp))
  by_cases hlt : i < ds.length
  · obtain ⟨d, hd⟩ : ∃ d, ds[i]? = some d := ⟨ds[i], List.getElem?_eq_getElem hlt⟩
    obtain ⟨go1, yl⟩ := go i d hd
    have e : ds.drop i = d :: ds.drop (i + 1) := by
      rw [List.drop_eq_getElem_cons hlt]
      have : ds[i] = d := by rw [List.getElem?_eq_getElem hlt] at hd; exact Option.some.inj hd
      rw [this]
    rw [e] at h'
    refine .inr ⟨go1, fun σ2 H2 => ∃ ρ2 Hq2, GrT tp Hq Hq2 ∧ Rel tp K He Hq2 H2 σ2 ρ2 ∧ wp0 (forL a b (ds.drop (i + 1)) ρ2) (PostS tp K He Hq2 D), fun σ2 H2 n => ⟨ds.length - (i + 1), by omega, rfl, hlt, n⟩, fun x H'' y => ?_⟩
    obtain ⟨sm, dp⟩ := yl x H'' y
    refine hg tp He Hq' ρ' σ' H' H'' x (.val d) _ r' (.of sm) (r'.tok.same sm) ⟨dp, lfAll_get f hd⟩ (wp0_mono (fun ρ1 h1 => ?_) (wp0_bind.mp (show wp0 ((a (.val d) ρ').bind _) _ from h')))
    intro σ1 _ r1
    refine hb tp He Hq' ρ1 σ1 H'' _ r1 (wp0_mono (fun q hq => ?_) (wp0_bind.mp h1))
    cases q with
    | nx ρ2 => exact fun σ2 H2 Hq2 g2 r2 => ⟨ρ2, Hq2, g'.trans g2, r2, wp0_mono (fun _ hq => hq.mono g2) hq⟩
    | ct ρ2 => exact fun σ2 H2 Hq2 g2 r2 => ⟨ρ2, Hq2, g'.trans g2, r2, wp0_mono (fun _ hq => hq.mono g2) hq⟩
    | bk ρ2 => exact hq
    | rt c => exact hq
  · have e : i = ds.length := by omega
    subst e
    rw [List.drop_length] at h'
    exact .inl ⟨st, h' σ' H' Hq' .refl r'⟩
/-- the walked thing is laid under what the def leaves as it is -/
theorem Rel.more {J : It} {pa : List Addr} {ds : List PyData} (r : Rel tp K He Hq H σ ρ) (of : OwnFree σ ρ pa) (np : ∀ p ∈ pa, tp.map (·.1) ≠ some p) (w : Wk K H J pa ds) :
    ∃ Hq2, GrT tp Hq Hq2 ∧ Rel tp K He Hq2 H σ ρ ∧ Wk K Hq2 J pa ds ∧ Im H Hq2 ∧ ∀ b, tp.map (·.1) ≠ some b → (∀ (j : Nat) (o : PO), ρ[j]? = some (some (.own o)) → σ[j]? ≠ some (some (V.ref b))) → Hq2 b = H b := by
  classical
  let O : Addr → Prop := fun b => tp.map (·.1) = some b ∨ ∃ (j : Nat) (o : PO), ρ[j]? = some (some (.own o)) ∧ σ[j]? = some (some (V.ref b))
  have own_none : ∀ {b : Addr} {j : Nat} {o : PO}, ρ[j]? = some (some (C.own o)) → σ[j]? = some (some (V.ref b)) → Hq b = none ∧ ∃ vs, H b = some (.lst vs) := fun {b j o} e s => by
    obtain ⟨v, h1, a, e2, f, _, q⟩ := r.at_ j _ e
    rw [s] at h1
    cases h1
    cases e2
    cases o with
    | lst ds =>
      obtain ⟨vs, h3, _⟩ := q
      exact ⟨f, vs, h3⟩
  let G : Hp := fun b => if O b then Hq b else H b
  have gO : ∀ {b}, O b → G b = Hq b := fun {b} h => if_pos h
  have gN : ∀ {b}, ¬ O b → G b = H b := fun {b} h => if_neg h
  have g1 : GrT tp Hq G := fun b o e n => by
    by_cases hO : O b
    · rw [gO hO]; exact e
    · rw [gN hO]; exact r.gr b o e n
  have im1 : Im Hq G := g1.imH r.he
  have g2 : GrT tp G H := fun b o e n => by
    by_cases hO : O b
    · rw [gO hO] at e
      exact r.gr b o e n
    · rw [gN hO] at e; exact e
  have lst_of : ∀ {b}, O b → ∃ xs, H b = some (.lst xs) := fun {b} hO => by
    rcases hO with hO | ⟨j, o, e, s⟩
    · cases tp with
      | none => simp at hO
      | some w =>
        obtain ⟨t, l⟩ := w
        have : t = b := by simpa using hO
        subst this
        exact (r.tok t l rfl).list
    · exact (own_none e s).2
  have tupN : ∀ {b xs}, H b = some (.tup xs) → ¬ O b := fun {b xs} e hO => by
    obtain ⟨ys, z⟩ := lst_of hO
    rw [e] at z
    cases z
  have frzN : ∀ {b o u}, H b = some (.frz o u) → ¬ O b := fun {b o u} e hO => by
    obtain ⟨ys, z⟩ := lst_of hO
    rw [e] at z
    cases z
  refine ⟨G, g1, ⟨r.len, fun i c e => ?_, r.dist, r.sub.trans g1, g2, r.tok, fun t l e => ?_⟩, fun H' im kp => ?_, ⟨fun b xs e => by rw [gN (tupN e)]; exact e, fun b o u e => by rw [gN (frzN e)]; exact e⟩, fun b n1 n2 => gN fun hO => by
    rcases hO with hO | ⟨j, o, e, s⟩
    · exact n1 hO
    · exact n2 j o e s⟩
  · obtain ⟨v, h1, h2⟩ := r.at_ i c e
    refine ⟨v, h1, ?_⟩
    cases c with
    | val d => exact h2
    | own o =>
      obtain ⟨a, e2, f, n, q⟩ := h2
      subst e2
      exact ⟨a, rfl, by rw [gO (Or.inr ⟨i, o, e, h1⟩)]; exact f, n, q⟩
    | bor o =>
      obtain ⟨a, e2, q⟩ := h2
      refine ⟨a, e2, ?_⟩
      cases o with
      | lst ds =>
        obtain ⟨vs, q1, q2, q3⟩ := q
        exact ⟨vs, q1.gr g1, q2.imlf im1 ds _ q3, q3⟩
    | tape => exact h2
  · rw [gO (Or.inl (by rw [e]; rfl))]
    exact r.he t l e
  · refine w H' ⟨fun b xs e => im.tup b xs (by rw [gN (tupN e)]; exact e), fun b o u e => im.frz b o u (by rw [gN (frzN e)]; exact e)⟩ fun p hp o e => kp p hp o ?_
    by_cases hO : O p
    · rcases hO with hO | ⟨j, o', e', s⟩
      · exact absurd hO (np p hp)
      · exact absurd s (of p j o' hp e')
    · rw [gN hO]; exact e
def mFor (its : Ro → M (List PyData)) (a : C → Ro → M Ro) (b : Ro → M Res) (ρ : Ro) : M Res := (its ρ).bind fun ds => forL a b ds ρ
theorem rs_for {wi : TI} {g : TG} {tb : TS} {its : Ro → M (List PyData)} {a : C → Ro → M Ro} {b : Ro → M Res} {sl : List Nat} (hi : RI K true wi its) (hg : RG K g a sl) (hb : RS K tb b) : RS K (tFor wi g tb) (mFor its a b) := by
  intro tp He Hq ρ σ H D r h
  refine hi tp He Hq ρ σ H _ r (wp0_mono (fun ds hd => ?_) (wp0_bind.mp h))
  intro J H1 pa g1 t1 f w np of
  obtain ⟨Hq2, q1, r2, w2, _⟩ := (r.go g1 t1).more (of rfl) np w
  exact for_go hg hb r2 f w2 np (wp0_mono (fun _ q => q.mono q1) hd)
/-- over a name; a list of one's own is no longer changed from there on -/
def mForV (i : Nat) (a : C → Ro → M Ro) (b : Ro → M Res) (ρ : Ro) : M Res := match ρ[i]? with
  | some (some (.own (.lst ds))) => forL a b ds (ρ.set i (some (.bor (.lst ds))))
  | some (some c) => (itVs c).bind fun ds => forL a b ds ρ
  | _ => .fail
theorem Rel.forget {i : Nat} (r : Rel tp K He Hq H σ ρ) : Rel tp K He Hq H σ (ρ.set i none) := by
  have old : ∀ {j : Nat} {c : C}, (ρ.set i none)[j]? = some (some c) → i ≠ j ∧ ρ[j]? = some (some c) := fun {j c} e => by
    by_cases hij : i = j
    · subst hij
      have hl : i < ρ.length := by
        have := (List.getElem?_eq_some_iff.mp e).1
        rwa [List.length_set] at this
      rw [List.getElem?_set_self hl] at e
      cases e
    · rw [List.getElem?_set_ne hij] at e
      exact ⟨hij, e⟩
  exact ⟨by rw [List.length_set]; exact r.len, fun j c e => r.at_ j c (old e).2, fun j k a o o' e1 e2 => r.dist j k a o o' (old e1).2 (old e2).2, r.sub, r.gr, r.tok, r.he⟩
theorem Rel.forgot {i : Nat} {j : Nat} {c : C} (e : (ρ.set i none)[j]? = some (some c)) : i ≠ j ∧ ρ[j]? = some (some c) := by
  by_cases hij : i = j
  · subst hij
    have hl : i < ρ.length := by
      have := (List.getElem?_eq_some_iff.mp e).1
      rwa [List.length_set] at this
    rw [List.getElem?_set_self hl] at e
    cases e
  · rw [List.getElem?_set_ne hij] at e
    exact ⟨hij, e⟩
theorem Rel.freeze {i : Nat} {ds : List PyData} (r : Rel tp K He Hq H σ ρ) (e : ρ[i]? = some (some (.own (.lst ds)))) : ∃ Hq2 a, GrT tp Hq Hq2 ∧ Rel tp K He Hq2 H σ (ρ.set i (some (.bor (.lst ds)))) ∧ σ[i]? = some (some (.ref a)) ∧ Wk K Hq2 (Itl K a) [a] ds ∧ tp.map (·.1) ≠ some a ∧ lfAll ds = true ∧ ∃ vs, SqL K H a vs := by
  obtain ⟨v, h1, a, e2, f, n, vs, q1, q2, q3⟩ := r.at_ i _ e
  subst e2
  have nown : ∀ (j : Nat) (o : PO), (ρ.set i none)[j]? = some (some (.own o)) → σ[j]? ≠ some (some (.ref a)) := fun j o ej hs => by
    obtain ⟨n1, e'⟩ := Rel.forgot ej
    exact n1 (r.dist i j a _ _ e e' h1 hs)
  have w : Wk K H (Itl K a) [a] ds := wk_list (.inl q1) q2 q3
  have np : ∀ p ∈ [a], tp.map (·.1) ≠ some p := fun p m => by
    have : p = a := by simpa using m
    subst this
    exact n.ne
  obtain ⟨Hq2, g2, r2, w2, im, eqs⟩ := (r.forget (i := i)).more (pa := [a]) (fun p j o m ej => by
    have : p = a := by simpa using m
    subst this
    exact nown j o ej) np w
  have ea : Hq2 a = some (.lst vs) := (eqs a n.ne nown).trans q1
  have r3 := r2.put (i := i) (v := .ref a) (c := .bor (.lst ds)) ⟨a, rfl, vs, ⟨.inl ea, n.ne⟩, q2.imlf im ds _ q3, q3⟩ (fun _ _ z => by cases z)
  rw [List.set_set] at r3
  have es : σ.set i (some (.ref a)) = σ := by
    refine List.ext_getElem? fun j => ?_
    by_cases hij : i = j
    · subst hij
      rw [List.getElem?_set_self (List.getElem?_eq_some_iff.mp h1).1, h1]
    · rw [List.getElem?_set_ne hij]
  rw [es] at r3
  exact ⟨Hq2, a, g2, r3, h1, w2, n.ne, q3, vs, SqL.of q1⟩
theorem rs_forV {i : Nat} {g : TG} {tb : TS} {a : C → Ro → M Ro} {b : Ro → M Res} {sl : List Nat} (hg : RG K g a sl) (hb : RS K tb b) : RS K (tFor (iSeq K (tVar i)) g tb) (mForV i a b) := by
  intro tp He Hq ρ σ H D r h
  unfold mForV at h
  split at h
  · rename_i ds e
    obtain ⟨Hq2, p, g2, r2, hs, w, np, f, vs, sq⟩ := r.freeze e
    refine ⟨_, hs, .inl ⟨p, rfl, ⟨vs, sq⟩, for_go hg hb r2 f w (fun q m => ?_) (wp0_mono (fun _ q => q.mono g2) h)⟩⟩
    have : q = p := by simpa using m
    subst this
    exact np
  · rename_i c n e
    refine rs_for (ri_var (i := i)) hg hb tp He Hq ρ σ H D r ?_
    unfold mFor gItV
    rw [e]
    exact h
  · exact h.elim
/-! ### while -/
def whlL (gc : Ro → M Bool) (b : Ro → M Res) : Nat → Ro → M Res
  | 0, _ => .fail
  | n + 1, ρ => (gc ρ).bind fun c => if c = true then (b ρ).bind (fun r => match r with
    | .nx ρ' => whlL gc b n ρ'
    | .ct ρ' => whlL gc b n ρ'
    | .bk ρ' => .ret (.nx ρ')
    | .rt c => .ret (.rt c)) else .ret (.nx ρ)
/-- fuel: a bound of the turns and one more, by what the slots hold ahead of the loop -/
def mWhile (fuel : Ro → Nat) (gc : Ro → M Bool) (b : Ro → M Res) (ρ : Ro) : M Res := whlL gc b (fuel ρ) ρ
theorem rs_while {c : TT} {tb : TS} {gc : Ro → M Bool} {b : Ro → M Res} {fuel : Ro → Nat} (hc : RT K c gc) (hb : RS K tb b) : RS K (tWhile c tb) (mWhile fuel gc b) := by
  intro tp He Hq ρ σ H D r h
  refine ⟨fun m σ H => ∃ ρ' Hq', GrT tp Hq Hq' ∧ Rel tp K He Hq' H σ ρ' ∧ wp0 (whlL gc b m ρ') (PostS tp K He Hq' D), ⟨fuel ρ, ρ, Hq, .refl, r, h⟩, ?_⟩
  rintro m σ' H' ⟨ρ', Hq', g', r', h'⟩
  cases m with
  | zero => exact h'.elim
  | succ m =>
    refine hc tp He Hq' ρ' σ' H' _ r' (wp0_mono (fun k hk => ?_) (wp0_bind.mp (show wp0 ((gc ρ').bind _) _ from h')))
    intro H1 g1 t1
    cases k with
    | true =>
      rw [if_pos rfl] at hk ⊢
      refine ⟨fun σ2 H2 => ∃ ρ2 Hq2, GrT tp Hq Hq2 ∧ Rel tp K He Hq2 H2 σ2 ρ2 ∧ wp0 (whlL gc b m ρ2) (PostS tp K He Hq2 D), fun σ2 H2 n => ⟨m, Nat.lt_succ_self m, n⟩, ?_⟩
      refine hb tp He Hq' ρ' σ' H1 _ (r'.go g1 t1) (wp0_mono (fun q hq => ?_) (wp0_bind.mp hk))
      cases q with
      | nx ρ2 => exact fun σ2 H2 Hq2 g2 r2 => ⟨ρ2, Hq2, g'.trans g2, r2, wp0_mono (fun _ hq => hq.mono g2) hq⟩
      | ct ρ2 => exact fun σ2 H2 Hq2 g2 r2 => ⟨ρ2, Hq2, g'.trans g2, r2, wp0_mono (fun _ hq => hq.mono g2) hq⟩
      | bk ρ2 => exact hq
      | rt c => exact hq
    | false =>
      rw [if_neg Bool.false_ne_true] at hk ⊢
      exact hk σ' H1 Hq' .refl (r'.go g1 t1)
end
end Cs

set_option maxRecDepth 100000
set_option maxHeartbeats 4000000
/-! comprehensions, lists that change, defs -/
namespace Cs
open PySem PySem.Spec PyProof.Rows L2
section
variable {tp : Option (Addr × Addr)} {K : PySem.W.Frag} {H H' H'' H0 H1 He : Hp} {Hq : Hp} {σ : L2.St} {ρ : Ro}
/-! ### [e for x in xs if c] -/
def wipeR (ρ : Ro) : List Nat → Ro
  | [] => ρ
  | v :: vs => (wipeR ρ vs).set v none
theorem Rel.set_none {i : Nat} (r : Rel tp K He Hq H σ ρ) : Rel tp K He Hq H (σ.set i none) (ρ.set i none) := by
  refine ⟨by rw [List.length_set, List.length_set]; exact r.len, fun j c e => ?_, fun j k a o o' e1 e2 e3 e4 => ?_, r.sub, r.gr, r.tok, r.he⟩
  · obtain ⟨n, e'⟩ := Rel.forgot e
    obtain ⟨v, h1, h2⟩ := r.at_ j c e'
    exact ⟨v, by rw [List.getElem?_set_ne n]; exact h1, h2⟩
  · obtain ⟨n1, e1'⟩ := Rel.forgot e1
    obtain ⟨n2, e2'⟩ := Rel.forgot e2
    rw [List.getElem?_set_ne n1] at e3
    rw [List.getElem?_set_ne n2] at e4
    exact r.dist j k a o o' e1' e2' e3 e4
theorem Rel.wipe (r : Rel tp K He Hq H σ ρ) : ∀ vs : List Nat, Rel tp K He Hq H (L2.wipe σ vs) (wipeR ρ vs)
  | [] => r
  | v :: vs => by
    unfold L2.wipe wipeR
    exact (Rel.wipe r vs).set_none
theorem wipe_in {σ : L2.St} {i : Nat} : ∀ {vs : List Nat}, i ∈ vs → (L2.wipe σ vs)[i]? = if i < σ.length then some none else none
  | [], h => by simp at h
  | v :: vs, h => by
    unfold L2.wipe
    by_cases hv : v = i
    · subst hv
      by_cases hl : v < σ.length
      · rw [if_pos hl, List.getElem?_set_self (by rw [wipe_length]; exact hl)]
      · rw [if_neg hl]
        exact List.getElem?_eq_none_iff.mpr (by rw [List.length_set, wipe_length]; omega)
    · rw [List.getElem?_set_ne hv]
      exact wipe_in (by rcases List.mem_cons.mp h with z | z; exact absurd z.symm hv; exact z)
theorem wipe_off {σ σ' : L2.St} {sl vs : List Nat} (o : Off sl (L2.wipe σ vs) σ') (h : ∀ j ∈ sl, j ∈ vs) : L2.wipe σ' vs = L2.wipe σ vs := by
  have hl : σ'.length = σ.length := o.1.trans (wipe_length σ vs)
  refine List.ext_getElem? fun i => ?_
  by_cases hi : i ∈ vs
  · rw [wipe_in hi, wipe_in hi, hl]
  · rw [wipe_out hi, o.2 i (fun z => hi (h i z))]
def lcL (a : C → Ro → M Ro) (c : Ro → M Bool) (e : Ro → M C) : List PyData → Ro → List PyData → M C
  | [], _, acc => .ret (.own (.lst acc))
  | d :: ds, ρ, acc => (a (.val d) ρ).bind fun ρ1 => (c ρ1).bind fun b => if b = true then (e ρ1).bind (fun x => match x with
    | .val y => lcL a c e ds ρ (acc ++ [y])
    | _ => .fail) else lcL a c e ds ρ acc
def gLc (its : Ro → M (List PyData)) (a : C → Ro → M Ro) (c : Ro → M Bool) (e : Ro → M C) (vs : List Nat) (ρ : Ro) : M C := (its ρ).bind fun ds => if lenOk ds.length = true then lcL a c e ds (wipeR ρ vs) [] else .fail
def gYes (_ : Ro) : M Bool := .ret true
theorem rt_yes : RT K tYes gYes := fun tp He Hq ρ σ H Q r h => h H .refl r.tok
theorem re_lc {wi : TI} {g : TG} {tt : TT} {te : TE} {its : Ro → M (List PyData)} {a : C → Ro → M Ro} {c : Ro → M Bool} {e : Ro → M C} {sl vs : List Nat} {s : Bool} (hi : RI K s wi its) (hg : RG K g a sl) (hc : RT K tt c) (he : RE K te e)
    (hs : ∀ j ∈ sl, j ∈ vs) : RE K (tLc wi g tt te vs) (gLc its a c e vs) := by
  intro tp He Hq ρ σ H Q r h
  refine hi tp He Hq ρ σ H _ r (wp0_mono (fun ds hd => ?_) (wp0_bind.mp h))
  intro J H1 pa g1 t1 f w np _ D hD
  by_cases hz : lenOk ds.length = true
  case neg =>
    rw [if_neg hz] at hd
    exact hd.elim
  rw [if_pos hz] at hd
  have hz' : ds.length ≤ sizeLine := lenOk_le hz
  have r1 := r.go g1 t1
  have tD : TNe tp D := t1.tne hD
  have upG : ∀ {H2 : Hp} {o : HO}, GrT tp H1 H2 → GrT tp H1 (upd H2 D o) := fun {H2 o} g b u e n => by
    have hne : b ≠ D := fun z => by subst z; rw [hD] at e; cases e
    rw [upd_ne hne]
    exact g b u e n
  have upT : ∀ {H2 : Hp} {o : HO}, TOk tp H2 → TOk tp (upd H2 D o) := fun {H2 o} t a l e => (t a l e).upd (tD a l e).1 (tD a l e).2
  refine ⟨fun i m H' => m = ds.length - i ∧ i ≤ ds.length ∧ ∃ acc vsa, H' D = some (.lst vsa) ∧ DpAll K H' vsa acc ∧ lfAll acc = true ∧ acc.length ≤ i ∧ GrT tp H1 H' ∧ TOk tp H' ∧ wp0 (lcL a c e (ds.drop i) (wipeR ρ vs) acc) (Post tp K H Q),
    ⟨ds.length, rfl, Nat.zero_le _, [], [], upd_same, .nil, rfl, Nat.le_refl _, upG .refl, upT t1, hd⟩, ?_⟩
  rintro i m H' ⟨rfl, hi, acc, vsa, eD, hda, fa, hl, g', t', h'⟩
  obtain ⟨st, go⟩ := w H' (g'.im t1) (fun p hp o e => g' p o e (np p hp))
  by_cases hlt : i < ds.length
  · obtain ⟨d, hd'⟩ : ∃ d, ds[i]? = some d := ⟨ds[i], List.getElem?_eq_getElem hlt⟩
    obtain ⟨go1, yl⟩ := go i d hd'
    have ed : ds.drop i = d :: ds.drop (i + 1) := by
      rw [List.drop_eq_getElem_cons hlt]
      have : ds[i] = d := by rw [List.getElem?_eq_getElem hlt] at hd'; exact Option.some.inj hd'
      rw [this]
    rw [ed] at h'
    refine .inr ⟨go1, fun H2 => ∃ acc vsa, H2 D = some (.lst vsa) ∧ DpAll K H2 vsa acc ∧ lfAll acc = true ∧ acc.length ≤ i + 1 ∧ GrT tp H1 H2 ∧ TOk tp H2 ∧ wp0 (lcL a c e (ds.drop (i + 1)) (wipeR ρ vs) acc) (Post tp K H Q),
      fun H2 ⟨acc, vsa, q⟩ => ⟨ds.length - (i + 1), by omega, rfl, hlt, acc, vsa, q⟩, fun x H2 y => ?_⟩
    obtain ⟨sm, dp⟩ := yl x H2 y
    have rw' := ((r1.go g' t').wipe vs)
    refine hg tp He Hq _ _ H' H2 x (.val d) _ rw' (.of sm) (t'.same sm) ⟨dp, lfAll_get f hd'⟩ (wp0_mono (fun ρ1 h1 => ?_) (wp0_bind.mp (show wp0 ((a (.val d) (wipeR ρ vs)).bind _) _ from h')))
    intro σ2 off r2
    refine ⟨wipe_off off hs, ?_⟩
    refine hc tp He Hq ρ1 σ2 H2 _ r2 (wp0_mono (fun b hb => ?_) (wp0_bind.mp h1))
    intro H3 g3 t3
    have g13 : GrT tp H1 H3 := (g'.trans (.of sm)).trans g3
    have eD3 : H3 D = some (.lst vsa) := g3 D _ (sm D _ eD) tD.ne
    have im3 : Im H' H3 := (Im.same sm).trans (g3.im (t'.same sm))
    cases b with
    | true =>
      rw [if_pos rfl] at hb ⊢
      refine he tp He Hq ρ1 σ2 H3 _ (r2.go g3 t3) (wp0_mono (fun z hz => ?_) (wp0_bind.mp hb))
      intro v H4 g4 t4 rc
      have eD4 : H4 D = some (.lst vsa) := g4 D _ eD3 tD.ne
      have im4 : Im H' H4 := im3.trans (g4.im t3)
      cases z with
      | val y =>
        have hd4 := hda.imlf im4 acc _ fa
        refine ⟨vsa, eD4, ?_, acc ++ [y], vsa ++ [v], upd_same, ?_, lfAll_app fa (by simp only [lfAll, Bool.and_true]; exact rc.2), by rw [List.length_append]; simp; omega, upG (g13.trans g4), upT t4, hz⟩
        · rw [hd4.len]; omega
        · exact (hd4.app (.cons rc.1 .nil)).imlf (Im.set eD4) _ _ (lfAll_app fa (by simp only [lfAll, Bool.and_true]; exact rc.2))
      | own o => exact hz.elim
      | bor o => exact hz.elim
      | tape => exact hz.elim
    | false =>
      rw [if_neg Bool.false_ne_true] at hb ⊢
      exact ⟨acc, vsa, eD3, hda.imlf im3 acc _ fa, fa, by omega, g13, t3, hb⟩
  · have e1 : i = ds.length := by omega
    subst e1
    rw [List.drop_length] at h'
    exact .inl ⟨st, (show Post tp K H Q (.own (.lst acc)) from h') _ H' (g1.trans g') t' ⟨D, rfl, g1.free t1 hD, tD, vsa, eD, hda, fa⟩⟩
/-! ### a list of one's own, changed -/
def mApp (i : Nat) (g : Ro → M C) (ρ : Ro) : M Res := match ρ[i]? with
  | some (some (.own (.lst ds))) => (g ρ).bind fun c => (match c with
    | .val d => if lenOk (ds.length + 1) = true then .ret (.nx (setOwn i (ds ++ [d]) ρ)) else .fail
    | _ => .fail)
  | _ => .fail
theorem rs_app {i : Nat} {te : TE} {g : Ro → M C} (h1 : RE K te g) : RS K (tDrop (tBM K "list" rAppend (tVar i) (tCons te tNil))) (mApp i g) := by
  intro tp He Hq ρ σ H D r h
  unfold mApp at h
  split at h
  · rename_i ds e
    obtain ⟨a, vs, hs, hl, hd, hf, _⟩ := r.own (vs' := []) (ds' := []) e
    refine ⟨_, hs, .inl ⟨rfl, vs, SqL.of hl⟩, h1 tp He Hq ρ σ H _ r (wp0_mono (fun c hc => ?_) (wp0_bind.mp h))⟩
    intro x H1 g1 t1 rx
    split at hc
    · rename_i d
      obtain ⟨a', vs', hs', hl', hd', hf', up⟩ := (r.go g1 t1).own (vs' := []) (ds' := []) e
      split at hc
      · rename_i l
        refine ⟨a', vs', x, ?_, rfl, hl', by rw [hd'.len]; have := lenOk_le l; omega, ?_⟩
        · rw [hs] at hs'; cases hs'; rfl
        · exact hc σ _ Hq .refl (up _ _ (hd'.app (.cons rx.1 .nil)) (lfAll_app hf' (by simp only [lfAll, Bool.and_true]; exact rx.2)))
      · exact hc.elim
    · exact hc.elim
  · exact h.elim
/-- xs[i] = e -/
def mSetAt (i : Nat) (g gi : Ro → M C) (ρ : Ro) : M Res := match ρ[i]? with
  | some (some (.own (.lst ds))) => (g ρ).bind fun c => (gi ρ).bind fun k => (match c, k with
    | .val d, .val (.int j) => (match ixN ds.length j with
      | some n => .ret (.nx (setOwn i (ds.set n d) ρ))
      | none => .fail)
    | _, _ => .fail)
  | _ => .fail
theorem rs_setAt {i : Nat} {te ti : TE} {g gi : Ro → M C} (h1 : RE K te g) (h2 : RE K ti gi) : RS K (tAsg te (gSub (tVar i) ti rSetL)) (mSetAt i g gi) := by
  intro tp He Hq ρ σ H D r h
  unfold mSetAt at h
  split at h
  · rename_i ds e
    refine h1 tp He Hq ρ σ H _ r (wp0_mono (fun c hc => ?_) (wp0_bind.mp h))
    intro x H1 g1 t1 rx
    have r1 := r.go g1 t1
    obtain ⟨a, vs, hs, hl, hd, hf, _⟩ := r1.own (vs' := []) (ds' := []) e
    refine ⟨_, hs, h2 tp He Hq ρ σ H1 _ r1 (wp0_mono (fun k hk => ?_) (wp0_bind.mp hc))⟩
    intro y H2 g2 t2 ry
    split at hk
    · rename_i d j
      cases ry.int
      obtain ⟨a', vs', hs', hl', hd', hf', up⟩ := (r1.go g2 t2).own (vs' := []) (ds' := []) e
      have rx2 := rx.gr g2 t1
      split at hk
      · rename_i n en
        refine ⟨a', vs', j, n, ?_, rfl, hl', by rw [hd'.len]; exact en, ?_⟩
        · rw [hs] at hs'; cases hs'; rfl
        · exact hk σ _ Hq .refl (up _ _ (hd'.set n rx2.1) (lfAll_set n hf' rx2.2))
      · exact hk.elim
    · exact hk.elim
  · exact h.elim
/-- xs.insert(i, e), dropped -/
def rIns : V → List V → Hp → VK → Prop := fun x vs H Q => ∃ (l : Addr) (xs : List V) (i : Int) (y : V), x = .ref l ∧ vs = [.int i, y] ∧ H l = some (.lst xs) ∧ xs.length < sizeLine ∧ 0 ≤ i ∧ i < 2 ^ 63 ∧
    Q .non (upd H l (.lst (xs.take i.toNat ++ [y] ++ xs.drop i.toNat)))
theorem mt_ins {X : Cx} : MtR X "list.insert" rIns := mt_insert
def mIns (i : Nat) (gs : Ro → M (List C)) (ρ : Ro) : M Res := match ρ[i]? with
  | some (some (.own (.lst ds))) => (gs ρ).bind fun cs => (match cs with
    | [.val (.int j), .val d] => if (decide (0 ≤ j) && (decide (j < 9223372036854775808) && lenOk (ds.length + 1))) = true then .ret (.nx (setOwn i (ds.take j.toNat ++ [d] ++ ds.drop j.toNat) ρ)) else .fail
    | _ => .fail)
  | _ => .fail
theorem rs_ins {i : Nat} {ta : TA} {gs : Ro → M (List C)} (h1 : RA K ta gs) : RS K (tDrop (tBM K "list" rIns (tVar i) ta)) (mIns i gs) := by
  intro tp He Hq ρ σ H D r h
  unfold mIns at h
  split at h
  · rename_i ds e
    obtain ⟨a, vs, hs, hl, hd, hf, _⟩ := r.own (vs' := []) (ds' := []) e
    refine ⟨_, hs, .inl ⟨rfl, vs, SqL.of hl⟩, h1 tp He Hq ρ σ H _ r (wp0_mono (fun cs hc => ?_) (wp0_bind.mp h))⟩
    intro xs H1 g1 t1 rx
    split at hc
    · rename_i j d
      obtain ⟨v, y, rfl, q1, q2⟩ := rx.two
      cases q1.int
      obtain ⟨a', vs', hs', hl', hd', hf', up⟩ := (r.go g1 t1).own (vs' := []) (ds' := []) e
      split at hc
      · rename_i l
        simp only [Bool.and_eq_true, decide_eq_true_eq] at l
        refine ⟨a', vs', j, y, ?_, rfl, hl', by rw [hd'.len]; have := lenOk_le l.2.2; omega, l.1, l.2.1, ?_⟩
        · rw [hs] at hs'; cases hs'; rfl
        · exact hc σ _ Hq .refl (up _ _ (((hd'.take _).app (.cons q2.1 .nil)).app (hd'.drop _)) (lfAll_app (lfAll_app (lfAll_take _ hf') (by simp only [lfAll, Bool.and_true]; exact q2.2)) (lfAll_drop _ hf')))
      · exact hc.elim
    · exact hc.elim
  · exact h.elim
/-- xs.pop(i), dropped -/
def mPop (i : Nat) (g : Ro → M C) (ρ : Ro) : M Res := match ρ[i]? with
  | some (some (.own (.lst ds))) => (g ρ).bind fun c => (match c with
    | .val (.int j) => if (decide (-9223372036854775808 ≤ j) && decide (j < 9223372036854775808)) = true then (match seqIndex? j ds.length with
      | some k => if k < ds.length then .ret (.nx (setOwn i (ds.eraseIdx k) ρ)) else .fail
      | none => .fail) else .fail
    | _ => .fail)
  | _ => .fail
theorem dp_erase : ∀ {vs : List V} {ds : List PyData} (k : Nat), DpAll K H vs ds → DpAll K H (vs.eraseIdx k) (ds.eraseIdx k)
  | _, _, _, .nil => .nil
  | _, _, 0, .cons h1 h2 => h2
  | _, _, k + 1, .cons h1 h2 => .cons h1 (dp_erase k h2)
theorem lf_erase {ds : List PyData} (k : Nat) (f : lfAll ds = true) : lfAll (ds.eraseIdx k) = true := lfAll_iff.mpr fun d m => lfAll_iff.mp f d (List.mem_of_mem_eraseIdx m)
theorem rs_pop {i : Nat} {te : TE} {g : Ro → M C} (h1 : RE K te g) : RS K (tDrop (tBM K "list" rPopAt (tVar i) (tCons te tNil))) (mPop i g) := by
  intro tp He Hq ρ σ H D r h
  unfold mPop at h
  split at h
  · rename_i ds e
    obtain ⟨a, vs, hs, hl, hd, hf, _⟩ := r.own (vs' := []) (ds' := []) e
    refine ⟨_, hs, .inl ⟨rfl, vs, SqL.of hl⟩, h1 tp He Hq ρ σ H _ r (wp0_mono (fun c hc => ?_) (wp0_bind.mp h))⟩
    intro x H1 g1 t1 rx
    split at hc
    · rename_i j
      cases rx.int
      obtain ⟨a', vs', hs', hl', hd', hf', up⟩ := (r.go g1 t1).own (vs' := []) (ds' := []) e
      split at hc
      · rename_i l
        simp only [Bool.and_eq_true, decide_eq_true_eq] at l
        split at hc
        · rename_i k ek
          split at hc
          · rename_i lk
            obtain ⟨y, hy⟩ : ∃ y, vs'[k]? = some y := ⟨vs'[k]'(by rw [hd'.len]; exact lk), List.getElem?_eq_getElem _⟩
            refine ⟨a', vs', j, k, y, ?_, rfl, hl', l.1, l.2, by rw [hd'.len]; exact ek, hy, ?_⟩
            · rw [hs] at hs'; cases hs'; rfl
            · exact hc σ _ Hq .refl (up _ _ (dp_erase k hd') (lf_erase k hf'))
          · exact hc.elim
        · exact hc.elim
      · exact hc.elim
    · exact hc.elim
  · exact h.elim
/-! ### defs -/
def spU (K : PySem.W.Frag) (f : List C → M C) : Sp := fun vs H Q _ => ∃ tp cs, TOk tp H ∧ RCs tp K H H vs cs ∧ (∀ c ∈ cs, ∀ o, c ≠ .own o) ∧ wp0 (f cs) (Post tp K H Q)
theorem RCs.lend : ∀ {vs : List V} {cs : List C}, RCs tp K H0 H vs cs → RCs tp K H1 H vs (cs.map C.lend)
  | [], [], _ => trivial
  | v :: vs, c :: cs, h => ⟨h.1.lend, RCs.lend h.2⟩
  | [], _ :: _, h => h.elim
  | _ :: _, [], h => h.elim
theorem RCs.len : ∀ {vs : List V} {cs : List C}, RCs tp K H0 H vs cs → vs.length = cs.length
  | [], [], _ => rfl
  | v :: vs, c :: cs, h => by rw [List.length_cons, List.length_cons, RCs.len h.2]
  | [], _ :: _, h => h.elim
  | _ :: _, [], h => h.elim
theorem RCs.get : ∀ {vs : List V} {cs : List C} {i : Nat} {c : C}, RCs tp K H0 H vs cs → cs[i]? = some c → ∃ v, vs[i]? = some v ∧ RC tp K H0 H v c
  | [], [], _, _, _, e => by simp at e
  | v :: vs, c :: cs, 0, _, h, e => by simp at e; subst e; exact ⟨v, rfl, h.1⟩
  | v :: vs, c :: cs, i + 1, _, h, e => by
    obtain ⟨u, h1, h2⟩ := RCs.get (i := i) h.2 (by simpa using e)
    exact ⟨u, by simpa using h1, h2⟩
  | [], _ :: _, _, _, h, _ => h.elim
  | _ :: _, [], _, _, h, _ => h.elim
def gFn (f : List C → M C) (gs : Ro → M (List C)) (ρ : Ro) : M C := (gs ρ).bind fun cs => f (cs.map C.lend)
theorem re_fn {f : List C → M C} {t : TA} {gs : Ro → M (List C)} (h1 : RA K t gs) : RE K (tFn (spU K f) t) (gFn f gs) := by
  intro tp He Hq ρ σ H Q r h
  refine h1 tp He Hq ρ σ H _ r (wp0_mono (fun cs hc => ?_) (wp0_bind.mp h))
  intro vs H1 g1 t1 rx
  refine ⟨tp, cs.map C.lend, t1, rx.lend, fun c m o z => ?_, wp0_mono (fun c hc => hc.after g1 t1) hc⟩
  obtain ⟨c', _, e⟩ := List.mem_map.mp m
  subst z
  cases c' <;> cases e
/-- a drawn number -/
def drawC : List C → M C
  | [.tape, .val (.int m)] => if decide (m ≤ 1000000000) = true then .draw m fun v => .ret (.val (.int v)) else .fail
  | _ => .fail
theorem re_draw {t : TA} {gs : Ro → M (List C)} (h1 : RA K t gs) : RE K (tFn (sp_law_draw K) t) (gCall drawC gs) := by
  intro tp He Hq ρ σ H Q r h
  refine h1 tp He Hq ρ σ H _ r (wp0_mono (fun cs hc => ?_) (wp0_bind.mp h))
  intro vs H1 g1 t1 rx
  unfold drawC at hc
  split at hc
  · rename_i m
    obtain ⟨v, w, rfl, q1, q2⟩ := rx.two
    cases q2.int
    obtain ⟨t, l, rfl, rfl⟩ := q1
    split at hc
    · rename_i lm
      refine ⟨t, l, m, rfl, t1 t l rfl, of_decide_eq_true lm, fun v H' T al h0 h2 => hc v h0 h2 _ H' (g1.trans fun b o e n => ?_) (fun t' l' e => by cases e; exact T) ⟨.int v, rfl⟩⟩
      rw [al b (fun z => n (by simp [z]))]
      exact e
    · exact hc.elim
  · exact hc.elim
def Res.out : Res → M C
  | .rt c => .ret c
  | .nx _ => .ret (.val .none)
  | _ => .fail
/-- a def: n parameters, k further names -/
def fnU (n k : Nat) (m : Ro → M Res) (cs : List C) : M C := if cs.length = n then (m (cs.map some ++ List.replicate k none)).bind Res.out else .fail
theorem start_rel {vs : List V} {cs : List C} {N : List Str} {k : Nat} (t : TOk tp H) (rc : RCs tp K H H vs cs) (no : ∀ c ∈ cs, ∀ o, c ≠ .own o) (hN : N.length - vs.length = k) :
    Rel tp K H H H (L2.start N vs) (cs.map some ++ List.replicate k none) := by
  have hl := rc.len
  have at1 : ∀ {i : Nat} {c : C}, (cs.map some ++ List.replicate k none)[i]? = some (some c) → cs[i]? = some c := fun {i c} e => by
    by_cases hi : i < cs.length
    · rw [List.getElem?_append_left (by simpa using hi), List.getElem?_map] at e
      cases q : cs[i]? with
      | none => rw [q] at e; cases e
      | some c' => rw [q] at e; cases e; rfl
    · rw [List.getElem?_append_right (by simpa using hi), List.getElem?_replicate] at e
      split at e <;> cases e
  refine ⟨?_, fun i c e => ?_, fun i j a o o' e1 => ?_, .refl, .refl, t, fun a l e => ?_⟩
  · unfold L2.start
    simp only [List.length_append, List.length_map, List.length_replicate]
    omega
  · obtain ⟨v, h1, h2⟩ := rc.get (at1 e)
    refine ⟨v, ?_, ?_⟩
    · unfold L2.start
      rw [List.getElem?_append_left (by simpa using (List.getElem?_eq_some_iff.mp h1).1), List.getElem?_map, h1]
      rfl
    · cases c with
      | val d => exact h2
      | own o => exact absurd rfl (no _ (List.mem_of_getElem? (at1 e)) o)
      | bor o => exact h2
      | tape => exact h2
  · exact absurd rfl (no _ (List.mem_of_getElem? (at1 e1)) o)
  · obtain ⟨xs, h⟩ := (t a l e).list
    exact .inr ⟨xs, h⟩
theorem Df.uni {P : Program} {w : World} {mg : Str → Option Value} {base : Heap} {x : Str} {st : Stmt} {N ps : List Str} {k n : Nat} {m : Ro → M Res} (A : At K mg x st)
    (bd : ∀ (kV doc pm : Value) (an : Option Addr) (cdv ct : Value) (us : List Value), us.length = ps.length → bindArgs (PySem.W.fnOf x x (defArgs st) (defBody st) (defScope st) .none kV doc pm an cdv ct) ⟨us, []⟩ = pure (ps.zip us))
    (S : FnScope N ps (defScope st)) (hn : N.length - ps.length = n)
    (body : ∀ (cdv : Value) (A : Around) (out : List Env) (f : Addr) (s : Shared) (H : Hp) (E : XK), Room k (A.deeper (envOfC x (defScope st) s.heap.objs.size f cdv)) → A.guards = some [] →
      ∃ t, PSs (cxG P w K mg base N x (defScope st) f cdv A out s H E) (defBody st) t ∧ RS K t m) :
    Df P w K mg base (k + 1) x ps (spU K (fnU ps.length n m)) := by
  refine Df.of A bd S (fun vs H Q E h => ?_) (fun cdv A out f s H vs Q E hr hg h => ?_)
  · obtain ⟨tp, cs, t, rc, no, h⟩ := h
    unfold fnU at h
    split at h
    · rename_i e
      rw [rc.len, e]
    · exact h.elim
  · obtain ⟨tp, cs, t, rc, no, h⟩ := h
    obtain ⟨t', h1, h2⟩ := body cdv A out f s H E hr hg
    refine ⟨t', h1, ?_⟩
    unfold fnU at h
    split at h
    · rename_i e
      refine h2 tp H H _ _ H _ (start_rel t rc no (by rw [rc.len, e]; exact hn)) (wp0_mono (fun q hq => ?_) (wp0_bind.mp h))
      cases q with
      | nx ρ' => exact fun σ' H' Hq' g' r' => hq .non H' (r'.sub.trans r'.gr) r'.tok ⟨.non, rfl⟩
      | rt c => exact hq
      | bk _ => exact hq.elim
      | ct _ => exact hq.elim
    · exact h.elim
/-- the law's own def: the tape is made, then the rest runs from it -/
theorem law_rel {a t l : Addr} {ns : List Int} {k : Nat} (T : TapeAt H t l) (g : Same H0 H) (n : H0 t = none) : Rel (some (t, l)) K H0 H0 H ([some (.ref a), some (.ref t)] ++ List.replicate k none) ([none, some .tape] ++ List.replicate k none) := by
  have at1 : ∀ {i : Nat} {c : C}, (([none, some .tape] : Ro) ++ List.replicate k none)[i]? = some (some c) → i = 1 ∧ c = .tape := fun {i c} e => by
    match i, e with
    | 0, e => cases e
    | 1, e => cases e; exact ⟨rfl, rfl⟩
    | i + 2, e =>
      rw [List.getElem?_append_right (by simp), List.getElem?_replicate] at e
      split at e <;> cases e
  refine ⟨by simp, fun i c e => ?_, fun i j b o o' e1 => ?_, .refl, .of g, fun t' l' e => by cases e; exact T, fun t' l' e => by cases e; exact .inl n⟩
  · obtain ⟨rfl, rfl⟩ := at1 e
    exact ⟨.ref t, rfl, t, l, rfl, rfl⟩
  · obtain ⟨_, z⟩ := at1 e1
    cases z
theorem law_go {t : TS} {m : Ro → M Res} {H : Hp} {a : Addr} {k : Nat} {D : Ends} {ns : List Int} (h : RS K t m) (hS : SqL K H a (ns.map V.int)) (hl : ns.length ≤ 63)
    (pure_ : wp0 (m ([none, some .tape] ++ List.replicate k none)) fun r => r = .rt (.val (.bool true))) (q : ∀ H', D.rt (.bl true) H') :
    tSeq (tAsg (tFn (sp_law_tape K) (tCons (tVar 0) tNil)) (gName 1)) t D ([some (.ref a), none] ++ List.replicate k none) H := by
  refine ⟨_, rfl, a, ns, rfl, hS, hl, fun tt l H1 sm T nt nl => ?_⟩
  refine h (some (tt, l)) H H _ _ H1 D (law_rel (ns := ns) T sm nt) (wp0_mono (fun r e => ?_) pure_)
  subst e
  intro v H' _ _ rc
  cases rc.bl
  exact q H'
end
end Cs
namespace Cs
open PySem PySem.Spec PyProof.Rows L2
theorem u65 {k : Nat} {A : Around} (r : Room k A) : A.units + 65 < cLine := by have := r.un; omega
end Cs

set_option maxRecDepth 100000
set_option maxHeartbeats 4000000
/-! isinstance, is of bools, list(range ..), reversed -/
namespace Cs
open PySem PySem.Spec PyProof.Rows L2
section
variable {tp : Option (Addr × Addr)} {K : PySem.W.Frag} {H H' H'' H0 H1 He : Hp} {Hq : Hp} {σ : L2.St} {ρ : Ro}
theorem isiK (K : PySem.W.Frag) {X : Cx} (h : X.K = K := by rfl) : CallR X (.builtin "isinstance") (rIsi K) := h ▸ call_isi
def tyD : PyData → Option String
  | .none => some "NoneType"
  | .bool _ => some "bool"
  | .int _ => some "int"
  | .str _ => some "str"
  | _ => none
def isiT (T : String) : Option String → M C
  | some s => (match kitB s T with
    | some b => .ret (.val (.bool b))
    | none => .fail)
  | none => .fail
def oIsi (T : String) : C → M C
  | .val d => isiT T (tyD d)
  | _ => .fail
theorem kit_bool_int : kitB "bool" "int" = some true := by decide +kernel
theorem kit_int_int : kitB "int" "int" = some true := by decide +kernel
theorem kit_int_bool : kitB "int" "bool" = some false := by decide +kernel
theorem kit_bool_bool : kitB "bool" "bool" = some true := by decide +kernel
theorem kit_none_int : kitB "NoneType" "int" = some false := by decide +kernel
theorem kit_str_str : kitB "str" "str" = some true := by decide +kernel
theorem kit_none_bool : kitB "NoneType" "bool" = some false := by decide +kernel
theorem re_isi {T : String} {ta : TE} {g : Ro → M C} (h1 : RE K ta g) : RE K (tCB (rIsi K) (tCons ta (tCons (tC (.ty T)) tNil))) (gUn (oIsi T) g) := by
  intro tp He Hq ρ σ H Q r h
  refine h1 tp He Hq ρ σ H _ r (wp0_mono (fun c hc => ?_) (wp0_bind.mp h))
  intro x H1 g1 t1 rx
  cases c with
  | val d =>
    have key : ∀ {s : String}, TyOf K H1 x (.type s) → wp0 (isiT T (some s)) (Post tp K H Q) → rIsi K [x, .ty T] H1 Q := fun {s} ty h => by
      unfold isiT at h
      dsimp only at h
      split at h
      · rename_i b e
        exact ⟨x, .ty T, .type s, .type T, b, rfl, .ty T, .base ty, kit_ty e, Post.bl h g1 t1⟩
      · exact h.elim
    obtain ⟨hd, _⟩ := rx
    cases hd with
    | non => exact key .non hc
    | bl b => exact key (.bl b) hc
    | int i => exact key (.int i) hc
    | str s => exact key (.str s) hc
    | lst _ _ => exact hc.elim
    | tup _ _ => exact hc.elim
  | own o => exact hc.elim
  | bor o => exact hc.elim
  | tape => exact hc.elim
/-! is -/
def rIsU (n : Bool) : R2 := fun x y H Q => (y = .non ∧ Q (.bl (n ^^ decide (x = .non))) H) ∨ ∃ a b, x = .bl a ∧ y = .bl b ∧ Q (.bl (n ^^ decide (a = b))) H
theorem opIs {X : Cx} : OpR X (compareOp .Is) (rIsU false) := by
  intro pins s σ H x y v u Q I rx ry h
  rcases h with ⟨e, q⟩ | ⟨a, b, e1, e2, q⟩
  · rw [Bool.false_xor] at q
    exact op_isN pins s σ H x y v u Q I rx ry ⟨e, q⟩
  · rw [Bool.false_xor] at q
    exact op_is_bl pins s σ H x y v u Q I rx ry ⟨a, b, e1, e2, q⟩
theorem opIsNot {X : Cx} : OpR X (compareOp .IsNot) (rIsU true) := by
  intro pins s σ H x y v u Q I rx ry h
  rcases h with ⟨e, q⟩ | ⟨a, b, e1, e2, q⟩
  · rw [Bool.true_xor] at q
    exact op_notN pins s σ H x y v u Q I rx ry ⟨e, q⟩
  · rw [Bool.true_xor] at q
    exact op_isnot_bl pins s σ H x y v u Q I rx ry ⟨a, b, e1, e2, q⟩
def oIsX (n : Bool) : C → C → M C
  | a, .val .none => .ret (.val (.bool (n ^^ a.isN)))
  | .val (.bool a), .val (.bool b) => .ret (.val (.bool (n ^^ decide (a = b))))
  | _, _ => .fail
theorem os_isX {n : Bool} : OpS K (rIsU n) (oIsX n) := by
  intro tp H0 H x y cx cy Q g t rx ry h
  unfold oIsX at h
  split at h
  · cases ry.non
    exact .inl ⟨rfl, by rw [rx.isN]; exact Post.bl h g t⟩
  · rename_i a b
    cases rx.bl; cases ry.bl
    exact .inr ⟨a, b, rfl, rfl, Post.bl h g t⟩
  · exact h.elim
/-! list(range(..)), tuple(range(..)) -/
def RR (K : PySem.W.Frag) (t : L2.St → Hp → (Int → Int → Hp → Prop) → Prop) (g : Ro → M (Int × Int)) : Prop := ∀ tp He Hq ρ σ H (Q : Int → Int → Hp → Prop), Rel tp K He Hq H σ ρ → wp0 (g ρ) (fun p => ∀ H', GrT tp H H' → TOk tp H' → Q p.1 p.2 H') → t σ H Q
def gR1 (g : Ro → M C) (ρ : Ro) : M (Int × Int) := (g ρ).bind fun c => match c with
  | .val (.int j) => .ret (0, j)
  | _ => .fail
theorem rr_1 {ta : TE} {g : Ro → M C} (h1 : RE K ta g) : RR K (tRg1 ta) (gR1 g) := by
  intro tp He Hq ρ σ H Q r h
  refine h1 tp He Hq ρ σ H _ r (wp0_mono (fun c hc => ?_) (wp0_bind.mp h))
  intro x H1 g1 t1 rx
  split at hc
  · cases rx.int
    exact ⟨_, rfl, hc H1 g1 t1⟩
  · exact hc.elim
def gR2 (g1 g2 : Ro → M C) (ρ : Ro) : M (Int × Int) := (g1 ρ).bind fun c => (g2 ρ).bind fun d => match c, d with
  | .val (.int i), .val (.int j) => .ret (i, j)
  | _, _ => .fail
theorem rr_2 {ta tb : TE} {g1 g2 : Ro → M C} (h1 : RE K ta g1) (h2 : RE K tb g2) : RR K (tRg2 ta tb) (gR2 g1 g2) := by
  intro tp He Hq ρ σ H Q r h
  refine h1 tp He Hq ρ σ H _ r (wp0_mono (fun c hc => ?_) (wp0_bind.mp h))
  intro x H1 e1 t1 rx
  refine h2 tp He Hq ρ σ H1 _ (r.go e1 t1) (wp0_mono (fun d hd => ?_) (wp0_bind.mp hc))
  intro y H2 e2 t2 ry
  split at hd
  · cases rx.int; cases ry.int
    exact ⟨_, _, rfl, rfl, hd H2 (e1.trans e2) t2⟩
  · exact hd.elim
theorem dp_rgV (a b : Int) : DpAll K H (rgV a b) (rngD a 1 (b - a).toNat) := by
  unfold rgV rngD
  generalize List.range (b - a).toNat = l
  induction l with
  | nil => exact .nil
  | cons i l ih =>
    rw [List.map_cons, List.map_cons, Int.mul_one]
    exact .cons (.int _) ih
def rgOk (a b : Int) : Bool := rngOk a && (rngOk b && lenOk (b - a).toNat)
theorem rgOk_of {a b : Int} (h : rgOk a b = true) : RgOk a b := by
  simp only [rgOk, Bool.and_eq_true] at h
  obtain ⟨h1, h2⟩ := rngOk_of h.1
  obtain ⟨h3, h4⟩ := rngOk_of h.2.1
  exact ⟨h1, h2, h3, h4, by have := of_decide_eq_true h.2.2; omega⟩
def gLstRg (g : Ro → M (Int × Int)) (ρ : Ro) : M C := (g ρ).bind fun p => if rgOk p.1 p.2 = true then .ret (.own (.lst (rngD p.1 1 (p.2 - p.1).toNat))) else .fail
def gTupRg (g : Ro → M (Int × Int)) (ρ : Ro) : M C := (g ρ).bind fun p => if rgOk p.1 p.2 = true then .ret (.val (.tuple (rngD p.1 1 (p.2 - p.1).toNat))) else .fail
theorem re_lstRg {te : L2.St → Hp → (Int → Int → Hp → Prop) → Prop} {g : Ro → M (Int × Int)} (h1 : RR K te g) : RE K (tLstRg te) (gLstRg g) := by
  intro tp He Hq ρ σ H Q r h
  refine h1 tp He Hq ρ σ H _ r (wp0_mono (fun p hp => ?_) (wp0_bind.mp h))
  intro H1 g1 t1
  split at hp
  · rename_i l
    exact ⟨rgOk_of l, fun q hq => Post.lst hp g1 t1 hq (dp_rgV _ _) (lf_rng _ _ _)⟩
  · exact hp.elim
theorem re_tupRg {te : L2.St → Hp → (Int → Int → Hp → Prop) → Prop} {g : Ro → M (Int × Int)} (h1 : RR K te g) : RE K (tTupRg te) (gTupRg g) := by
  intro tp He Hq ρ σ H Q r h
  refine h1 tp He Hq ρ σ H _ r (wp0_mono (fun p hp => ?_) (wp0_bind.mp h))
  intro H1 g1 t1
  split at hp
  · rename_i l
    exact ⟨rgOk_of l, fun q hq => Post.tup hp g1 t1 hq (dp_rgV _ _) (lf_rng _ _ _)⟩
  · exact hp.elim
/-! range(a, b, c) -/
def rg3N (i j c : Int) : Nat := ((j - i + c - 1) / c).toNat
end
end Cs

set_option maxRecDepth 100000
set_option maxHeartbeats 4000000
/-! reckoning with plain programs -/
namespace Cs
open PySem PySem.Spec PyProof.Rows L2
variable {α β γ : Type}
@[irreducible] def wp (m : M α) (Q : α → Prop) : Prop := wp0 m Q
theorem wp_def {m : M α} {Q : α → Prop} : wp m Q = wp0 m Q := by unfold wp; rfl
theorem wp_out {m : M α} {Q : α → Prop} (h : wp m Q) : wp0 m Q := by rw [← wp_def]; exact h
theorem wp_mono {Q Q' : α → Prop} (h : ∀ a, Q a → Q' a) {m : M α} : wp m Q → wp m Q' := by rw [wp_def, wp_def]; exact wp0_mono h
theorem wp_bind {f : α → M β} {Q : β → Prop} {m : M α} : wp (m.bind f) Q ↔ wp m fun a => wp (f a) Q := by simp only [wp_def]; exact wp0_bind
theorem wp_failE {Q : α → Prop} : wp (.fail : M α) Q = False := by rw [wp_def]; rfl
theorem wp_retE {a : α} {Q : α → Prop} : wp (.ret a) Q = Q a := by rw [wp_def]; rfl
theorem wp_drawE {m : Int} {k : Int → M α} {Q : α → Prop} : wp (.draw m k) Q = ∀ v, 0 ≤ v → v < max m 1 → wp (k v) Q := by simp only [wp_def]; rfl
theorem wp_bindE {m : M α} {f : α → M β} {Q : β → Prop} : wp (m.bind f) Q = wp m fun a => wp (f a) Q := propext wp_bind
theorem wp_anyE {p : PyData → Prop} {k : PyData → M α} {Q : α → Prop} : wp (.any p k) Q = ∀ d, p d → wp (k d) Q := by simp only [wp_def]; rfl
theorem anyB (p : PyData → Prop) (k : PyData → M α) (f : α → M β) : (M.any p k).bind f = .any p fun v => (k v).bind f := (rfl)
theorem bind_bind (m : M α) (f : α → M β) (g : β → M γ) : (m.bind f).bind g = m.bind fun a => (f a).bind g := M.bind_assoc f g m
theorem retB (a : α) (f : α → M β) : (M.ret a).bind f = f a := (rfl)
theorem bindR (m : M α) : (m.bind fun a => .ret a) = m := by
  induction m with
  | ret a => rfl
  | fail => rfl
  | draw m k ih => exact congrArg (M.draw m) (funext ih)
  | any p k ih => exact congrArg (M.any p) (funext ih)
theorem failB (f : α → M β) : (M.fail : M α).bind f = .fail := (rfl)
theorem drawB (m : Int) (k : Int → M α) (f : α → M β) : (M.draw m k).bind f = .draw m fun v => (k v).bind f := (rfl)
/- only what is run next is looked at -/
theorem bind_cg {m m' : M α} {f : α → M β} (h : m = m') : m.bind f = m'.bind f := by rw [h]
theorem wp_cg {m m' : M α} {Q : α → Prop} (h : m = m') : wp m Q = wp m' Q := by rw [h]
theorem draw_cg {m m' : Int} {k : Int → M α} (h : m = m') : M.draw m k = M.draw m' k := by rw [h]
theorem ite_cg {c c' : Prop} [Decidable c] [Decidable c'] {x y : M α} (h : c = c') : (if c then x else y) = if c' then x else y := by
  by_cases hc : c
  · rw [if_pos hc, if_pos (h ▸ hc)]
  · rw [if_neg hc, if_neg (h ▸ hc)]
theorem wp_call {m : M α} {k : α → M β} {Q : β → Prop} (P : α → Prop) (h : wp m P) (q : ∀ a, P a → wp (k a) Q) : wp (m.bind k) Q := wp_bind.mpr (wp_mono q h)
theorem wp_eq {m : M α} {k : α → M β} {Q : β → Prop} {a : α} (h : wp m fun x => x = a) (q : wp (k a) Q) : wp (m.bind k) Q := wp_call _ h fun x e => e ▸ q
theorem wp_ite {c : Prop} [Decidable c] {a b : M α} {Q : α → Prop} (h1 : c → wp a Q) (h2 : ¬c → wp b Q) : wp (if c then a else b) Q := by
  by_cases hc : c
  · rw [if_pos hc]; exact h1 hc
  · rw [if_neg hc]; exact h2 hc
theorem iteB {c : Prop} [Decidable c] {a b : M α} {k : α → M β} : (if c then a else b).bind k = if c then a.bind k else b.bind k := by split <;> rfl
/-! ### the programs' parts, step by step -/
variable {ρ : Ro} {g ga gb gc : Ro → M C}
def kSeq (n : Ro → M Res) : Res → M Res
  | .nx ρ' => n ρ'
  | r => .ret r
theorem kSeq_nx {n : Ro → M Res} : kSeq n (.nx ρ) = n ρ := (rfl)
theorem kSeq_rt {n : Ro → M Res} {c : C} : kSeq n (.rt c) = .ret (.rt c) := (rfl)
theorem kSeq_bk {n : Ro → M Res} : kSeq n (.bk ρ) = .ret (.bk ρ) := (rfl)
theorem kSeq_ct {n : Ro → M Res} : kSeq n (.ct ρ) = .ret (.ct ρ) := (rfl)
theorem mSeq_eq {m n : Ro → M Res} : mSeq m n ρ = (m ρ).bind (kSeq n) := by
  unfold mSeq
  congr 1
theorem mNext_eq : mNext ρ = .ret (.nx ρ) := (rfl)
theorem mBreak_eq : mBreak ρ = .ret (.bk ρ) := (rfl)
theorem mCont_eq : mCont ρ = .ret (.ct ρ) := (rfl)
theorem mDrop_eq : mDrop g ρ = (g ρ).bind fun _ => .ret (.nx ρ) := (rfl)
theorem mRet_eq : mRet g ρ = (g ρ).bind fun c => .ret (.rt c) := (rfl)
theorem mRetN_eq : mRetN ρ = .ret (.rt (.val .none)) := (rfl)
theorem mAsg_eq {a : C → Ro → M Ro} : mAsg g a ρ = (g ρ).bind fun c => (a c ρ).bind fun ρ' => .ret (.nx ρ') := (rfl)
theorem mIf_eq {t : Ro → M Bool} {m n : Ro → M Res} : mIf t m n ρ = (t ρ).bind fun b => if b = true then m ρ else n ρ := (rfl)
/-! names -/
def gAt : Option (Option C) → M C
  | some (some (.own o)) => .ret (.bor o)
  | some (some c) => .ret c
  | _ => .fail
theorem gVar_eq {i : Nat} : gVar i ρ = gAt ρ[i]? := (rfl)
theorem gAt_v {d : PyData} : gAt (some (some (.val d))) = .ret (.val d) := (rfl)
theorem gAt_o {o : PO} : gAt (some (some (.own o))) = .ret (.bor o) := (rfl)
theorem gAt_b {o : PO} : gAt (some (some (.bor o))) = .ret (.bor o) := (rfl)
theorem gAt_t : gAt (some (some .tape)) = .ret .tape := (rfl)
def rAt : Option (Option C) → M Res
  | some (some c) => .ret (.rt c)
  | _ => .fail
theorem mRetV_eq {i : Nat} : mRetV i ρ = rAt ρ[i]? := (rfl)
theorem rAt_s {c : C} : rAt (some (some c)) = .ret (.rt c) := (rfl)
def aAt (ρ : Ro) (i : Nat) (c : C) : Option (Option C) → M Ro
  | some _ => (match c with
    | .val d => .ret (ρ.set i (some (.val d)))
    | .own o => .ret (ρ.set i (some (.own o)))
    | _ => .fail)
  | none => .fail
theorem asgR_eq {i : Nat} {c : C} : asgR i c ρ = aAt ρ i c ρ[i]? := (rfl)
theorem aAt_v {i : Nat} {d : PyData} {x : Option C} : aAt ρ i (.val d) (some x) = .ret (ρ.set i (some (.val d))) := (rfl)
theorem aAt_o {i : Nat} {d : PO} {x : Option C} : aAt ρ i (.own d) (some x) = .ret (ρ.set i (some (.own d))) := (rfl)
theorem get_0 {x : Option C} : (x :: ρ)[0]? = some x := (rfl)
theorem get_s {x : Option C} {i : Nat} : (x :: ρ)[i + 1]? = ρ[i]? := (rfl)
theorem set_0' {x y : Option C} : List.set (x :: ρ) 0 y = y :: ρ := (rfl)
theorem set_s' {x y : Option C} {i : Nat} : List.set (x :: ρ) (i + 1) y = x :: List.set ρ i y := (rfl)
/-! targets -/
theorem aNil_eq : aNil [] ρ = .ret ρ := (rfl)
theorem aCons_eq {a : C → Ro → M Ro} {as : List PyData → Ro → M Ro} {d : PyData} {ds : List PyData} : aCons a as (d :: ds) ρ = (a (.val d) ρ).bind fun ρ' => as ds ρ' := (rfl)
theorem aTup_eq {n : Nat} {as : List PyData → Ro → M Ro} {ds : List PyData} : aTup n as (.val (.tuple ds)) ρ = if ds.length = n then as ds ρ else .fail := (rfl)
def kPar (i j : Nat) (ρ : Ro) : List C → M Res
  | [c, d] => (asgR i c ρ).bind fun ρ1 => (match d with
    | .own _ => (.fail : M Res)
    | d => (asgR j d ρ1).bind fun ρ2 => .ret (.nx ρ2))
  | _ => .fail
theorem mPar_eq {i j : Nat} {gs : Ro → M (List C)} : mPar i j gs ρ = (gs ρ).bind (kPar i j ρ) := by
  unfold mPar
  congr 1
theorem kPar_v {i j : Nat} {c : C} {d : PyData} : kPar i j ρ [c, .val d] = (asgR i c ρ).bind fun ρ1 => (asgR j (.val d) ρ1).bind fun ρ2 => .ret (.nx ρ2) := (rfl)
/-! expressions -/
theorem gC_eq {d : PyData} : gC d ρ = .ret (.val d) := (rfl)
theorem gaNil_eq : gaNil ρ = .ret [] := (rfl)
theorem gaCons_eq {gs : Ro → M (List C)} : gaCons g gs ρ = (g ρ).bind fun c => (gs ρ).bind fun cs => .ret (c :: cs) := (rfl)
theorem gTupE_eq {gs : Ro → M (List C)} : gTupE gs ρ = (gs ρ).bind oTup := (rfl)
theorem gLst_eq {gs : Ro → M (List C)} : gLst gs ρ = (gs ρ).bind oLst := (rfl)
theorem gOp_eq {op : C → C → M C} : gOp op ga gb ρ = (ga ρ).bind fun a => (gb ρ).bind fun b => op a b := (rfl)
theorem gUn_eq {op : C → M C} : gUn op ga ρ = (ga ρ).bind op := (rfl)
theorem gCall_eq {op : List C → M C} {gs : Ro → M (List C)} : gCall op gs ρ = (gs ρ).bind op := (rfl)
theorem gFn_eq {f : List C → M C} {gs : Ro → M (List C)} : gFn f gs ρ = (gs ρ).bind fun cs => f (cs.map C.lend) := (rfl)
theorem map_nilC : List.map C.lend [] = [] := (rfl)
theorem map_consC {c : C} {cs : List C} : List.map C.lend (c :: cs) = c.lend :: List.map C.lend cs := (rfl)
theorem lend_v {d : PyData} : C.lend (.val d) = .val d := (rfl)
theorem lend_o {d : PO} : C.lend (.own d) = .bor d := (rfl)
theorem lend_b {d : PO} : C.lend (.bor d) = .bor d := (rfl)
theorem lend_t : C.lend .tape = .tape := (rfl)
theorem gTru_eq : gTru g ρ = (g ρ).bind oTru := (rfl)
theorem gTest_eq : gTest g ρ = (g ρ).bind oBl := (rfl)
theorem oBl_b {b : Bool} : oBl (.val (.bool b)) = .ret b := (rfl)
theorem oTru_v {d : PyData} : oTru (.val d) = truD d := (rfl)
theorem oTru_o {ds : List PyData} : oTru (.own (.lst ds)) = .ret (!ds.isEmpty) := (rfl)
theorem oTru_b {ds : List PyData} : oTru (.bor (.lst ds)) = .ret (!ds.isEmpty) := (rfl)
theorem truD_n : truD .none = .ret false := (rfl)
theorem truD_b {b : Bool} : truD (.bool b) = .ret b := (rfl)
theorem truD_i {i : Int} : truD (.int i) = .ret (i != 0) := (rfl)
theorem truD_t {ds : List PyData} : truD (.tuple ds) = .ret (!ds.isEmpty) := (rfl)
/-- b and m, a test; m is looked at -/
def mAnd (b : Bool) (m : M Bool) : M Bool := if b = true then m else .ret false
def mOr (b : Bool) (m : M Bool) : M Bool := if b = true then .ret true else m
theorem mAnd_r {b c : Bool} : mAnd b (.ret c) = .ret (b && c) := by cases b <;> rfl
theorem mOr_r {b c : Bool} : mOr b (.ret c) = .ret (b || c) := by cases b <;> rfl
theorem mAnd_t {m : M Bool} : mAnd true m = m := (rfl)
theorem mAnd_f {m : M Bool} : mAnd false m = .ret false := (rfl)
theorem mOr_t {m : M Bool} : mOr true m = .ret true := (rfl)
theorem mOr_f {m : M Bool} : mOr false m = m := (rfl)
theorem mAnd_ite {b : Bool} {m : M Bool} : mAnd b m = if b = true then m else .ret false := (rfl)
theorem mOr_ite {b : Bool} {m : M Bool} : mOr b m = if b = true then .ret true else m := (rfl)
theorem gAnd_eq {g1 g2 : Ro → M Bool} : gAnd g1 g2 ρ = (g1 ρ).bind fun b => mAnd b (g2 ρ) := (rfl)
theorem gOr_eq {g1 g2 : Ro → M Bool} : gOr g1 g2 ρ = (g1 ρ).bind fun b => mOr b (g2 ρ) := (rfl)
theorem gNot_eq {g1 : Ro → M Bool} : gNot g1 ρ = (g1 ρ).bind fun b => .ret (!b) := (rfl)
/-- as values -/
def mAndC (b : Bool) (m : M C) (c : C) : M C := if b = true then m else .ret c
def mOrC (b : Bool) (m : M C) (c : C) : M C := if b = true then .ret c else m
theorem mAndC_r {b q : Bool} : mAndC b (.ret (.val (.bool q))) (.val (.bool b)) = .ret (.val (.bool (b && q))) := by cases b <;> rfl
theorem mAndC_f {b q : Bool} : mAndC b (.ret (.val (.bool q))) (.val (.bool false)) = .ret (.val (.bool (b && q))) := by cases b <;> rfl
theorem mOrC_r {b q : Bool} : mOrC b (.ret (.val (.bool q))) (.val (.bool b)) = .ret (.val (.bool (b || q))) := by cases b <;> rfl
theorem mAndC_ite {b : Bool} {m : M C} {c : C} : mAndC b m c = if b = true then m else .ret c := (rfl)
theorem mOrC_ite {b : Bool} {m : M C} {c : C} : mOrC b m c = if b = true then .ret c else m := (rfl)
theorem gAndT_eq {g1 g2 : Ro → M C} : gAndT g1 g2 ρ = (g1 ρ).bind fun c => (oTru c).bind fun b => mAndC b (g2 ρ) c := (rfl)
theorem gOrT_eq {g1 g2 : Ro → M C} : gOrT g1 g2 ρ = (g1 ρ).bind fun c => (oTru c).bind fun b => mOrC b (g2 ρ) c := (rfl)
theorem gNotT_eq {g1 : Ro → M C} : gNotT g1 ρ = (g1 ρ).bind fun c => (oTru c).bind fun b => .ret (.val (.bool (!b))) := (rfl)
theorem gIfE_eq {t : Ro → M Bool} {g1 g2 : Ro → M C} : gIfE t g1 g2 ρ = (t ρ).bind fun b => if b = true then g1 ρ else g2 ρ := (rfl)
theorem gChain_eq {o1 o2 : C → C → M C} : gChain o1 o2 ga gb gc ρ = (ga ρ).bind fun a => (gb ρ).bind fun b => (o1 a.lend b.lend).bind fun r => (oBl r).bind fun k => mAndC k ((gc ρ).bind fun c => o2 b c) (.val (.bool false)) := (rfl)
theorem gNo_eq : gNo ρ = .ret none := (rfl)
theorem gSome_eq : gSome g ρ = (g ρ).bind oInt? := (rfl)
theorem oInt?_i {i : Int} : oInt? (.val (.int i)) = .ret (some i) := (rfl)
theorem gSl_eq {l u : Ro → M (Option Int)} : gSl g l u ρ = (g ρ).bind fun c => (l ρ).bind fun lo => (u ρ).bind fun hi => oSl c lo hi := (rfl)
theorem oSl_t {ds : List PyData} {lo hi : Option Int} : oSl (.val (.tuple ds)) lo hi = .ret (.val (.tuple (cutD ds lo hi))) := (rfl)
theorem oSl_b {ds : List PyData} {lo hi : Option Int} : oSl (.bor (.lst ds)) lo hi = .ret (.own (.lst (cutD ds lo hi))) := (rfl)
def kSl2 (lo : Option Int) : C → M C
  | .val (.tuple ds) => .ret (.val (.tuple (ev (ds.drop (HT.sIx ds.length 0 lo)))))
  | _ => .fail
theorem gSl2_eq {l : Ro → M (Option Int)} : gSl2 g l ρ = (g ρ).bind fun c => (l ρ).bind fun lo => kSl2 lo c := by
  unfold gSl2
  congr 1
theorem kSl2_t {lo : Option Int} {ds : List PyData} : kSl2 lo (.val (.tuple ds)) = .ret (.val (.tuple (ev (ds.drop (HT.sIx ds.length 0 lo))))) := (rfl)
theorem gIt_eq : gIt g ρ = (g ρ).bind itD := (rfl)
def kItV (s : Bool) : Option (Option C) → M (List PyData)
  | some (some c) => if s = true then itVs c else itV c
  | _ => .fail
theorem gItV_eq {s : Bool} {i : Nat} : gItV s i ρ = kItV s ρ[i]? := (rfl)
theorem kItV_v {s : Bool} {d : PyData} : kItV s (some (some (.val d))) = itV (.val d) := by cases s <;> cases d <;> rfl
theorem kItV_b {s : Bool} {d : PO} : kItV s (some (some (.bor d))) = itV (.bor d) := by cases s <;> cases d <;> rfl
theorem kItV_o {d : PO} : kItV false (some (some (.own d))) = itV (.own d) := (rfl)
theorem itV_t {ds : List PyData} : itV (.val (.tuple ds)) = .ret ds := (rfl)
theorem itV_s {z : Str} : itV (.val (.str z)) = .ret (signsD z) := (rfl)
theorem itV_b {ds : List PyData} : itV (.bor (.lst ds)) = .ret ds := (rfl)
theorem itV_o {ds : List PyData} : itV (.own (.lst ds)) = .ret ds := (rfl)
theorem itD_t {ds : List PyData} : itD (.val (.tuple ds)) = .ret ds := (rfl)
theorem itD_s {z : Str} : itD (.val (.str z)) = .ret (signsD z) := (rfl)
theorem itD_o {ds : List PyData} : itD (.own (.lst ds)) = .ret ds := (rfl)
theorem gItR1_eq {gs : Ro → M (List C)} : gItR1 gs ρ = (gs ρ).bind itR1 := (rfl)
theorem gItR2_eq {gs : Ro → M (List C)} : gItR2 gs ρ = (gs ρ).bind itR2 := (rfl)
theorem itR1_i {j : Int} : itR1 [.val (.int j)] = if rngOk j = true then .ret (rngD 0 1 j.toNat) else .fail := (rfl)
theorem itR2_i {i j : Int} : itR2 [.val (.int i), .val (.int j)] = if (rngOk i && rngOk j) = true then .ret (rngD i 1 (j - i).toNat) else .fail := (rfl)
theorem gLc_eq {its : Ro → M (List PyData)} {a : C → Ro → M Ro} {c : Ro → M Bool} {e : Ro → M C} {vs : List Nat} : gLc its a c e vs ρ = (its ρ).bind fun ds => if lenOk ds.length = true then lcL a c e ds (wipeR ρ vs) [] else .fail := (rfl)
theorem wipe_n : wipeR ρ [] = ρ := (rfl)
theorem wipe_c {i : Nat} {vs : List Nat} : wipeR ρ (i :: vs) = (wipeR ρ vs).set i none := (rfl)
theorem gYes_eq : gYes ρ = .ret true := (rfl)
def kR1 : C → M (Int × Int)
  | .val (.int j) => .ret (0, j)
  | _ => .fail
theorem gR1_eq : gR1 g ρ = (g ρ).bind kR1 := by
  unfold gR1
  congr 1
theorem kR1_i {j : Int} : kR1 (.val (.int j)) = .ret (0, j) := (rfl)
def kR2 : C → C → M (Int × Int)
  | .val (.int i), .val (.int j) => .ret (i, j)
  | _, _ => .fail
theorem gR2_eq : gR2 ga gb ρ = (ga ρ).bind fun c => (gb ρ).bind fun d => kR2 c d := by
  unfold gR2
  congr 1
theorem kR2_i {i j : Int} : kR2 (.val (.int i)) (.val (.int j)) = .ret (i, j) := (rfl)
theorem gLstRg_eq {q : Ro → M (Int × Int)} : gLstRg q ρ = (q ρ).bind fun p => if rgOk p.1 p.2 = true then .ret (.own (.lst (rngD p.1 1 (p.2 - p.1).toNat))) else .fail := (rfl)
theorem gTupRg_eq {q : Ro → M (Int × Int)} : gTupRg q ρ = (q ρ).bind fun p => if rgOk p.1 p.2 = true then .ret (.val (.tuple (rngD p.1 1 (p.2 - p.1).toNat))) else .fail := (rfl)
/-! loops -/
theorem mFor_eq {its : Ro → M (List PyData)} {a : C → Ro → M Ro} {b : Ro → M Res} : mFor its a b ρ = (its ρ).bind fun ds => forL a b ds ρ := (rfl)
def kForV (ρ : Ro) (i : Nat) (a : C → Ro → M Ro) (b : Ro → M Res) : Option (Option C) → M Res
  | some (some (.own (.lst ds))) => forL a b ds (ρ.set i (some (.bor (.lst ds))))
  | some (some c) => (itVs c).bind fun ds => forL a b ds ρ
  | _ => .fail
theorem mForV_eq {i : Nat} {a : C → Ro → M Ro} {b : Ro → M Res} : mForV i a b ρ = kForV ρ i a b ρ[i]? := (rfl)
theorem kForV_o {i : Nat} {a : C → Ro → M Ro} {b : Ro → M Res} {ds : List PyData} : kForV ρ i a b (some (some (.own (.lst ds)))) = forL a b ds (ρ.set i (some (.bor (.lst ds)))) := (rfl)
theorem kForV_b {i : Nat} {a : C → Ro → M Ro} {b : Ro → M Res} {ds : List PyData} : kForV ρ i a b (some (some (.bor (.lst ds)))) = forL a b ds ρ := (rfl)
theorem kForV_t {i : Nat} {a : C → Ro → M Ro} {b : Ro → M Res} {ds : List PyData} : kForV ρ i a b (some (some (.val (.tuple ds)))) = forL a b ds ρ := (rfl)
theorem kForV_s {i : Nat} {a : C → Ro → M Ro} {b : Ro → M Res} {z : Str} : kForV ρ i a b (some (some (.val (.str z)))) = forL a b (signsD z) ρ := (rfl)
def kFor (a : C → Ro → M Ro) (b : Ro → M Res) (ds : List PyData) : Res → M Res
  | .nx ρ' => forL a b ds ρ'
  | .ct ρ' => forL a b ds ρ'
  | .bk ρ' => .ret (.nx ρ')
  | .rt c => .ret (.rt c)
theorem kFor_nx {a : C → Ro → M Ro} {b : Ro → M Res} {ds : List PyData} : kFor a b ds (.nx ρ) = forL a b ds ρ := (rfl)
theorem kFor_ct {a : C → Ro → M Ro} {b : Ro → M Res} {ds : List PyData} : kFor a b ds (.ct ρ) = forL a b ds ρ := (rfl)
theorem kFor_bk {a : C → Ro → M Ro} {b : Ro → M Res} {ds : List PyData} : kFor a b ds (.bk ρ) = .ret (.nx ρ) := (rfl)
theorem kFor_rt {a : C → Ro → M Ro} {b : Ro → M Res} {ds : List PyData} {c : C} : kFor a b ds (.rt c) = .ret (.rt c) := (rfl)
theorem forL_nil {a : C → Ro → M Ro} {b : Ro → M Res} : forL a b [] ρ = .ret (.nx ρ) := (rfl)
theorem forL_cons {a : C → Ro → M Ro} {b : Ro → M Res} {d : PyData} {ds : List PyData} : forL a b (d :: ds) ρ = (a (.val d) ρ).bind fun ρ1 => (b ρ1).bind (kFor a b ds) := by
  show (a (.val d) ρ).bind _ = _
  congr 1
def ForPost (I : List PyData → Ro → Prop) (ds : List PyData) (Q : Res → Prop) : Res → Prop
  | .nx ρ' => I ds ρ'
  | .ct ρ' => I ds ρ'
  | .bk ρ' => Q (.nx ρ')
  | .rt c => Q (.rt c)
theorem ForPost_nx {I : List PyData → Ro → Prop} {ds : List PyData} {Q : Res → Prop} : ForPost I ds Q (.nx ρ) = I ds ρ := (rfl)
theorem ForPost_ct {I : List PyData → Ro → Prop} {ds : List PyData} {Q : Res → Prop} : ForPost I ds Q (.ct ρ) = I ds ρ := (rfl)
theorem ForPost_bk {I : List PyData → Ro → Prop} {ds : List PyData} {Q : Res → Prop} : ForPost I ds Q (.bk ρ) = Q (.nx ρ) := (rfl)
theorem ForPost_rt {I : List PyData → Ro → Prop} {ds : List PyData} {Q : Res → Prop} {c : C} : ForPost I ds Q (.rt c) = Q (.rt c) := (rfl)
theorem wp_for (I : List PyData → Ro → Prop) {a : C → Ro → M Ro} {b : Ro → M Res} {Q : Res → Prop} (hn : ∀ ρ, I [] ρ → Q (.nx ρ)) (hc : ∀ d ds ρ, I (d :: ds) ρ → wp ((a (.val d) ρ).bind b) (ForPost I ds Q)) : ∀ {ds : List PyData} {ρ : Ro}, I ds ρ → wp (forL a b ds ρ) Q
  | [], ρ, h => by rw [forL_nil, wp_retE]; exact hn ρ h
  | d :: ds, ρ, h => by
    rw [forL_cons, ← bind_bind]
    refine wp_call _ (hc d ds ρ h) fun r hr => ?_
    cases r with
    | nx ρ' => rw [kFor_nx]; exact wp_for I hn hc hr
    | ct ρ' => rw [kFor_ct]; exact wp_for I hn hc hr
    | bk ρ' => rw [kFor_bk, wp_retE]; exact hr
    | rt c => rw [kFor_rt, wp_retE]; exact hr
/-- a loop of n turns over a row of things -/
theorem wp_each {δ : Type} (enc : δ → PyData) (I : List δ → Ro → Prop) {a : C → Ro → M Ro} {b : Ro → M Res} {Q : Res → Prop} (hn : ∀ ρ, I [] ρ → Q (.nx ρ)) (hc : ∀ d ds ρ, I (d :: ds) ρ → wp ((a (.val (enc d)) ρ).bind b) (ForPost (fun es ρ => ∃ xs, es = xs.map enc ∧ I xs ρ) (ds.map enc) Q)) {ds : List δ} {ρ : Ro} (h : I ds ρ) : wp (forL a b (ds.map enc) ρ) Q := by
  apply wp_for (fun es ρ => ∃ xs, es = xs.map enc ∧ I xs ρ) ?A ?B ⟨ds, rfl, h⟩
  case A =>
    rintro ρ ⟨xs, e, h⟩
    cases xs with
    | nil => exact hn ρ h
    | cons _ _ => cases e
  case B =>
    rintro d es ρ ⟨xs, e, h⟩
    cases xs with
    | nil => cases e
    | cons x xs =>
      rw [List.map_cons] at e
      obtain ⟨e1, e2⟩ := List.cons.inj e
      subst e1; subst e2
      exact hc x xs ρ h
theorem wp_turns (I : Nat → Ro → Prop) {a : C → Ro → M Ro} {b : Ro → M Res} {Q : Res → Prop} {lo c : Int} {n : Nat} (hn : ∀ ρ, I n ρ → Q (.nx ρ)) (hc : ∀ (i : Nat) ds ρ, i < n → I i ρ → wp ((a (.val (.int (lo + (i : Nat) * c))) ρ).bind b) (ForPost (fun _ ρ => I (i + 1) ρ) ds Q)) {ρ : Ro} (h : I 0 ρ) : wp (forL a b (rngD lo c n) ρ) Q := by
  have key : ∀ (k i : Nat) (ρ : Ro), i + k = n → I i ρ → wp (forL a b ((List.range' i k).map fun i => .int (lo + (i : Nat) * c)) ρ) Q := by
    intro k
    induction k with
    | zero =>
      intro i ρ e h
      have e2 : i = n := by omega
      rw [List.range'_zero, List.map_nil, forL_nil, wp_retE]
      exact hn ρ (e2 ▸ h)
    | succ k ih =>
      intro i ρ e h
      rw [List.range'_succ, List.map_cons, forL_cons, ← bind_bind]
      refine wp_call _ (hc i [] ρ (by omega) h) fun r hr => ?_
      cases r with
      | nx ρ' => rw [kFor_nx]; exact ih (i + 1) ρ' (by omega) hr
      | ct ρ' => rw [kFor_ct]; exact ih (i + 1) ρ' (by omega) hr
      | bk ρ' => rw [kFor_bk, wp_retE]; exact hr
      | rt c => rw [kFor_rt, wp_retE]; exact hr
  unfold rngD
  rw [List.range_eq_range']
  exact key n 0 ρ (by omega) h
theorem forL_any {δ : Type} (enc : δ → PyData) (p : δ → Bool) (S : Ro → Prop) (c : C) {a : C → Ro → M Ro} {b : Ro → M Res} : ∀ (xs : List δ) (ρ : Ro), S ρ →
    (∀ x ∈ xs, ∀ ρ, S ρ → ∃ ρ1, a (.val (enc x)) ρ = .ret ρ1 ∧ (p x = true → b ρ1 = .ret (.rt c)) ∧ (p x = false → ∃ ρ2, S ρ2 ∧ b ρ1 = .ret (.nx ρ2))) →
    (xs.any p = true ∧ forL a b (xs.map enc) ρ = .ret (.rt c)) ∨ (xs.any p = false ∧ ∃ ρ', S ρ' ∧ forL a b (xs.map enc) ρ = .ret (.nx ρ'))
  | [], ρ, h, _ => .inr ⟨rfl, ρ, h, rfl⟩
  | x :: xs, ρ, h, st => by
    obtain ⟨ρ1, h1, h2, h3⟩ := st x List.mem_cons_self ρ h
    rw [List.map_cons, List.any_cons, forL_cons, h1, retB]
    cases hp : p x with
    | true => exact .inl ⟨rfl, by rw [h2 hp]; rfl⟩
    | false =>
      obtain ⟨ρ2, h4, h5⟩ := h3 hp
      rw [h5, retB, kFor_nx, Bool.false_or]
      exact forL_any enc p S c xs ρ2 h4 fun y hy => st y (List.mem_cons_of_mem _ hy)
/-! [e for x in xs if c] -/
def kLc (a : C → Ro → M Ro) (c : Ro → M Bool) (e : Ro → M C) (ds : List PyData) (ρ : Ro) (acc : List PyData) : C → M C
  | .val y => lcL a c e ds ρ (acc ++ [y])
  | _ => .fail
theorem kLc_v {a : C → Ro → M Ro} {c : Ro → M Bool} {e : Ro → M C} {ds acc : List PyData} {y : PyData} : kLc a c e ds ρ acc (.val y) = lcL a c e ds ρ (acc ++ [y]) := (rfl)
theorem lcL_nil {a : C → Ro → M Ro} {c : Ro → M Bool} {e : Ro → M C} {acc : List PyData} : lcL a c e [] ρ acc = .ret (.own (.lst acc)) := (rfl)
theorem lcL_cons {a : C → Ro → M Ro} {c : Ro → M Bool} {e : Ro → M C} {d : PyData} {ds acc : List PyData} : lcL a c e (d :: ds) ρ acc = (a (.val d) ρ).bind fun ρ1 => (c ρ1).bind fun b => if b = true then (e ρ1).bind (kLc a c e ds ρ acc) else lcL a c e ds ρ acc := by
  show (a (.val d) ρ).bind _ = _
  congr 1
/-- each thing x is kept if p x and gives f x -/
theorem lcL_fm {δ : Type} (enc : δ → PyData) (p : δ → Bool) (f : δ → PyData) {a : C → Ro → M Ro} {c : Ro → M Bool} {e : Ro → M C} : ∀ (xs : List δ) (acc : List PyData), (∀ x ∈ xs, ∃ ρ1, a (.val (enc x)) ρ = .ret ρ1 ∧ c ρ1 = .ret (p x) ∧ (p x = true → e ρ1 = .ret (.val (f x)))) →
    lcL a c e (xs.map enc) ρ acc = .ret (.own (.lst (acc ++ (xs.filter p).map f)))
  | [], acc, _ => by rw [List.map_nil, lcL_nil, List.filter_nil, List.map_nil, List.append_nil]
  | x :: xs, acc, h => by
    obtain ⟨ρ1, h1, h2, h3⟩ := h x List.mem_cons_self
    rw [List.map_cons, lcL_cons, h1, retB, h2, retB]
    by_cases hp : p x = true
    · rw [if_pos hp, h3 hp, retB, kLc_v, lcL_fm enc p f xs _ fun y hy => h y (List.mem_cons_of_mem _ hy), List.filter_cons_of_pos hp, List.map_cons, List.append_assoc]
      rfl
    · rw [if_neg hp, lcL_fm enc p f xs _ fun y hy => h y (List.mem_cons_of_mem _ hy), List.filter_cons_of_neg hp]
theorem lcL_map {δ : Type} (enc : δ → PyData) (f : δ → PyData) {a : C → Ro → M Ro} {c : Ro → M Bool} {e : Ro → M C} (xs : List δ) (acc : List PyData) (h : ∀ x ∈ xs, ∃ ρ1, a (.val (enc x)) ρ = .ret ρ1 ∧ c ρ1 = .ret true ∧ e ρ1 = .ret (.val (f x))) :
    lcL a c e (xs.map enc) ρ acc = .ret (.own (.lst (acc ++ xs.map f))) := by
  rw [lcL_fm enc (fun _ => true) f xs acc fun x hx => by
    obtain ⟨ρ1, h1, h2, h3⟩ := h x hx
    exact ⟨ρ1, h1, h2, fun _ => h3⟩]
  rw [List.filter_eq_self.mpr fun _ _ => rfl]
/-- the same, with draws -/
theorem wp_lc {δ : Type} (enc : δ → PyData) (P : List PyData → Prop) {a : C → Ro → M Ro} {c : Ro → M Bool} {e : Ro → M C} {Q : C → Prop} (hq : ∀ acc, P acc → Q (.own (.lst acc))) : ∀ (xs : List δ) (acc : List PyData), P acc →
    (∀ x ∈ xs, ∀ acc, P acc → wp ((a (.val (enc x)) ρ).bind fun ρ1 => (c ρ1).bind fun b => if b = true then (e ρ1).bind fun y => .ret (some y) else .ret none) fun o => (o = none ∧ P acc) ∨ ∃ y, o = some (.val y) ∧ P (acc ++ [y])) → wp (lcL a c e (xs.map enc) ρ acc) Q
  | [], acc, h, _ => by rw [List.map_nil, lcL_nil, wp_retE]; exact hq acc h
  | x :: xs, acc, h, st => by
    rw [List.map_cons, lcL_cons]
    have hx := st x List.mem_cons_self acc h
    rw [wp_bindE] at hx ⊢
    refine wp_mono (fun ρ1 h1 => ?_) hx
    rw [wp_bindE] at h1 ⊢
    refine wp_mono (fun b h2 => ?_) h1
    by_cases hb : b = true
    · rw [if_pos hb] at h2 ⊢
      rw [wp_bindE] at h2 ⊢
      refine wp_mono (fun y h3 => ?_) h2
      rw [wp_retE] at h3
      rcases h3 with ⟨z, _⟩ | ⟨y', e1, h4⟩
      · cases z
      · cases e1
        rw [kLc_v]
        exact wp_lc enc P hq xs _ h4 fun y hy => st y (List.mem_cons_of_mem _ hy)
    · rw [if_neg hb] at h2 ⊢
      rw [wp_retE] at h2
      rcases h2 with ⟨_, h4⟩ | ⟨y', e1, h4⟩
      · exact wp_lc enc P hq xs _ h4 fun y hy => st y (List.mem_cons_of_mem _ hy)
      · cases e1
/-! lists that change -/
def kApp (i : Nat) (ρ : Ro) (ds : List PyData) : C → M Res
  | .val d => if lenOk (ds.length + 1) = true then .ret (.nx (setOwn i (ds ++ [d]) ρ)) else .fail
  | _ => .fail
def appAt (i : Nat) (g : Ro → M C) (ρ : Ro) : Option (Option C) → M Res
  | some (some (.own (.lst ds))) => (g ρ).bind (kApp i ρ ds)
  | _ => .fail
theorem mApp_eq {i : Nat} : mApp i g ρ = appAt i g ρ ρ[i]? := by
  unfold mApp
  generalize ρ[i]? = o
  match o with
  | some (some (.own (.lst ds))) => congr 1
  | some (some (.val _)) => rfl
  | some (some (.bor _)) => rfl
  | some (some .tape) => rfl
  | some none => rfl
  | none => rfl
theorem appAt_o {i : Nat} {ds : List PyData} : appAt i g ρ (some (some (.own (.lst ds)))) = (g ρ).bind (kApp i ρ ds) := (rfl)
theorem kApp_v {i : Nat} {ds : List PyData} {d : PyData} : kApp i ρ ds (.val d) = if lenOk (ds.length + 1) = true then .ret (.nx (ρ.set i (some (.own (.lst (ds ++ [d])))))) else .fail := (rfl)
/-! defs -/
theorem fnU_eq {n k : Nat} {m : Ro → M Res} {cs : List C} : fnU n k m cs = if cs.length = n then (m (cs.map some ++ List.replicate k none)).bind Res.out else .fail := (rfl)
theorem fnU_0 {n k : Nat} {m : Ro → M Res} {cs : List C} (h : cs.length = n) : fnU n k m cs = (m (cs.map some ++ List.replicate k none)).bind Res.out := if_pos h
theorem rp_0 : (List.replicate 0 none : Ro) = [] := (rfl)
theorem rp_s {k : Nat} : (List.replicate (k + 1) none : Ro) = none :: List.replicate k none := (rfl)
theorem ap_n {r : Ro} : ([] : Ro) ++ r = r := (rfl)
theorem ap_c {x : Option C} {r s : Ro} : (x :: r) ++ s = x :: (r ++ s) := (rfl)
theorem ms_n : List.map some ([] : List C) = [] := (rfl)
theorem ms_c {c : C} {cs : List C} : List.map some (c :: cs) = some c :: List.map some cs := (rfl)
theorem out_rt {c : C} : Res.out (.rt c) = .ret c := (rfl)
theorem out_nx : Res.out (.nx ρ) = .ret (.val .none) := (rfl)
/-! ### operators at values -/
theorem oAdd_i {i j : Int} : oAdd (.val (.int i)) (.val (.int j)) = .ret (.val (.int (i + j))) := (rfl)
theorem oAdd_s {i j : Str} : oAdd (.val (.str i)) (.val (.str j)) = if lenOk (i.length + j.length) = true then .ret (.val (.str (i ++ j))) else .fail := (rfl)
theorem oAdd_t {i j : List PyData} : oAdd (.val (.tuple i)) (.val (.tuple j)) = if lenOk (i.length + j.length) = true then .ret (.val (.tuple (i ++ j))) else .fail := (rfl)
theorem oAdd_oo {i j : List PyData} : oAdd (.own (.lst i)) (.own (.lst j)) = if lenOk (i.length + j.length) = true then .ret (.own (.lst (i ++ j))) else .fail := (rfl)
theorem oAdd_bo {i j : List PyData} : oAdd (.bor (.lst i)) (.own (.lst j)) = if lenOk (i.length + j.length) = true then .ret (.own (.lst (i ++ j))) else .fail := (rfl)
theorem oAdd_bb {i j : List PyData} : oAdd (.bor (.lst i)) (.bor (.lst j)) = if lenOk (i.length + j.length) = true then .ret (.own (.lst (i ++ j))) else .fail := (rfl)
theorem oAdd_ob {i j : List PyData} : oAdd (.own (.lst i)) (.bor (.lst j)) = if lenOk (i.length + j.length) = true then .ret (.own (.lst (i ++ j))) else .fail := (rfl)
theorem oInt_v {f : Int → Int → PyData} {c : Int → Int → Bool} {i j : Int} : oInt f c (.val (.int i)) (.val (.int j)) = if c i j = true then .ret (.val (f i j)) else .fail := (rfl)
theorem oMul_i {i j : Int} : oMul (.val (.int i)) (.val (.int j)) = if cMul i j = true then .ret (.val (.int (i * j))) else .fail := (rfl)
theorem oNeg_i {i : Int} : oNeg (.val (.int i)) = .ret (.val (.int (-i))) := (rfl)
theorem oEqD_s {n : Bool} {i j : Str} : oEqD n (some (.str i)) (some (.str j)) = .ret (.val (.bool (n ^^ decide (i = j)))) := (rfl)
theorem oEqD_d {n : Bool} {d e : PyData} (h1 : SeqAt.shaped d = true) (h2 : SeqAt.shaped e = true) : oEqD n (some d) (some e) = .ret (.val (.bool (n ^^ PyData.eqv d e))) := by
  unfold oEqD
  split
  · rename_i i j e1 e2
    cases e1; cases e2
    simp only [PyData.eqv]
    rfl
  · rename_i d' e' _ e1 e2
    cases e1; cases e2
    rw [if_pos (by rw [h1, h2]; rfl)]
  · rename_i a b
    exact absurd rfl (b d e rfl)
theorem oEq_i {i j : Int} : oEq (.val (.int i)) (.val (.int j)) = .ret (.val (.bool (decide (i = j)))) := by
  show oEqD false (some (.int i)) (some (.int j)) = _
  rw [oEqD_d rfl rfl]
  simp only [PyData.eqv, Bool.false_xor]
  rfl
theorem oNe_i {i j : Int} : oNe (.val (.int i)) (.val (.int j)) = .ret (.val (.bool (!decide (i = j)))) := by
  show oEqD true (some (.int i)) (some (.int j)) = _
  rw [oEqD_d rfl rfl]
  simp only [PyData.eqv, Bool.true_xor]
  rfl
theorem oEq_b {i j : Bool} : oEq (.val (.bool i)) (.val (.bool j)) = .ret (.val (.bool (decide (i = j)))) := by
  show oEqD false (some (.bool i)) (some (.bool j)) = _
  rw [oEqD_d rfl rfl]
  cases i <;> cases j <;> rfl
theorem oNe_b {i j : Bool} : oNe (.val (.bool i)) (.val (.bool j)) = .ret (.val (.bool (!decide (i = j)))) := by
  show oEqD true (some (.bool i)) (some (.bool j)) = _
  rw [oEqD_d rfl rfl]
  cases i <;> cases j <;> rfl
theorem oEq_s {i j : Str} : oEq (.val (.str i)) (.val (.str j)) = .ret (.val (.bool (decide (i = j)))) := by
  show oEqD false (some (.str i)) (some (.str j)) = _
  rw [oEqD_s, Bool.false_xor]
theorem oNe_s {i j : Str} : oNe (.val (.str i)) (.val (.str j)) = .ret (.val (.bool (!decide (i = j)))) := by
  show oEqD true (some (.str i)) (some (.str j)) = _
  rw [oEqD_s, Bool.true_xor]
/-! subscripts -/
theorem oIx_t {ds : List PyData} {i : Int} : oIx (.val (.tuple ds)) (.val (.int i)) = atD ds i := (rfl)
theorem oIx_s {ds : Str} {i : Int} : oIx (.val (.str ds)) (.val (.int i)) = atS ds i := (rfl)
theorem oIx_o {ds : List PyData} {i : Int} : oIx (.own (.lst ds)) (.val (.int i)) = atD ds i := (rfl)
theorem oIx_b {ds : List PyData} {i : Int} : oIx (.bor (.lst ds)) (.val (.int i)) = atD ds i := (rfl)
theorem atD_get {ds : List PyData} {i : Nat} {d : PyData} (h : ds[i]? = some d) : atD ds (i : Int) = .ret (.val d) := by
  obtain ⟨hl, _⟩ := List.getElem?_eq_some_iff.mp h
  have : atI ds (i : Int) = some d := by
    unfold atI
    have e : ixN ds.length (i : Int) = some i := by
      unfold ixN
      simp only [Int.natCast_nonneg, Int.toNat_natCast, if_true]
      first
        | rfl
        | simp [hl]
        | (split <;> first | rfl | omega | simp_all)
    rw [e]
    exact h
  unfold atD
  rw [this]
theorem atD_int {ds : List PyData} {i : Int} {d : PyData} (h0 : 0 ≤ i) (h : ds[i.toNat]? = some d) : atD ds i = .ret (.val d) := by
  have := atD_get h
  rwa [Int.toNat_of_nonneg h0] at this
theorem atD_m1 {ds : List PyData} {d : PyData} (h : ds[ds.length - 1]? = some d) : atD ds (-1) = .ret (.val d) := by
  obtain ⟨hl, _⟩ := List.getElem?_eq_some_iff.mp h
  have : atI ds (-1) = some d := by
    unfold atI
    have e : ixN ds.length (-1) = some (ds.length - 1) := by
      unfold ixN
      have h1 : ¬ (0 : Int) ≤ -1 := by omega
      first
        | (rw [if_neg h1]; simp; omega)
        | (simp; omega)
        | (split <;> simp_all <;> omega)
    rw [e]
    exact h
  unfold atD
  rw [this]
section
variable {a0 a1 a2 a3 a4 a5 a6 a7 a8 a9 : PyData} {ds : List PyData}
theorem atD_0 : atD (a0 :: ds) 0 = .ret (.val a0) := atD_get (i := 0) rfl
theorem atD_1 : atD (a0 :: a1 :: ds) 1 = .ret (.val a1) := atD_get (i := 1) rfl
theorem atD_2 : atD (a0 :: a1 :: a2 :: ds) 2 = .ret (.val a2) := atD_get (i := 2) rfl
theorem atD_3 : atD (a0 :: a1 :: a2 :: a3 :: ds) 3 = .ret (.val a3) := atD_get (i := 3) rfl
theorem atD_4 : atD (a0 :: a1 :: a2 :: a3 :: a4 :: ds) 4 = .ret (.val a4) := atD_get (i := 4) rfl
theorem atD_5 : atD (a0 :: a1 :: a2 :: a3 :: a4 :: a5 :: ds) 5 = .ret (.val a5) := atD_get (i := 5) rfl
theorem atD_6 : atD (a0 :: a1 :: a2 :: a3 :: a4 :: a5 :: a6 :: ds) 6 = .ret (.val a6) := atD_get (i := 6) rfl
theorem atD_7 : atD (a0 :: a1 :: a2 :: a3 :: a4 :: a5 :: a6 :: a7 :: ds) 7 = .ret (.val a7) := atD_get (i := 7) rfl
theorem atD_8 : atD (a0 :: a1 :: a2 :: a3 :: a4 :: a5 :: a6 :: a7 :: a8 :: ds) 8 = .ret (.val a8) := atD_get (i := 8) rfl
end
/-! displays -/
theorem datas_n : datas [] = some [] := (rfl)
theorem datas_v {d : PyData} {cs : List C} : datas (.val d :: cs) = (datas cs).map (d :: ·) := (rfl)
theorem mp_some {δ ε : Type} {f : δ → ε} {x : δ} : Option.map f (some x) = some (f x) := (rfl)
def kTup : Option (List PyData) → M C
  | some ds => if lenOk ds.length = true then .ret (.val (.tuple ds)) else .fail
  | none => .fail
def kLst : Option (List PyData) → M C
  | some ds => if lenOk ds.length = true then .ret (.own (.lst ds)) else .fail
  | none => .fail
theorem oTup_eq {cs : List C} : oTup cs = kTup (datas cs) := (rfl)
theorem oLst_eq {cs : List C} : oLst cs = kLst (datas cs) := (rfl)
theorem kTup_s {ds : List PyData} : kTup (some ds) = if lenOk ds.length = true then .ret (.val (.tuple ds)) else .fail := (rfl)
theorem kLst_s {ds : List PyData} : kLst (some ds) = if lenOk ds.length = true then .ret (.own (.lst ds)) else .fail := (rfl)
theorem len_n : ([] : List PyData).length = 0 := (rfl)
theorem len_c {d : PyData} {ds : List PyData} : (d :: ds).length = ds.length + 1 := (rfl)
/-! built in -/
theorem o1_v {f : PyData → M C} {d : PyData} : o1 f [.val d] = f d := (rfl)
theorem o1_o {f : PyData → M C} {ds : List PyData} : o1 f [.own (.lst ds)] = f (.list ds) := (rfl)
theorem o1_b {f : PyData → M C} {ds : List PyData} : o1 f [.bor (.lst ds)] = f (.list ds) := (rfl)
theorem lenD_t {ds : List PyData} : lenD (.tuple ds) = .ret (.val (.int ds.length)) := (rfl)
theorem lenD_l {ds : List PyData} : lenD (.list ds) = .ret (.val (.int ds.length)) := (rfl)
theorem lenD_s {z : Str} : lenD (.str z) = if lenOk z.length = true then .ret (.val (.int z.length)) else .fail := (rfl)
theorem absD_i {i : Int} : absD (.int i) = .ret (.val (.int (i.natAbs : Int))) := by
  show M.ret (C.val (.int (if i < 0 then -i else i))) = _
  rw [show (if i < 0 then -i else i) = (i.natAbs : Int) by split <;> omega]
theorem intD_i {i : Int} : intD (.int i) = .ret (.val (.int i)) := (rfl)
theorem intD_b {b : Bool} : intD (.bool b) = .ret (.val (.int (if b then 1 else 0))) := (rfl)
theorem oMax2_i {i j : Int} : oMax2 [.val (.int i), .val (.int j)] = .ret (.val (.int (max i j))) := (rfl)
theorem oMin2_i {i j : Int} : oMin2 [.val (.int i), .val (.int j)] = .ret (.val (.int (min i j))) := (rfl)
theorem oGcd_i {i j : Int} : oGcd [.val (.int i), .val (.int j)] = .ret (.val (.int ((Nat.gcd i.natAbs j.natAbs : Nat) : Int))) := (rfl)
theorem oListC_t {ds : List PyData} : oListC [.val (.tuple ds)] = .ret (.own (.lst ds)) := (rfl)
theorem oListC_o {ds : List PyData} : oListC [.own (.lst ds)] = .ret (.own (.lst ds)) := (rfl)
theorem oListC_b {ds : List PyData} : oListC [.bor (.lst ds)] = .ret (.own (.lst ds)) := (rfl)
theorem oTupC_t {ds : List PyData} : oTupC [.val (.tuple ds)] = .ret (.val (.tuple ds)) := (rfl)
theorem oTupC_o {ds : List PyData} : oTupC [.own (.lst ds)] = .ret (.val (.tuple ds)) := (rfl)
theorem oTupC_b {ds : List PyData} : oTupC [.bor (.lst ds)] = .ret (.val (.tuple ds)) := (rfl)
theorem repr_ok {d : PyData} (h : RepOk d) : repD1 d = .ret (.val (.str d.shown)) := by
  refine if_pos ?_
  obtain ⟨h1, h2, h3⟩ := h
  unfold repOk
  rw [h1, decide_eq_true h2, decide_eq_true (by rw [show sizeLine = 16777216 by decide] at h3; exact h3)]
  rfl
theorem bigD_l {f : List Bool → Bool} {bs : List Bool} : bigD f (.list (bs.map .bool)) = .ret (.val (.bool (f bs))) := by
  unfold bigD
  dsimp only
  rw [blsOf_map]
theorem isi_bi : isiT "int" (some "bool") = .ret (.val (.bool true)) := by unfold isiT; dsimp only; rw [kit_bool_int]
theorem isi_ii : isiT "int" (some "int") = .ret (.val (.bool true)) := by unfold isiT; dsimp only; rw [kit_int_int]
theorem isi_ib : isiT "bool" (some "int") = .ret (.val (.bool false)) := by unfold isiT; dsimp only; rw [kit_int_bool]
theorem isi_bb : isiT "bool" (some "bool") = .ret (.val (.bool true)) := by unfold isiT; dsimp only; rw [kit_bool_bool]
theorem isi_ni : isiT "int" (some "NoneType") = .ret (.val (.bool false)) := by unfold isiT; dsimp only; rw [kit_none_int]
theorem isi_ss : isiT "str" (some "str") = .ret (.val (.bool true)) := by unfold isiT; dsimp only; rw [kit_str_str]
theorem isi_nb : isiT "bool" (some "NoneType") = .ret (.val (.bool false)) := by unfold isiT; dsimp only; rw [kit_none_bool]
theorem oIsi_v {T : String} {d : PyData} : oIsi T (.val d) = isiT T (tyD d) := (rfl)
theorem tyD_b {b : Bool} : tyD (.bool b) = some "bool" := (rfl)
theorem tyD_i {b : Int} : tyD (.int b) = some "int" := (rfl)
theorem tyD_s {b : Str} : tyD (.str b) = some "str" := (rfl)
theorem tyD_n : tyD .none = some "NoneType" := (rfl)
theorem oIsX_n {n : Bool} {a : C} : oIsX n a (.val .none) = .ret (.val (.bool (n ^^ a.isN))) := by
  cases a with
  | val d => cases d <;> rfl
  | own _ => rfl
  | bor _ => rfl
  | tape => rfl
theorem oIsX_b {n a b : Bool} : oIsX n (.val (.bool a)) (.val (.bool b)) = .ret (.val (.bool (n ^^ decide (a = b)))) := (rfl)
theorem isN_n : C.isN (.val .none) = true := (rfl)
theorem isN_i {i : Int} : C.isN (.val (.int i)) = false := (rfl)
theorem isN_b {i : Bool} : C.isN (.val (.bool i)) = false := (rfl)
theorem isN_s {i : Str} : C.isN (.val (.str i)) = false := (rfl)
theorem isN_t {i : List PyData} : C.isN (.val (.tuple i)) = false := (rfl)
/-! draws -/
theorem wp_drawn {m : Int} {k : C → M α} {Q : α → Prop} (hm : m ≤ 1000000000) (q : ∀ v, 0 ≤ v → v < max m 1 → wp (k (.val (.int v))) Q) : wp ((drawC [.tape, .val (.int m)]).bind k) Q := by
  have e : drawC [.tape, .val (.int m)] = .draw m fun v => .ret (.val (.int v)) := if_pos (decide_eq_true hm)
  rw [e, drawB, wp_drawE]
  exact q
/-- a drawn one out of a row -/
theorem wp_pick {ds : List PyData} {i : Int} {k : C → M α} {Q : α → Prop} (h0 : 0 ≤ i) (h1 : i < ds.length) (q : ∀ d, d ∈ ds → wp (k (.val d)) Q) : wp ((atD ds i).bind k) Q := by
  have hl : i.toNat < ds.length := by omega
  rw [atD_int h0 (List.getElem?_eq_getElem hl), retB]
  exact q _ (List.getElem_mem hl)
def rng (k : Int) (i : Int) : Bool := decide (-k ≤ i) && decide (i ≤ k)
def smB (k : Int) : PyData → Bool
  | .int i => rng k i
  | _ => false
theorem wp_pickI (m : Int) {ds : List PyData} {i : Int} {k : C → M α} {Q : α → Prop} (hs : ds.all (smB m) = true) (h0 : 0 ≤ i) (h1 : i < ds.length) (q : ∀ j : Int, -m ≤ j → j ≤ m → wp (k (.val (.int j))) Q) : wp ((atD ds i).bind k) Q :=
  wp_pick h0 h1 fun d hd => by
    have := List.all_eq_true.mp hs d hd
    cases d with
    | int j =>
      simp only [smB, rng, Bool.and_eq_true, decide_eq_true_eq] at this
      exact q j this.1 this.2
    | _ => cases this
/-! bounds -/
theorem small_log {i : Int} {k : Nat} (hk : k ≠ 0) (h : i.natAbs < 2 ^ k) : i.natAbs.log2 < k := by
  by_cases h0 : i.natAbs = 0
  · rw [h0]; simp; omega
  · exact (Nat.log2_lt h0).mpr h
theorem cMul_ok {i j : Int} (k l : Nat) (hk : k ≠ 0) (hl : l ≠ 0) (h : k + l ≤ 1000000) (hi : i.natAbs < 2 ^ k) (hj : j.natAbs < 2 ^ l) : cMul i j = true := by
  have h1 := small_log hk hi
  have h2 := small_log hl hj
  exact decide_eq_true (by omega)
theorem cDiv_ok {i j : Int} (k : Nat) (hk : k ≠ 0) (h : k ≤ 9000) (h0 : 0 < j) (hj : j.natAbs < 2 ^ k) : cDiv i j = true := by
  have h2 := small_log hk hj
  unfold cDiv
  rw [decide_eq_true h0, decide_eq_true (by omega)]
  rfl
theorem cMod_ok {i j : Int} (h0 : 0 < j) : cMod i j = true := decide_eq_true h0
theorem rngOk_ok {i : Int} (h1 : -4611686018427387904 ≤ i) (h2 : i < 4611686018427387904) : rngOk i = true := by
  unfold rngOk
  rw [decide_eq_true h1, decide_eq_true h2]
  rfl
theorem lenOk_ok {n : Nat} (h : n ≤ 16777216) : lenOk n = true := decide_eq_true h
theorem rngD_len {lo c : Int} {n : Nat} : (rngD lo c n).length = n := by unfold rngD; rw [List.length_map, List.length_range]
end Cs

set_option maxRecDepth 100000
set_option maxHeartbeats 4000000
/-! a word of one's own at a join -/
namespace Cs
open PySem PySem.Spec PyProof.Rows L2
def Jn (P : Ro → Prop) (Q : Res → Prop) : Res → Prop
  | .nx ρ => P ρ
  | .rt c => Q (.rt c)
  | .bk ρ => Q (.bk ρ)
  | .ct ρ => Q (.ct ρ)
theorem wp_seqJ (P : Ro → Prop) {m n : Ro → M Res} {ρ : Ro} {Q : Res → Prop} (h1 : wp (m ρ) (Jn P Q)) (h2 : ∀ ρ', P ρ' → wp (n ρ') Q) : wp (mSeq m n ρ) Q := by
  rw [mSeq_eq]
  refine wp_call _ h1 fun r hr => ?_
  cases r with
  | nx ρ' => rw [kSeq_nx]; exact h2 _ hr
  | rt c => rw [kSeq_rt, wp_retE]; exact hr
  | bk ρ' => rw [kSeq_bk, wp_retE]; exact hr
  | ct ρ' => rw [kSeq_ct, wp_retE]; exact hr
theorem out_ok {c : C} {Q : C → Prop} (h : Q c) : wp (Res.out (.rt c)) Q := by rw [out_rt, wp_retE]; exact h
/-- behind a turn of a loop -/
def Fp (P : Ro → Prop) (Q : Res → Prop) : Res → Prop
  | .nx ρ => P ρ
  | .ct ρ => P ρ
  | .bk ρ => Q (.nx ρ)
  | .rt c => Q (.rt c)
theorem wp_over {δ : Type} (enc : δ → PyData) (I : List δ → Ro → Prop) {a : C → Ro → M Ro} {b : Ro → M Res} {Q : Res → Prop} (hn : ∀ ρ, I [] ρ → Q (.nx ρ)) (hc : ∀ d ds ρ, I (d :: ds) ρ → wp ((a (.val (enc d)) ρ).bind b) (Fp (I ds) Q)) : ∀ {ds : List δ} {ρ : Ro}, I ds ρ → wp (forL a b (ds.map enc) ρ) Q
  | [], ρ, h => by rw [List.map_nil, forL_nil, wp_retE]; exact hn ρ h
  | d :: ds, ρ, h => by
    rw [List.map_cons, forL_cons, ← bind_bind]
    refine wp_call _ (hc d ds ρ h) fun r hr => ?_
    cases r with
    | nx ρ' => rw [kFor_nx]; exact wp_over enc I hn hc hr
    | ct ρ' => rw [kFor_ct]; exact wp_over enc I hn hc hr
    | bk ρ' => rw [kFor_bk, wp_retE]; exact hr
    | rt c => rw [kFor_rt, wp_retE]; exact hr
/-- a def's run, its result named -/
theorem wp_fn {n k : Nat} {m : Ro → M Res} {cs : List C} {Q : C → Prop} (h : cs.length = n) (q : wp (m (cs.map some ++ List.replicate k none)) (fun r => wp (Res.out r) Q)) : wp (fnU n k m cs) Q := by
  rw [fnU_0 h]
  exact wp_bind.mpr q
end Cs

set_option maxRecDepth 100000
set_option maxHeartbeats 1000000
/-! reversed(e), a global text, in -/
namespace Cs
open PySem PySem.Spec PyProof.Rows L2
section
variable {tp : Option (Addr × Addr)} {K : PySem.W.Frag} {H H' H'' H0 H1 He Hq : Hp} {σ : L2.St} {ρ : Ro}
def revD : C → M (List PyData)
  | .val (.tuple ds) => .ret ds.reverse
  | _ => .fail
def gRev (g : Ro → M C) (ρ : Ro) : M (List PyData) := (g ρ).bind revD
theorem ri_rev {te : TE} {g : Ro → M C} {s : Bool} (h1 : RE K te g) : RI K s (RT.iRevA K te) (gRev g) := by
  intro tp He Hq ρ σ H Q r h
  refine h1 tp He Hq ρ σ H _ r (wp0_mono (fun c hc => ?_) (wp0_bind.mp h))
  intro x H1 g1 t1 rx
  unfold revD at hc
  split at hc
  · rename_i ds
    obtain ⟨a, vs, rfl, q1, q2, q3⟩ := rx.tup
    exact ⟨a, vs, rfl, .inr ⟨q1, hc _ H1 [] g1 t1 (lf_rev q3) (wk_revT q1 q2 q3) (fun _ m => by simp at m) (fun _ _ _ _ m => by simp at m)⟩⟩
  · exact hc.elim
theorem gRev_eq {g : Ro → M C} : gRev g ρ = (g ρ).bind revD := (rfl)
theorem revD_t {ds : List PyData} : revD (.val (.tuple ds)) = .ret ds.reverse := (rfl)
end
theorem pe_globS {X : Cx} {x z : Str} {pos : Pos} (hg : Gl X x) (hm : ∃ t, X.mg x = some (.str z t)) (hd : (x == ("__debug__" : Str)) = false := by decide) : PE X (.Name x pos) (tC (.str z)) := by
  obtain ⟨t, hm⟩ := hm
  exact pe_glob hg hm ⟨t, rfl⟩ hd
/-! in, of data -/
theorem oIn_l {d : PyData} {ds : List PyData} (h1 : SeqAt.shaped d = true) (h2 : SeqAt.shaped (.list ds) = true) (hs : ∀ z, d ≠ .str z) : oIn (.val d) (.bor (.lst ds)) = .ret (.val (.bool (ds.any fun z => PyData.eqv z d))) := by
  have e : oIn (.val d) (.bor (.lst ds)) = oInD false d ds := by
    show oInX false (some d) (some (.list ds)) = _
    cases d <;> first | rfl | exact absurd rfl (hs _)
  rw [e]
  unfold oInD
  rw [if_pos (by rw [h1, h2]; rfl), Bool.false_xor]
end Cs

set_option maxRecDepth 100000
set_option maxHeartbeats 1000000
/-! what is never reached; isinstance of tuples and lists -/
namespace Cs
open PySem PySem.Spec PyProof.Rows L2
section
variable {tp : Option (Addr × Addr)} {K : PySem.W.Frag} {H H' H'' H0 H1 He Hq : Hp} {σ : L2.St} {ρ : Ro}
def tFe : TE := fun _ _ _ => False
def tFt : TT := fun _ _ _ => False
def tFs : TS := fun _ _ _ => False
def gF (_ : Ro) : M C := .fail
def gFt (_ : Ro) : M Bool := .fail
def mF (_ : Ro) : M Res := .fail
theorem pe_F {X : Cx} {e : Expr} : PE X e tFe := ⟨fun _ _ _ _ _ _ h => h.elim⟩
theorem pt_F {X : Cx} {e : Expr} : PT X e tFt := ⟨fun _ _ _ _ _ _ h => h.elim⟩
theorem ps_F {X : Cx} {e : Stmt} : PS X e tFs := ⟨fun _ _ _ _ _ _ h => h.elim⟩
theorem pss_F {X : Cx} {e : List Stmt} : PSs X e tFs := ⟨fun _ _ _ _ _ _ h => h.elim⟩
theorem re_F : RE K tFe gF := fun _ _ _ _ _ _ _ _ h => h.elim
theorem rt_F : RT K tFt gFt := fun _ _ _ _ _ _ _ _ h => h.elim
theorem rs_F : RS K tFs mF := fun _ _ _ _ _ _ _ _ h => h.elim
theorem gF_eq : gF ρ = .fail := (rfl)
theorem gFt_eq : gFt ρ = .fail := (rfl)
theorem mF_eq : mF ρ = .fail := (rfl)
theorem mOrCt {m : M C} {c : C} : mOrC true m c = .ret c := (rfl)
theorem mOrCf {m : M C} {c : C} : mOrC false m c = m := (rfl)
theorem mAndCt {m : M C} {c : C} : mAndC true m c = m := (rfl)
theorem mAndCf {m : M C} {c : C} : mAndC false m c = .ret c := (rfl)
/-! isinstance of anything -/
def tyX : PyData → Option String
  | .none => some "NoneType"
  | .bool _ => some "bool"
  | .int _ => some "int"
  | .str _ => some "str"
  | .tuple _ => some "tuple"
  | _ => none
def oIsiX (T : String) : C → M C
  | .val d => isiT T (tyX d)
  | _ => .fail
theorem re_isiX {T : String} {ta : TE} {g : Ro → M C} (h1 : RE K ta g) : RE K (tCB (rIsi K) (tCons ta (tCons (tC (.ty T)) tNil))) (gUn (oIsiX T) g) := by
  intro tp He Hq ρ σ H Q r h
  refine h1 tp He Hq ρ σ H _ r (wp0_mono (fun c hc => ?_) (wp0_bind.mp h))
  intro x H1 g1 t1 rx
  cases c with
  | val d =>
    have key : ∀ {s : String}, TyX K H1 x (.type s) → wp0 (isiT T (some s)) (Post tp K H Q) → rIsi K [x, .ty T] H1 Q := fun {s} ty h => by
      unfold isiT at h
      dsimp only at h
      split at h
      · rename_i b e
        exact ⟨x, .ty T, .type s, .type T, b, rfl, .ty T, ty, kit_ty e, Post.bl h g1 t1⟩
      · exact h.elim
    obtain ⟨hd, _⟩ := rx
    cases hd with
    | non => exact key (.base .non) hc
    | bl b => exact key (.base (.bl b)) hc
    | int i => exact key (.base (.int i)) hc
    | str s => exact key (.base (.str s)) hc
    | lst _ _ => exact hc.elim
    | tup hs _ =>
      refine key (s := "tuple") ?_ hc
      rcases hs with (h | ⟨o, h⟩) | h
      · exact .base (.tup h)
      · exact .fTuple h
      · obtain ⟨o, its, n, hk, hc, _⟩ := h
        exact .kTuple hk hc
  | own o => exact hc.elim
  | bor o => exact hc.elim
  | tape => exact hc.elim
theorem kitX_tuple_str : kitB "tuple" "str" = some false := by decide +kernel
theorem kitX_tuple_bool : kitB "tuple" "bool" = some false := by decide +kernel
theorem kitX_tuple_int : kitB "tuple" "int" = some false := by decide +kernel
theorem kitX_tuple_tuple : kitB "tuple" "tuple" = some true := by decide +kernel
theorem kitX_str_tuple : kitB "str" "tuple" = some false := by decide +kernel
theorem kitX_str_bool : kitB "str" "bool" = some false := by decide +kernel
theorem kitX_str_int : kitB "str" "int" = some false := by decide +kernel
theorem kitX_bool_str : kitB "bool" "str" = some false := by decide +kernel
theorem kitX_bool_tuple : kitB "bool" "tuple" = some false := by decide +kernel
theorem kitX_int_str : kitB "int" "str" = some false := by decide +kernel
theorem kitX_int_tuple : kitB "int" "tuple" = some false := by decide +kernel
theorem kitX_none_str : kitB "NoneType" "str" = some false := by decide +kernel
theorem kitX_none_tuple : kitB "NoneType" "tuple" = some false := by decide +kernel
theorem oIsiX_v {T : String} {d : PyData} : oIsiX T (.val d) = isiT T (tyX d) := (rfl)
theorem tyX_b {b : Bool} : tyX (.bool b) = some "bool" := (rfl)
theorem tyX_i {b : Int} : tyX (.int b) = some "int" := (rfl)
theorem tyX_s {b : Str} : tyX (.str b) = some "str" := (rfl)
theorem tyX_n : tyX .none = some "NoneType" := (rfl)
theorem tyX_t {b : List PyData} : tyX (.tuple b) = some "tuple" := (rfl)
theorem isiX_ts : isiT "str" (some "tuple") = .ret (.val (.bool false)) := by unfold isiT; dsimp only; rw [kitX_tuple_str]
theorem isiX_tb : isiT "bool" (some "tuple") = .ret (.val (.bool false)) := by unfold isiT; dsimp only; rw [kitX_tuple_bool]
theorem isiX_ti : isiT "int" (some "tuple") = .ret (.val (.bool false)) := by unfold isiT; dsimp only; rw [kitX_tuple_int]
theorem isiX_tt : isiT "tuple" (some "tuple") = .ret (.val (.bool true)) := by unfold isiT; dsimp only; rw [kitX_tuple_tuple]
theorem isiX_st : isiT "tuple" (some "str") = .ret (.val (.bool false)) := by unfold isiT; dsimp only; rw [kitX_str_tuple]
theorem isiX_sb : isiT "bool" (some "str") = .ret (.val (.bool false)) := by unfold isiT; dsimp only; rw [kitX_str_bool]
theorem isiX_si : isiT "int" (some "str") = .ret (.val (.bool false)) := by unfold isiT; dsimp only; rw [kitX_str_int]
theorem isiX_bs : isiT "str" (some "bool") = .ret (.val (.bool false)) := by unfold isiT; dsimp only; rw [kitX_bool_str]
theorem isiX_bt : isiT "tuple" (some "bool") = .ret (.val (.bool false)) := by unfold isiT; dsimp only; rw [kitX_bool_tuple]
theorem isiX_is : isiT "str" (some "int") = .ret (.val (.bool false)) := by unfold isiT; dsimp only; rw [kitX_int_str]
theorem isiX_it : isiT "tuple" (some "int") = .ret (.val (.bool false)) := by unfold isiT; dsimp only; rw [kitX_int_tuple]
theorem isiX_ns : isiT "str" (some "NoneType") = .ret (.val (.bool false)) := by unfold isiT; dsimp only; rw [kitX_none_str]
theorem isiX_nt : isiT "tuple" (some "NoneType") = .ret (.val (.bool false)) := by unfold isiT; dsimp only; rw [kitX_none_tuple]
end
end Cs

set_option maxRecDepth 100000
set_option maxHeartbeats 1000000
/-! sorted of a tuple of ints; lists unpacked -/
namespace Cs
open PySem PySem.Spec PyProof.Rows L2
section
variable {prog : Program} {w : World} {A : Around} {E : Value → Shared → Prop} {s : Shared}
theorem collect_tupl {l : Addr} {vs : List Value} {Q : List Value → Shared → Prop} (hl : s.heap.IsTuple l vs.toArray)
    (h : Q vs { s with heap := (s.heap.push (seqObj "list" #[] 0)).update s.heap.objs.size (Obj.mapSeq (· ++ vs.toArray)) }) (hsz : vs.length ≤ sizeLine := by size_fits) :
    wpAny (model prog w) A (collect (.ref l)) Q E s := by
  obtain ⟨o, ho, hc, n, hd⟩ := id hl
  unfold collect
  refine wpAny_bind (wpAny_runValue (codeAny_builtin entry_proto_collect' ?_))
  show wpAny _ _ (do again (.builtin "list.__iadd__" ⟨[← newList [], .ref l], []⟩)) _ _ s
  refine wpAny_bind (wpAny_newList (wpAny_pure ⟨Code.quiet_builtin _ (by decide +kernel), codeAny_builtin entry_list_iadd' ?_⟩))
  show wpAny _ _ (Builtin.List.listExtendWith (.ref s.heap.objs.size) (.ref l) (.ref s.heap.objs.size)) _ _ { s with heap := s.heap.push (seqObj "list" #[] 0) }
  unfold Builtin.List.listExtendWith
  have ho' : (s.heap.push (seqObj "list" #[] 0)).get? l = some o := Heap.get?_push_of_some _ ho
  refine wpAny_bind (wpAny_typeOf (T := "tuple") ⟨o, ho', hc⟩ ?_)
  have ht : (Value.type "tuple" == Value.type "tuple") = true := by rfl
  rw [if_pos (by rw [ht]; simp)]
  refine wpAny_bind (listItems_at ho' hd ?_)
  refine wpAny_bind (listItems_at (xs := #[]) (n := 0) (Heap.get?_push_size _ rfl) rfl ?_)
  rw [if_neg (by simp)]
  refine wpAny_bind (listUpdate_at (xs := #[]) (n := 0) (Heap.get?_push_size _ rfl) rfl ?_ (Nat.zero_le _) (by show (#[] ++ vs.toArray).size ≤ sizeLine + 1; simp only [Array.size_append, List.size_toArray, List.length_nil]; omega))
  refine wpAny_pure ?_
  show wpAny (model prog w) A (do
      let o ← load s.heap.objs.size
      match o.data with
      | .seq xs _ => pure xs.toList
      | _ => unsupported "internal:collect") Q E { s with heap := (s.heap.push (seqObj "list" #[] 0)).update s.heap.objs.size (Obj.mapSeq (· ++ vs.toArray)) }
  refine wpAny_bind (wpAny_load (get?_update_seq (Heap.get?_push_size _ rfl) _) ?_)
  show wpAny _ _ (pure ((#[] : Array Value) ++ vs.toArray).toList) Q E _
  rw [show ((#[] : Array Value) ++ vs.toArray).toList = vs by simp]
  exact wpAny_pure h
theorem sorted_tupl {l : Addr} {vs : List Value} {ns : List Int} {Q : Value → Shared → Prop} (hl : s.heap.IsTuple l vs.toArray) (hI : IntsAre vs ns) (h64 : vs.length < 64)
    (h : ∀ (out : Array Value) (ns' : List Int), IntsAre out.toList ns' → ns'.Perm ns → ns'.Pairwise (· ≤ ·) → Q (.ref (s.heap.objs.size + 1)) { s with heap := sortedAll s.heap vs out }) :
    wpAny (model prog w) A (call (.builtin "sorted") [.ref l]) Q E s := by
  refine Calls.call_function_entry kind_sorted plain_sorted entry_sorted (args_sorted1 _) ?_
  unfold Builtin.«sorted»
  refine wpAny_bind (m := checkCount "sorted" 1 1 _) (wpAny_pure ?_)
  refine wpAny_bind (collect_tupl hl ?_ (small64 h64))
  refine wpAny_bind (wpAny_newList ?_)
  have hsz : ((s.heap.push (seqObj "list" #[] 0)).update s.heap.objs.size (Obj.mapSeq (· ++ vs.toArray))).objs.size = s.heap.objs.size + 1 := by
    rw [Heap.size_update, size_push']
  have hoL : (((s.heap.push (seqObj "list" #[] 0)).update s.heap.objs.size (Obj.mapSeq (· ++ vs.toArray))).push (seqObj "list" vs.toArray 0)).get? (s.heap.objs.size + 1) = some (seqObj "list" vs.toArray 0) := by
    rw [← hsz]; exact Heap.get?_push_size _ rfl
  show wpAny _ _ _ _ _ { s with heap := ((s.heap.push (seqObj "list" #[] 0)).update s.heap.objs.size (Obj.mapSeq (· ++ vs.toArray))).push (seqObj "list" vs.toArray 0) }
  rw [hsz]
  refine wpAny_bind (wpAny_holding (wpAny_call_entry slot_list_sort ⟨_, hoL, rfl⟩ entry_list_sort (list_sort_tree hoL hI h64 fun out ns' a1 a2 a3 => ⟨_, rfl, ?_⟩) (args_list_sort _)))
  exact wpAny_pure ⟨_, rfl, h out ns' a1 a2 a3⟩
end
def rSortU (K : PySem.W.Frag) : List V → Hp → VK → Prop := fun vs H Q => ∃ (a : Addr) (ns : List Int), vs = [V.ref a] ∧ (SqL K H a (ns.map V.int) ∨ SqT K H a (ns.map V.int)) ∧ ns.length < 64 ∧
  ∀ (ns' : List Int) (p : Addr), ns'.Perm ns → ns'.Pairwise (· ≤ ·) → H p = none → Q (.ref p) (upd H p (.lst (ns'.map V.int)))
theorem sortU (K : PySem.W.Frag) {X : Cx} (h : X.K = K := by rfl) : CallR X (.builtin "sorted") (rSortU K) := by
  subst h
  intro pins s σ H vs us Q I r h
  obtain ⟨a, ns, rfl, hs, h64, q⟩ := h
  rcases hs with hs | hs
  · exact cr_sorted pins s σ H _ us Q I r ⟨a, ns, rfl, hs, h64, q⟩
  · obtain ⟨its, rv, hl, _⟩ := I.tuple hs
    rw [Vals.ref1 r]
    have hi := rv.ints
    refine sorted_tupl (show s.heap.IsTuple a its.toArray from hl) hi (by rw [hi.length]; exact h64) fun out ns' h1 h2 h3 => ?_
    obtain ⟨ep, he'⟩ := PyProof.Rows.sortedAll_at s.heap its out
    have hlen : (ns'.map V.int).length ≤ sizeLine := by rw [List.length_map, h2.length_eq]; exact small64 h64
    exact ⟨.ref _, upd H (s.heap.objs.size + 1) (.lst (ns'.map V.int)), I.laid (t' := s.toks) (fun _ _ => PyProof.Rows.sortedAll_old) (Nat.le_succ _) ⟨hlen, out.toList, ep, vals_of_ints h1, he'⟩, rfl, q ns' _ h2 h3 (I.hok.fresh (Nat.le_succ _))⟩
section
variable {tp : Option (Addr × Addr)} {K : PySem.W.Frag} {H H' H'' H0 H1 He Hq : Hp} {σ : L2.St} {ρ : Ro}
def srtK : PyData → M C
  | .list ds => .ret (.own (.lst ds))
  | _ => .fail
def srtI (ns : List Int) : M C := if ns.length < 64 then .any (fun d => ∃ ns' : List Int, ns'.Perm ns ∧ ns'.Pairwise (· ≤ ·) ∧ d = .list (ns'.map .int)) srtK else .fail
def srtD : PyData → M C
  | .list ds => match intsOf ds with
    | some ns => srtI ns
    | none => .fail
  | .tuple ds => match intsOf ds with
    | some ns => srtI ns
    | none => .fail
  | _ => .fail
abbrev oSort := o1 srtD
theorem cs_sort : CallS K (rSortU K) oSort := by
  intro tp H0 H vs cs Q g t r h
  obtain ⟨v, d, rfl, hd, h⟩ := o1_ok r h
  have fin : ∀ {ns : List Int} {vs : List V} {a : Addr}, vs = ns.map V.int → (SqL K H a vs ∨ SqT K H a vs) → wp0 (srtI ns) (Post tp K H0 Q) → rSortU K [.ref a] H Q := by
    intro ns vs a e hs h
    subst e
    unfold srtI at h
    split at h
    · rename_i h64
      exact ⟨a, ns, rfl, hs, h64, fun ns' p hp hw hn => Post.lst (h _ ⟨ns', hp, hw, rfl⟩) g t hn (.ofInts ns') (lfAll_iff.mpr fun d m => by obtain ⟨i, _, rfl⟩ := List.mem_map.mp m; rfl)⟩
    · exact h.elim
  unfold srtD at h
  split at h
  · split at h
    · rename_i ns e
      cases hd with
      | lst hs ha => exact fin (intsOf_dp ha e) (.inl hs) h
    · exact h.elim
  · split at h
    · rename_i ns e
      cases hd with
      | tup hs ha => exact fin (intsOf_dp ha e) (.inr hs) h
    · exact h.elim
  · exact h.elim
theorem srtD_l {ns : List Int} : srtD (.list (ns.map .int)) = srtI ns := by unfold srtD; dsimp only; rw [intsOf_map]
theorem srtD_t {ns : List Int} : srtD (.tuple (ns.map .int)) = srtI ns := by unfold srtD; dsimp only; rw [intsOf_map]
/-! a list unpacked -/
def aUnl (n : Nat) (as : List PyData → Ro → M Ro) : C → Ro → M Ro
  | .own (.lst ds), ρ => if ds.length = n then as ds ρ else .fail
  | .bor (.lst ds), ρ => if ds.length = n then as ds ρ else .fail
  | _, _ => .fail
theorem rg_unl {n : Nat} {gs : TGs} {as : List PyData → Ro → M Ro} {sl : List Nat} (h2 : RGs K gs as sl) : RG K (gUnl K n gs) (aUnl n as) sl := by
  intro tp He Hq ρ σ Hb H v c Q r g t rc h
  unfold aUnl at h
  split at h
  · rename_i ds
    obtain ⟨a, e, _, _, vs, q1, q2, q3⟩ := rc
    split at h
    · rename_i l
      exact ⟨a, vs, e, SqL.of q1, by rw [q2.len]; exact l, h2 tp He Hq ρ σ H vs ds Q (r.go g t) q2 q3 h⟩
    · exact h.elim
  · rename_i ds
    obtain ⟨a, e, vs, q1, q2, q3⟩ := rc
    split at h
    · rename_i l
      exact ⟨a, vs, e, q1.sq, by rw [q2.len]; exact l, h2 tp He Hq ρ σ H vs ds Q (r.go g t) q2 q3 h⟩
    · exact h.elim
  · exact h.elim
theorem aUnl_o {n : Nat} {as : List PyData → Ro → M Ro} {ds : List PyData} : aUnl n as (.own (.lst ds)) ρ = if ds.length = n then as ds ρ else .fail := (rfl)
theorem aUnl_b {n : Nat} {as : List PyData → Ro → M Ro} {ds : List PyData} : aUnl n as (.bor (.lst ds)) ρ = if ds.length = n then as ds ρ else .fail := (rfl)
/-! zip of two tuples -/
def zipT (xs ys : List PyData) : List PyData := (xs.zip ys).map fun p => .tuple [p.1, p.2]
def zipD : List C → M (List PyData)
  | [.val (.tuple xs), .val (.tuple ys)] => .ret (zipT xs ys)
  | _ => .fail
def gZip (gs : Ro → M (List C)) (ρ : Ro) : M (List PyData) := (gs ρ).bind zipD
theorem gZip_eq {gs : Ro → M (List C)} : gZip gs ρ = (gs ρ).bind zipD := (rfl)
theorem zipD_t {xs ys : List PyData} : zipD [.val (.tuple xs), .val (.tuple ys)] = .ret (zipT xs ys) := (rfl)
theorem lf_zip {xs ys : List PyData} (f : lfAll xs = true) (g : lfAll ys = true) : lfAll (zipT xs ys) = true := lfAll_iff.mpr fun d m => by
  obtain ⟨⟨a, b⟩, m', rfl⟩ := List.mem_map.mp m
  have h := List.of_mem_zip m'
  simp only [lf, lfAll, Bool.and_true, Bool.and_eq_true]
  exact ⟨lfAll_iff.mp f a h.1, lfAll_iff.mp g b h.2⟩
theorem wk_zipT {a b : Addr} {vs us : List V} {xs ys : List PyData} (h : SqT K H1 a vs) (h' : SqT K H1 b us) (hd : DpAll K H1 vs xs) (hd' : DpAll K H1 us ys) (f : lfAll xs = true) (f' : lfAll ys = true) : Wk K H1 (RZ.ItzT K a b) [] (zipT xs ys) := by
  intro H' im kp
  have hs := im.sqT h
  have hs' := im.sqT h'
  have e1 := hd.imlf im xs _ f
  have e2 := hd'.imlf im ys _ f'
  refine ⟨⟨vs, us, hs, hs', ?_⟩, fun i d e => ?_⟩
  · rw [hd.len, hd'.len]
    unfold zipT
    rw [List.length_map, List.length_zip]
    omega
  · unfold zipT at e
    rw [List.getElem?_map] at e
    cases q : (xs.zip ys)[i]? with
    | none => rw [q] at e; cases e
    | some p =>
      rw [q] at e
      obtain ⟨x, y⟩ := p
      cases e
      obtain ⟨q1, q2⟩ := List.getElem?_zip_eq_some.mp q
      obtain ⟨v, v1, v2⟩ := e1.get q1
      obtain ⟨u, u1, u2⟩ := e2.get q2
      refine ⟨⟨vs, us, v, u, hs, hs', v1, u1⟩, fun z H'' yl => ?_⟩
      obtain ⟨T, x', y', rfl, hT, rfl, g1, g2⟩ := yl
      have := g1 vs hs
      rw [v1] at this
      cases this
      have := g2 us hs'
      rw [u1] at this
      cases this
      have fx := lfAll_get f q1
      have fy := lfAll_get f' q2
      have im2 : Im H' (upd H' T (.tup [v, u])) := Im.new hT
      exact ⟨Same.new hT, .tup (SqT.of upd_same) (.cons (v2.imlf im2 x _ fx) (.cons (u2.imlf im2 y _ fy) .nil))⟩
theorem ri_zip {ta : TA} {gs : Ro → M (List C)} {s : Bool} (h1 : RA K ta gs) : RI K s (RZ.iZipA K ta) (gZip gs) := by
  intro tp He Hq ρ σ H Q r h
  refine h1 tp He Hq ρ σ H _ r (wp0_mono (fun c hc => ?_) (wp0_bind.mp h))
  intro vs H1 g1 t1 rx
  unfold zipD at hc
  split at hc
  · rename_i xs ys
    obtain ⟨v, u, rfl, r1, r2⟩ := rx.two
    obtain ⟨a, vs, rfl, q1, q2, q3⟩ := r1.tup
    obtain ⟨b, us, rfl, p1, p2, p3⟩ := r2.tup
    exact ⟨a, b, vs, us, rfl, .inr ⟨q1, p1, hc _ H1 [] g1 t1 (lf_zip q3 p3) (wk_zipT q1 p1 q2 p2 q3 p3) (fun _ m => by simp at m) (fun _ _ _ _ m => by simp at m)⟩⟩
  · exact hc.elim
/-! < of ints, bools, texts -/
def rLtU : R2 := fun x y H Q => rI0 (fun i j => .bl (decide (i < j))) x y H Q ∨ (∃ i j, x = .str i ∧ y = .str j ∧ Q (.bl (decide (i.cps.toList < j.cps.toList))) H) ∨ ∃ p q, x = .bl p ∧ y = .bl q ∧ Q (.bl (!p && q)) H
theorem opLtU {X : Cx} : OpR X (compareOp .Lt) rLtU := by
  intro pins s σ H x y v u Q I rx ry h
  rcases h with h | ⟨i, j, rfl, rfl, q⟩ | ⟨p, r, rfl, rfl, q⟩
  · exact op_lt pins s σ H x y v u Q I rx ry h
  · exact op_lt_str pins s σ H _ _ v u Q I rx ry ⟨i, j, rfl, rfl, q⟩
  · cases rx
    cases ry
    refine PyProof.Rows.lt_bool ?_
    have e : decide (b2i p < b2i r) = (!p && r) := by cases p <;> cases r <;> decide
    rw [e]
    exact ⟨.bl (!p && r), H, I, rfl, q⟩
def oLtU : C → C → M C
  | .val (.int i), .val (.int j) => .ret (.val (.bool (decide (i < j))))
  | .val (.str i), .val (.str j) => .ret (.val (.bool (decide (i.cps.toList < j.cps.toList))))
  | .val (.bool p), .val (.bool q) => .ret (.val (.bool (!p && q)))
  | _, _ => .fail
theorem os_ltU : OpS K rLtU oLtU := by
  intro tp H0 H x y cx cy Q g t rx ry h
  unfold oLtU at h
  split at h
  · rename_i i j
    cases rx.int; cases ry.int
    exact .inl ⟨i, j, rfl, rfl, Post.bl h g t⟩
  · rename_i i j
    cases rx.str; cases ry.str
    exact .inr (.inl ⟨i, j, rfl, rfl, Post.bl h g t⟩)
  · rename_i i j
    cases rx.bl; cases ry.bl
    exact .inr (.inr ⟨i, j, rfl, rfl, Post.bl h g t⟩)
  · exact h.elim
theorem oLtU_i {i j : Int} : oLtU (.val (.int i)) (.val (.int j)) = .ret (.val (.bool (decide (i < j)))) := (rfl)
theorem oLtU_s {i j : Str} : oLtU (.val (.str i)) (.val (.str j)) = .ret (.val (.bool (decide (i.cps.toList < j.cps.toList)))) := (rfl)
theorem oLtU_b {i j : Bool} : oLtU (.val (.bool i)) (.val (.bool j)) = .ret (.val (.bool (!i && j))) := (rfl)
end
/-! index -/
def rIndexT (K : PySem.W.Frag) : V → List V → Hp → VK → Prop := fun x xs H Q => ∃ (a : Addr) (y : V) (d : PyData) (ds : List PyData) (j : Nat) (z : PyData), x = V.ref a ∧ xs = [y] ∧ Dp K H (V.ref a) (.tuple ds) ∧ Dp K H y d ∧
  SeqAt.shaped (.list ds) = true ∧ SeqAt.shaped d = true ∧ ds[j]? = some z ∧ PyData.eqv z d = true ∧ (∀ (m : Nat) (z' : PyData), m < j → ds[m]? = some z' → PyData.eqv z' d = false) ∧ Q (.int (j : Nat)) H
theorem mt_indexT {X : Cx} (hu : X.A.units + 65 < cLine) : MtR X "tuple.index" (rIndexT X.K) := by
  intro pins s σ H x xs v us Q I rx rxs h
  obtain ⟨a, y, d, ds, j, z, rfl, rfl, hl, hy, sl, sd, hz, hzj, hno, q⟩ := h
  cases rx
  cases rxs with
  | cons ry rt =>
    rename_i uy ut
    cases rt
    obtain ⟨bs, r1⟩ := Dp.reads I d y uy hy ry
    have hxs : PyData.canLayAll0 ds = true := SeqAt.canLay_of_shaped sl
    have hroom : X.A.units + 1 + min (PyData.depthAll ds) d.depth < cLine := room_in_shaped sd hu
    cases hl with
    | tup hs ha =>
      obtain ⟨its, rv, ⟨⟨cls, dd, data, sls⟩, ho, hc, n, hdt⟩, hlen⟩ := I.tuple hs
      simp only at hc hdt
      subst hc hdt
      obtain ⟨as, h4⟩ := Dp.readsAll I ds _ its ha rv
      have hn : its.length = ds.length := SeqAt.ReadsAll.length ds its as h4
      have hmap : its.map (SeqAt.readOf s.heap) = ds := SeqAt.readsAll_map ds its as hxs h4
      have hvl := rv.length
      have hsl := sizeLine_eq
      obtain ⟨hjd, _⟩ := List.getElem?_eq_some_iff.mp hz
      have hjl : j < its.length := by omega
      have hj : j < its.toArray.size := by simpa using hjl
      have at_ : ∀ (m : Nat) (hm : m < its.toArray.size) (z' : PyData), ds[m]? = some z' → SeqAt.readOf s.heap its.toArray[m] = z' := by
        intro m hm z' hz'
        have hml : m < its.length := by simpa using hm
        rw [← hmap, List.getElem?_map, List.getElem?_eq_getElem hml] at hz'
        have e1 : SeqAt.readOf s.heap its[m] = z' := Option.some.inj (show some (SeqAt.readOf s.heap its[m]) = some z' from hz')
        simpa using e1
      refine call_meets PySem.F.slot_tuple_index ⟨_, ho, rfl⟩ PySem.F.entry_tuple_index (PySem.F.args_tuple_index_2 _ _)
        (TI.tuple_indexAt a its.toArray n dd sls uy (fun u => PyData.eqv (SeqAt.readOf s.heap u) d) j hj ?_ ?_) ⟨ho, SeqAt.items_eqAt (vs := its.toArray) (show ReadsAll s.heap its.toArray.toList ds as from h4) r1 hxs (SeqAt.canLay_of_shaped sd) hroom, ?_⟩
      · show PyData.eqv (SeqAt.readOf s.heap its.toArray[j]) d = true
        rw [at_ j hj z hz]
        exact hzj
      · intro m hm hmj
        have hmd : m < ds.length := by omega
        have hz' : ds[m]? = some ds[m] := List.getElem?_eq_getElem hmd
        show PyData.eqv (SeqAt.readOf s.heap its.toArray[m]) d = false
        rw [at_ m hm _ hz']
        exact hno m _ hmj hz'
      · exact ⟨.int (j : Nat), H, I.tok _, ⟨_, rfl⟩, q⟩
theorem mtIxT (K : PySem.W.Frag) {X : Cx} (hu : X.A.units + 65 < cLine) (h : X.K = K := by rfl) : MtR X "tuple.index" (rIndexT K) := h ▸ mt_indexT hu
theorem mtIxL (K : PySem.W.Frag) {X : Cx} (hu : X.A.units + 65 < cLine) (h : X.K = K := by rfl) : MtR X "list.index" (rIndexD K) := h ▸ mt_indexD hu
section
variable {tp : Option (Addr × Addr)} {K : PySem.W.Frag} {H H' H'' H0 H1 He Hq : Hp} {σ : L2.St} {ρ : Ro}
/-- the first place of an equal one -/
def idx (d : PyData) (ds : List PyData) : Option Nat := ds.findIdx? fun z => PyData.eqv z d
theorem idx_some {d : PyData} {ds : List PyData} {j : Nat} (h : idx d ds = some j) : ∃ z, ds[j]? = some z ∧ PyData.eqv z d = true ∧ ∀ (m : Nat) (z' : PyData), m < j → ds[m]? = some z' → PyData.eqv z' d = false := by
  unfold idx at h
  obtain ⟨hj, h1, h2⟩ := List.findIdx?_eq_some_iff_getElem.mp h
  refine ⟨ds[j], List.getElem?_eq_getElem hj, h1, fun m z' hm hz => ?_⟩
  obtain ⟨hm', e⟩ := List.getElem?_eq_some_iff.mp hz
  have := h2 m hm
  rw [e] at this
  simpa using this
def idxD (d : PyData) (ds : List PyData) : M C := if (SeqAt.shaped d && SeqAt.shaped (.list ds)) = true then (match idx d ds with
  | some j => .ret (.val (.int (j : Nat)))
  | none => .fail) else .fail
def idxA (ds : List PyData) : List C → M C
  | [.val d] => idxD d ds
  | _ => .fail
def kIdxL (gs : Ro → M (List C)) (ρ : Ro) : C → M C
  | .bor (.lst ds) => (gs ρ).bind (idxA ds)
  | .own (.lst ds) => (gs ρ).bind (idxA ds)
  | _ => .fail
def gIdxL (go : Ro → M C) (gs : Ro → M (List C)) (ρ : Ro) : M C := (go ρ).bind (kIdxL gs ρ)
theorem gIdxL_eq {go : Ro → M C} {gs : Ro → M (List C)} : gIdxL go gs ρ = (go ρ).bind (kIdxL gs ρ) := (rfl)
theorem kIdxL_b {gs : Ro → M (List C)} {ds : List PyData} : kIdxL gs ρ (.bor (.lst ds)) = (gs ρ).bind (idxA ds) := (rfl)
theorem kIdxL_o {gs : Ro → M (List C)} {ds : List PyData} : kIdxL gs ρ (.own (.lst ds)) = (gs ρ).bind (idxA ds) := (rfl)
theorem idxA_v {ds : List PyData} {d : PyData} : idxA ds [.val d] = idxD d ds := (rfl)
theorem RCs.one' {vs : List V} {c : C} (h : RCs tp K H0 H vs [c]) : ∃ v, vs = [v] ∧ RC tp K H0 H v c := by
  cases vs with
  | nil => exact h.elim
  | cons v vs => cases vs with
    | nil => exact ⟨v, rfl, h.1⟩
    | cons _ _ => exact h.2.elim
theorem idxD_ok {d : PyData} {ds : List PyData} {Q : VK} (g : GrT tp H0 H) (t : TOk tp H) (h : wp0 (idxD d ds) (Post tp K H0 Q)) : SeqAt.shaped (.list ds) = true ∧ SeqAt.shaped d = true ∧ ∃ (j : Nat) (z : PyData), ds[j]? = some z ∧ PyData.eqv z d = true ∧ (∀ (m : Nat) (z' : PyData), m < j → ds[m]? = some z' → PyData.eqv z' d = false) ∧ Q (.int (j : Nat)) H := by
  unfold idxD at h
  split at h
  · rename_i e
    simp only [Bool.and_eq_true] at e
    split at h
    · rename_i j e2
      obtain ⟨z, z1, z2, z3⟩ := idx_some e2
      exact ⟨e.2, e.1, j, z, z1, z2, z3, Post.int h g t⟩
    · exact h.elim
  · exact h.elim
theorem re_idxL {to : TE} {t : TA} {go : Ro → M C} {gs : Ro → M (List C)} (h1 : RE K to go) (h2 : RA K t gs) : RE K (tBM K "list" (rIndexD K) to t) (gIdxL go gs) := by
  intro tp He Hq ρ σ H Q r h
  refine h1 tp He Hq ρ σ H _ r (wp0_mono (fun c hc => ?_) (wp0_bind.mp h))
  intro x H1 g1 t1 rx
  have key : ∀ {ds : List PyData}, RC tp K H H1 x (.bor (.lst ds)) → wp0 ((gs ρ).bind (idxA ds)) (Post tp K H Q) → tyV K "list" x H1 ∧ t σ H1 fun xs H2 => rIndexD K x xs H2 Q := fun {ds} rx hc => by
    obtain ⟨a, rfl, vs, q1, q2, q3⟩ := rx
    refine ⟨.inl ⟨rfl, vs, q1.sq⟩, ?_⟩
    refine h2 tp He Hq ρ σ H1 _ (r.go g1 t1) (wp0_mono (fun cs hcs => ?_) (wp0_bind.mp hc))
    intro xs H2 g2 t2 rcs
    unfold idxA at hcs
    split at hcs
    · rename_i d
      obtain ⟨y, rfl, ry⟩ := rcs.one'
      have rx2 : RC tp K H H2 (V.ref a) (.bor (.lst ds)) := RC.gr (⟨a, rfl, vs, q1, q2, q3⟩ : RC tp K H H1 (V.ref a) (.bor (.lst ds))) g2 t1
      obtain ⟨s1, s2, j, z, z1, z2, z3, q⟩ := idxD_ok (g1.trans g2) t2 hcs
      exact ⟨a, y, d, ds, j, z, rfl, rfl, rx2.dp rfl, ry.1, s1, s2, z1, z2, z3, q⟩
    · exact hcs.elim
  cases c with
  | own o => cases o with | lst ds => exact key rx.lend hc
  | bor o => cases o with | lst ds => exact key rx hc
  | val d => exact hc.elim
  | tape => exact hc.elim
/-! a tuple of the module's top -/
def KTup (K : PySem.W.Frag) (a : Addr) (ds : List PyData) : Prop := ∃ (o : Obj) (its : Array Value) (n : Nat) (vs : List V), K.lookup a = some o ∧ o.cls = .type "tuple" ∧ o.dict = none ∧ o.data = .seq its n ∧ its.size ≤ sizeLine ∧ Vals vs its.toList ∧ (∀ H, DpAll K H vs ds) ∧ lfAll ds = true
theorem KTup.dp {a : Addr} {ds : List PyData} (h : KTup K a ds) (H : Hp) : Dp K H (.ref a) (.tuple ds) := by
  obtain ⟨o, its, n, vs, h1, h2, h3, h4, h5, h6, h7, h8⟩ := h
  exact .tup (.inr ⟨o, its, n, h1, h2, h4, h5, h6⟩) (h7 H)
theorem KTup.lf {a : Addr} {ds : List PyData} (h : KTup K a ds) : Cs.lf (.tuple ds) = true := by
  obtain ⟨o, its, n, vs, h1, h2, h3, h4, h5, h6, h7, h8⟩ := h
  simpa only [Cs.lf] using h8
theorem re_ktup {a : Addr} {ds : List PyData} (h : KTup K a ds) : RE K (tC (.ref a)) (gC (.tuple ds)) := re_con h.dp h.lf
theorem pe_ktup {X : Cx} {x : Str} {a : Addr} {pos : Pos} (hg : Gl X x) (hm : X.mg x = some (.ref a)) (hd : (x == ("__debug__" : Str)) = false := by decide) : PE X (.Name x pos) (tC (.ref a)) := pe_glob hg hm rfl hd
def gIdxK (ds : List PyData) (gs : Ro → M (List C)) (ρ : Ro) : M C := (gs ρ).bind (idxA ds)
theorem gIdxK_eq {ds : List PyData} {gs : Ro → M (List C)} : gIdxK ds gs ρ = (gs ρ).bind (idxA ds) := (rfl)
theorem re_idxK {a : Addr} {ds : List PyData} {t : TA} {gs : Ro → M (List C)} (hk : KTup K a ds) (h2 : RA K t gs) : RE K (tBM K "tuple" (rIndexT K) (tC (.ref a)) t) (gIdxK ds gs) := by
  intro tp He Hq ρ σ H Q r h
  refine ⟨?_, ?_⟩
  · obtain ⟨o, its, n, vs, h1, h2, h3, _⟩ := hk
    exact .inr (.inl ⟨rfl, o, h1, h2, h3⟩)
  · refine h2 tp He Hq ρ σ H _ r (wp0_mono (fun cs hcs => ?_) (wp0_bind.mp h))
    intro xs H2 g2 t2 rcs
    unfold idxA at hcs
    split at hcs
    · rename_i d
      obtain ⟨y, rfl, ry⟩ := rcs.one'
      obtain ⟨s1, s2, j, z, z1, z2, z3, q⟩ := idxD_ok g2 t2 hcs
      exact ⟨a, y, d, ds, j, z, rfl, rfl, hk.dp H2, ry.1, s1, s2, z1, z2, z3, q⟩
    · exact hcs.elim
/-! index of a sign in a text -/
def sixD (z : Str) : List C → M C
  | [.val (.str b)] => match Builtin.Str.occurrences z b 0 z.length 1 with
    | i :: _ => .ret (.val (.int (i : Nat)))
    | [] => .fail
  | _ => .fail
def kSix (gs : Ro → M (List C)) (ρ : Ro) : C → M C
  | .val (.str z) => (gs ρ).bind (sixD z)
  | _ => .fail
def gSix (go : Ro → M C) (gs : Ro → M (List C)) (ρ : Ro) : M C := (go ρ).bind (kSix gs ρ)
theorem gSix_eq {go : Ro → M C} {gs : Ro → M (List C)} : gSix go gs ρ = (go ρ).bind (kSix gs ρ) := (rfl)
theorem kSix_s {gs : Ro → M (List C)} {z : Str} : kSix gs ρ (.val (.str z)) = (gs ρ).bind (sixD z) := (rfl)
def rSix : V → List V → Hp → VK → Prop := fun x xs H Q => ∃ a b i rest, x = .str a ∧ xs = [.str b] ∧ Builtin.Str.occurrences a b 0 a.length 1 = i :: rest ∧ Q (.int (i : Nat)) H
theorem mtSix {X : Cx} : MtR X "str.index" rSix := mt_sindex
theorem re_six {to : TE} {t : TA} {go : Ro → M C} {gs : Ro → M (List C)} (h1 : RE K to go) (h2 : RA K t gs) : RE K (tBM K "str" rSix to t) (gSix go gs) := by
  intro tp He Hq ρ σ H Q r h
  refine h1 tp He Hq ρ σ H _ r (wp0_mono (fun c hc => ?_) (wp0_bind.mp h))
  intro x H1 g1 t1 rx
  unfold kSix at hc
  split at hc
  · rename_i z
    cases rx.str
    refine ⟨rfl, ?_⟩
    refine h2 tp He Hq ρ σ H1 _ (r.go g1 t1) (wp0_mono (fun cs hcs => ?_) (wp0_bind.mp hc))
    intro xs H2 g2 t2 rcs
    unfold sixD at hcs
    split at hcs
    · rename_i b
      obtain ⟨y, rfl, ry⟩ := rcs.one'
      cases ry.str
      split at hcs
      · rename_i i rest e
        exact ⟨z, b, i, rest, rfl, rfl, e, Post.int hcs (g1.trans g2) t2⟩
      · exact hcs.elim
    · exact hcs.elim
  · exact hc.elim
/-! x += e of ints -/
def kAug (i : Nat) (f : Int → Int → Int) (a : Int) (ρ : Ro) : C → M Res
  | .val (.int b) => (asgR i (.val (.int (f a b))) ρ).bind fun ρ' => .ret (.nx ρ')
  | _ => .fail
def augAt (i : Nat) (f : Int → Int → Int) (g : Ro → M C) (ρ : Ro) : Option (Option C) → M Res
  | some (some (.val (.int a))) => (g ρ).bind (kAug i f a ρ)
  | _ => .fail
def mAugI (i : Nat) (f : Int → Int → Int) (g : Ro → M C) (ρ : Ro) : M Res := augAt i f g ρ ρ[i]?
theorem mAugI_eq {i : Nat} {f : Int → Int → Int} {g : Ro → M C} : mAugI i f g ρ = augAt i f g ρ ρ[i]? := (rfl)
theorem augAt_i {i : Nat} {f : Int → Int → Int} {g : Ro → M C} {a : Int} : augAt i f g ρ (some (some (.val (.int a)))) = (g ρ).bind (kAug i f a ρ) := (rfl)
theorem kAug_i {i : Nat} {f : Int → Int → Int} {a b : Int} : kAug i f a ρ (.val (.int b)) = (asgR i (.val (.int (f a b))) ρ).bind fun ρ' => .ret (.nx ρ') := (rfl)
theorem rs_augI {i : Nat} {f : Int → Int → Int} {te : TE} {g : Ro → M C} (h1 : RE K te g) : RS K (tAug i te (ipI f)) (mAugI i f g) := by
  intro tp He Hq ρ σ H D r h
  unfold mAugI augAt at h
  split at h
  · rename_i a e
    obtain ⟨v, h2, h3⟩ := r.at_ i _ e
    have h3' : RC tp K H H v (.val (.int a)) := h3
    cases h3'.int
    refine ⟨_, h2, ?_⟩
    refine h1 tp He Hq ρ σ H _ r (wp0_mono (fun c hc => ?_) (wp0_bind.mp h))
    intro y H1 g1 t1 ry
    unfold kAug at hc
    split at hc
    · rename_i b
      cases ry.int
      refine ⟨a, b, rfl, rfl, ?_⟩
      exact rg_name tp He Hq ρ σ H H1 (.int (f a b)) (.val (.int (f a b))) D.nx r g1 t1 ⟨.int _, rfl⟩ (wp0_mono (fun ρ' hρ σ' _ rel => hρ σ' H1 Hq .refl rel) (wp0_bind.mp hc))
    · exact hc.elim
  · exact h.elim
end
/-- a def that calls itself, at no depth -/
theorem Df.rec0 {K : PySem.W.Frag} {P : Program} {w : World} {mg : Str → Option Value} {base : Heap} {x : Str} {st : Stmt} {N ps : List Str} {k : Nat} (A : At K mg x st)
    (bd : ∀ (kV doc pm : Value) (an : Option Addr) (cdv ct : Value) (us : List Value), us.length = ps.length → bindArgs (PySem.W.fnOf x x (defArgs st) (defBody st) (defScope st) .none kV doc pm an cdv ct) ⟨us, []⟩ = pure (ps.zip us))
    (S : FnScope N ps (defScope st)) : Df P w K mg base (k + 1) x ps (spU K (fun _ => .fail)) := by
  refine Df.of A bd S (fun vs H Q E h => ?_) (fun cdv A out f s H vs Q E hr hg h => ?_)
  · obtain ⟨tp, cs, t, rc, no, h⟩ := h
    exact h.elim
  · obtain ⟨tp, cs, t, rc, no, h⟩ := h
    exact h.elim
end Cs

set_option maxRecDepth 100000
set_option maxHeartbeats 1000000
/-! defs with keyword-only parameters -/
namespace Cs
open PySem PySem.Spec PyProof.Rows L2
def AtK (K : PySem.W.Frag) (mg : Str → Option Value) (x : Str) (st : Stmt) (kws : List (Str × V)) : Prop := ∃ (f : Addr) (fd : FuncData), mg x = some (.ref f) ∧ Fun K x x st f fd ∧ FunD K x x (defArgs st) (defBody st) (defScope st) [] kws f fd
def DfK (P : Program) (w : World) (K : PySem.W.Frag) (mg : Str → Option Value) (base : Heap) (k : Nat) (x : Str) (ps : List Str) (n : Nat) (kws : List (Str × V)) (sp : Sp) : Prop :=
  ∃ (f : Addr) (fd : FuncData) (ds : List Value), mg x = some (.ref f) ∧ PySem.W.keepIn K (.ref f) = true ∧ Vals (kws.map (·.2)) ds ∧ Binds K fd ps ds ∧ KBn K fd ps n (kws.map (·.1)) (fun us ws => us ++ ws) (fun vs zs => vs ++ zs) ∧ FnG P w K mg base k f fd ps sp
section
variable {P : Program} {w : World} {K : PySem.W.Frag} {mg : Str → Option Value} {base : Heap}
theorem DfK.uni {x : Str} {st : Stmt} {N ps : List Str} {kws : List (Str × V)} {k n m : Nat} {mm : Ro → M Res} (A : AtK K mg x st kws) (hk : kws ≠ []) (hn : n + kws.length = ps.length)
    (h0 : ∀ (D : Addr) (doc pm : Value) (an : Option Addr) (cdv ct : Value) (us ks : List Value), us.length = n → ks.length = kws.length →
      KwChain D ((kws.map (·.1)).zip ks) (bindArgs (PySem.W.fnOf x x (defArgs st) (defBody st) (defScope st) .none (.ref D) doc pm an cdv ct) ⟨us, []⟩) (ps.zip (us ++ ks)))
    (h1 : ∀ (kV doc pm : Value) (an : Option Addr) (cdv ct : Value) (us ws : List Value), us.length = n → ws.length = kws.length → bindArgs (PySem.W.fnOf x x (defArgs st) (defBody st) (defScope st) .none kV doc pm an cdv ct) ⟨us, (kws.map (·.1)).zip ws⟩ = pure (ps.zip (us ++ ws)))
    (S : FnScope N ps (defScope st)) (hm : N.length - ps.length = m)
    (body : ∀ (cdv : Value) (A : Around) (out : List Env) (f : Addr) (s : Shared) (H : Hp) (E : XK), Room k (A.deeper (envOfC x (defScope st) s.heap.objs.size f cdv)) → A.guards = some [] →
      ∃ t, PSs (cxG P w K mg base N x (defScope st) f cdv A out s H E) (defBody st) t ∧ RS K t mm) :
    DfK P w K mg base (k + 1) x ps n kws (spU K (fnU ps.length m mm)) := by
  obtain ⟨f, fd, hmg, F, FD⟩ := A
  obtain ⟨ds, vd, bd⟩ := FD.binds0 n hk hn h0
  have G : FnG P w K mg base (k + 1) f fd ps (spU K (fnU ps.length m mm)) := by
    refine FnG.of F S (fun vs H Q E h => ?_) (fun cdv A out s H vs Q E hr hg h => ?_)
    · obtain ⟨tp, cs, t, rc, no, h⟩ := h
      unfold fnU at h
      split at h
      · rename_i e
        rw [rc.len, e]
      · exact h.elim
    · obtain ⟨tp, cs, t, rc, no, h⟩ := h
      obtain ⟨t', q1, q2⟩ := body cdv A out f s H E hr hg
      refine ⟨t', q1, ?_⟩
      unfold fnU at h
      split at h
      · rename_i e
        refine q2 tp H H _ _ H _ (start_rel t rc no (by rw [rc.len, e]; exact hm)) (wp0_mono (fun q hq => ?_) (wp0_bind.mp h))
        cases q with
        | nx ρ' => exact fun σ' H' Hq' g' r' => hq .non H' (r'.sub.trans r'.gr) r'.tok ⟨.non, rfl⟩
        | rt c => exact hq
        | bk _ => exact hq.elim
        | ct _ => exact hq.elim
      · exact h.elim
  refine ⟨f, fd, ds, hmg, F.kp, vd, bd, ⟨fun s us ws X l1 l2 => ?_, fun r1 r2 => r1.append r2⟩, G⟩
  obtain ⟨oc, od, kV, doc, pm, an, cdv, ct, osl, rfl, _⟩ := F.ex
  rw [List.length_map] at l2
  exact .of_eq (h1 kV doc pm an cdv ct us ws l1 l2)
end
section
variable {X : Cx} {k n : Nat} {ps : List Str} {sp : Sp} {x : Str} {p pos : Pos} {e : Expr} {es : List Expr} {kw : List Keyword} {kws : List (Str × V)} {t tk : TA}
def tFnD (sp : Sp) (ds : List V) (t : TA) : TE := fun σ H Q => t σ H fun vs H1 => sp (vs ++ ds) H1 Q E0
theorem pe_dfD (D : DfK X.prog X.w X.K X.mg X.base k x ps n kws sp) (hr : Room k X.A) (hgd : X.A.guards = some []) (hg : Gl X x)
    (ha : PA X (e :: es) t) (hdb : (x == ("__debug__" : Str)) = false := by decide) (he : starEach (e :: es) X.env = (false, eval e X.env) :: starEach es X.env := by rfl) (hpl : (backTo pos (starEach es X.env)).any (·.1) = false := by rfl) :
    PE X (.Call (.Name x p) (e :: es) [] pos) (tFnD sp (kws.map (·.2)) t) := by
  obtain ⟨f, fd, ds, hm, hk, vd, hb, _, F⟩ := D
  refine ⟨fun pins s σ H Q I h => wpAny_Call_Name_kw (ld_glob I hg hm ?_ hdb)⟩
  refine PySem.W.callWith_K (h₀ := X.base) I.ok.mod.kin hk (thn (ha.run pos pins s σ H _ I h) fun us s1 ⟨vs, H1, I1, r, q⟩ => ⟨I1.kIn, ?_⟩) he hpl
  have r2 : Vals (vs ++ kws.map (·.2)) (us ++ ds) := r.append vd
  have hl : (us ++ ds).length = ps.length := by rw [← r2.length]; exact F.len _ _ _ _ q
  refine wpAny_call (codeAny_mono (F.go X.A X.stack s1 H1 ⟨us, []⟩ (us ++ ds) (vs ++ kws.map (·.2)) Q E0 hr hgd I1.env0 (hb s1 us I1.kIn hl) r2 q) fun r s' hq => ?_)
  match r, hq with
  | .ok (.ret u), hq => exact I1.after hq
  | .error e, hq => exact False.elim hq
  | .ok .next, hq => exact False.elim hq
  | .ok .brk, hq => exact False.elim hq
  | .ok .cont, hq => exact False.elim hq
def tFnK (sp : Sp) (n m : Nat) (t tk : TA) : TE := fun σ H Q => t σ H fun vs H1 => tk σ H1 fun zs H2 => vs.length = n ∧ zs.length = m ∧ sp (vs ++ zs) H2 Q E0
theorem pe_dfK (D : DfK X.prog X.w X.K X.mg X.base k x ps n kws sp) (hr : Room k X.A) (hgd : X.A.guards = some []) (hg : Gl X x)
    (ha : PA X (e :: es) t) (hkw : PK X kw tk) (hks : (backToKw pos (keywordEach kw X.env)).filterMap (·.1) = kws.map (·.1) := by rfl) (hall : (backToKw pos (keywordEach kw X.env)).all (·.1.isSome) = true := by rfl)
    (hdb : (x == ("__debug__" : Str)) = false := by decide) (he : starEach (e :: es) X.env = (false, eval e X.env) :: starEach es X.env := by rfl)
    (hpl : ((backTo pos (starEach (e :: es) X.env)).any (·.1) || (backToKw pos (keywordEach kw X.env)).any (·.1.isNone)) = false := by rfl) :
    PE X (.Call (.Name x p) (e :: es) kw pos) (tFnK sp n kws.length t tk) := by
  obtain ⟨f, fd, ds, hm, hk, vd, _, hb, F⟩ := D
  refine ⟨fun pins s σ H Q I h => wpAny_Call_Name_kw (ld_glob I hg hm ?_ hdb)⟩
  refine PySem.W.callWith_KW (h₀ := X.base) I.ok.mod.kin hk hall (thn (ha.run pos pins s σ H _ I h) fun us s1 ⟨vs, H1, I1, r, q⟩ => ?_) hpl he
  refine thn (hkw.run pos pins s1 σ H1 _ I1 q) fun ws s2 ⟨zs, H2, I2, rz, l1, l2, q2⟩ => ⟨I2.kIn, ?_⟩
  rw [hks]
  have r2 : Vals (vs ++ zs) (us ++ ws) := r.append rz
  refine wpAny_call (codeAny_mono (F.go X.A X.stack s2 H2 ⟨us, (kws.map (·.1)).zip ws⟩ (us ++ ws) (vs ++ zs) Q E0 hr hgd I2.env0 (hb.to s2 us ws I2.kIn (r.length.symm.trans l1) (rz.length.symm.trans (by rw [List.length_map]; exact l2))) r2 q2) fun r s' hq => ?_)
  match r, hq with
  | .ok (.ret u), hq => exact I2.after hq
  | .error e, hq => exact False.elim hq
  | .ok .next, hq => exact False.elim hq
  | .ok .brk, hq => exact False.elim hq
  | .ok .cont, hq => exact False.elim hq
end
section
variable {tp : Option (Addr × Addr)} {K : PySem.W.Frag} {H H' H'' H0 H1 He Hq : Hp} {σ : L2.St} {ρ : Ro}
theorem RCs.app : ∀ {vs us : List V} {cs es : List C}, RCs tp K H0 H vs cs → RCs tp K H0 H us es → RCs tp K H0 H (vs ++ us) (cs ++ es)
  | [], _, [], _, _, q => q
  | v :: vs, _, c :: cs, _, h, q => ⟨h.1, RCs.app h.2 q⟩
  | [], _, _ :: _, _, h, _ => h.elim
  | _ :: _, _, [], _, h, _ => h.elim
theorem RCs.vals : ∀ {vs : List V} {ds : List PyData}, DpAll K H vs ds → lfAll ds = true → RCs tp K H0 H vs (ds.map .val)
  | _, [], h, _ => by cases h; trivial
  | _, d :: ds, h, f => by
    simp only [lfAll, Bool.and_eq_true] at f
    cases h with
    | cons h1 h2 => exact ⟨⟨h1, f.1⟩, RCs.vals h2 f.2⟩
theorem no_lend {cs : List C} : ∀ c ∈ cs.map C.lend, ∀ o, c ≠ .own o := fun c m o z => by
  obtain ⟨c', _, e⟩ := List.mem_map.mp m
  subst z
  cases c' <;> cases e
def gFnD (f : List C → M C) (dds : List PyData) (gs : Ro → M (List C)) (ρ : Ro) : M C := (gs ρ).bind fun cs => f (cs.map C.lend ++ dds.map .val)
theorem gFnD_eq {f : List C → M C} {dds : List PyData} {gs : Ro → M (List C)} : gFnD f dds gs ρ = (gs ρ).bind fun cs => f (cs.map C.lend ++ dds.map .val) := (rfl)
theorem re_fnD {f : List C → M C} {ds : List V} {dds : List PyData} {t : TA} {gs : Ro → M (List C)} (hd : ∀ H, DpAll K H ds dds) (hf : lfAll dds = true) (h1 : RA K t gs) : RE K (tFnD (spU K f) ds t) (gFnD f dds gs) := by
  intro tp He Hq ρ σ H Q r h
  refine h1 tp He Hq ρ σ H _ r (wp0_mono (fun cs hc => ?_) (wp0_bind.mp h))
  intro vs H1 g1 t1 rx
  refine ⟨tp, cs.map C.lend ++ dds.map .val, t1, (rx.lend (H1 := H1)).app (.vals (hd H1) hf), fun c m o z => ?_, wp0_mono (fun c hc => hc.after g1 t1) hc⟩
  rcases List.mem_append.mp m with m | m
  · exact no_lend c m o z
  · obtain ⟨d, _, e⟩ := List.mem_map.mp m
    rw [z] at e
    cases e
def kFnK (n m : Nat) (f : List C → M C) (cs es : List C) : M C := if cs.length = n ∧ es.length = m then f (cs.map C.lend ++ es.map C.lend) else .fail
def gFnK (n m : Nat) (f : List C → M C) (gs ks : Ro → M (List C)) (ρ : Ro) : M C := (gs ρ).bind fun cs => (ks ρ).bind fun es => kFnK n m f cs es
theorem gFnK_eq {n m : Nat} {f : List C → M C} {gs ks : Ro → M (List C)} : gFnK n m f gs ks ρ = (gs ρ).bind fun cs => (ks ρ).bind fun es => kFnK n m f cs es := (rfl)
theorem kFnK_21 {f : List C → M C} {a b c : C} : kFnK 2 1 f [a, b] [c] = f [a.lend, b.lend, c.lend] := by unfold kFnK; rw [if_pos ⟨rfl, rfl⟩]; rfl
theorem re_fnK {n m : Nat} {f : List C → M C} {t tk : TA} {gs ks : Ro → M (List C)} (h1 : RA K t gs) (h2 : RA K tk ks) : RE K (tFnK (spU K f) n m t tk) (gFnK n m f gs ks) := by
  intro tp He Hq ρ σ H Q r h
  refine h1 tp He Hq ρ σ H _ r (wp0_mono (fun cs hc => ?_) (wp0_bind.mp h))
  intro vs H1 g1 t1 rx
  refine h2 tp He Hq ρ σ H1 _ (r.go g1 t1) (wp0_mono (fun es he => ?_) (wp0_bind.mp hc))
  intro zs H2 g2 t2 rz
  unfold kFnK at he
  split at he
  · rename_i l
    refine ⟨by rw [rx.len]; exact l.1, by rw [rz.len]; exact l.2, tp, cs.map C.lend ++ es.map C.lend, t2, ((rx.gr g2 t1).lend (H1 := H2)).app rz.lend, fun c m o z => ?_, wp0_mono (fun c hc => hc.after (g1.trans g2) t2) he⟩
    rcases List.mem_append.mp m with m | m
    · exact no_lend c m o z
    · exact no_lend c m o z
  · exact he.elim
end
end Cs

set_option maxRecDepth 100000
set_option maxHeartbeats 4000000
/-! Errors of one's own: made without an argument; isinstance of one that has a dict. -/
namespace L2
open PySem PySem.Spec PyProof.Rows
/-- the exception's dict: none, or one that is told -/
def DcOk (d : Option Addr) (H : Hp) : Prop := d = none ∨ ∃ dd fs, d = some dd ∧ H dd = some (.xd fs)
def rIsA (K : PySem.W.Frag) (a : Addr) (cls : Value) (d : Option Addr) : List V → Hp → VK → Prop := fun xs H Q => ∃ (D : Addr) (c : V) (cv : Value) (b : Bool), cls = .ref D ∧ ExcC K D ∧ xs = [.ref a, c] ∧ (∀ u, RelV c u → u = cv) ∧ PySem.W.kitOne K (.ref D) cv = some b ∧ DcOk d H ∧ Q (.bl b) H
theorem inst_of {X : Cx} {pins : List (Addr × Obj)} {σ : St} {H : Hp} {s : Shared} {a D : Addr} {oe : Obj} {d : Option Addr} (I : Inv X pins σ H s) (hget : s.heap.get? a = some oe) (hz : Zc (.ref D) d oe) (hf : ∃ vs, oe.data = .fields vs) (dc : DcOk d H) : ∃ od, PySem.W.InstAt s.heap a oe D od := by
  obtain ⟨vs, hv⟩ := hf
  rcases dc with rfl | ⟨dd, fs, rfl, ed⟩
  · refine ⟨none, ?_⟩
    obtain ⟨oc, od, oda, osl⟩ := oe
    obtain ⟨h1, h2⟩ := hz
    dsimp only at h1 h2 hv
    subst h1 h2 hv
    exact ⟨hget, rfl, rfl, trivial⟩
  · have hx : ObjOk X.prog X.w H s.heap dd (.xd fs) := I.hok dd _ ed
    obtain ⟨mA, hns, hr⟩ := hx
    obtain ⟨od, ho, hl⟩ := lookIn_ns hns
    exact ⟨some od, hget, hz.1, by unfold PySem.W.notCls; rw [hv] <;> rfl, by rw [hz.2]; exact ho⟩
theorem call_isA {X : Cx} {a : Addr} {oe : Obj} {cls : Value} {d : Option Addr} {pn : List (Addr × Obj)} (hz : Zc cls d oe) (hf : ∃ vs, oe.data = .fields vs) : CallR (X.suite a ((a, oe) :: pn)) (.builtin "isinstance") (rIsA X.K a cls d) := by
  intro pins s σ H xs us Q I r h
  obtain ⟨D, c, cv, b, rfl, C, rfl, hcv, e, dc, q⟩ := h
  cases r with
  | cons rx rr =>
    cases rr with
    | cons rt rr =>
      cases rr
      cases rx
      have ec := hcv _ rt
      subst ec
      obtain ⟨hget, _⟩ := I.pin (a, oe) (List.mem_append.mpr (.inl List.mem_cons_self))
      obtain ⟨od, J⟩ := inst_of I hget hz hf dc
      have hcl : (PySem.W.clsIn X.K D).isSome = true := by
        obtain ⟨cd, hc, _⟩ := PySem.W.any_some C.hd
        rw [hc]
        rfl
      exact PySem.W.kia_one (PySem.W.kitx_exc hcl C.hg C.hk C.hs C.ha C.hn C.ht C.hm) I.kIn J e (fun z => nomatch z) fun tk => ⟨.bl b, H, I.kept (t' := tk) fun _ _ z => z, rfl, q⟩
/-- e.f of the caught exception, of whatever class: the library's rule for the class that it turns out to have -/
def tXa (K : PySem.W.Frag) (a : Addr) (cls : Value) (d : Option Addr) (f : Str) (i : Nat) : TE := fun σ H Q => σ[i]? = some (some (.ref a)) ∧ ∃ (C dd : Addr) (fs : List (Str × V)) (v : V), cls = .ref C ∧ XfC K C ∧ PySem.W.findIn K (.ref C) f = some none ∧ d = some dd ∧ H dd = some (.xd fs) ∧ fs.lookup f = some v ∧ Q v H
theorem pe_xa {X : Cx} {a : Addr} {oe : Obj} {cls : Value} {d : Option Addr} {pn : List (Addr × Obj)} {e : Expr} {i : Nat} {pos : Pos} {n : Str}
    (hz : Zc cls d oe) (hf : ∃ vs, oe.data = .fields vs) (he : PE (X.suite a ((a, oe) :: pn)) e (tVar i)) (hb : attributeBase e n X.env (eval e X.env) = eval e X.env := by rfl) :
    PE (X.suite a ((a, oe) :: pn)) (.Attribute e n pos) (tXa X.K a cls d n i) :=
  ⟨fun pins s σ H Q I ⟨hσ, C, dd, fs, v, ec, T, hno, ed, ea, l, q⟩ => (pe_xf T hno hz hf he hb).run pins s σ H Q I ⟨.ref a, hσ, rfl, ec, dd, fs, v, ed, ea, l, q⟩⟩
section
variable {X : Cx} {pos : Pos}
/-- X(), X an own exception class without own __init__ -/
theorem pmk_own0 {C : Addr} {bmB : List Value} {B newId initId : String} {x : Str} {p : Pos} (F : ExcBaseFacts B newId initId bmB) (q : PySem.W.excIn X.K C bmB newId = true) (gC : X.mg x = some (.ref C))
    (kC : PySem.W.keepIn X.K (.ref C) = true) (r : Raises X (.ref C)) (hg : Gl X x) (hdb : (x == ("__debug__" : Str)) = false := by decide) :
    PMk X (.Call (.Name x p) [] [] pos) (fun _ H Q => Q (.ref C) none H) := by
  intro pins s σ H Q I h
  refine wpAny_Call_Name_kw (ld_glob I hg gC ?_ hdb)
  refine PySem.W.callWith_K0 I.kIn kC ?_
  obtain ⟨bm, N, nm, qn, bs, hdct, sn, sub, ab, col, dd, k0, k1, k2, k3, k5, mN, hC, hN, hni, T⟩ := exc_obj I.kIn q
  refine wpAny_call_exc_subT F T hC hN hni (fun h' e hm => ?_) (by show 0 ≤ sizeLine; omega)
  exact mk_of I hm r h (I.hok.gone hm.new)
end
/-- __init__ of a class with one field -/
def sp_init (K : PySem.W.Frag) (C : Addr) (f : Str) : Sp := fun vs H Q _ => ∃ (a : Addr) (v : V), vs = [.ref a, v] ∧ OexC K C ∧ PySem.W.findIn K (.ref C) f = some none ∧ H a = some (exo a C none) ∧
  ∀ dx, H dx = none → dx ≠ a → Q .non (upd (upd H dx (exd dx [(f, v)])) a (exo a C (some dx)))
theorem put_del {H : Hp} {a d : Addr} {u v w z : HO} (ha : H a = none) (n : d ≠ a) : upd (del (upd (upd (upd H a u) d v) a w) a) d z = upd H d z := by
  funext b
  by_cases hd : b = d
  · subst hd; rw [upd_same, upd_same]
  · rw [upd_ne hd, upd_ne hd]
    by_cases hb : b = a
    · subst hb; rw [del_same, ha]
    · rw [del_ne hb, upd_ne hb, upd_ne hd, upd_ne hb]
end L2

set_option maxRecDepth 100000
set_option maxHeartbeats 1000000
/-! tuples of whole numbers at the module's top -/
namespace Cs
open PySem PySem.Spec PyProof.Rows L2
def chkI : List Value → List Int → Bool
  | [], [] => true
  | .int i _ :: vs, n :: ns => (i == n) && chkI vs ns
  | _, _ => false
def ktupI (ns : List Int) (o : Obj) : Bool := match o with
  | ⟨.type c, none, .seq its _, _⟩ => (c == "tuple") && ((chkI its.toList ns) && decide (ns.length ≤ 1000))
  | _ => false
theorem chkI_vals : ∀ (vs : List Value) (ns : List Int), chkI vs ns = true → Vals (ns.map V.int) vs
  | vs, ns, h => by
    unfold chkI at h
    split at h
    · exact .nil
    · rename_i i t us n ms
      simp only [Bool.and_eq_true, beq_iff_eq] at h
      obtain ⟨rfl, h⟩ := h
      exact .cons ⟨t, rfl⟩ (chkI_vals us ms h)
    · cases h
theorem lf_intsK (ns : List Int) : lfAll (ns.map PyData.int) = true := lfAll_iff.mpr fun d m => by
  obtain ⟨i, _, rfl⟩ := List.mem_map.mp m
  rfl
theorem ktupI_of {K : PySem.W.Frag} {a : Addr} {o : Obj} {ns : List Int} (h : K.lookup a = some o) (b : ktupI ns o = true) : KTup K a (ns.map PyData.int) := by
  unfold ktupI at b
  split at b
  · rename_i c its n sl
    simp only [Bool.and_eq_true, beq_iff_eq, decide_eq_true_eq] at b
    obtain ⟨rfl, b1, b2⟩ := b
    have v := chkI_vals _ _ b1
    refine ⟨_, its, n, ns.map V.int, h, rfl, rfl, rfl, ?_, v, fun H => DpAll.ofInts ns, lf_intsK ns⟩
    have hl := v.length
    rw [List.length_map] at hl
    have : its.size = its.toList.length := by simp
    rw [this, ← hl, show sizeLine = 16777216 by decide]
    omega
  · cases b
end Cs
/-! reversed(xs), xs a name -/
namespace Cs
open PySem PySem.Spec PyProof.Rows L2
section
variable {tp : Option (Addr × Addr)} {K : PySem.W.Frag} {H H' H'' H0 H1 He Hq : Hp} {σ : L2.St} {ρ : Ro}
def mForRev (i : Nat) (a : C → Ro → M Ro) (b : Ro → M Res) (ρ : Ro) : M Res := match ρ[i]? with
  | some (some (.own (.lst ds))) => forL a b ds.reverse (ρ.set i (some (.bor (.lst ds))))
  | some (some (.val (.tuple ds))) => forL a b ds.reverse ρ
  | _ => .fail
theorem rs_forRev {i : Nat} {g : TG} {tb : TS} {a : C → Ro → M Ro} {b : Ro → M Res} {sl : List Nat} (hg : RG K g a sl) (hb : RS K tb b) : RS K (tFor (RT.iRevA K (tVar i)) g tb) (mForRev i a b) := by
  intro tp He Hq ρ σ H D r h
  unfold mForRev at h
  split at h
  · rename_i ds e
    obtain ⟨Hq2, p, g2, r2, hs, w, np, f, vs0, sq⟩ := r.freeze e
    have hl : i < ρ.length := (List.getElem?_eq_some_iff.mp e).1
    obtain ⟨v, h1, p', e2, vs, q1, q2, q3⟩ := r2.at_ i (.bor (.lst ds)) (List.getElem?_set_self hl)
    rw [hs] at h1
    cases h1
    cases e2
    have q1' := q1.gr r2.gr
    refine ⟨_, hs, p, vs, rfl, .inl ⟨q1'.sq, for_go hg hb r2 (lf_rev q3) (wk_revL q1.1 q2 q3) (fun q m => ?_) (wp0_mono (fun _ q => q.mono g2) h)⟩⟩
    have : q = p := by simpa using m
    subst this
    exact np
  · rename_i ds e
    refine rs_for (ri_rev (s := true) (re_var (i := i))) hg hb tp He Hq ρ σ H D r ?_
    unfold mFor gRev gVar
    rw [e]
    exact h
  · exact h.elim
theorem mForRev_own {i : Nat} {a : C → Ro → M Ro} {b : Ro → M Res} {ds : List PyData} (h : ρ[i]? = some (some (.own (.lst ds)))) : mForRev i a b ρ = forL a b ds.reverse (ρ.set i (some (.bor (.lst ds)))) := by unfold mForRev; rw [h]
theorem mForRev_tup {i : Nat} {a : C → Ro → M Ro} {b : Ro → M Res} {ds : List PyData} (h : ρ[i]? = some (some (.val (.tuple ds)))) : mForRev i a b ρ = forL a b ds.reverse ρ := by unfold mForRev; rw [h]
def kForRev (ρ : Ro) (i : Nat) (a : C → Ro → M Ro) (b : Ro → M Res) : Option (Option C) → M Res
  | some (some (.own (.lst ds))) => forL a b ds.reverse (ρ.set i (some (.bor (.lst ds))))
  | some (some (.val (.tuple ds))) => forL a b ds.reverse ρ
  | _ => .fail
theorem mForRev_eq {i : Nat} {a : C → Ro → M Ro} {b : Ro → M Res} : mForRev i a b ρ = kForRev ρ i a b ρ[i]? := (rfl)
theorem kForRev_o {i : Nat} {a : C → Ro → M Ro} {b : Ro → M Res} {ds : List PyData} : kForRev ρ i a b (some (some (.own (.lst ds)))) = forL a b ds.reverse (ρ.set i (some (.bor (.lst ds)))) := (rfl)
theorem kForRev_t {i : Nat} {a : C → Ro → M Ro} {b : Ro → M Res} {ds : List PyData} : kForRev ρ i a b (some (some (.val (.tuple ds)))) = forL a b ds.reverse ρ := (rfl)
end
end Cs

/-! range(i, j, c), c above 0 -/
namespace Cs
open PySem PySem.Spec PyProof.Rows L2
section
variable {tp : Option (Addr × Addr)} {K : PySem.W.Frag} {H H' H'' H0 H1 He Hq : Hp} {σ : L2.St} {ρ : Ro}
def stepN (i j c : Int) : Nat := if i < j then ((j - i - 1) / c + 1).toNat else 0
def r3Ok (i j c : Int) : Bool := decide (-1000000 ≤ i) && (decide (i ≤ 1000000) && (decide (-1000000 ≤ j) && (decide (j ≤ 1000000) && (decide (0 < c) && decide (c ≤ 1000)))))
theorem r3_rg {i j c : Int} (h : r3Ok i j c = true) : RgC i j c (stepN i j c) := by
  unfold r3Ok at h
  simp only [Bool.and_eq_true, decide_eq_true_eq] at h
  obtain ⟨h1, h2, h3, h4, h5, h6⟩ := h
  have q0 : i < j → 0 ≤ (j - i - 1) / c ∧ (j - i - 1) / c ≤ j - i - 1 := fun z => ⟨Int.ediv_nonneg (by omega) (by omega), Int.ediv_le_self _ (by omega)⟩
  have hs : Builtin.Range.rangeSize i j c = stepN i j c := by
    unfold Builtin.Range.rangeSize stepN
    rw [if_pos h5]
    split
    · rename_i z
      have := q0 z
      omega
    · rfl
  have hb : stepN i j c ≤ 2000001 := by
    unfold stepN
    split
    · rename_i z
      have := q0 z
      omega
    · omega
  have hr : i < j → (stepN i j c : Int) = (j - i - 1) / c + 1 := fun z => by
    unfold stepN
    rw [if_pos z]
    have := q0 z
    omega
  refine ⟨by omega, by omega, ?_, hs⟩
  unfold Builtin.Range.small
  rw [hs]
  have m1 : (0 : Int) ≤ (stepN i j c : Int) := by omega
  have m2 : (stepN i j c : Int) ≤ 2000001 := by omega
  generalize (stepN i j c : Int) = k at *
  simp only [Builtin.Range.rangeFitsLong, Bool.and_eq_true, Bool.or_eq_true, decide_eq_true_eq, beq_iff_eq, h5, if_true]
  omega
def itR3 : List C → M (List PyData)
  | [.val (.int i), .val (.int j), .val (.int c)] => if r3Ok i j c = true then .ret (rngD i c (stepN i j c)) else .fail
  | _ => .fail
def gItR3 (gs : Ro → M (List C)) (ρ : Ro) : M (List PyData) := (gs ρ).bind itR3
theorem RCs.three' {vs : List V} {c d e : C} (h : RCs tp K H0 H vs [c, d, e]) : ∃ u v w, vs = [u, v, w] ∧ RC tp K H0 H u c ∧ RC tp K H0 H v d ∧ RC tp K H0 H w e := by
  match vs, h with
  | [u, v, w], h => exact ⟨u, v, w, rfl, h.1, h.2.1, h.2.2.1⟩
theorem ri_rng3 {ta : TA} {gs : Ro → M (List C)} {s : Bool} (h1 : RA K ta gs) : RI K s (iRng3 ta) (gItR3 gs) := by
  intro tp He Hq ρ σ H Q r h
  refine h1 tp He Hq ρ σ H _ r (wp0_mono (fun cs hc => ?_) (wp0_bind.mp h))
  intro vs H1 g1 t1 rx
  unfold itR3 at hc
  split at hc
  · rename_i i j c
    obtain ⟨u, v, w, rfl, q, q', q''⟩ := rx.three'
    cases q.int; cases q'.int; cases q''.int
    split at hc
    · rename_i l
      exact ⟨i, j, c, stepN i j c, rfl, r3_rg l, hc _ H1 [] g1 t1 (lf_rng _ _ _) wk_rngC (fun _ m => by simp at m) (fun _ _ _ _ m => by simp at m)⟩
    · exact hc.elim
  · exact hc.elim
theorem gItR3_eq {gs : Ro → M (List C)} : gItR3 gs ρ = (gs ρ).bind itR3 := (rfl)
theorem itR3_i {i j c : Int} : itR3 [.val (.int i), .val (.int j), .val (.int c)] = if r3Ok i j c = true then .ret (rngD i c (stepN i j c)) else .fail := (rfl)
end
end Cs

set_option maxRecDepth 100000
set_option maxHeartbeats 1000000
/-! fractions and their values -/
namespace Cs
open PySem PySem.Spec PyProof.Rows L2
def frD (p : Int × Int) : PyData := .tuple [.int p.1, .int p.2]
def gc (n d : Int) : Int := ((Nat.gcd n.natAbs d.natAbs : Nat) : Int)
def lowG (n d : Int) : Int := if d < 0 then -gc n d else gc n d
def low (n d : Int) : Int × Int := (n.fdiv (lowG n d), d.fdiv (lowG n d))
theorem gc_pos {n d : Int} (h : d ≠ 0) : 0 < gc n d := by
  have : 0 < Nat.gcd n.natAbs d.natAbs := Nat.gcd_pos_of_pos_right _ (by omega)
  unfold gc
  omega
theorem gc_le {n d : Int} (h : d ≠ 0) : gc n d ≤ (d.natAbs : Int) := by
  have : Nat.gcd n.natAbs d.natAbs ≤ d.natAbs := Nat.gcd_le_right _ (by omega)
  unfold gc
  omega
theorem low_spec {n d : Int} (hd : d ≠ 0) : ∃ a b s : Int, s ≠ 0 ∧ n = s * a ∧ d = s * b ∧ low n d = (a, b) ∧ 0 < b ∧ Nat.gcd a.natAbs b.natAbs = 1 ∧ s = lowG n d := by
  have hg := gc_pos (n := n) hd
  have dn : gc n d ∣ n := Int.natAbs_dvd_natAbs.mp (by unfold gc; rw [Int.natAbs_natCast]; exact Nat.gcd_dvd_left _ _)
  have dd : gc n d ∣ d := Int.natAbs_dvd_natAbs.mp (by unfold gc; rw [Int.natAbs_natCast]; exact Nat.gcd_dvd_right _ _)
  have sn : lowG n d ∣ n := by
    unfold lowG
    split
    · exact Int.neg_dvd.mpr dn
    · exact dn
  have sd : lowG n d ∣ d := by
    unfold lowG
    split
    · exact Int.neg_dvd.mpr dd
    · exact dd
  have s0 : lowG n d ≠ 0 := by unfold lowG; split <;> omega
  have sa : (lowG n d).natAbs = Nat.gcd n.natAbs d.natAbs := by
    unfold lowG
    split
    · rw [Int.natAbs_neg]; unfold gc; rw [Int.natAbs_natCast]
    · unfold gc; rw [Int.natAbs_natCast]
  obtain ⟨s, hs⟩ : ∃ s, s = lowG n d := ⟨_, rfl⟩
  rw [← hs] at sn sd s0 sa
  obtain ⟨a, ha⟩ := sn
  obtain ⟨b, hb⟩ := sd
  refine ⟨a, b, s, s0, ha, hb, ?_, ?_, ?_, hs⟩
  · show (n.fdiv (lowG n d), d.fdiv (lowG n d)) = (a, b)
    have h1 := Int.mul_fdiv_cancel_left a s0
    have h2 := Int.mul_fdiv_cancel_left b s0
    rw [← ha] at h1
    rw [← hb] at h2
    rw [← hs, h1, h2]
  · by_cases h : d < 0
    · have : s < 0 := by rw [hs]; unfold lowG; rw [if_pos h]; omega
      by_cases hb0 : 0 < b
      · exact hb0
      · exfalso
        have : 0 ≤ s * b := Int.mul_nonneg_of_nonpos_of_nonpos (by omega) (by omega)
        omega
    · have : 0 < s := by rw [hs]; unfold lowG; rw [if_neg h]; omega
      by_cases hb0 : 0 < b
      · exact hb0
      · exfalso
        have : s * b ≤ 0 := Int.mul_nonpos_of_nonneg_of_nonpos (by omega) (by omega)
        omega
  · have e : Nat.gcd n.natAbs d.natAbs = s.natAbs * Nat.gcd a.natAbs b.natAbs := by
      have h1 : n.natAbs = s.natAbs * a.natAbs := by rw [ha, Int.natAbs_mul]
      have h2 : d.natAbs = s.natAbs * b.natAbs := by rw [hb, Int.natAbs_mul]
      rw [h1, h2, Nat.gcd_mul_left]
    rw [← sa] at e
    have h0 : 0 < s.natAbs := by omega
    have e2 : s.natAbs * 1 = s.natAbs * Nat.gcd a.natAbs b.natAbs := by omega
    exact (Nat.eq_of_mul_eq_mul_left h0 e2).symm
theorem nab_left {s a n : Int} (h : s ≠ 0) (e : n = s * a) : a.natAbs ≤ n.natAbs := by
  rw [e, Int.natAbs_mul]
  exact Nat.le_mul_of_pos_left _ (by omega)
theorem low_le {n d : Int} (hd : d ≠ 0) : (low n d).1.natAbs ≤ n.natAbs ∧ (low n d).2.natAbs ≤ d.natAbs := by
  obtain ⟨a, b, s, s0, ha, hb, e, _, _, _⟩ := low_spec (n := n) hd
  rw [e]
  exact ⟨nab_left s0 ha, nab_left s0 hb⟩
/-! sizes -/
def Bd (k : Nat) (a : Int) : Prop := a.natAbs < 2 ^ k
theorem Bd.up {a : Int} {k m : Nat} (h : Bd k a) (l : k ≤ m) : Bd m a := Nat.lt_of_lt_of_le h (Nat.pow_le_pow_right (by decide) l)
theorem Bd.of {a : Int} {k : Nat} (h : a.natAbs < 2 ^ k) : Bd k a := h
theorem Bd.le {a b : Int} {k : Nat} (h : Bd k a) (l : b.natAbs ≤ a.natAbs) : Bd k b := Nat.lt_of_le_of_lt l h
theorem Bd.neg {a : Int} {k : Nat} (h : Bd k a) : Bd k (-a) := by unfold Bd at *; rw [Int.natAbs_neg]; exact h
theorem Bd.mul {a b : Int} {k l : Nat} (m : Nat) (ha : Bd k a) (hb : Bd l b) (h : k + l ≤ m) : Bd m (a * b) := Nat.lt_of_lt_of_le (wide_lt ha hb) (Nat.pow_le_pow_right (by decide) h)
theorem Bd.add {a b : Int} {k l : Nat} (m : Nat) (ha : Bd k a) (hb : Bd l b) (h : k + 1 ≤ m) (h' : l + 1 ≤ m) : Bd m (a + b) := by
  obtain ⟨n, rfl⟩ : ∃ n, m = n + 1 := ⟨m - 1, by omega⟩
  have h1 := ha.up (show k ≤ n by omega)
  have h2 := hb.up (show l ≤ n by omega)
  have h3 : 2 ^ (n + 1) = 2 * 2 ^ n := by rw [Nat.pow_succ]; omega
  unfold Bd at *
  omega
theorem Bd.sub {a b : Int} {k l : Nat} (m : Nat) (ha : Bd k a) (hb : Bd l b) (h : k + 1 ≤ m) (h' : l + 1 ≤ m) : Bd m (a - b) := by
  rw [Int.sub_eq_add_neg]
  exact Bd.add m ha hb.neg h h'
theorem Bd.rng {a : Int} (h0 : -9223372036854775808 ≤ a) (h1 : a ≤ 9223372036854775807) : Bd 64 a := by unfold Bd; omega
theorem Bd.big {a : Int} (h0 : -10 ^ 61 ≤ a) (h1 : a ≤ 10 ^ 61) : Bd 210 a := by
  unfold Bd
  have : (10 : Int) ^ 61 < 2 ^ 210 := by decide
  omega
theorem bmul {a b : Int} (ha : Bd 8000 a) (hb : Bd 8000 b) : cMul a b = true := cMul_ok 8000 8000 (by decide) (by decide) (by decide) ha hb
theorem Bd.log {a : Int} {k : Nat} (hk : k ≠ 0) (h : Bd k a) : a.natAbs.log2 < k := small_log hk h
theorem bdivA {x n : Int} (hd : n ≠ 0) (hb : Bd 8000 n) : cDivA x n = true := by
  have h4 := hb.log (by decide)
  unfold cDivA
  rw [decide_eq_false hd, decide_eq_true (by omega)]
  rfl
theorem lowG_nz {n d : Int} (hd : d ≠ 0) : lowG n d ≠ 0 := by
  have h1 := gc_pos (n := n) hd
  unfold lowG
  split <;> omega
theorem lowG_bd {n d : Int} {k : Nat} (hd : d ≠ 0) (h : Bd k d) : Bd k (lowG n d) := by
  have h1 := gc_pos (n := n) hd
  have h2 := gc_le (n := n) hd
  refine h.le ?_
  unfold lowG
  split <;> omega
/-! fractions of a size -/
structure FB (k : Nat) (p : Int × Int) : Prop where
  pos : 0 < p.2
  cop : Nat.gcd p.1.natAbs p.2.natAbs = 1
  b1 : Bd k p.1
  b2 : Bd k p.2
theorem FB.up {k m : Nat} {p : Int × Int} (h : FB k p) (l : k ≤ m) : FB m p := ⟨h.pos, h.cop, h.b1.up l, h.b2.up l⟩
theorem FB.nz {k : Nat} {p : Int × Int} (h : FB k p) : p.2 ≠ 0 := by have := h.pos; omega
theorem low_FB {n d : Int} {k : Nat} (hd : d ≠ 0) (h1 : Bd k n) (h2 : Bd k d) : FB k (low n d) := by
  obtain ⟨a, b, s, s0, ha, hb, e, hp, hc, _⟩ := low_spec (n := n) hd
  rw [e]
  exact ⟨hp, hc, h1.le (nab_left s0 ha), h2.le (nab_left s0 hb)⟩
theorem int_FB {n : Int} {k : Nat} (hk : 1 ≤ k) (h : Bd k n) : FB k (n, 1) := ⟨Int.one_pos, Nat.gcd_one_right _, h, (Bd.of (a := 1) (k := 1) (by decide)).up hk⟩
/-! values -/
def vl (p : Int × Int) : Rat := (p.1 : Rat) / (p.2 : Rat)
theorem qpos {a : Int} (h : 0 < a) : (0 : Rat) < a := Rat.intCast_pos.mpr h
theorem qnz {a : Int} (h : a ≠ 0) : (a : Rat) ≠ 0 := fun e => h (Rat.intCast_eq_zero_iff.mp e)
theorem vl_low {n d : Int} (hd : d ≠ 0) : vl (low n d) = (n : Rat) / (d : Rat) := by
  obtain ⟨a, b, s, s0, ha, hb, e, hp, hc, _⟩ := low_spec (n := n) hd
  rw [e, ha, hb]
  unfold vl
  have h1 := qnz s0
  have h2 := qpos hp
  push_cast
  grind
theorem vl_int (n : Int) : vl (n, 1) = n := by unfold vl; push_cast; grind
section
variable {p q : Int × Int}
theorem vl_lt (hp : 0 < p.2) (hq : 0 < q.2) : p.1 * q.2 < q.1 * p.2 ↔ vl p < vl q := by
  have h1 := qpos hp
  have h2 := qpos hq
  unfold vl
  rw [Rat.div_lt_iff h1, Rat.div_def, Rat.mul_assoc, Rat.mul_comm _ (p.2 : Rat), ← Rat.mul_assoc, ← Rat.div_def, Rat.lt_div_iff h2]
  norm_cast
theorem vl_eq (hp : 0 < p.2) (hq : 0 < q.2) : p.1 * q.2 = q.1 * p.2 ↔ vl p = vl q := by
  have a := vl_lt hp hq
  have b := vl_lt hq hp
  constructor
  · intro e
    have h1 : ¬ vl p < vl q := fun z => by have := a.mpr z; omega
    have h2 : ¬ vl q < vl p := fun z => by have := b.mpr z; omega
    grind
  · intro e
    have h1 : ¬ p.1 * q.2 < q.1 * p.2 := fun z => by have := a.mp z; grind
    have h2 : ¬ q.1 * p.2 < p.1 * q.2 := fun z => by have := b.mp z; grind
    omega
def qadd (p q : Int × Int) : Int × Int := low (p.1 * q.2 + q.1 * p.2) (p.2 * q.2)
def qsub (p q : Int × Int) : Int × Int := low (p.1 * q.2 - q.1 * p.2) (p.2 * q.2)
def qmul (p q : Int × Int) : Int × Int := low (p.1 * q.1) (p.2 * q.2)
def qdiv (p q : Int × Int) : Int × Int := low (p.1 * q.2) (p.2 * q.1)
variable {k l : Nat} (hp : FB k p) (hq : FB l q)
include hp hq
theorem nz22 : p.2 * q.2 ≠ 0 := Int.mul_ne_zero hp.nz hq.nz
theorem FB.add (m : Nat) (h : k + l + 1 ≤ m) : FB m (qadd p q) := low_FB (nz22 hp hq) (.add m (.mul (k + l) hp.b1 hq.b2 (by omega)) (.mul (k + l) hq.b1 hp.b2 (by omega)) h h) (.mul m hp.b2 hq.b2 (by omega))
theorem FB.sub (m : Nat) (h : k + l + 1 ≤ m) : FB m (qsub p q) := low_FB (nz22 hp hq) (.sub m (.mul (k + l) hp.b1 hq.b2 (by omega)) (.mul (k + l) hq.b1 hp.b2 (by omega)) h h) (.mul m hp.b2 hq.b2 (by omega))
theorem FB.mul (m : Nat) (h : k + l ≤ m) : FB m (qmul p q) := low_FB (nz22 hp hq) (.mul m hp.b1 hq.b1 h) (.mul m hp.b2 hq.b2 h)
theorem FB.div (m : Nat) (h : k + l ≤ m) (h0 : q.1 ≠ 0) : FB m (qdiv p q) := low_FB (Int.mul_ne_zero hp.nz h0) (.mul m hp.b1 hq.b2 h) (.mul m hp.b2 hq.b1 h)
theorem vl_add : vl (qadd p q) = vl p + vl q := by
  unfold qadd
  rw [vl_low (nz22 hp hq)]
  have h1 := qnz hp.nz
  have h2 := qnz hq.nz
  unfold vl
  push_cast
  grind
theorem vl_sub : vl (qsub p q) = vl p - vl q := by
  unfold qsub
  rw [vl_low (nz22 hp hq)]
  have h1 := qnz hp.nz
  have h2 := qnz hq.nz
  unfold vl
  push_cast
  grind
theorem vl_mul : vl (qmul p q) = vl p * vl q := by
  unfold qmul
  rw [vl_low (nz22 hp hq)]
  have h1 := qnz hp.nz
  have h2 := qnz hq.nz
  unfold vl
  push_cast
  grind
theorem vl_div (h0 : q.1 ≠ 0) : vl (qdiv p q) = vl p / vl q := by
  unfold qdiv
  rw [vl_low (Int.mul_ne_zero hp.nz h0)]
  have h1 := qnz hp.nz
  have h2 := qnz hq.nz
  have h3 := qnz h0
  unfold vl
  push_cast
  grind
/-- in lowest terms, a value has one fraction -/
theorem vl_inj (e : vl p = vl q) : p = q := by
  have h := (vl_eq hp.pos hq.pos).mpr e
  obtain ⟨a, b⟩ := p
  obtain ⟨c, d⟩ := q
  have hb : 0 < b := hp.pos
  have hd : 0 < d := hq.pos
  have c1 : Nat.gcd a.natAbs b.natAbs = 1 := hp.cop
  have c2 : Nat.gcd c.natAbs d.natAbs = 1 := hq.cop
  have h' : a * d = c * b := h
  have hn : a.natAbs * d.natAbs = c.natAbs * b.natAbs := by rw [← Int.natAbs_mul, ← Int.natAbs_mul, h']
  have d1 : b.natAbs ∣ d.natAbs := by
    have : b.natAbs ∣ a.natAbs * d.natAbs := ⟨c.natAbs, by rw [hn, Nat.mul_comm]⟩
    exact Nat.Coprime.dvd_of_dvd_mul_left (by rw [Nat.Coprime, Nat.gcd_comm]; exact c1) this
  have d2 : d.natAbs ∣ b.natAbs := by
    have : d.natAbs ∣ c.natAbs * b.natAbs := ⟨a.natAbs, by rw [← hn, Nat.mul_comm]⟩
    exact Nat.Coprime.dvd_of_dvd_mul_left (by rw [Nat.Coprime, Nat.gcd_comm]; exact c2) this
  have hbd : b = d := by
    have := Nat.dvd_antisymm d1 d2
    omega
  subst hbd
  have : a = c := Int.eq_of_mul_eq_mul_right (by omega) h'
  rw [this]
end
theorem vl_pos {p : Int × Int} (h : 0 < p.2) : 0 < p.1 ↔ 0 < vl p := by
  have := vl_lt (p := (0, 1)) (q := p) Int.one_pos h
  rw [vl_int] at this
  simpa using this
theorem vl_zero {p : Int × Int} (h : 0 < p.2) : p.1 = 0 ↔ vl p = 0 := by
  have := vl_eq (p := p) (q := (0, 1)) h Int.one_pos
  rw [vl_int] at this
  simpa using this
/-! the nearest integer -/
def Nst (r : Rat) (m : Int) : Prop := (m : Rat) - 1 / 2 ≤ r ∧ r < m + 1 / 2
theorem nst_of {a b : Int} (hb : 0 < b) : Nst ((a : Rat) / b) ((2 * a + b) / (2 * b)) := by
  have h1 := Int.ediv_mul_le (2 * a + b) (show 2 * b ≠ 0 by omega)
  have h2 := Int.lt_ediv_add_one_mul_self (2 * a + b) (show 0 < 2 * b by omega)
  have hq := qpos hb
  generalize (2 * a + b) / (2 * b) = m at *
  have h1' : (m : Rat) * (2 * b) ≤ 2 * a + b := by exact_mod_cast h1
  have h2' : (2 : Rat) * a + b < (m + 1) * (2 * b) := by exact_mod_cast h2
  constructor
  · have : ¬ (a : Rat) / b < m - 1 / 2 := by
      rw [Rat.div_lt_iff hq]
      grind
    grind
  · rw [Rat.div_lt_iff hq]
    grind
theorem nst_mono {r s : Rat} {m n : Int} (h : Nst r m) (k : Nst s n) (l : r ≤ s) : m ≤ n := by
  obtain ⟨h1, h2⟩ := h
  obtain ⟨k1, k2⟩ := k
  have : (m : Rat) < n + 1 := by grind
  have : m < n + 1 := by exact_mod_cast this
  omega
theorem nst_one {r : Rat} {m n : Int} (h : Nst r m) (k : Nst r n) : m = n := by
  have := nst_mono h k (by grind)
  have := nst_mono k h (by grind)
  omega
theorem nst_int (m : Int) : Nst (m : Rat) m := ⟨by grind, by grind⟩
end Cs

set_option maxRecDepth 100000
set_option maxHeartbeats 1000000
/-! the simplest fraction of an interval, by integer parts -/
namespace Cs
open PySem PySem.Spec PyProof.Rows L2
/-- x lies between lo and hi (no end: none); li, hn: whether the ends belong to it -/
def Inb (lo : Int × Int) (hi : Option (Int × Int)) (li hn : Bool) (x : Rat) : Prop :=
  (vl lo < x ∨ li = true ∧ x = vl lo) ∧ ∀ h, hi = some h → x < vl h ∨ hn = true ∧ x = vl h
structure Best (lo : Int × Int) (hi : Option (Int × Int)) (li hn : Bool) (r : Int × Int) : Prop where
  pos : 0 < r.2
  nn : 0 ≤ r.1
  inn : Inb lo hi li hn (vl r)
  least : ∀ m d : Int, 0 < d → Inb lo hi li hn ((m : Rat) / d) → r.1 ≤ m ∧ r.2 ≤ d
theorem qle {a b : Int} : (a : Rat) ≤ b ↔ a ≤ b := Rat.intCast_le_intCast
theorem qlt' {a b : Int} : (a : Rat) < b ↔ a < b := Rat.intCast_lt_intCast
theorem fl_spec {p : Int × Int} (h : 0 < p.2) : ((p.1 / p.2 : Int) : Rat) ≤ vl p ∧ vl p < (p.1 / p.2 : Int) + 1 := by
  have h1 := Int.ediv_mul_le p.1 (show p.2 ≠ 0 by omega)
  have h2 := Int.lt_ediv_add_one_mul_self p.1 h
  have hq := qpos h
  unfold vl
  generalize p.1 / p.2 = m at *
  have h1' : (m : Rat) * p.2 ≤ p.1 := by exact_mod_cast h1
  have h2' : (p.1 : Rat) < (m + 1) * p.2 := by exact_mod_cast h2
  constructor
  · have : ¬ (p.1 : Rat) / p.2 < m := by
      rw [Rat.div_lt_iff hq]
      grind
    grind
  · rw [Rat.div_lt_iff hq]
    exact h2'
/-- ceiling -/
def cl (p : Int × Int) : Int := -(-p.1 / p.2)
theorem cl_spec {p : Int × Int} (h : 0 < p.2) : ((cl p : Int) : Rat) - 1 < vl p ∧ vl p ≤ cl p := by
  have := fl_spec (p := (-p.1, p.2)) h
  have e : vl (-p.1, p.2) = - vl p := by unfold vl; push_cast; grind
  rw [e] at this
  unfold cl
  push_cast
  constructor <;> grind
/-- the least whole number from lo on -/
def fw (lo : Int × Int) (li : Bool) : Int := if (cl lo, (1 : Int)) = lo ∧ li = false then cl lo + 1 else cl lo
theorem fw_iff {lo : Int × Int} {li : Bool} {k : Nat} (h : FB k lo) (n : Int) : fw lo li ≤ n ↔ (vl lo < n ∨ li = true ∧ (n : Rat) = vl lo) := by
  obtain ⟨c1, c2⟩ := cl_spec h.pos
  have key : (n : Rat) = vl lo → (cl lo, (1 : Int)) = lo ∧ n = cl lo := fun e => by
    have e1 : n = cl lo := by
      rw [← e] at c1 c2
      have a1 : (cl lo : Rat) < n + 1 := by grind
      have a1' : cl lo < n + 1 := by exact_mod_cast a1
      have a2' : n ≤ cl lo := by exact_mod_cast c2
      omega
    refine ⟨?_, e1⟩
    have hb : Bd ((cl lo).natAbs + 1) (cl lo) := Nat.lt_of_lt_of_le (Nat.lt_succ_self _) (Nat.le_of_lt Nat.lt_two_pow_self)
    exact vl_inj (int_FB (Nat.succ_le_succ (Nat.zero_le _)) hb) h (by rw [vl_int, ← e, e1])
  have key2 : (cl lo, (1 : Int)) = lo → vl lo = cl lo := fun e => by rw [← e, vl_int]; rw [e]
  unfold fw
  split
  · rename_i c
    have e := key2 c.1
    rw [e, c.2, qlt']
    constructor
    · intro z; exact .inl (by omega)
    · rintro (z | z)
      · omega
      · exact absurd z.1 (by simp)
  · rename_i c
    constructor
    · intro z
      have z' : (cl lo : Rat) ≤ n := qle.mpr z
      by_cases e : (n : Rat) = vl lo
      · obtain ⟨k1, k2⟩ := key e
        cases li with
        | true => exact .inr ⟨rfl, e⟩
        | false => exact absurd ⟨k1, rfl⟩ c
      · exact .inl (by grind)
    · rintro (z | z)
      · have : (cl lo : Rat) < n + 1 := by grind
        have : cl lo < n + 1 := by exact_mod_cast this
        omega
      · obtain ⟨k1, k2⟩ := key z.2
        omega
theorem best_whole {lo : Int × Int} {hi : Option (Int × Int)} {li hn : Bool} {k : Nat} (h : FB k lo) (h0 : 0 ≤ lo.1) (hlt : ∀ q, hi = some q → ((fw lo li : Int) : Rat) < vl q) : Best lo hi li hn (fw lo li, 1) := by
  have l0 : 0 ≤ vl lo := by
    have := (vl_pos h.pos)
    by_cases e : lo.1 = 0
    · rw [(vl_zero h.pos).mp e]; exact Rat.le_refl
    · have := (vl_pos h.pos).mp (by omega)
      grind
  have fi := fw_iff (li := li) h
  refine ⟨Int.one_pos, ?_, ⟨?_, fun q e => ?_⟩, fun m d hd hm => ?_⟩
  · have := (fi _).mp (Int.le_refl _)
    have : (0 : Rat) ≤ (fw lo li : Int) := by grind
    exact_mod_cast this
  · rw [vl_int]
    exact (fi _).mp (Int.le_refl _)
  · rw [vl_int]
    exact .inl (hlt q e)
  · refine ⟨?_, by show (1 : Int) ≤ d; omega⟩
    show fw lo li ≤ m
    have hdq := qpos hd
    have m0 : 0 ≤ (m : Rat) / d := by grind [Inb]
    have hmm : (m : Rat) / d * d = m := Rat.div_mul_cancel (by grind)
    have d1 : (1 : Rat) ≤ d := by exact_mod_cast (show (1 : Int) ≤ d by omega)
    have le : (m : Rat) / d ≤ m := by
      have : 0 ≤ (m : Rat) / d * (d - 1) := Rat.mul_nonneg m0 (by grind)
      grind
    refine (fi m).mpr ?_
    rcases hm.1 with z | ⟨z1, z2⟩
    · exact .inl (by grind)
    · by_cases e : (m : Rat) = vl lo
      · exact .inr ⟨z1, e⟩
      · exact .inl (by grind)
/-- 1 over the rest -/
def rcp (p : Int × Int) (f : Int) : Int × Int := (p.2, p.1 - f * p.2)
theorem rcp_FB {p : Int × Int} {f : Int} {k : Nat} (h : FB k p) (hf : 0 ≤ f) (hr : 0 < p.1 - f * p.2) : FB k (rcp p f) := by
  have hp := h.pos
  refine ⟨hr, ?_, h.b2, ?_⟩
  · show Nat.gcd p.2.natAbs (p.1 - f * p.2).natAbs = 1
    have hc := h.cop
    rw [Nat.gcd_comm] at hc
    have : Int.gcd p.2 (p.1 - f * p.2) = 1 := by
      have e : Int.gcd p.2 (p.1 - f * p.2) = Int.gcd p.2 p.1 := by
        rw [show p.1 - f * p.2 = p.1 + p.2 * (-f) by rw [Int.mul_neg, Int.mul_comm f]; omega]
        exact Int.gcd_add_mul_left_right ..
      rw [e]; exact hc
    exact this
  · refine h.b1.le ?_
    show (p.1 - f * p.2).natAbs ≤ p.1.natAbs
    have : 0 ≤ f * p.2 := Int.mul_nonneg hf (by omega)
    omega
theorem rcp_vl {p : Int × Int} {f : Int} (hp : 0 < p.2) (hr : 0 < p.1 - f * p.2) : vl (rcp p f) = 1 / (vl p - f) ∧ 0 < vl p - f := by
  have h1 := qpos hp
  have h2 := qpos hr
  push_cast at h2
  have e : vl p - f = ((p.1 : Rat) - f * p.2) / p.2 := by unfold vl; grind
  have pos : 0 < ((p.1 : Rat) - f * p.2) / p.2 := by
    rw [Rat.lt_div_iff h1]; grind
  rw [e]
  refine ⟨?_, pos⟩
  unfold vl rcp
  push_cast
  grind
theorem inv_lt {a b : Rat} (ha : 0 < a) (hb : 0 < b) : 1 / a < 1 / b ↔ b < a := by
  rw [Rat.div_lt_iff ha, Rat.div_def, Rat.one_mul]
  have h1 : b * b⁻¹ = 1 := Rat.mul_inv_cancel _ (by grind)
  have h2 : 0 < b⁻¹ := Rat.inv_pos.mpr hb
  constructor
  · intro h
    have h3 : 0 < (b⁻¹ * a - 1) * b := Rat.mul_pos (by grind) hb
    have : (b⁻¹ * a - 1) * b = a - b := by grind
    grind
  · intro h
    have h3 : 0 < b⁻¹ * (a - b) := Rat.mul_pos h2 (by grind)
    have : b⁻¹ * (a - b) = b⁻¹ * a - 1 := by grind
    grind
theorem inv_eq {a b : Rat} (ha : 0 < a) (hb : 0 < b) : 1 / a = 1 / b ↔ a = b := by
  constructor
  · intro h
    have h1 := inv_lt ha hb
    have h2 := inv_lt hb ha
    rw [h] at h1 h2
    have : ¬ b < a := fun z => by have := h1.mpr z; grind
    have : ¬ a < b := fun z => by have := h2.mpr z; grind
    grind
  · intro h; rw [h]
def flo (p : Int × Int) : Int := p.1 / p.2
def hi2 (lo : Int × Int) : Option (Int × Int) := if lo = (flo lo, 1) then none else some (rcp lo (flo lo))
section
variable {lo h : Int × Int} {li hn : Bool} {k : Nat} (hl : FB k lo) (hh : FB k h) (h0 : 0 ≤ lo.1) (lt : vl lo < vl h) (no : ¬ ((fw lo li : Int) : Rat) < vl h)
include hl hh h0 lt no
theorem st_f0 : 0 ≤ flo lo := Int.ediv_nonneg h0 (Int.le_of_lt hl.pos)
theorem st_rh : 0 < h.1 - flo lo * h.2 := by
  have f1 := (fl_spec hl.pos).1
  have : ((flo lo : Int) : Rat) < vl h := by unfold flo; grind
  have := (vl_lt (p := (flo lo, 1)) (q := h) Int.one_pos hh.pos).mpr (by rw [vl_int]; exact this)
  have this : flo lo * h.2 < h.1 * 1 := this
  omega
theorem st_lo (e : ¬ lo = (flo lo, 1)) : 0 < lo.1 - flo lo * lo.2 := by
  have h1 := Int.ediv_mul_le lo.1 (show lo.2 ≠ 0 by have := hl.pos; omega)
  have h1 : flo lo * lo.2 ≤ lo.1 := h1
  by_cases z : flo lo * lo.2 = lo.1
  · exfalso
    apply e
    have hb : Bd ((flo lo).natAbs + 1) (flo lo) := Nat.lt_of_lt_of_le (Nat.lt_succ_self _) (Nat.le_of_lt Nat.lt_two_pow_self)
    exact vl_inj hl (int_FB (Nat.succ_le_succ (Nat.zero_le _)) hb) ((vl_eq hl.pos Int.one_pos).mp (by show lo.1 * 1 = flo lo * lo.2; omega))
  · omega
theorem st_small (e : ¬ lo = (flo lo, 1)) : lo.1 - flo lo * lo.2 < lo.2 := by
  have h2 := Int.lt_ediv_add_one_mul_self lo.1 hl.pos
  have h2 : lo.1 < (flo lo + 1) * lo.2 := h2
  rw [Int.add_mul] at h2
  omega
theorem st_h : h.1 - flo lo * h.2 ≤ h.2 := by
  have c1 := (fl_spec hl.pos).2
  -- vl h ≤ fw ≤ floor + 1
  have : fw lo li ≤ flo lo + 1 := (fw_iff hl _).mpr (.inl (by push_cast; unfold flo; exact c1))
  have : ((fw lo li : Int) : Rat) ≤ (flo lo + 1 : Int) := qle.mpr this
  have a : vl h ≤ (flo lo + 1 : Int) := by grind
  have b : ¬ (flo lo + 1) * h.2 < h.1 * 1 := fun z => by
    have := (vl_lt (p := (flo lo + 1, 1)) (q := h) Int.one_pos hh.pos).mp z
    rw [vl_int] at this
    grind
  rw [Int.add_mul] at b
  omega
theorem st_gt {x : Rat} (hx : Inb lo (some h) li hn x) : ((flo lo : Int) : Rat) < x := by
  have f1 := (fl_spec hl.pos).1
  have f1 : ((flo lo : Int) : Rat) ≤ vl lo := f1
  rcases hx.1 with z | ⟨z1, z2⟩
  · grind
  · by_cases e : ((flo lo : Int) : Rat) = x
    · exfalso
      have : fw lo li ≤ flo lo := (fw_iff hl _).mpr (.inr ⟨z1, by rw [e, z2]⟩)
      have : ((fw lo li : Int) : Rat) ≤ flo lo := qle.mpr this
      grind
    · grind
theorem st_iff {x : Rat} (hx : ((flo lo : Int) : Rat) < x) : Inb lo (some h) li hn x ↔ Inb (rcp h (flo lo)) (hi2 lo) hn li (1 / (x - flo lo)) := by
  obtain ⟨e1, p1⟩ := rcp_vl (f := flo lo) hh.pos (st_rh hl hh h0 lt no)
  have px : 0 < x - flo lo := by grind
  unfold Inb
  rw [e1, inv_lt p1 px, inv_eq px p1]
  have c : (∀ q, some h = some q → x < vl q ∨ hn = true ∧ x = vl q) ↔ (x < vl h ∨ hn = true ∧ x = vl h) := ⟨fun z => z h rfl, fun z q e => by cases e; exact z⟩
  rw [c]
  have d : (vl lo < x ∨ li = true ∧ x = vl lo) ↔ ∀ q, hi2 lo = some q → 1 / (x - flo lo) < vl q ∨ li = true ∧ 1 / (x - flo lo) = vl q := by
    unfold hi2
    by_cases e : lo = (flo lo, 1)
    · rw [if_pos e]
      have : vl lo = flo lo := by
        have := congrArg vl e
        rw [vl_int] at this
        exact this
      exact Iff.intro (fun _ q z => by cases z) (fun _ => Or.inl (by rw [this]; exact hx))
    · rw [if_neg e]
      obtain ⟨e2, p2⟩ := rcp_vl (f := flo lo) hl.pos (st_lo hl hh h0 lt no e)
      have c2 : (∀ q, some (rcp lo (flo lo)) = some q → 1 / (x - flo lo) < vl q ∨ li = true ∧ 1 / (x - flo lo) = vl q) ↔ (1 / (x - flo lo) < vl (rcp lo (flo lo)) ∨ li = true ∧ 1 / (x - flo lo) = vl (rcp lo (flo lo))) := ⟨fun z => z _ rfl, fun z q e => by cases e; exact z⟩
      rw [c2, e2, inv_lt px p2, inv_eq px p2]
      constructor
      · rintro (z | z)
        · exact .inl (by grind)
        · exact .inr ⟨z.1, by rw [z.2]⟩
      · rintro (z | z)
        · exact .inl (by grind)
        · exact .inr ⟨z.1, by grind⟩
  rw [d]
  constructor
  · rintro ⟨a, b⟩
    refine ⟨?_, a⟩
    rcases b with b | b
    · exact .inl (by grind)
    · exact .inr ⟨b.1, by rw [b.2]⟩
  · rintro ⟨a, b⟩
    refine ⟨b, ?_⟩
    rcases a with a | a
    · exact .inl (by grind)
    · exact .inr ⟨a.1, by grind⟩
theorem best_step {r : Int × Int} (b : Best (rcp h (flo lo)) (hi2 lo) hn li r) : 0 < r.1 ∧ Best lo (some h) li hn (flo lo * r.1 + r.2, r.1) := by
  have rp := b.pos
  have hq := qpos rp
  obtain ⟨e1, p1⟩ := rcp_vl (f := flo lo) hh.pos (st_rh hl hh h0 lt no)
  have lpos : 0 < 1 / (vl h - flo lo) := by rw [Rat.lt_div_iff p1]; grind
  have vpos : 0 < vl r := by
    have := b.inn.1
    rw [e1] at this
    grind
  have r1 : 0 < r.1 := (vl_pos rp).mpr vpos
  have hr1 := qpos r1
  have ex : vl (flo lo * r.1 + r.2, r.1) = flo lo + 1 / vl r := by
    unfold vl
    push_cast
    grind
  have xpos : 0 < 1 / vl r := by rw [Rat.lt_div_iff vpos]; grind
  have back : 1 / (vl (flo lo * r.1 + r.2, r.1) - flo lo) = vl r := by rw [ex]; grind
  refine ⟨r1, r1, ?_, ?_, ?_⟩
  · have := st_f0 hl hh h0 lt no
    have : 0 ≤ flo lo * r.1 := Int.mul_nonneg this (by omega)
    show 0 ≤ flo lo * r.1 + r.2
    omega
  · refine (st_iff hl hh h0 lt no (by rw [ex]; grind)).mpr ?_
    rw [back]
    exact b.inn
  · intro m d hd hm
    have gt := st_gt hl hh h0 lt no hm
    have hm' := (st_iff hl hh h0 lt no gt).mp hm
    have hdq := qpos hd
    have mp : 0 < m - flo lo * d := by
      have : ((flo lo : Int) : Rat) * d < m := by rw [Rat.lt_div_iff hdq] at gt; exact gt
      have : flo lo * d < m := by exact_mod_cast this
      omega
    have hmq := qpos mp
    push_cast at hmq
    have e : 1 / ((m : Rat) / d - flo lo) = ((d : Int) : Rat) / ((m - flo lo * d : Int) : Rat) := by
      push_cast
      grind
    rw [e] at hm'
    obtain ⟨l1, l2⟩ := b.least _ _ mp hm'
    refine ⟨?_, l1⟩
    have f0 := st_f0 hl hh h0 lt no
    have : flo lo * r.1 ≤ flo lo * d := Int.mul_le_mul_of_nonneg_left l1 f0
    show flo lo * r.1 + r.2 ≤ m
    omega
end
/-- in lowest terms -/
theorem best_cop {lo : Int × Int} {hi : Option (Int × Int)} {li hn : Bool} {r : Int × Int} (b : Best lo hi li hn r) : Nat.gcd r.1.natAbs r.2.natAbs = 1 := by
  have hd : r.2 ≠ 0 := by have := b.pos; omega
  obtain ⟨x, y, s, s0, hx, hy, e, hp, hc, _⟩ := low_spec (n := r.1) hd
  have hsp : 0 < s := by
    by_cases z : 0 < s
    · exact z
    · exfalso
      have := b.pos
      have : s * y ≤ 0 := Int.mul_nonpos_of_nonpos_of_nonneg (by omega) (by omega)
      omega
  have v : (x : Rat) / y = vl r := by
    have := vl_low (n := r.1) hd
    rw [e] at this
    exact this
  obtain ⟨l1, l2⟩ := b.least x y hp (by rw [v]; exact b.inn)
  have nn := b.nn
  have : s * y ≤ y := by rw [← hy]; exact l2
  have s1 : s = 1 := by
    by_cases z : s = 1
    · exact z
    · exfalso
      have : 2 * y ≤ s * y := Int.mul_le_mul_of_nonneg_right (by omega) (by omega)
      omega
  rw [hx, hy, s1, Int.one_mul, Int.one_mul]
  exact hc
end Cs

set_option maxRecDepth 100000
set_option maxHeartbeats 2000000

namespace Cs
open PySem PySem.Spec PyProof.Rows L2
local macro_rules | `(tactic| walk_at "sets") => `(tactic| (repeat (first | exact set_0 | apply set_s)))
local macro_rules | `(tactic| walk_at "sts") => `(tactic| (repeat (first | exact rep_0 | apply rep_s | apply app_cons | apply app_nil)))
local macro_rules | `(tactic| walk_at "sql") => `(tactic| first
  | exact SqL.of (by assumption)
  | exact SqL.of upd_same
  | assumption)
local macro_rules | `(tactic| walk_at "sqt") => `(tactic| first
  | exact SqT.of (by assumption)
  | exact SqT.of upd_same
  | assumption)
local macro_rules | `(tactic| walk_at "rd1") => `(tactic| first
  | ((with_reducible show gName _ _ _ _ _); refine gset (by walk_at "sets") ?_)
  | refine ⟨_, rfl, ?_⟩
  | refine ⟨rfl, ?_⟩
  | refine ⟨_, _, rfl, rfl, (show CMul _ _ from Or.inr ⟨by decide, by decide⟩), ?_⟩
  | refine ⟨_, _, rfl, rfl, (show CMul _ _ from Or.inl ⟨by decide, by decide⟩), ?_⟩
  | refine ⟨_, _, rfl, rfl, (show (0 : Int) < _ by first | decide | omega), ?_⟩
  | refine ⟨_, _, rfl, rfl, (show CDiv _ _ from ⟨by omega, by omega⟩), ?_⟩
  | refine ⟨_, _, rfl, rfl, (show CPow _ _ from ⟨by decide, by decide, by decide⟩), ?_⟩
  | refine ⟨_, _, rfl, rfl, ?_⟩
  | refine ⟨_, _, _, _, rfl, rfl, (show SqL _ _ _ _ by walk_at "sql"), rfl, ?_⟩
  | refine ⟨_, _, _, _, rfl, rfl, (show SqT _ _ _ _ by walk_at "sqt"), rfl, ?_⟩
  | refine ⟨_, _, _, _, rfl, rfl, (by assumption), rfl, ?_⟩
  | refine ⟨_, _, _, _, rfl, rfl, upd_same, rfl, ?_⟩
  | refine ⟨_, _, rfl, (show LenV _ _ _ _ from Or.inl ⟨_, (by walk_at "sql"), rfl⟩), ?_⟩
  | refine ⟨_, _, rfl, (show LenV _ _ _ _ from Or.inr ⟨_, (by walk_at "sqt"), rfl⟩), ?_⟩
  | refine ⟨_, (show TruV _ _ _ _ from Or.inl ⟨_, (by walk_at "sql"), rfl⟩), ?_⟩
  | refine ⟨_, (show TruV _ _ _ _ from Or.inr (Or.inl ⟨_, (by walk_at "sqt"), rfl⟩)), ?_⟩
  | refine Or.inl ⟨_, rfl, ?_⟩
  | refine ⟨_, _, rfl, ?_⟩)

local macro_rules | `(tactic| walk_at "pe") => `(tactic| simp (config := {maxSteps := 2000000}) only [bind_bind, bindR, retB, failB, anyB, iteB, wp_retE, wp_failE,
  ↓kSeq_nx, ↓kSeq_rt, ↓kSeq_bk, ↓kSeq_ct, ↓mNext_eq, ↓mBreak_eq, ↓mCont_eq, ↓mDrop_eq, ↓mRet_eq, ↓mRetN_eq, ↓mAsg_eq, ↓mIf_eq, ↓gVar_eq, gAt_v, gAt_o, gAt_b, gAt_t, ↓mRetV_eq, rAt_s, ↓asgR_eq, aAt_v, aAt_o,
  get_0, get_s, set_0', set_s', List.getElem?_cons_zero, List.getElem?_cons_succ, List.set_cons_zero, List.set_cons_succ, ↓aNil_eq, ↓aCons_eq, ↓aTup_eq, ↓mPar_eq, ↓kPar_v, ↓gC_eq, ↓gaNil_eq, ↓gaCons_eq, ↓gTupE_eq, ↓gLst_eq, ↓gOp_eq, ↓gUn_eq, ↓gCall_eq, ↓gFn_eq, map_nilC, map_consC, lend_v, lend_o, lend_b, lend_t,
  ↓gTru_eq, ↓gTest_eq, oBl_b, oTru_v, oTru_o, oTru_b, truD_n, truD_b, truD_i, truD_t, mAnd_r, mOr_r, mAnd_t, mAnd_f, mOr_t, mOr_f, ↓gAnd_eq, ↓gOr_eq, ↓gNot_eq, mAndC_r, mAndC_f, mOrC_r, ↓gAndT_eq, ↓gOrT_eq, ↓gNotT_eq, ↓gIfE_eq, ↓gChain_eq, ↓gNo_eq, ↓gSome_eq, oInt?_i, ↓gSl_eq, oSl_t, oSl_b, ↓gSl2_eq, kSl2_t,
  ↓gIt_eq, ↓gItV_eq, kItV_v, kItV_b, kItV_o, itV_t, itV_s, itV_b, itV_o, itD_t, itD_s, itD_o, ↓gItR1_eq, ↓gItR2_eq, ↓gItR3_eq, itR3_i, itR1_i, itR2_i, ↓gLc_eq, wipe_n, wipe_c, ↓gYes_eq, ↓gR1_eq, kR1_i, ↓gR2_eq, kR2_i, ↓gLstRg_eq, ↓gTupRg_eq, ↓mFor_eq, ↓mForV_eq, ↓mForRev_eq, kForRev_o, kForRev_t, kForV_o, kForV_b, kForV_t, kForV_s, ↓mApp_eq, appAt_o, kApp_v,
  ↓fnU_eq, rp_0, rp_s, ap_n, ap_c, ms_n, ms_c, out_rt, out_nx, oAdd_i, oAdd_s, oAdd_t, oAdd_oo, oAdd_bo, oAdd_bb, oAdd_ob, oInt_v, oMul_i, oNeg_i, oEq_i, oNe_i, oEq_b, oNe_b, oEq_s, oNe_s, oIx_t, oIx_s, oIx_o, oIx_b, atD_0, atD_1, atD_2, atD_3, atD_4, atD_5, atD_6, atD_7, atD_8, datas_n, datas_v, mp_some, oTup_eq, oLst_eq, kTup_s, kLst_s, len_n, len_c,
  o1_v, o1_o, o1_b, lenD_t, lenD_l, lenD_s, absD_i, intD_i, intD_b, oMax2_i, oMin2_i, oGcd_i, oListC_t, oListC_o, oListC_b, oTupC_t, oTupC_o, oTupC_b, isi_bi, isi_ii, isi_ib, isi_bb, isi_ni, isi_ss, isi_nb, oIsi_v, tyD_b, tyD_i, tyD_s, tyD_n, oIsX_n, oIsX_b, isN_n, isN_i, isN_b, isN_s, isN_t, aUnl_o, aUnl_b, ↓mAugI_eq, augAt_i, kAug_i, ↓gZip_eq, zipD_t, ↓gIdxL_eq, kIdxL_b, kIdxL_o, idxA_v, ↓gIdxK_eq, ↓gSix_eq, kSix_s, oLtU_i, oLtU_s, oLtU_b, ↓gFnD_eq, ↓gFnK_eq, kFnK_21, mOrCt, mOrCf, mAndCt, mAndCf, ↓gF_eq, ↓gFt_eq, ↓mF_eq, oIsiX_v, tyX_b, tyX_i, tyX_s, tyX_n, tyX_t, isiX_ts, isiX_tb, isiX_ti, isiX_tt, isiX_st, isiX_sb, isiX_si, isiX_bs, isiX_bt, isiX_is, isiX_it, isiX_ns, isiX_nt, 
  lenOk, decide_eq_true_eq, Nat.reduceAdd, Nat.reduceLeDiff, Nat.reduceEqDiff, Bool.false_xor, Bool.true_xor, Bool.not_false, Bool.not_true, Bool.false_eq_true, if_true, if_false, reduceIte, ↓reduceIte, decide_true, decide_false, List.length_cons, List.length_nil])
local macro_rules | `(tactic| walk_at "pl") => `(tactic| simp (config := {maxSteps := 2000000}) only [bind_bind, bindR, retB, failB, anyB, iteB, wp_retE, wp_failE,
  ↓mSeq_eq, ↓kSeq_nx, ↓kSeq_rt, ↓kSeq_bk, ↓kSeq_ct, ↓mNext_eq, ↓mBreak_eq, ↓mCont_eq, ↓mDrop_eq, ↓mRet_eq, ↓mRetN_eq, ↓mAsg_eq, ↓mIf_eq, ↓gVar_eq, gAt_v, gAt_o, gAt_b, gAt_t, ↓mRetV_eq, rAt_s, ↓asgR_eq, aAt_v, aAt_o,
  get_0, get_s, set_0', set_s', List.getElem?_cons_zero, List.getElem?_cons_succ, List.set_cons_zero, List.set_cons_succ, ↓aNil_eq, ↓aCons_eq, ↓aTup_eq, ↓mPar_eq, ↓kPar_v, ↓gC_eq, ↓gaNil_eq, ↓gaCons_eq, ↓gTupE_eq, ↓gLst_eq, ↓gOp_eq, ↓gUn_eq, ↓gCall_eq, ↓gFn_eq, map_nilC, map_consC, lend_v, lend_o, lend_b, lend_t,
  ↓gTru_eq, ↓gTest_eq, oBl_b, oTru_v, oTru_o, oTru_b, truD_n, truD_b, truD_i, truD_t, mAnd_r, mOr_r, mAnd_t, mAnd_f, mOr_t, mOr_f, ↓gAnd_eq, ↓gOr_eq, ↓gNot_eq, mAndC_r, mAndC_f, mOrC_r, ↓gAndT_eq, ↓gOrT_eq, ↓gNotT_eq, ↓gIfE_eq, ↓gChain_eq, ↓gNo_eq, ↓gSome_eq, oInt?_i, ↓gSl_eq, oSl_t, oSl_b, ↓gSl2_eq, kSl2_t,
  ↓gIt_eq, ↓gItV_eq, kItV_v, kItV_b, kItV_o, itV_t, itV_s, itV_b, itV_o, itD_t, itD_s, itD_o, ↓gItR1_eq, ↓gItR2_eq, ↓gItR3_eq, itR3_i, itR1_i, itR2_i, ↓gLc_eq, wipe_n, wipe_c, ↓gYes_eq, ↓gR1_eq, kR1_i, ↓gR2_eq, kR2_i, ↓gLstRg_eq, ↓gTupRg_eq, ↓mFor_eq, ↓mForV_eq, ↓mForRev_eq, kForRev_o, kForRev_t, kForV_o, kForV_b, kForV_t, kForV_s, ↓mApp_eq, appAt_o, kApp_v,
  ↓fnU_eq, rp_0, rp_s, ap_n, ap_c, ms_n, ms_c, out_rt, out_nx, oAdd_i, oAdd_s, oAdd_t, oAdd_oo, oAdd_bo, oAdd_bb, oAdd_ob, oInt_v, oMul_i, oNeg_i, oEq_i, oNe_i, oEq_b, oNe_b, oEq_s, oNe_s, oIx_t, oIx_s, oIx_o, oIx_b, atD_0, atD_1, atD_2, atD_3, atD_4, atD_5, atD_6, atD_7, atD_8, datas_n, datas_v, mp_some, oTup_eq, oLst_eq, kTup_s, kLst_s, len_n, len_c,
  o1_v, o1_o, o1_b, lenD_t, lenD_l, lenD_s, absD_i, intD_i, intD_b, oMax2_i, oMin2_i, oGcd_i, oListC_t, oListC_o, oListC_b, oTupC_t, oTupC_o, oTupC_b, isi_bi, isi_ii, isi_ib, isi_bb, isi_ni, isi_ss, isi_nb, oIsi_v, tyD_b, tyD_i, tyD_s, tyD_n, oIsX_n, oIsX_b, isN_n, isN_i, isN_b, isN_s, isN_t, aUnl_o, aUnl_b, ↓mAugI_eq, augAt_i, kAug_i, ↓gZip_eq, zipD_t, ↓gIdxL_eq, kIdxL_b, kIdxL_o, idxA_v, ↓gIdxK_eq, ↓gSix_eq, kSix_s, oLtU_i, oLtU_s, oLtU_b, ↓gFnD_eq, ↓gFnK_eq, kFnK_21, mOrCt, mOrCf, mAndCt, mAndCf, ↓gF_eq, ↓gFt_eq, ↓mF_eq, oIsiX_v, tyX_b, tyX_i, tyX_s, tyX_n, tyX_t, isiX_ts, isiX_tb, isiX_ti, isiX_tt, isiX_st, isiX_sb, isiX_si, isiX_bs, isiX_bt, isiX_is, isiX_it, isiX_ns, isiX_nt, 
  lenOk, decide_eq_true_eq, Nat.reduceAdd, Nat.reduceLeDiff, Nat.reduceEqDiff, Bool.false_xor, Bool.true_xor, Bool.not_false, Bool.not_true, Bool.false_eq_true, if_true, if_false, reduceIte, ↓reduceIte, decide_true, decide_false, List.length_cons, List.length_nil])
local macro_rules | `(tactic| walk_at "pr") => `(tactic| ((try walk_at "pl"); try rfl))
local macro_rules | `(tactic| walk_at "wk") => `(tactic| try walk_at "pl")
local macro_rules | `(tactic| walk_at "we") => `(tactic| try walk_at "pe")

def top (i : Nat) : Stmt := PySem.Challenge.pw_chartspec_k80_simplest_fractions.main.body.getD i (.Pass ⟨0, 0, 0, 0⟩)
abbrev s_lowest : Stmt := top 3
theorem sc_lowest : FnScope ["numerator", "denominator", "divisor"] ["numerator", "denominator"] (defScope s_lowest) := ⟨rfl, rfl, rfl, by decide +kernel, rfl, by decide +kernel, by decide +kernel⟩
abbrev s_plus : Stmt := top 4
theorem sc_plus : FnScope ["a", "b"] ["a", "b"] (defScope s_plus) := ⟨rfl, rfl, rfl, by decide +kernel, rfl, by decide +kernel, by decide +kernel⟩
abbrev s_minus : Stmt := top 5
theorem sc_minus : FnScope ["a", "b"] ["a", "b"] (defScope s_minus) := ⟨rfl, rfl, rfl, by decide +kernel, rfl, by decide +kernel, by decide +kernel⟩
abbrev s_over : Stmt := top 6
theorem sc_over : FnScope ["a", "b"] ["a", "b"] (defScope s_over) := ⟨rfl, rfl, rfl, by decide +kernel, rfl, by decide +kernel, by decide +kernel⟩
abbrev s_compare : Stmt := top 7
theorem sc_compare : FnScope ["a", "b", "left", "right"] ["a", "b"] (defScope s_compare) := ⟨rfl, rfl, rfl, by decide +kernel, rfl, by decide +kernel, by decide +kernel⟩
abbrev s_floor_of : Stmt := top 8
theorem sc_floor_of : FnScope ["a"] ["a"] (defScope s_floor_of) := ⟨rfl, rfl, rfl, by decide +kernel, rfl, by decide +kernel, by decide +kernel⟩
abbrev s_ceiling_of : Stmt := top 9
theorem sc_ceiling_of : FnScope ["a"] ["a"] (defScope s_ceiling_of) := ⟨rfl, rfl, rfl, by decide +kernel, rfl, by decide +kernel, by decide +kernel⟩
abbrev s_simplest : Stmt := top 12
theorem sc_simplest : FnScope ["span", "low", "high", "closed"] ["span"] (defScope s_simplest) := ⟨rfl, rfl, rfl, by decide +kernel, rfl, by decide +kernel, by decide +kernel⟩
abbrev s_simplest_between : Stmt := top 13
theorem sc_simplest_between : FnScope ["low", "high", "low_in", "high_in", "wholes", "whole", "part", "found"] ["low", "high", "low_in", "high_in"] (defScope s_simplest_between) := ⟨rfl, rfl, rfl, by decide +kernel, rfl, by decide +kernel, by decide +kernel⟩
abbrev s_first_whole : Stmt := top 14
theorem sc_first_whole : FnScope ["low", "low_in", "found"] ["low", "low_in"] (defScope s_first_whole) := ⟨rfl, rfl, rfl, by decide +kernel, rfl, by decide +kernel, by decide +kernel⟩
abbrev s_law_tape : Stmt := top 16
theorem sc_law_tape : FnScope ["script", "total", "cell"] ["script"] (defScope s_law_tape) := ⟨rfl, rfl, rfl, by decide +kernel, rfl, by decide +kernel, by decide +kernel⟩
abbrev s_law_draw : Stmt := top 17
theorem sc_law_draw : FnScope ["tape", "many", "place", "number"] ["tape", "many"] (defScope s_law_draw) := ⟨rfl, rfl, rfl, by decide +kernel, rfl, by decide +kernel, by decide +kernel⟩
abbrev s_law_lowest : Stmt := top 18
theorem sc_law_lowest : FnScope ["n", "d", "a", "b", "rest"] ["n", "d"] (defScope s_law_lowest) := ⟨rfl, rfl, rfl, by decide +kernel, rfl, by decide +kernel, by decide +kernel⟩
abbrev s_law_cell_kind : Stmt := top 19
theorem sc_law_cell_kind : FnScope ["cell"] ["cell"] (defScope s_law_cell_kind) := ⟨rfl, rfl, rfl, by decide +kernel, rfl, by decide +kernel, by decide +kernel⟩
abbrev s_law_comes_before : Stmt := top 20
theorem sc_law_comes_before : FnScope ["one", "other", "ranks"] ["one", "other"] (defScope s_law_comes_before) := ⟨rfl, rfl, rfl, by decide +kernel, rfl, by decide +kernel, by decide +kernel⟩
abbrev s_law_ends : Stmt := top 21
theorem sc_law_ends : FnScope ["tape", "low", "size"] ["tape"] (defScope s_law_ends) := ⟨rfl, rfl, rfl, by decide +kernel, rfl, by decide +kernel, by decide +kernel⟩
abbrev s_law_edge : Stmt := top 22
theorem sc_law_edge : FnScope ["domain", "length", "p", "a", "b", "step"] ["domain", "length", "p"] (defScope s_law_edge) := ⟨rfl, rfl, rfl, by decide +kernel, rfl, by decide +kernel, by decide +kernel⟩
abbrev s_law_span : Stmt := top 23
theorem sc_law_span : FnScope ["ruler", "pixel", "p", "low", "high"] ["ruler", "pixel"] (defScope s_law_span) := ⟨rfl, rfl, rfl, by decide +kernel, rfl, by decide +kernel, by decide +kernel⟩
abbrev s_law_simplest : Stmt := top 24
theorem sc_law_simplest : FnScope ["span", "low", "high", "d", "first", "last"] ["span"] (defScope s_law_simplest) := ⟨rfl, rfl, rfl, by decide +kernel, rfl, by decide +kernel, by decide +kernel⟩
abbrev s_law_lies_in : Stmt := top 25
theorem sc_law_lies_in : FnScope ["x", "span"] ["x", "span"] (defScope s_law_lies_in) := ⟨rfl, rfl, rfl, by decide +kernel, rfl, by decide +kernel, by decide +kernel⟩
abbrev s_law_drawn_span : Stmt := top 26
theorem sc_law_drawn_span : FnScope ["tape", "ends", "ruler", "low", "more", "high"] ["tape"] (defScope s_law_drawn_span) := ⟨rfl, rfl, rfl, by decide +kernel, rfl, by decide +kernel, by decide +kernel⟩
abbrev s_law : Stmt := top 27
theorem sc_law : FnScope ["script", "tape", "span", "told", "low", "high", "part", "whole", "other"] ["script"] (defScope s_law) := ⟨rfl, rfl, rfl, by decide +kernel, rfl, by decide +kernel, by decide +kernel⟩
structure Blt (mg : Str → Option Value) : Prop where
  abs : mg "abs" = none
  bool : mg "bool" = none
  int : mg "int" = none
  isinstance : mg "isinstance" = none
  len : mg "len" = none
  list : mg "list" = none
  max : mg "max" = none
  min : mg "min" = none
  range : mg "range" = none
  repr : mg "repr" = none
  reversed : mg "reversed" = none
  str : mg "str" = none
  tuple : mg "tuple" = none

section
variable {P : Program} {w : World} {K : PySem.W.Frag} {mg : Str → Option Value} {base : Heap}
theorem df_law_tape (M : Blt mg) (A : At K mg "_law_tape" s_law_tape) : Df P w K mg base 1 "_law_tape" ["script"] (sp_law_tape K) := by
  have nd := sc_law_tape.nd
  refine Df.of A (fun _ _ _ _ _ _ us hl => match us, hl with | [_], _ => rfl) sc_law_tape (fun vs H Q E h => ?_) (fun cdv A out f s H vs Q E hr hgd h => ?_)
  · obtain ⟨a, ns, rfl, _⟩ := h
    rfl
  · obtain ⟨a, ns, rfl, hS, hl, k⟩ := h
    refine ⟨_, (pss_cons (ps_set (i := 1) nd rfl (Or.inl rfl) pe_int)
      (pss_cons (ps_for PassesOwn.never rfl (pi_list (pv 0)) (pg_name (i := 2) nd rfl (Or.inl rfl)) (pss_one (ps_set (i := 1) nd rfl (Or.inl rfl) (pe_op op_mod (pe_callTy call_int1 (by rfl) M.int (by decide +kernel) (pa_cons (pe_op op_add (pe_op op_mul (pv 1) pe_int) (pe_callB call_abs (by rfl) M.abs (by decide +kernel) (pa_cons (pe_callTy call_int1 (by rfl) M.int (by decide +kernel) (pa_cons (pv 2) pa_nil)) pa_nil))) pa_nil)) pe_int))))
      (pss_one (ps_ret (pe_lst (pa_cons (pe_callTy (listK K) (by rfl) M.list (by decide +kernel) (pa_cons (pv 0) pa_nil)) (pa_cons pe_int (pa_cons pe_int (pa_cons (pv 1) pa_nil))))))))), at_start (st_of (k := 2) rfl (by walk_at "sts")) ?_⟩
    refine ⟨_, rfl, a, rfl, ⟨_, hS⟩, for_list (K := K) (a := a) (xs := ns.map V.int) (fun i σ H2 => H2 = H ∧ ∃ (z : Int) (v : Option V), σ = [some (.ref a), some (.int z), v] ∧ 0 ≤ z) ⟨rfl, 7, none, rfl, by decide⟩ (fun i σ H2 _ e => by rw [e.1]; exact hS) ?_ ?_⟩
    · rintro i y σ H2 hi ⟨rfl, z, v, rfl, hz⟩
      obtain ⟨n, rfl⟩ := int_at hi
      repeat walk_at "rd1"
      exact Int.emod_nonneg _ (by decide)
    · rintro σ H2 ⟨rfl, z, v, rfl, hz⟩
      refine ⟨_, rfl, a, _, rfl, Or.inl hS, fun l hl => ?_⟩
      repeat walk_at "rd1"
      refine ⟨(by show 4 ≤ sizeLine; decide), fun t ht => ?_⟩
      have nlt : l ≠ t := ne_of_none upd_same ht
      refine k t l _ (fun b o e => ?_) ⟨⟨ns, 0, 0, z, upd_same, by rw [upd_ne nlt]; exact upd_same, by decide, by decide, hz⟩, nlt⟩ ((Same.new hl).free ht) hl
      rw [upd_ne (ne_of_none (Same.new hl _ _ e) ht), upd_ne (ne_of_none e hl)]
      exact e
theorem df_law_draw (M : Blt mg) (A : At K mg "_law_draw" s_law_draw) : Df P w K mg base 1 "_law_draw" ["tape", "many"] (sp_law_draw K) := by
  have nd := sc_law_draw.nd
  refine Df.of A (fun _ _ _ _ _ _ us hl => match us, hl with | [_, _], _ => rfl) sc_law_draw (fun vs H Q E h => ?_) (fun cdv A out f s H vs Q E hr hgd h => ?_)
  · obtain ⟨t, l, m, rfl, _⟩ := h
    rfl
  · obtain ⟨t, l, m, rfl, T, hm, k⟩ := h
    obtain ⟨⟨ns, p, r, s, h1, h2, p0, r0, s0⟩, nlt⟩ := id T
    refine ⟨_, (pss_cons (ps_if (pt_cmpR op_eq (pe_ix (ixL K) (pv 0) pe_int (fun _ _ => rfl)) pe_int (nomark _)) (pss_cons (ps_set (i := 2) nd rfl (Or.inl rfl) (pe_ix (ixL K) (pv 0) pe_int (fun _ _ => rfl)))
      (pss_cons (ps_set (i := 3) nd rfl (Or.inl rfl) pe_int)
      (pss_cons (ps_if (pt_cmpR op_lt (pv 2) (pe_callB (lenK K) (by rfl) M.len (by decide +kernel) (pa_cons (pe_ix (ixL K) (pv 0) pe_int (fun _ _ => rfl)) pa_nil)) (nomark _)) (pss_one (ps_set (i := 3) nd rfl (Or.inl rfl) (pe_callB call_abs (by rfl) M.abs (by decide +kernel) (pa_cons (pe_callTy call_int1 (by rfl) M.int (by decide +kernel) (pa_cons (pe_ix (ixL K) (pe_ix (ixL K) (pv 0) pe_int (fun _ _ => rfl)) (pv 2) (fun _ _ => rfl)) pa_nil)) pa_nil)))) (pss_cons (ps_asg (pe_op op_mod (pe_callTy call_int1 (by rfl) M.int (by decide +kernel) (pa_cons (pe_op op_add (pe_op op_add (pe_op op_mul (pe_ix (ixL K) (pv 0) pe_int (fun _ _ => rfl)) pe_int) (pv 2)) pe_int) pa_nil)) pe_int) (pg_sub (pv 0) pe_int set_list))
      (pss_one (ps_set (i := 3) nd rfl (Or.inl rfl) (pe_ix (ixL K) (pv 0) pe_int (fun _ _ => rfl))))))
      (pss_cons (ps_asg (pe_op op_add (pv 2) pe_int) (pg_sub (pv 0) pe_int set_list))
      (pss_cons (ps_if (pt_cmpR op_lt (pv 3) (pe_op op_pow pe_int pe_int) (nomark _)) (pss_cons (ps_set (i := 3) nd rfl (Or.inl rfl) (pe_op op_mod (pe_callTy call_int1 (by rfl) M.int (by decide +kernel) (pa_cons (pe_op op_add (pe_op op_add (pe_op op_mul (pv 3) pe_int) (pe_op op_mul (pv 2) pe_int)) pe_int) pa_nil)) pe_int))
      (pss_cons (ps_set (i := 3) nd rfl (Or.inl rfl) (pe_op op_mod (pe_callTy call_int1 (by rfl) M.int (by decide +kernel) (pa_cons (pe_op op_mul (pv 3) pe_int) pa_nil)) pe_int))
      (pss_one (ps_ret (pe_op op_mod (pe_callTy call_int1 (by rfl) M.int (by decide +kernel) (pa_cons (pv 3) pa_nil)) (pe_callB (call_max2 rfl) (by rfl) M.max (by decide +kernel) (pa_cons (pv 1) (pa_cons pe_int pa_nil)))))))) pss_nil)
      (pss_one (ps_asg (pv 3) (pg_sub (pv 0) pe_int set_list)))))))) pss_nil)
      (pss_cons (ps_set (i := 3) nd rfl (Or.inl rfl) (pe_ix (ixL K) (pv 0) pe_int (fun _ _ => rfl)))
      (pss_cons (ps_asg (pe_op op_fdiv (pv 3) (pe_callB (call_max2 rfl) (by rfl) M.max (by decide +kernel) (pa_cons (pv 1) (pa_cons pe_int pa_nil)))) (pg_sub (pv 0) pe_int set_list))
      (pss_one (ps_ret (pe_op op_mod (pe_callTy call_int1 (by rfl) M.int (by decide +kernel) (pa_cons (pv 3) pa_nil)) (pe_callB (call_max2 rfl) (by rfl) M.max (by decide +kernel) (pa_cons (pv 1) (pa_cons pe_int pa_nil))))))))), at_start (st_of (k := 2) rfl (by walk_at "sts")) ?_⟩
    have fin : ∀ (n : Int) (H1 : Hp) (p' r' s' : Int), H1 t = some (.lst [.ref l, .int p', .int r', .int s']) → Al t H H1 → 0 ≤ p' → 0 ≤ r' → 0 ≤ s' → Q (.int (n % (if (1 : Int) > m then (1 : Int) else m))) H1 := by
      intro n H1 p' r' s' e1 a1 hp hr' hs
      rw [max_one]
      refine k _ H1 ⟨⟨ns, p', r', s', e1, by rw [a1 l nlt]; exact h2, hp, hr', hs⟩, nlt⟩ a1 (Int.emod_nonneg _ (by omega)) (Int.emod_lt_of_pos _ (by omega))
    repeat walk_at "rd1"
    refine if_int (fun hr0 => ?_) (fun hr0 => ?_)
    · subst hr0
      repeat walk_at "rd1"
      refine if_dec (fun hpl => ?_) (fun hpl => ?_)
      · rw [List.length_map] at hpl
        obtain ⟨n, hn⟩ := at_int p0 hpl
        refine ⟨_, rfl, _, _, _, _, rfl, rfl, SqL.of h1, rfl, _, rfl, _, _, _, _, rfl, rfl, SqL.of h2, hn, ?_⟩
        repeat walk_at "rd1"
        refine if_dec (fun h18 => ?_) (fun h18 => ?_)
        · repeat walk_at "rd1"
          exact fin _ _ (p + 1) 0 s upd_same Al.upd (by omega) (by decide) s0
        · repeat walk_at "rd1"
          exact fin _ _ (p + 1) _ s upd_same ((Al.upd.trans Al.upd).trans Al.upd) (by omega) (Int.ediv_nonneg (by split <;> omega) (by split <;> omega)) s0
      · repeat walk_at "rd1"
        refine if_dec (fun h18 => ?_) (fun h18 => ?_)
        · repeat walk_at "rd1"
          exact fin _ _ (p + 1) 0 _ upd_same (Al.upd.trans Al.upd) (by omega) (by decide) (Int.emod_nonneg _ (by decide))
        · repeat walk_at "rd1"
          exact fin _ _ (p + 1) _ _ upd_same (((Al.upd.trans Al.upd).trans Al.upd).trans Al.upd) (by omega) (Int.ediv_nonneg (Int.emod_nonneg _ (by decide)) (by split <;> omega)) (Int.emod_nonneg _ (by decide))
    · repeat walk_at "rd1"
      exact fin _ _ p _ s upd_same Al.upd p0 (Int.ediv_nonneg r0 (by split <;> omega)) s0
end

def fuelI : Option (Option C) → Nat
  | some (some (.val (.int i))) => i.natAbs + 1
  | _ => 0
def fuelQ : Option (Option C) → Option (Option C) → Nat
  | some (some (.val (.tuple [_, .int b]))), some (some (.val (.tuple [_, .int d]))) => b.natAbs + d.natAbs + 1
  | _, _ => 0
/-- lowest(numerator, denominator); 0 numerator, 1 denominator, 2 divisor -/
noncomputable def f_lowest : List C → M C := fnU 2 1
    (mSeq (mAsg (gCall oGcd (gaCons (gVar 0) (gaCons (gVar 1) gaNil))) (asgR 2))
      (mSeq (mIf (gTest (gOp oLt (gVar 1) (gC (.int 0)))) (mAsg (gUn oNeg (gVar 2)) (asgR 2)) mNext)
      (mRet (gTupE (gaCons (gOp oFdivA (gVar 0) (gVar 2)) (gaCons (gOp oFdivA (gVar 1) (gVar 2)) gaNil))))))
/-- plus(a, b); 0 a, 1 b -/
noncomputable def f_plus : List C → M C := fnU 2 0
    (mRet (gFn f_lowest (gaCons (gOp oAdd (gOp oMul (gOp oIx (gVar 0) (gC (.int 0))) (gOp oIx (gVar 1) (gC (.int 1)))) (gOp oMul (gOp oIx (gVar 1) (gC (.int 0))) (gOp oIx (gVar 0) (gC (.int 1))))) (gaCons (gOp oMul (gOp oIx (gVar 0) (gC (.int 1))) (gOp oIx (gVar 1) (gC (.int 1)))) gaNil))))
/-- minus(a, b); 0 a, 1 b -/
noncomputable def f_minus : List C → M C := fnU 2 0
    (mRet (gFn f_lowest (gaCons (gOp oSub (gOp oMul (gOp oIx (gVar 0) (gC (.int 0))) (gOp oIx (gVar 1) (gC (.int 1)))) (gOp oMul (gOp oIx (gVar 1) (gC (.int 0))) (gOp oIx (gVar 0) (gC (.int 1))))) (gaCons (gOp oMul (gOp oIx (gVar 0) (gC (.int 1))) (gOp oIx (gVar 1) (gC (.int 1)))) gaNil))))
/-- over(a, b); 0 a, 1 b -/
noncomputable def f_over : List C → M C := fnU 2 0
    (mRet (gFn f_lowest (gaCons (gOp oMul (gOp oIx (gVar 0) (gC (.int 0))) (gOp oIx (gVar 1) (gC (.int 1)))) (gaCons (gOp oMul (gOp oIx (gVar 0) (gC (.int 1))) (gOp oIx (gVar 1) (gC (.int 0)))) gaNil))))
/-- compare(a, b); 0 a, 1 b, 2 left, 3 right -/
noncomputable def f_compare : List C → M C := fnU 2 2
    (mSeq (mPar 2 3 (gaCons (gOp oMul (gOp oIx (gVar 0) (gC (.int 0))) (gOp oIx (gVar 1) (gC (.int 1)))) (gaCons (gOp oMul (gOp oIx (gVar 1) (gC (.int 0))) (gOp oIx (gVar 0) (gC (.int 1)))) gaNil)))
      (mSeq (mIf (gTest (gOp oEq (gVar 2) (gVar 3))) (mRet (gC (.int 0))) mNext)
      (mRet (gIfE (gTest (gOp oLt (gVar 2) (gVar 3))) (gUn oNeg (gC (.int 1))) (gC (.int 1))))))
/-- floor_of(a); 0 a -/
noncomputable def f_floor_of : List C → M C := fnU 1 0
    (mRet (gOp oFdivA (gOp oIx (gVar 0) (gC (.int 0))) (gOp oIx (gVar 0) (gC (.int 1)))))
/-- ceiling_of(a); 0 a -/
noncomputable def f_ceiling_of : List C → M C := fnU 1 0
    (mRet (gUn oNeg (gOp oFdivA (gUn oNeg (gOp oIx (gVar 0) (gC (.int 0)))) (gOp oIx (gVar 0) (gC (.int 1))))))
/-- first_whole(low, low_in); 0 low, 1 low_in, 2 found -/
noncomputable def f_first_whole : List C → M C := fnU 2 1
    (mSeq (mAsg (gTupE (gaCons (gFn f_ceiling_of (gaCons (gVar 0) gaNil)) (gaCons (gC (.int 1)) gaNil))) (asgR 2))
      (mRet (gIfE (gAnd (gTest (gOp oEq (gVar 2) (gVar 0))) (gNot (gTru (gVar 1)))) (gFn f_plus (gaCons (gVar 2) (gaCons (gC (.tuple [.int 1, .int 1])) gaNil))) (gVar 2))))
/-- simplest_between(low, high, low_in, high_in); 0 low, 1 high, 2 low_in, 3 high_in, 4 wholes, 5 whole, 6 part, 7 found -/
noncomputable def f_simplest_between : List C → M C := fnU 4 4
    (mSeq (mAsg (gLst gaNil) (asgR 4))
      (mSeq (mAsg (gFn f_first_whole (gaCons (gVar 0) (gaCons (gVar 2) gaNil))) (asgR 5))
      (mSeq (mWhile (fun ρ => fuelQ (ρ[0]?) (ρ[1]?)) (gAnd (gTest (gOp (oIsX true) (gVar 1) (gC .none))) (gTest (gOp oGe (gFn f_compare (gaCons (gVar 5) (gaCons (gVar 1) gaNil))) (gC (.int 0))))) (mSeq (mAsg (gTupE (gaCons (gFn f_floor_of (gaCons (gVar 0) gaNil)) (gaCons (gC (.int 1)) gaNil))) (asgR 6))
      (mSeq (mApp 4 (gVar 6))
      (mSeq (mPar 0 1 (gaCons (gFn f_over (gaCons (gC (.tuple [.int 1, .int 1])) (gaCons (gFn f_minus (gaCons (gVar 1) (gaCons (gVar 6) gaNil))) gaNil))) (gaCons (gIfE (gTest (gOp oEq (gVar 0) (gVar 6))) (gC .none) (gFn f_over (gaCons (gC (.tuple [.int 1, .int 1])) (gaCons (gFn f_minus (gaCons (gVar 0) (gaCons (gVar 6) gaNil))) gaNil)))) gaNil)))
      (mSeq (mPar 2 3 (gaCons (gVar 3) (gaCons (gVar 2) gaNil)))
      (mAsg (gFn f_first_whole (gaCons (gVar 0) (gaCons (gVar 2) gaNil))) (asgR 5)))))))
      (mSeq (mAsg (gVar 5) (asgR 7))
      (mSeq (mForRev 4 (asgR 6) (mAsg (gFn f_plus (gaCons (gVar 6) (gaCons (gFn f_over (gaCons (gC (.tuple [.int 1, .int 1])) (gaCons (gVar 7) gaNil))) gaNil))) (asgR 7)))
      (mRetV 7))))))
/-- simplest(span); 0 span, 1 low, 2 high, 3 closed -/
noncomputable def f_simplest : List C → M C := fnU 1 3
    (mSeq (mAsg (gVar 0) (aTup 3 (aCons (asgR 1) (aCons (asgR 2) (aCons (asgR 3) aNil)))))
      (mSeq (mIf (gTest (gOp oGe (gFn f_compare (gaCons (gVar 1) (gaCons (gC (.tuple [.int 0, .int 1])) gaNil))) (gC (.int 0)))) (mRet (gFn f_simplest_between (gaCons (gVar 1) (gaCons (gVar 2) (gaCons (gC (.bool true)) (gaCons (gVar 3) gaNil)))))) mNext)
      (mSeq (mIf (gTest (gOp oGt (gFn f_compare (gaCons (gVar 2) (gaCons (gC (.tuple [.int 0, .int 1])) gaNil))) (gC (.int 0)))) (mRet (gC (.tuple [.int 0, .int 1]))) mNext)
      (mRet (gFn f_minus (gaCons (gC (.tuple [.int 0, .int 1])) (gaCons (gFn f_simplest_between (gaCons (gFn f_minus (gaCons (gC (.tuple [.int 0, .int 1])) (gaCons (gVar 2) gaNil))) (gaCons (gFn f_minus (gaCons (gC (.tuple [.int 0, .int 1])) (gaCons (gVar 1) gaNil))) (gaCons (gVar 3) (gaCons (gC (.bool true)) gaNil))))) gaNil)))))))
/-- _law_lowest(n, d); 0 n, 1 d, 2 a, 3 b, 4 rest -/
noncomputable def f_law_lowest : List C → M C := fnU 2 3
    (mSeq (mAsg (gCall oAbs (gaCons (gVar 0) gaNil)) (asgR 2))
      (mSeq (mAsg (gCall oAbs (gaCons (gVar 1) gaNil)) (asgR 3))
      (mSeq (mWhile (fun ρ => fuelI (ρ[3]?)) (gTest (gOp oGt (gVar 3) (gC (.int 0)))) (mSeq (mAsg (gOp oMod (gCall oIntC (gaCons (gVar 2) gaNil)) (gVar 3)) (asgR 4))
      (mSeq (mAsg (gVar 3) (asgR 2))
      (mAsg (gVar 4) (asgR 3)))))
      (mSeq (mIf (gTest (gOp oLt (gVar 1) (gC (.int 0)))) (mAsg (gOp oSub (gC (.int 0)) (gVar 2)) (asgR 2)) mNext)
      (mRet (gTupE (gaCons (gOp oFdivA (gVar 0) (gVar 2)) (gaCons (gOp oFdivA (gVar 1) (gVar 2)) gaNil))))))))
/-- _law_cell_kind(cell); 0 cell -/
noncomputable def f_law_cell_kind : List C → M C := fnU 1 0
    (mSeq (mIf (gTru (gUn (oIsiX "bool") (gVar 0))) (mRet (gC (.str "boolean"))) mNext)
      (mSeq (mIf (gTru (gUn (oIsiX "str") (gVar 0))) (mRet (gC (.str "text"))) mNext)
      (mRet (gC (.str "number")))))
/-- _law_comes_before(one, other); 0 one, 1 other, 2 ranks -/
noncomputable def f_law_comes_before : List C → M C := fnU 2 1
    (mSeq (mIf (gOr (gTest (gOp (oIsX false) (gVar 0) (gC .none))) (gTest (gOp (oIsX false) (gVar 1) (gC .none)))) (mRet (gOp (oIsX true) (gVar 0) (gC .none))) mNext)
      (mSeq (mAsg (gLst (gaCons (gC (.str "boolean")) (gaCons (gC (.str "number")) (gaCons (gC (.str "text")) gaNil)))) (asgR 2))
      (mSeq (mIf (gTest (gOp oNe (gFn f_law_cell_kind (gaCons (gVar 0) gaNil)) (gFn f_law_cell_kind (gaCons (gVar 1) gaNil)))) (mRet gF) mNext)
      (mSeq (mIf (gTru (gUn (oIsiX "tuple") (gVar 0))) (mRet (gOp oLt (gOp oMul (gOp oIx (gVar 0) (gC (.int 0))) (gOp oIx (gVar 1) (gC (.int 1)))) (gOp oMul (gOp oIx (gVar 1) (gC (.int 0))) (gOp oIx (gVar 0) (gC (.int 1)))))) mNext)
      (mRet gF)))))
/-- _law_ends(tape); 0 tape, 1 low, 2 size -/
noncomputable def f_law_ends : List C → M C := fnU 1 2
    (mSeq (mAsg (gOp oIx (gLst (gaCons (gTupE (gaCons (gC (.int 0)) (gaCons (gC (.int 1)) gaNil))) (gaCons (gTupE (gaCons (gC (.int 0)) (gaCons (gC (.int 1)) gaNil))) (gaCons (gTupE (gaCons (gUn oNeg (gC (.int 3))) (gaCons (gC (.int 2)) gaNil))) (gaCons (gTupE (gaCons (gOp oSub (gCall drawC (gaCons (gVar 0) (gaCons (gC (.int 20)) gaNil))) (gC (.int 10))) (gaCons (gC (.int 1)) gaNil))) gaNil))))) (gCall drawC (gaCons (gVar 0) (gaCons (gC (.int 4)) gaNil)))) (asgR 1))
      (mSeq (mAsg (gOp oIx (gLst (gaCons (gTupE (gaCons (gC (.int 10)) (gaCons (gC (.int 1)) gaNil))) (gaCons (gTupE (gaCons (gC (.int 1)) (gaCons (gC (.int 1)) gaNil))) (gaCons (gTupE (gaCons (gC (.int 7)) (gaCons (gC (.int 3)) gaNil))) (gaCons (gTupE (gaCons (gOp oAdd (gC (.int 1)) (gCall drawC (gaCons (gVar 0) (gaCons (gC (.int 40)) gaNil)))) (gaCons (gC (.int 1)) gaNil))) gaNil))))) (gCall drawC (gaCons (gVar 0) (gaCons (gC (.int 4)) gaNil)))) (asgR 2))
      (mRet (gTupE (gaCons (gVar 1) (gaCons (gFn f_law_lowest (gaCons (gOp oAdd (gOp oMul (gOp oIx (gVar 1) (gC (.int 0))) (gOp oIx (gVar 2) (gC (.int 1)))) (gOp oMul (gOp oIx (gVar 2) (gC (.int 0))) (gOp oIx (gVar 1) (gC (.int 1))))) (gaCons (gOp oMul (gOp oIx (gVar 1) (gC (.int 1))) (gOp oIx (gVar 2) (gC (.int 1)))) gaNil))) gaNil))))))
/-- _law_edge(domain, length, p); 0 domain, 1 length, 2 p, 3 a, 4 b, 5 step -/
noncomputable def f_law_edge : List C → M C := fnU 3 3
    (mSeq (mAsg (gOp oIx (gVar 0) (gC (.int 0))) (asgR 3))
      (mSeq (mAsg (gOp oIx (gVar 0) (gC (.int 1))) (asgR 4))
      (mSeq (mAsg (gOp oMul (gOp oSub (gOp oMul (gC (.int 2)) (gVar 2)) (gC (.int 1))) (gOp oSub (gOp oMul (gOp oIx (gVar 4) (gC (.int 0))) (gOp oIx (gVar 3) (gC (.int 1)))) (gOp oMul (gOp oIx (gVar 3) (gC (.int 0))) (gOp oIx (gVar 4) (gC (.int 1)))))) (asgR 5))
      (mRet (gFn f_law_lowest (gaCons (gOp oAdd (gOp oMul (gOp oMul (gOp oMul (gOp oIx (gVar 3) (gC (.int 0))) (gC (.int 2))) (gVar 1)) (gOp oIx (gVar 4) (gC (.int 1)))) (gVar 5)) (gaCons (gOp oMul (gOp oMul (gOp oMul (gC (.int 2)) (gVar 1)) (gOp oIx (gVar 3) (gC (.int 1)))) (gOp oIx (gVar 4) (gC (.int 1)))) gaNil)))))))
/-- _law_span(ruler, pixel); 0 ruler, 1 pixel, 2 p, 3 low, 4 high -/
noncomputable def f_law_span : List C → M C := fnU 2 3
    (mSeq (mAsg (gVar 1) (asgR 2))
      (mSeq (mIf (gTru (gOp oIx (gVar 0) (gC (.int 3)))) (mAsg (gOp oSub (gOp oIx (gVar 0) (gC (.int 2))) (gVar 1)) (asgR 2)) mNext)
      (mSeq (mAsg (gOp oIx (gOp oIx (gVar 0) (gC (.int 1))) (gC (.int 0))) (asgR 3))
      (mSeq (mIf (gTest (gOp oGt (gVar 2) (gC (.int 0)))) (mAsg (gFn f_law_edge (gaCons (gOp oIx (gVar 0) (gC (.int 1))) (gaCons (gOp oIx (gVar 0) (gC (.int 2))) (gaCons (gVar 2) gaNil)))) (asgR 3)) mNext)
      (mSeq (mAsg (gOp oIx (gOp oIx (gVar 0) (gC (.int 1))) (gC (.int 1))) (asgR 4))
      (mSeq (mIf (gTest (gOp oLt (gVar 2) (gOp oIx (gVar 0) (gC (.int 2))))) (mAsg (gFn f_law_edge (gaCons (gOp oIx (gVar 0) (gC (.int 1))) (gaCons (gOp oIx (gVar 0) (gC (.int 2))) (gaCons (gOp oAdd (gVar 2) (gC (.int 1))) gaNil)))) (asgR 4)) mNext)
      (mRet (gTupE (gaCons (gVar 3) (gaCons (gVar 4) (gaCons (gOp oEq (gVar 2) (gOp oIx (gVar 0) (gC (.int 2)))) gaNil)))))))))))
/-- _law_simplest(span); 0 span, 1 low, 2 high, 3 d, 4 first, 5 last -/
noncomputable def f_law_simplest : List C → M C := fnU 1 5
    (mSeq (mAsg (gOp oIx (gVar 0) (gC (.int 0))) (asgR 1))
      (mSeq (mAsg (gOp oIx (gVar 0) (gC (.int 1))) (asgR 2))
      (mSeq (mFor (gItR2 (gaCons (gC (.int 1)) (gaCons (gOp oAdd (gOp oIx (gVar 1) (gC (.int 1))) (gC (.int 1))) gaNil))) (asgR 3) (mSeq (mAsg (gUn oNeg (gOp oFdivA (gOp oMul (gUn oNeg (gOp oIx (gVar 1) (gC (.int 0)))) (gVar 3)) (gOp oIx (gVar 1) (gC (.int 1))))) (asgR 4))
      (mSeq (mAsg (gOp oFdivA (gOp oMul (gOp oIx (gVar 2) (gC (.int 0))) (gVar 3)) (gOp oIx (gVar 2) (gC (.int 1)))) (asgR 5))
      (mSeq (mIf (gAnd (gTest (gOp oEq (gOp oMul (gVar 5) (gOp oIx (gVar 2) (gC (.int 1)))) (gOp oMul (gOp oIx (gVar 2) (gC (.int 0))) (gVar 3)))) (gNot (gTru (gOp oIx (gVar 0) (gC (.int 2)))))) (mAsg (gOp oSub (gVar 5) (gC (.int 1))) (asgR 5)) mNext)
      (mIf (gTest (gOp oLe (gVar 4) (gVar 5))) (mRet (gTupE (gaCons (gCall oMax2 (gaCons (gVar 4) (gaCons (gCall oMin2 (gaCons (gVar 5) (gaCons (gC (.int 0)) gaNil))) gaNil))) (gaCons (gVar 3) gaNil)))) mNext)))))
      (mRetV 1))))
/-- _law_lies_in(x, span); 0 x, 1 span -/
noncomputable def f_law_lies_in : List C → M C := fnU 2 0
    (mSeq (mIf (gTru (gFn f_law_comes_before (gaCons (gVar 0) (gaCons (gOp oIx (gVar 1) (gC (.int 0))) gaNil)))) (mRet (gC (.bool false))) mNext)
      (mRet (gOrT (gFn f_law_comes_before (gaCons (gVar 0) (gaCons (gOp oIx (gVar 1) (gC (.int 1))) gaNil))) (gAndT (gOp oIx (gVar 1) (gC (.int 2))) (gOp oEq (gVar 0) (gOp oIx (gVar 1) (gC (.int 1))))))))
/-- _law_drawn_span(tape); 0 tape, 1 ends, 2 ruler, 3 low, 4 more, 5 high -/
noncomputable def f_law_drawn_span : List C → M C := fnU 1 5
    (mSeq (mIf (gTest (gOp oEq (gCall drawC (gaCons (gVar 0) (gaCons (gC (.int 2)) gaNil))) (gC (.int 0)))) (mSeq (mAsg (gFn f_law_ends (gaCons (gVar 0) gaNil)) (asgR 1))
      (mSeq (mAsg (gTupE (gaCons (gC (.str "linear")) (gaCons (gVar 1) (gaCons (gOp oAdd (gC (.int 4)) (gCall drawC (gaCons (gVar 0) (gaCons (gC (.int 397)) gaNil)))) (gaCons (gC (.bool false)) (gaCons (gC (.bool false)) gaNil)))))) (asgR 2))
      (mRet (gFn f_law_span (gaCons (gVar 2) (gaCons (gCall drawC (gaCons (gVar 0) (gaCons (gOp oAdd (gOp oIx (gVar 2) (gC (.int 2))) (gC (.int 1))) gaNil))) gaNil)))))) mNext)
      (mSeq (mAsg (gFn f_law_lowest (gaCons (gOp oSub (gCall drawC (gaCons (gVar 0) (gaCons (gC (.int 400)) gaNil))) (gC (.int 200))) (gaCons (gOp oAdd (gC (.int 1)) (gCall drawC (gaCons (gVar 0) (gaCons (gC (.int 60)) gaNil)))) gaNil))) (asgR 3))
      (mSeq (mIf (gTest (gOp oEq (gCall drawC (gaCons (gVar 0) (gaCons (gC (.int 3)) gaNil))) (gC (.int 0)))) (mAsg (gOp oIx (gLst (gaCons (gTupE (gaCons (gC (.int 0)) (gaCons (gC (.int 1)) gaNil))) (gaCons (gTupE (gaCons (gUn oNeg (gC (.int 1))) (gaCons (gOp oAdd (gC (.int 1)) (gCall drawC (gaCons (gVar 0) (gaCons (gC (.int 9)) gaNil)))) gaNil))) gaNil))) (gCall drawC (gaCons (gVar 0) (gaCons (gC (.int 2)) gaNil)))) (asgR 3)) mNext)
      (mSeq (mAsg (gFn f_law_lowest (gaCons (gOp oAdd (gC (.int 1)) (gCall drawC (gaCons (gVar 0) (gaCons (gC (.int 60)) gaNil)))) (gaCons (gOp oAdd (gC (.int 1)) (gCall drawC (gaCons (gVar 0) (gaCons (gC (.int 60)) gaNil)))) gaNil))) (asgR 4))
      (mSeq (mAsg (gFn f_law_lowest (gaCons (gOp oAdd (gOp oMul (gOp oIx (gVar 3) (gC (.int 0))) (gOp oIx (gVar 4) (gC (.int 1)))) (gOp oMul (gOp oIx (gVar 4) (gC (.int 0))) (gOp oIx (gVar 3) (gC (.int 1))))) (gaCons (gOp oMul (gOp oIx (gVar 3) (gC (.int 1))) (gOp oIx (gVar 4) (gC (.int 1)))) gaNil))) (asgR 5))
      (mRet (gTupE (gaCons (gVar 3) (gaCons (gVar 5) (gaCons (gOp oEq (gCall drawC (gaCons (gVar 0) (gaCons (gC (.int 2)) gaNil))) (gC (.int 0))) gaNil))))))))))
/-- law; 0 script, 1 tape, 2 span, 3 told, 4 low, 5 high, 6 part, 7 whole, 8 other -/
noncomputable def m_law : Ro → M Res :=
    (mSeq (mAsg (gFn f_law_drawn_span (gaCons (gVar 1) gaNil)) (asgR 2))
      (mSeq (mAsg (gFn f_simplest (gaCons (gVar 2) gaNil)) (asgR 3))
      (mSeq (mIf (gOr (gTest (gOp oNe (gCall oRepr (gaCons (gVar 3) gaNil)) (gCall oRepr (gaCons (gFn f_law_simplest (gaCons (gVar 2) gaNil)) gaNil)))) (gNot (gTru (gFn f_law_lies_in (gaCons (gVar 3) (gaCons (gVar 2) gaNil)))))) (mRet (gC (.bool false))) mNext)
      (mSeq (mAsg (gOp oIx (gVar 2) (gC (.int 0))) (asgR 4))
      (mSeq (mAsg (gOp oIx (gVar 2) (gC (.int 1))) (asgR 5))
      (mSeq (mAsg (gOp oAdd (gC (.int 1)) (gCall drawC (gaCons (gVar 1) (gaCons (gC (.int 30)) gaNil)))) (asgR 6))
      (mSeq (mAsg (gOp oAdd (gVar 6) (gCall drawC (gaCons (gVar 1) (gaCons (gC (.int 30)) gaNil)))) (asgR 7))
      (mSeq (mAsg (gFn f_law_lowest (gaCons (gOp oAdd (gOp oMul (gOp oMul (gOp oIx (gVar 4) (gC (.int 0))) (gOp oIx (gVar 5) (gC (.int 1)))) (gOp oSub (gVar 7) (gVar 6))) (gOp oMul (gOp oMul (gOp oIx (gVar 5) (gC (.int 0))) (gOp oIx (gVar 4) (gC (.int 1)))) (gVar 6))) (gaCons (gOp oMul (gOp oMul (gOp oIx (gVar 4) (gC (.int 1))) (gOp oIx (gVar 5) (gC (.int 1)))) (gVar 7)) gaNil))) (asgR 8))
      (mRet (gOrT (gNotT (gFn f_law_lies_in (gaCons (gVar 8) (gaCons (gVar 2) gaNil)))) (gOp oLe (gOp oIx (gVar 3) (gC (.int 1))) (gOp oIx (gVar 8) (gC (.int 1))))))))))))))

section
variable {P : Program} {w : World} {K : PySem.W.Frag} {mg : Str → Option Value} {base : Heap}
theorem df_lowest (M : Blt mg) (A : At K mg "lowest" s_lowest) (GG : mg "gcd" = some (.builtin "math.gcd")) : Df P w K mg base 1 "lowest" ["numerator", "denominator"] (spU K f_lowest) := by
  have nd := sc_lowest.nd
  exact Df.uni A (fun _ _ _ _ _ _ us hl => match us, hl with | [_, _], _ => rfl) sc_lowest rfl (fun cdv A out f s H E hr hgd => ⟨_, (pss_cons (ps_set (i := 2) nd rfl (Or.inl rfl) (pe_callMB cr_gcd rfl GG (pa_cons (pv 0) (pa_cons (pv 1) pa_nil))))
      (pss_cons (ps_if (pt_cmpR op_lt (pv 1) pe_int (nomark _)) (pss_one (ps_set (i := 2) nd rfl (Or.inl rfl) (pe_un un_neg (pv 2)))) pss_nil)
      (pss_one (ps_ret (pe_tup (pa_cons (pe_op op_fdivA (pv 0) (pv 2)) (pa_cons (pe_op op_fdivA (pv 1) (pv 2)) pa_nil))))))),
    (rs_seq (rs_asg (re_call cs_gcd (ra_cons (re_var (i := 0)) (ra_cons (re_var (i := 1)) ra_nil))) (rg_name (i := 2)))
      (rs_seq (rs_if (rt_test (re_op os_cmp0 (re_var (i := 1)) re_int)) (rs_asg (re_un us_neg (re_var (i := 2))) (rg_name (i := 2))) rs_next)
      (rs_ret (re_tup (ra_cons (re_op os_fdivA (re_var (i := 0)) (re_var (i := 2))) (ra_cons (re_op os_fdivA (re_var (i := 1)) (re_var (i := 2))) ra_nil))))))⟩)
theorem df_plus (M : Blt mg) (A : At K mg "plus" s_plus) (D_lowest : Df P w K mg base 1 "lowest" ["numerator", "denominator"] (spU K f_lowest)) : Df P w K mg base 2 "plus" ["a", "b"] (spU K f_plus) := by
  have nd := sc_plus.nd
  exact Df.uni A (fun _ _ _ _ _ _ us hl => match us, hl with | [_, _], _ => rfl) sc_plus rfl (fun cdv A out f s H E hr hgd => ⟨_, (pss_one (ps_ret (pe_df D_lowest (hr.mono (by decide)) hgd rfl (pa_cons (pe_op (opAdd K) (pe_op (opMul K) (pe_ix (ixU K) (pv 0) pe_int (fun _ _ => rfl)) (pe_ix (ixU K) (pv 1) pe_int (fun _ _ => rfl))) (pe_op (opMul K) (pe_ix (ixU K) (pv 1) pe_int (fun _ _ => rfl)) (pe_ix (ixU K) (pv 0) pe_int (fun _ _ => rfl)))) (pa_cons (pe_op (opMul K) (pe_ix (ixU K) (pv 0) pe_int (fun _ _ => rfl)) (pe_ix (ixU K) (pv 1) pe_int (fun _ _ => rfl))) pa_nil))))),
    (rs_ret (re_fn (ra_cons (re_op os_add (re_op os_mul (re_op os_ix (re_var (i := 0)) re_int) (re_op os_ix (re_var (i := 1)) re_int)) (re_op os_mul (re_op os_ix (re_var (i := 1)) re_int) (re_op os_ix (re_var (i := 0)) re_int))) (ra_cons (re_op os_mul (re_op os_ix (re_var (i := 0)) re_int) (re_op os_ix (re_var (i := 1)) re_int)) ra_nil))))⟩)
theorem df_minus (M : Blt mg) (A : At K mg "minus" s_minus) (D_lowest : Df P w K mg base 1 "lowest" ["numerator", "denominator"] (spU K f_lowest)) : Df P w K mg base 2 "minus" ["a", "b"] (spU K f_minus) := by
  have nd := sc_minus.nd
  exact Df.uni A (fun _ _ _ _ _ _ us hl => match us, hl with | [_, _], _ => rfl) sc_minus rfl (fun cdv A out f s H E hr hgd => ⟨_, (pss_one (ps_ret (pe_df D_lowest (hr.mono (by decide)) hgd rfl (pa_cons (pe_op op_sub (pe_op (opMul K) (pe_ix (ixU K) (pv 0) pe_int (fun _ _ => rfl)) (pe_ix (ixU K) (pv 1) pe_int (fun _ _ => rfl))) (pe_op (opMul K) (pe_ix (ixU K) (pv 1) pe_int (fun _ _ => rfl)) (pe_ix (ixU K) (pv 0) pe_int (fun _ _ => rfl)))) (pa_cons (pe_op (opMul K) (pe_ix (ixU K) (pv 0) pe_int (fun _ _ => rfl)) (pe_ix (ixU K) (pv 1) pe_int (fun _ _ => rfl))) pa_nil))))),
    (rs_ret (re_fn (ra_cons (re_op os_sub (re_op os_mul (re_op os_ix (re_var (i := 0)) re_int) (re_op os_ix (re_var (i := 1)) re_int)) (re_op os_mul (re_op os_ix (re_var (i := 1)) re_int) (re_op os_ix (re_var (i := 0)) re_int))) (ra_cons (re_op os_mul (re_op os_ix (re_var (i := 0)) re_int) (re_op os_ix (re_var (i := 1)) re_int)) ra_nil))))⟩)
theorem df_over (M : Blt mg) (A : At K mg "over" s_over) (D_lowest : Df P w K mg base 1 "lowest" ["numerator", "denominator"] (spU K f_lowest)) : Df P w K mg base 2 "over" ["a", "b"] (spU K f_over) := by
  have nd := sc_over.nd
  exact Df.uni A (fun _ _ _ _ _ _ us hl => match us, hl with | [_, _], _ => rfl) sc_over rfl (fun cdv A out f s H E hr hgd => ⟨_, (pss_one (ps_ret (pe_df D_lowest (hr.mono (by decide)) hgd rfl (pa_cons (pe_op (opMul K) (pe_ix (ixU K) (pv 0) pe_int (fun _ _ => rfl)) (pe_ix (ixU K) (pv 1) pe_int (fun _ _ => rfl))) (pa_cons (pe_op (opMul K) (pe_ix (ixU K) (pv 0) pe_int (fun _ _ => rfl)) (pe_ix (ixU K) (pv 1) pe_int (fun _ _ => rfl))) pa_nil))))),
    (rs_ret (re_fn (ra_cons (re_op os_mul (re_op os_ix (re_var (i := 0)) re_int) (re_op os_ix (re_var (i := 1)) re_int)) (ra_cons (re_op os_mul (re_op os_ix (re_var (i := 0)) re_int) (re_op os_ix (re_var (i := 1)) re_int)) ra_nil))))⟩)
end
section
variable {P : Program} {w : World} {K : PySem.W.Frag} {mg : Str → Option Value} {base : Heap}
theorem df_compare (M : Blt mg) (A : At K mg "compare" s_compare) : Df P w K mg base 1 "compare" ["a", "b"] (spU K f_compare) := by
  have nd := sc_compare.nd
  exact Df.uni A (fun _ _ _ _ _ _ us hl => match us, hl with | [_, _], _ => rfl) sc_compare rfl (fun cdv A out f s H E hr hgd => ⟨_, (pss_cons (par2 (ps_par (i := 2) (j := 3) (by rfl) nd rfl rfl (by decide) rfl rfl (pa_cons (pe_op (opMul K) (pe_ix (ixU K) (pv 0) pe_int (fun _ _ => rfl)) (pe_ix (ixU K) (pv 1) pe_int (fun _ _ => rfl))) (pa_cons (pe_op (opMul K) (pe_ix (ixU K) (pv 1) pe_int (fun _ _ => rfl)) (pe_ix (ixU K) (pv 0) pe_int (fun _ _ => rfl))) pa_nil)) (by rfl)))
      (pss_cons (ps_if (pt_cmpR (opEq K hr.units) (pv 2) (pv 3) (nomark _)) (pss_one (ps_ret pe_int)) pss_nil)
      (pss_one (ps_ret (pe_ifExp (pt_cmpR op_lt (pv 2) (pv 3) (nomark _)) (pe_un un_neg pe_int) pe_int))))),
    (rs_seq (rs_par (ra_cons (re_op os_mul (re_op os_ix (re_var (i := 0)) re_int) (re_op os_ix (re_var (i := 1)) re_int)) (ra_cons (re_op os_mul (re_op os_ix (re_var (i := 1)) re_int) (re_op os_ix (re_var (i := 0)) re_int)) ra_nil)))
      (rs_seq (rs_if (rt_test (re_op os_eq (re_var (i := 2)) (re_var (i := 3)))) (rs_ret re_int) rs_next)
      (rs_ret (re_if (rt_test (re_op os_cmp0 (re_var (i := 2)) (re_var (i := 3)))) (re_un us_neg re_int) re_int))))⟩)
theorem df_floor_of (M : Blt mg) (A : At K mg "floor_of" s_floor_of) : Df P w K mg base 1 "floor_of" ["a"] (spU K f_floor_of) := by
  have nd := sc_floor_of.nd
  exact Df.uni A (fun _ _ _ _ _ _ us hl => match us, hl with | [_], _ => rfl) sc_floor_of rfl (fun cdv A out f s H E hr hgd => ⟨_, (pss_one (ps_ret (pe_op op_fdivA (pe_ix (ixU K) (pv 0) pe_int (fun _ _ => rfl)) (pe_ix (ixU K) (pv 0) pe_int (fun _ _ => rfl))))),
    (rs_ret (re_op os_fdivA (re_op os_ix (re_var (i := 0)) re_int) (re_op os_ix (re_var (i := 0)) re_int)))⟩)
theorem df_ceiling_of (M : Blt mg) (A : At K mg "ceiling_of" s_ceiling_of) : Df P w K mg base 1 "ceiling_of" ["a"] (spU K f_ceiling_of) := by
  have nd := sc_ceiling_of.nd
  exact Df.uni A (fun _ _ _ _ _ _ us hl => match us, hl with | [_], _ => rfl) sc_ceiling_of rfl (fun cdv A out f s H E hr hgd => ⟨_, (pss_one (ps_ret (pe_un un_neg (pe_op op_fdivA (pe_un un_neg (pe_ix (ixU K) (pv 0) pe_int (fun _ _ => rfl))) (pe_ix (ixU K) (pv 0) pe_int (fun _ _ => rfl)))))),
    (rs_ret (re_un us_neg (re_op os_fdivA (re_un us_neg (re_op os_ix (re_var (i := 0)) re_int)) (re_op os_ix (re_var (i := 0)) re_int))))⟩)
theorem df_first_whole (M : Blt mg) (A : At K mg "first_whole" s_first_whole) {a1 : Addr} (GM1 : mg "ONE" = some (.ref a1)) (GK1 : KTup K a1 [.int 1, .int 1]) (D_ceiling_of : Df P w K mg base 1 "ceiling_of" ["a"] (spU K f_ceiling_of)) (D_plus : Df P w K mg base 2 "plus" ["a", "b"] (spU K f_plus)) : Df P w K mg base 3 "first_whole" ["low", "low_in"] (spU K f_first_whole) := by
  have nd := sc_first_whole.nd
  exact Df.uni A (fun _ _ _ _ _ _ us hl => match us, hl with | [_, _], _ => rfl) sc_first_whole rfl (fun cdv A out f s H E hr hgd => ⟨_, (pss_cons (ps_set (i := 2) nd rfl (Or.inl rfl) (pe_tup (pa_cons (pe_df D_ceiling_of (hr.mono (by decide)) hgd rfl (pa_cons (pv 0) pa_nil)) (pa_cons pe_int pa_nil))))
      (pss_one (ps_ret (pe_ifExp (PW.pt (pw_and (pt_cmpR (opEq K hr.units) (pv 2) (pv 0) (nomark _)) (pw_and1 (pt_not (truK K (pv 1)))))) (pe_df D_plus (hr.mono (by decide)) hgd rfl (pa_cons (pv 2) (pa_cons (pe_ktup rfl GM1) pa_nil))) (pv 2))))),
    (rs_seq (rs_asg (re_tup (ra_cons (re_fn (ra_cons (re_var (i := 0)) ra_nil)) (ra_cons re_int ra_nil))) (rg_name (i := 2)))
      (rs_ret (re_if (rt_and (rt_test (re_op os_eq (re_var (i := 2)) (re_var (i := 0)))) (rt_not (rt_tru (re_var (i := 1))))) (re_fn (ra_cons (re_var (i := 2)) (ra_cons (re_ktup GK1) ra_nil))) (re_var (i := 2)))))⟩)
end
section
variable {P : Program} {w : World} {K : PySem.W.Frag} {mg : Str → Option Value} {base : Heap}
theorem df_simplest_between (M : Blt mg) (A : At K mg "simplest_between" s_simplest_between) {a1 : Addr} (GM1 : mg "ONE" = some (.ref a1)) (GK1 : KTup K a1 [.int 1, .int 1]) (D_first_whole : Df P w K mg base 3 "first_whole" ["low", "low_in"] (spU K f_first_whole)) (D_plus : Df P w K mg base 2 "plus" ["a", "b"] (spU K f_plus)) (D_compare : Df P w K mg base 1 "compare" ["a", "b"] (spU K f_compare)) (D_floor_of : Df P w K mg base 1 "floor_of" ["a"] (spU K f_floor_of)) (D_over : Df P w K mg base 2 "over" ["a", "b"] (spU K f_over)) (D_minus : Df P w K mg base 2 "minus" ["a", "b"] (spU K f_minus)) : Df P w K mg base 4 "simplest_between" ["low", "high", "low_in", "high_in"] (spU K f_simplest_between) := by
  have nd := sc_simplest_between.nd
  exact Df.uni A (fun _ _ _ _ _ _ us hl => match us, hl with | [_, _, _, _], _ => rfl) sc_simplest_between rfl (fun cdv A out f s H E hr hgd => ⟨_, (pss_cons (ps_set (i := 4) nd rfl (Or.inl rfl) (pe_lst pa_nil))
      (pss_cons (ps_set (i := 5) nd rfl (Or.inl rfl) (pe_df D_first_whole (hr.mono (by decide)) hgd rfl (pa_cons (pv 0) (pa_cons (pv 2) pa_nil))))
      (pss_cons (ps_while PassesOwn.never (PW.pt (pw_and (pt_cmpR opIsNot (pv 1) pe_non (nomark _)) (pw_and1 (pt_cmpR op_ge (pe_df D_compare (hr.mono (by decide)) hgd rfl (pa_cons (pv 5) (pa_cons (pv 1) pa_nil))) pe_int (nomark _))))) (pss_cons (ps_set (i := 6) nd rfl (Or.inl rfl) (pe_tup (pa_cons (pe_df D_floor_of (hr.mono (by decide)) hgd rfl (pa_cons (pv 0) pa_nil)) (pa_cons pe_int pa_nil))))
      (pss_cons (ps_expr (pe_bm PySem.F.plainAttrs_list PySem.F.slot_list_append PySem.F.type_list_append mt_append (pv 4) (pa_cons (pv 6) pa_nil)))
      (pss_cons (par2 (ps_par (i := 0) (j := 1) (by rfl) nd rfl rfl (by decide) rfl rfl (pa_cons (pe_df D_over (hr.mono (by decide)) hgd rfl (pa_cons (pe_ktup rfl GM1) (pa_cons (pe_df D_minus (hr.mono (by decide)) hgd rfl (pa_cons (pv 1) (pa_cons (pv 6) pa_nil))) pa_nil))) (pa_cons (pe_ifExp (pt_cmpR (opEq K hr.units) (pv 0) (pv 6) (nomark _)) pe_non (pe_df D_over (hr.mono (by decide)) hgd rfl (pa_cons (pe_ktup rfl GM1) (pa_cons (pe_df D_minus (hr.mono (by decide)) hgd rfl (pa_cons (pv 0) (pa_cons (pv 6) pa_nil))) pa_nil)))) pa_nil)) (by rfl)))
      (pss_cons (par2 (ps_par (i := 2) (j := 3) (by rfl) nd rfl rfl (by decide) rfl rfl (pa_cons (pv 3) (pa_cons (pv 2) pa_nil)) (by rfl)))
      (pss_one (ps_set (i := 5) nd rfl (Or.inl rfl) (pe_df D_first_whole (hr.mono (by decide)) hgd rfl (pa_cons (pv 0) (pa_cons (pv 2) pa_nil))))))))))
      (pss_cons (ps_set (i := 7) nd rfl (Or.inl rfl) (pv 5))
      (pss_cons (ps_for PassesOwn.never rfl (RT.pi_revA rfl M.reversed (pv 4)) (pg_name (i := 6) nd rfl (Or.inl rfl)) (pss_one (ps_set (i := 7) nd rfl (Or.inl rfl) (pe_df D_plus (hr.mono (by decide)) hgd rfl (pa_cons (pv 6) (pa_cons (pe_df D_over (hr.mono (by decide)) hgd rfl (pa_cons (pe_ktup rfl GM1) (pa_cons (pv 7) pa_nil))) pa_nil))))))
      (pss_one (ps_ret (pv 7)))))))),
    (rs_seq (rs_asg (re_lst ra_nil) (rg_name (i := 4)))
      (rs_seq (rs_asg (re_fn (ra_cons (re_var (i := 0)) (ra_cons (re_var (i := 2)) ra_nil))) (rg_name (i := 5)))
      (rs_seq (rs_while (rt_and (rt_test (re_op os_isX (re_var (i := 1)) re_non)) (rt_test (re_op os_cmp0 (re_fn (ra_cons (re_var (i := 5)) (ra_cons (re_var (i := 1)) ra_nil))) re_int))) (rs_seq (rs_asg (re_tup (ra_cons (re_fn (ra_cons (re_var (i := 0)) ra_nil)) (ra_cons re_int ra_nil))) (rg_name (i := 6)))
      (rs_seq (rs_app (i := 4) (re_var (i := 6)))
      (rs_seq (rs_par (ra_cons (re_fn (ra_cons (re_ktup GK1) (ra_cons (re_fn (ra_cons (re_var (i := 1)) (ra_cons (re_var (i := 6)) ra_nil))) ra_nil))) (ra_cons (re_if (rt_test (re_op os_eq (re_var (i := 0)) (re_var (i := 6)))) re_non (re_fn (ra_cons (re_ktup GK1) (ra_cons (re_fn (ra_cons (re_var (i := 0)) (ra_cons (re_var (i := 6)) ra_nil))) ra_nil)))) ra_nil)))
      (rs_seq (rs_par (ra_cons (re_var (i := 3)) (ra_cons (re_var (i := 2)) ra_nil)))
      (rs_asg (re_fn (ra_cons (re_var (i := 0)) (ra_cons (re_var (i := 2)) ra_nil))) (rg_name (i := 5))))))))
      (rs_seq (rs_asg (re_var (i := 5)) (rg_name (i := 7)))
      (rs_seq (rs_forRev (i := 4) (rg_name (i := 6)) (rs_asg (re_fn (ra_cons (re_var (i := 6)) (ra_cons (re_fn (ra_cons (re_ktup GK1) (ra_cons (re_var (i := 7)) ra_nil))) ra_nil))) (rg_name (i := 7))))
      (rs_retV (i := 7)))))))⟩)
theorem df_simplest (M : Blt mg) (A : At K mg "simplest" s_simplest) {a0 : Addr} (GM0 : mg "ZERO" = some (.ref a0)) (GK0 : KTup K a0 [.int 0, .int 1]) (D_minus : Df P w K mg base 2 "minus" ["a", "b"] (spU K f_minus)) (D_compare : Df P w K mg base 1 "compare" ["a", "b"] (spU K f_compare)) (D_simplest_between : Df P w K mg base 4 "simplest_between" ["low", "high", "low_in", "high_in"] (spU K f_simplest_between)) : Df P w K mg base 5 "simplest" ["span"] (spU K f_simplest) := by
  have nd := sc_simplest.nd
  exact Df.uni A (fun _ _ _ _ _ _ us hl => match us, hl with | [_], _ => rfl) sc_simplest rfl (fun cdv A out f s H E hr hgd => ⟨_, (pss_cons (ps_asg (pv 0) (pg_tup rfl (pgs_cons (pg_name (i := 1) nd rfl (Or.inl rfl)) (pgs_cons (pg_name (i := 2) nd rfl (Or.inl rfl)) (pgs_cons (pg_name (i := 3) nd rfl (Or.inl rfl)) pgs_nil)))))
      (pss_cons (ps_if (pt_cmpR op_ge (pe_df D_compare (hr.mono (by decide)) hgd rfl (pa_cons (pv 1) (pa_cons (pe_ktup rfl GM0) pa_nil))) pe_int (nomark _)) (pss_one (ps_ret (pe_df D_simplest_between (hr.mono (by decide)) hgd rfl (pa_cons (pv 1) (pa_cons (pv 2) (pa_cons pe_bl (pa_cons (pv 3) pa_nil))))))) pss_nil)
      (pss_cons (ps_if (pt_cmpR op_gt (pe_df D_compare (hr.mono (by decide)) hgd rfl (pa_cons (pv 2) (pa_cons (pe_ktup rfl GM0) pa_nil))) pe_int (nomark _)) (pss_one (ps_ret (pe_ktup rfl GM0))) pss_nil)
      (pss_one (ps_ret (pe_df D_minus (hr.mono (by decide)) hgd rfl (pa_cons (pe_ktup rfl GM0) (pa_cons (pe_df D_simplest_between (hr.mono (by decide)) hgd rfl (pa_cons (pe_df D_minus (hr.mono (by decide)) hgd rfl (pa_cons (pe_ktup rfl GM0) (pa_cons (pv 2) pa_nil))) (pa_cons (pe_df D_minus (hr.mono (by decide)) hgd rfl (pa_cons (pe_ktup rfl GM0) (pa_cons (pv 1) pa_nil))) (pa_cons (pv 3) (pa_cons pe_bl pa_nil))))) pa_nil)))))))),
    (rs_seq (rs_asg (re_var (i := 0)) (rg_tup (n := 3) (rgs_cons (rg_name (i := 1)) (rgs_cons (rg_name (i := 2)) (rgs_cons (rg_name (i := 3)) rgs_nil)))))
      (rs_seq (rs_if (rt_test (re_op os_cmp0 (re_fn (ra_cons (re_var (i := 1)) (ra_cons (re_ktup GK0) ra_nil))) re_int)) (rs_ret (re_fn (ra_cons (re_var (i := 1)) (ra_cons (re_var (i := 2)) (ra_cons re_bl (ra_cons (re_var (i := 3)) ra_nil)))))) rs_next)
      (rs_seq (rs_if (rt_test (re_op os_cmp0 (re_fn (ra_cons (re_var (i := 2)) (ra_cons (re_ktup GK0) ra_nil))) re_int)) (rs_ret (re_ktup GK0)) rs_next)
      (rs_ret (re_fn (ra_cons (re_ktup GK0) (ra_cons (re_fn (ra_cons (re_fn (ra_cons (re_ktup GK0) (ra_cons (re_var (i := 2)) ra_nil))) (ra_cons (re_fn (ra_cons (re_ktup GK0) (ra_cons (re_var (i := 1)) ra_nil))) (ra_cons (re_var (i := 3)) (ra_cons re_bl ra_nil))))) ra_nil)))))))⟩)
theorem df_law_lowest (M : Blt mg) (A : At K mg "_law_lowest" s_law_lowest) : Df P w K mg base 1 "_law_lowest" ["n", "d"] (spU K f_law_lowest) := by
  have nd := sc_law_lowest.nd
  exact Df.uni A (fun _ _ _ _ _ _ us hl => match us, hl with | [_, _], _ => rfl) sc_law_lowest rfl (fun cdv A out f s H E hr hgd => ⟨_, (pss_cons (ps_set (i := 2) nd rfl (Or.inl rfl) (pe_callB call_abs (by rfl) M.abs (by decide +kernel) (pa_cons (pv 0) pa_nil)))
      (pss_cons (ps_set (i := 3) nd rfl (Or.inl rfl) (pe_callB call_abs (by rfl) M.abs (by decide +kernel) (pa_cons (pv 1) pa_nil)))
      (pss_cons (ps_while PassesOwn.never (pt_cmpR op_gt (pv 3) pe_int (nomark _)) (pss_cons (ps_set (i := 4) nd rfl (Or.inl rfl) (pe_op op_mod (pe_callTy call_int1 (by rfl) M.int (by decide +kernel) (pa_cons (pv 2) pa_nil)) (pv 3)))
      (pss_cons (ps_set (i := 2) nd rfl (Or.inl rfl) (pv 3))
      (pss_one (ps_set (i := 3) nd rfl (Or.inl rfl) (pv 4))))))
      (pss_cons (ps_if (pt_cmpR op_lt (pv 1) pe_int (nomark _)) (pss_one (ps_set (i := 2) nd rfl (Or.inl rfl) (pe_op op_sub pe_int (pv 2)))) pss_nil)
      (pss_one (ps_ret (pe_tup (pa_cons (pe_op op_fdivA (pv 0) (pv 2)) (pa_cons (pe_op op_fdivA (pv 1) (pv 2)) pa_nil))))))))),
    (rs_seq (rs_asg (re_call cs_abs (ra_cons (re_var (i := 0)) ra_nil)) (rg_name (i := 2)))
      (rs_seq (rs_asg (re_call cs_abs (ra_cons (re_var (i := 1)) ra_nil)) (rg_name (i := 3)))
      (rs_seq (rs_while (rt_test (re_op os_cmp0 (re_var (i := 3)) re_int)) (rs_seq (rs_asg (re_op os_mod (re_call cs_int (ra_cons (re_var (i := 2)) ra_nil)) (re_var (i := 3))) (rg_name (i := 4)))
      (rs_seq (rs_asg (re_var (i := 3)) (rg_name (i := 2)))
      (rs_asg (re_var (i := 4)) (rg_name (i := 3))))))
      (rs_seq (rs_if (rt_test (re_op os_cmp0 (re_var (i := 1)) re_int)) (rs_asg (re_op os_sub re_int (re_var (i := 2))) (rg_name (i := 2))) rs_next)
      (rs_ret (re_tup (ra_cons (re_op os_fdivA (re_var (i := 0)) (re_var (i := 2))) (ra_cons (re_op os_fdivA (re_var (i := 1)) (re_var (i := 2))) ra_nil))))))))⟩)
theorem df_law_cell_kind (M : Blt mg) (A : At K mg "_law_cell_kind" s_law_cell_kind) : Df P w K mg base 1 "_law_cell_kind" ["cell"] (spU K f_law_cell_kind) := by
  have nd := sc_law_cell_kind.nd
  exact Df.uni A (fun _ _ _ _ _ _ us hl => match us, hl with | [_], _ => rfl) sc_law_cell_kind rfl (fun cdv A out f s H E hr hgd => ⟨_, (pss_cons (ps_if (truK K (pe_callB (isiK K) (by rfl) M.isinstance (by decide +kernel) (pa_cons (pv 0) (pa_cons (pe_bltn (v := .ty "bool") (u := .type "bool") (by rfl) M.bool (by decide +kernel) rfl) pa_nil)))) (pss_one (ps_ret pe_str)) pss_nil)
      (pss_cons (ps_if (truK K (pe_callB (isiK K) (by rfl) M.isinstance (by decide +kernel) (pa_cons (pv 0) (pa_cons (pe_bltn (v := .ty "str") (u := .type "str") (by rfl) M.str (by decide +kernel) rfl) pa_nil)))) (pss_one (ps_ret pe_str)) pss_nil)
      (pss_one (ps_ret pe_str)))),
    (rs_seq (rs_if (rt_tru (re_isiX (re_var (i := 0)))) (rs_ret re_str) rs_next)
      (rs_seq (rs_if (rt_tru (re_isiX (re_var (i := 0)))) (rs_ret re_str) rs_next)
      (rs_ret re_str)))⟩)
end
section
variable {P : Program} {w : World} {K : PySem.W.Frag} {mg : Str → Option Value} {base : Heap}
theorem df_law_comes_before (M : Blt mg) (A : At K mg "_law_comes_before" s_law_comes_before) (D_law_cell_kind : Df P w K mg base 1 "_law_cell_kind" ["cell"] (spU K f_law_cell_kind)) : Df P w K mg base 2 "_law_comes_before" ["one", "other"] (spU K f_law_comes_before) := by
  have nd := sc_law_comes_before.nd
  exact Df.uni A (fun _ _ _ _ _ _ us hl => match us, hl with | [_, _], _ => rfl) sc_law_comes_before rfl (fun cdv A out f s H E hr hgd => ⟨_, (pss_cons (ps_if (PW.pt (pw_or (pt_cmpR opIs (pv 0) pe_non (nomark _)) (pw_or1 (pt_cmpR opIs (pv 1) pe_non (nomark _))))) (pss_one (ps_ret (pe_cmpR opIsNot (pv 0) pe_non (nomark _)))) pss_nil)
      (pss_cons (ps_set (i := 2) nd rfl (Or.inl rfl) (pe_lst (pa_cons pe_str (pa_cons pe_str (pa_cons pe_str pa_nil)))))
      (pss_cons (ps_if (pt_cmpR (opNe K hr.units) (pe_df D_law_cell_kind (hr.mono (by decide)) hgd rfl (pa_cons (pv 0) pa_nil)) (pe_df D_law_cell_kind (hr.mono (by decide)) hgd rfl (pa_cons (pv 1) pa_nil)) (nomark _)) (pss_one (ps_ret pe_F)) pss_nil)
      (pss_cons (ps_if (truK K (pe_callB (isiK K) (by rfl) M.isinstance (by decide +kernel) (pa_cons (pv 0) (pa_cons (pe_bltn (v := .ty "tuple") (u := .type "tuple") (by rfl) M.tuple (by decide +kernel) rfl) pa_nil)))) (pss_one (ps_ret (pe_cmpR op_lt (pe_op (opMul K) (pe_ix (ixU K) (pv 0) pe_int (fun _ _ => rfl)) (pe_ix (ixU K) (pv 1) pe_int (fun _ _ => rfl))) (pe_op (opMul K) (pe_ix (ixU K) (pv 1) pe_int (fun _ _ => rfl)) (pe_ix (ixU K) (pv 0) pe_int (fun _ _ => rfl))) (nomark _)))) pss_nil)
      (pss_one (ps_ret pe_F)))))),
    (rs_seq (rs_if (rt_or (rt_test (re_op os_isX (re_var (i := 0)) re_non)) (rt_test (re_op os_isX (re_var (i := 1)) re_non))) (rs_ret (re_op os_isX (re_var (i := 0)) re_non)) rs_next)
      (rs_seq (rs_asg (re_lst (ra_cons re_str (ra_cons re_str (ra_cons re_str ra_nil)))) (rg_name (i := 2)))
      (rs_seq (rs_if (rt_test (re_op os_ne (re_fn (ra_cons (re_var (i := 0)) ra_nil)) (re_fn (ra_cons (re_var (i := 1)) ra_nil)))) (rs_ret re_F) rs_next)
      (rs_seq (rs_if (rt_tru (re_isiX (re_var (i := 0)))) (rs_ret (re_op os_cmp0 (re_op os_mul (re_op os_ix (re_var (i := 0)) re_int) (re_op os_ix (re_var (i := 1)) re_int)) (re_op os_mul (re_op os_ix (re_var (i := 1)) re_int) (re_op os_ix (re_var (i := 0)) re_int)))) rs_next)
      (rs_ret re_F)))))⟩)
theorem df_law_ends (M : Blt mg) (A : At K mg "_law_ends" s_law_ends) (D_law_draw : Df P w K mg base 1 "_law_draw" ["tape", "many"] (sp_law_draw K)) (D_law_lowest : Df P w K mg base 1 "_law_lowest" ["n", "d"] (spU K f_law_lowest)) : Df P w K mg base 2 "_law_ends" ["tape"] (spU K f_law_ends) := by
  have nd := sc_law_ends.nd
  exact Df.uni A (fun _ _ _ _ _ _ us hl => match us, hl with | [_], _ => rfl) sc_law_ends rfl (fun cdv A out f s H E hr hgd => ⟨_, (pss_cons (ps_set (i := 1) nd rfl (Or.inl rfl) (pe_ix (ixU K) (pe_lst (pa_cons (pe_tup (pa_cons pe_int (pa_cons pe_int pa_nil))) (pa_cons (pe_tup (pa_cons pe_int (pa_cons pe_int pa_nil))) (pa_cons (pe_tup (pa_cons (pe_un un_neg pe_int) (pa_cons pe_int pa_nil))) (pa_cons (pe_tup (pa_cons (pe_op op_sub (pe_df D_law_draw (hr.mono (by decide)) hgd rfl (pa_cons (pv 0) (pa_cons pe_int pa_nil))) pe_int) (pa_cons pe_int pa_nil))) pa_nil))))) (pe_df D_law_draw (hr.mono (by decide)) hgd rfl (pa_cons (pv 0) (pa_cons pe_int pa_nil))) (fun _ _ => rfl)))
      (pss_cons (ps_set (i := 2) nd rfl (Or.inl rfl) (pe_ix (ixU K) (pe_lst (pa_cons (pe_tup (pa_cons pe_int (pa_cons pe_int pa_nil))) (pa_cons (pe_tup (pa_cons pe_int (pa_cons pe_int pa_nil))) (pa_cons (pe_tup (pa_cons pe_int (pa_cons pe_int pa_nil))) (pa_cons (pe_tup (pa_cons (pe_op (opAdd K) pe_int (pe_df D_law_draw (hr.mono (by decide)) hgd rfl (pa_cons (pv 0) (pa_cons pe_int pa_nil)))) (pa_cons pe_int pa_nil))) pa_nil))))) (pe_df D_law_draw (hr.mono (by decide)) hgd rfl (pa_cons (pv 0) (pa_cons pe_int pa_nil))) (fun _ _ => rfl)))
      (pss_one (ps_ret (pe_tup (pa_cons (pv 1) (pa_cons (pe_df D_law_lowest (hr.mono (by decide)) hgd rfl (pa_cons (pe_op (opAdd K) (pe_op (opMul K) (pe_ix (ixU K) (pv 1) pe_int (fun _ _ => rfl)) (pe_ix (ixU K) (pv 2) pe_int (fun _ _ => rfl))) (pe_op (opMul K) (pe_ix (ixU K) (pv 2) pe_int (fun _ _ => rfl)) (pe_ix (ixU K) (pv 1) pe_int (fun _ _ => rfl)))) (pa_cons (pe_op (opMul K) (pe_ix (ixU K) (pv 1) pe_int (fun _ _ => rfl)) (pe_ix (ixU K) (pv 2) pe_int (fun _ _ => rfl))) pa_nil))) pa_nil))))))),
    (rs_seq (rs_asg (re_op os_ix (re_lst (ra_cons (re_tup (ra_cons re_int (ra_cons re_int ra_nil))) (ra_cons (re_tup (ra_cons re_int (ra_cons re_int ra_nil))) (ra_cons (re_tup (ra_cons (re_un us_neg re_int) (ra_cons re_int ra_nil))) (ra_cons (re_tup (ra_cons (re_op os_sub (re_draw (ra_cons (re_var (i := 0)) (ra_cons re_int ra_nil))) re_int) (ra_cons re_int ra_nil))) ra_nil))))) (re_draw (ra_cons (re_var (i := 0)) (ra_cons re_int ra_nil)))) (rg_name (i := 1)))
      (rs_seq (rs_asg (re_op os_ix (re_lst (ra_cons (re_tup (ra_cons re_int (ra_cons re_int ra_nil))) (ra_cons (re_tup (ra_cons re_int (ra_cons re_int ra_nil))) (ra_cons (re_tup (ra_cons re_int (ra_cons re_int ra_nil))) (ra_cons (re_tup (ra_cons (re_op os_add re_int (re_draw (ra_cons (re_var (i := 0)) (ra_cons re_int ra_nil)))) (ra_cons re_int ra_nil))) ra_nil))))) (re_draw (ra_cons (re_var (i := 0)) (ra_cons re_int ra_nil)))) (rg_name (i := 2)))
      (rs_ret (re_tup (ra_cons (re_var (i := 1)) (ra_cons (re_fn (ra_cons (re_op os_add (re_op os_mul (re_op os_ix (re_var (i := 1)) re_int) (re_op os_ix (re_var (i := 2)) re_int)) (re_op os_mul (re_op os_ix (re_var (i := 2)) re_int) (re_op os_ix (re_var (i := 1)) re_int))) (ra_cons (re_op os_mul (re_op os_ix (re_var (i := 1)) re_int) (re_op os_ix (re_var (i := 2)) re_int)) ra_nil))) ra_nil))))))⟩)
theorem df_law_edge (M : Blt mg) (A : At K mg "_law_edge" s_law_edge) (D_law_lowest : Df P w K mg base 1 "_law_lowest" ["n", "d"] (spU K f_law_lowest)) : Df P w K mg base 2 "_law_edge" ["domain", "length", "p"] (spU K f_law_edge) := by
  have nd := sc_law_edge.nd
  exact Df.uni A (fun _ _ _ _ _ _ us hl => match us, hl with | [_, _, _], _ => rfl) sc_law_edge rfl (fun cdv A out f s H E hr hgd => ⟨_, (pss_cons (ps_set (i := 3) nd rfl (Or.inl rfl) (pe_ix (ixU K) (pv 0) pe_int (fun _ _ => rfl)))
      (pss_cons (ps_set (i := 4) nd rfl (Or.inl rfl) (pe_ix (ixU K) (pv 0) pe_int (fun _ _ => rfl)))
      (pss_cons (ps_set (i := 5) nd rfl (Or.inl rfl) (pe_op (opMul K) (pe_op op_sub (pe_op (opMul K) pe_int (pv 2)) pe_int) (pe_op op_sub (pe_op (opMul K) (pe_ix (ixU K) (pv 4) pe_int (fun _ _ => rfl)) (pe_ix (ixU K) (pv 3) pe_int (fun _ _ => rfl))) (pe_op (opMul K) (pe_ix (ixU K) (pv 3) pe_int (fun _ _ => rfl)) (pe_ix (ixU K) (pv 4) pe_int (fun _ _ => rfl))))))
      (pss_one (ps_ret (pe_df D_law_lowest (hr.mono (by decide)) hgd rfl (pa_cons (pe_op (opAdd K) (pe_op (opMul K) (pe_op (opMul K) (pe_op (opMul K) (pe_ix (ixU K) (pv 3) pe_int (fun _ _ => rfl)) pe_int) (pv 1)) (pe_ix (ixU K) (pv 4) pe_int (fun _ _ => rfl))) (pv 5)) (pa_cons (pe_op (opMul K) (pe_op (opMul K) (pe_op (opMul K) pe_int (pv 1)) (pe_ix (ixU K) (pv 3) pe_int (fun _ _ => rfl))) (pe_ix (ixU K) (pv 4) pe_int (fun _ _ => rfl))) pa_nil)))))))),
    (rs_seq (rs_asg (re_op os_ix (re_var (i := 0)) re_int) (rg_name (i := 3)))
      (rs_seq (rs_asg (re_op os_ix (re_var (i := 0)) re_int) (rg_name (i := 4)))
      (rs_seq (rs_asg (re_op os_mul (re_op os_sub (re_op os_mul re_int (re_var (i := 2))) re_int) (re_op os_sub (re_op os_mul (re_op os_ix (re_var (i := 4)) re_int) (re_op os_ix (re_var (i := 3)) re_int)) (re_op os_mul (re_op os_ix (re_var (i := 3)) re_int) (re_op os_ix (re_var (i := 4)) re_int)))) (rg_name (i := 5)))
      (rs_ret (re_fn (ra_cons (re_op os_add (re_op os_mul (re_op os_mul (re_op os_mul (re_op os_ix (re_var (i := 3)) re_int) re_int) (re_var (i := 1))) (re_op os_ix (re_var (i := 4)) re_int)) (re_var (i := 5))) (ra_cons (re_op os_mul (re_op os_mul (re_op os_mul re_int (re_var (i := 1))) (re_op os_ix (re_var (i := 3)) re_int)) (re_op os_ix (re_var (i := 4)) re_int)) ra_nil)))))))⟩)
theorem df_law_span (M : Blt mg) (A : At K mg "_law_span" s_law_span) (D_law_edge : Df P w K mg base 2 "_law_edge" ["domain", "length", "p"] (spU K f_law_edge)) : Df P w K mg base 3 "_law_span" ["ruler", "pixel"] (spU K f_law_span) := by
  have nd := sc_law_span.nd
  exact Df.uni A (fun _ _ _ _ _ _ us hl => match us, hl with | [_, _], _ => rfl) sc_law_span rfl (fun cdv A out f s H E hr hgd => ⟨_, (pss_cons (ps_set (i := 2) nd rfl (Or.inl rfl) (pv 1))
      (pss_cons (ps_if (truK K (pe_ix (ixU K) (pv 0) pe_int (fun _ _ => rfl))) (pss_one (ps_set (i := 2) nd rfl (Or.inl rfl) (pe_op op_sub (pe_ix (ixU K) (pv 0) pe_int (fun _ _ => rfl)) (pv 1)))) pss_nil)
      (pss_cons (ps_set (i := 3) nd rfl (Or.inl rfl) (pe_ix (ixU K) (pe_ix (ixU K) (pv 0) pe_int (fun _ _ => rfl)) pe_int (fun _ _ => rfl)))
      (pss_cons (ps_if (pt_cmpR op_gt (pv 2) pe_int (nomark _)) (pss_one (ps_set (i := 3) nd rfl (Or.inl rfl) (pe_df D_law_edge (hr.mono (by decide)) hgd rfl (pa_cons (pe_ix (ixU K) (pv 0) pe_int (fun _ _ => rfl)) (pa_cons (pe_ix (ixU K) (pv 0) pe_int (fun _ _ => rfl)) (pa_cons (pv 2) pa_nil)))))) pss_nil)
      (pss_cons (ps_set (i := 4) nd rfl (Or.inl rfl) (pe_ix (ixU K) (pe_ix (ixU K) (pv 0) pe_int (fun _ _ => rfl)) pe_int (fun _ _ => rfl)))
      (pss_cons (ps_if (pt_cmpR op_lt (pv 2) (pe_ix (ixU K) (pv 0) pe_int (fun _ _ => rfl)) (nomark _)) (pss_one (ps_set (i := 4) nd rfl (Or.inl rfl) (pe_df D_law_edge (hr.mono (by decide)) hgd rfl (pa_cons (pe_ix (ixU K) (pv 0) pe_int (fun _ _ => rfl)) (pa_cons (pe_ix (ixU K) (pv 0) pe_int (fun _ _ => rfl)) (pa_cons (pe_op (opAdd K) (pv 2) pe_int) pa_nil)))))) pss_nil)
      (pss_one (ps_ret (pe_tup (pa_cons (pv 3) (pa_cons (pv 4) (pa_cons (pe_cmpR (opEq K hr.units) (pv 2) (pe_ix (ixU K) (pv 0) pe_int (fun _ _ => rfl)) (nomark _)) pa_nil)))))))))))),
    (rs_seq (rs_asg (re_var (i := 1)) (rg_name (i := 2)))
      (rs_seq (rs_if (rt_tru (re_op os_ix (re_var (i := 0)) re_int)) (rs_asg (re_op os_sub (re_op os_ix (re_var (i := 0)) re_int) (re_var (i := 1))) (rg_name (i := 2))) rs_next)
      (rs_seq (rs_asg (re_op os_ix (re_op os_ix (re_var (i := 0)) re_int) re_int) (rg_name (i := 3)))
      (rs_seq (rs_if (rt_test (re_op os_cmp0 (re_var (i := 2)) re_int)) (rs_asg (re_fn (ra_cons (re_op os_ix (re_var (i := 0)) re_int) (ra_cons (re_op os_ix (re_var (i := 0)) re_int) (ra_cons (re_var (i := 2)) ra_nil)))) (rg_name (i := 3))) rs_next)
      (rs_seq (rs_asg (re_op os_ix (re_op os_ix (re_var (i := 0)) re_int) re_int) (rg_name (i := 4)))
      (rs_seq (rs_if (rt_test (re_op os_cmp0 (re_var (i := 2)) (re_op os_ix (re_var (i := 0)) re_int))) (rs_asg (re_fn (ra_cons (re_op os_ix (re_var (i := 0)) re_int) (ra_cons (re_op os_ix (re_var (i := 0)) re_int) (ra_cons (re_op os_add (re_var (i := 2)) re_int) ra_nil)))) (rg_name (i := 4))) rs_next)
      (rs_ret (re_tup (ra_cons (re_var (i := 3)) (ra_cons (re_var (i := 4)) (ra_cons (re_op os_eq (re_var (i := 2)) (re_op os_ix (re_var (i := 0)) re_int)) ra_nil)))))))))))⟩)
end
section
variable {P : Program} {w : World} {K : PySem.W.Frag} {mg : Str → Option Value} {base : Heap}
theorem df_law_simplest (M : Blt mg) (A : At K mg "_law_simplest" s_law_simplest) : Df P w K mg base 1 "_law_simplest" ["span"] (spU K f_law_simplest) := by
  have nd := sc_law_simplest.nd
  exact Df.uni A (fun _ _ _ _ _ _ us hl => match us, hl with | [_], _ => rfl) sc_law_simplest rfl (fun cdv A out f s H E hr hgd => ⟨_, (pss_cons (ps_set (i := 1) nd rfl (Or.inl rfl) (pe_ix (ixU K) (pv 0) pe_int (fun _ _ => rfl)))
      (pss_cons (ps_set (i := 2) nd rfl (Or.inl rfl) (pe_ix (ixU K) (pv 0) pe_int (fun _ _ => rfl)))
      (pss_cons (ps_for PassesOwn.never rfl (pi_range2 rfl M.range (pa_cons pe_int (pa_cons (pe_op (opAdd K) (pe_ix (ixU K) (pv 1) pe_int (fun _ _ => rfl)) pe_int) pa_nil))) (pg_name (i := 3) nd rfl (Or.inl rfl)) (pss_cons (ps_set (i := 4) nd rfl (Or.inl rfl) (pe_un un_neg (pe_op op_fdivA (pe_op (opMul K) (pe_un un_neg (pe_ix (ixU K) (pv 1) pe_int (fun _ _ => rfl))) (pv 3)) (pe_ix (ixU K) (pv 1) pe_int (fun _ _ => rfl)))))
      (pss_cons (ps_set (i := 5) nd rfl (Or.inl rfl) (pe_op op_fdivA (pe_op (opMul K) (pe_ix (ixU K) (pv 2) pe_int (fun _ _ => rfl)) (pv 3)) (pe_ix (ixU K) (pv 2) pe_int (fun _ _ => rfl))))
      (pss_cons (ps_if (PW.pt (pw_and (pt_cmpR (opEq K hr.units) (pe_op (opMul K) (pv 5) (pe_ix (ixU K) (pv 2) pe_int (fun _ _ => rfl))) (pe_op (opMul K) (pe_ix (ixU K) (pv 2) pe_int (fun _ _ => rfl)) (pv 3)) (nomark _)) (pw_and1 (pt_not (truK K (pe_ix (ixU K) (pv 0) pe_int (fun _ _ => rfl))))))) (pss_one (ps_set (i := 5) nd rfl (Or.inl rfl) (pe_op op_sub (pv 5) pe_int))) pss_nil)
      (pss_one (ps_if (pt_cmpR op_le (pv 4) (pv 5) (nomark _)) (pss_one (ps_ret (pe_tup (pa_cons (pe_callB (call_max2 rfl) (by rfl) M.max (by decide +kernel) (pa_cons (pv 4) (pa_cons (pe_callB (call_min2 rfl) (by rfl) M.min (by decide +kernel) (pa_cons (pv 5) (pa_cons pe_int pa_nil))) pa_nil))) (pa_cons (pv 3) pa_nil))))) pss_nil))))))
      (pss_one (ps_ret (pv 1)))))),
    (rs_seq (rs_asg (re_op os_ix (re_var (i := 0)) re_int) (rg_name (i := 1)))
      (rs_seq (rs_asg (re_op os_ix (re_var (i := 0)) re_int) (rg_name (i := 2)))
      (rs_seq (rs_for (ri_rng2 (s := true) (ra_cons re_int (ra_cons (re_op os_add (re_op os_ix (re_var (i := 1)) re_int) re_int) ra_nil))) (rg_name (i := 3)) (rs_seq (rs_asg (re_un us_neg (re_op os_fdivA (re_op os_mul (re_un us_neg (re_op os_ix (re_var (i := 1)) re_int)) (re_var (i := 3))) (re_op os_ix (re_var (i := 1)) re_int))) (rg_name (i := 4)))
      (rs_seq (rs_asg (re_op os_fdivA (re_op os_mul (re_op os_ix (re_var (i := 2)) re_int) (re_var (i := 3))) (re_op os_ix (re_var (i := 2)) re_int)) (rg_name (i := 5)))
      (rs_seq (rs_if (rt_and (rt_test (re_op os_eq (re_op os_mul (re_var (i := 5)) (re_op os_ix (re_var (i := 2)) re_int)) (re_op os_mul (re_op os_ix (re_var (i := 2)) re_int) (re_var (i := 3))))) (rt_not (rt_tru (re_op os_ix (re_var (i := 0)) re_int)))) (rs_asg (re_op os_sub (re_var (i := 5)) re_int) (rg_name (i := 5))) rs_next)
      (rs_if (rt_test (re_op os_cmp0 (re_var (i := 4)) (re_var (i := 5)))) (rs_ret (re_tup (ra_cons (re_call cs_max2 (ra_cons (re_var (i := 4)) (ra_cons (re_call cs_min2 (ra_cons (re_var (i := 5)) (ra_cons re_int ra_nil))) ra_nil))) (ra_cons (re_var (i := 3)) ra_nil)))) rs_next)))))
      (rs_retV (i := 1)))))⟩)
theorem df_law_lies_in (M : Blt mg) (A : At K mg "_law_lies_in" s_law_lies_in) (D_law_comes_before : Df P w K mg base 2 "_law_comes_before" ["one", "other"] (spU K f_law_comes_before)) : Df P w K mg base 3 "_law_lies_in" ["x", "span"] (spU K f_law_lies_in) := by
  have nd := sc_law_lies_in.nd
  exact Df.uni A (fun _ _ _ _ _ _ us hl => match us, hl with | [_, _], _ => rfl) sc_law_lies_in rfl (fun cdv A out f s H E hr hgd => ⟨_, (pss_cons (ps_if (truK K (pe_df D_law_comes_before (hr.mono (by decide)) hgd rfl (pa_cons (pv 0) (pa_cons (pe_ix (ixU K) (pv 1) pe_int (fun _ _ => rfl)) pa_nil)))) (pss_one (ps_ret pe_bl)) pss_nil)
      (pss_one (ps_ret (orT K (pe_df D_law_comes_before (hr.mono (by decide)) hgd rfl (pa_cons (pv 0) (pa_cons (pe_ix (ixU K) (pv 1) pe_int (fun _ _ => rfl)) pa_nil))) (pe_one (andT K (pe_ix (ixU K) (pv 1) pe_int (fun _ _ => rfl)) (pe_one (pe_cmpR (opEq K hr.units) (pv 0) (pe_ix (ixU K) (pv 1) pe_int (fun _ _ => rfl)) (nomark _))))))))),
    (rs_seq (rs_if (rt_tru (re_fn (ra_cons (re_var (i := 0)) (ra_cons (re_op os_ix (re_var (i := 1)) re_int) ra_nil)))) (rs_ret re_bl) rs_next)
      (rs_ret (re_or (re_fn (ra_cons (re_var (i := 0)) (ra_cons (re_op os_ix (re_var (i := 1)) re_int) ra_nil))) (re_and (re_op os_ix (re_var (i := 1)) re_int) (re_op os_eq (re_var (i := 0)) (re_op os_ix (re_var (i := 1)) re_int))))))⟩)
theorem df_law_drawn_span (M : Blt mg) (A : At K mg "_law_drawn_span" s_law_drawn_span) (D_law_lowest : Df P w K mg base 1 "_law_lowest" ["n", "d"] (spU K f_law_lowest)) (D_law_draw : Df P w K mg base 1 "_law_draw" ["tape", "many"] (sp_law_draw K)) (D_law_ends : Df P w K mg base 2 "_law_ends" ["tape"] (spU K f_law_ends)) (D_law_span : Df P w K mg base 3 "_law_span" ["ruler", "pixel"] (spU K f_law_span)) : Df P w K mg base 4 "_law_drawn_span" ["tape"] (spU K f_law_drawn_span) := by
  have nd := sc_law_drawn_span.nd
  exact Df.uni A (fun _ _ _ _ _ _ us hl => match us, hl with | [_], _ => rfl) sc_law_drawn_span rfl (fun cdv A out f s H E hr hgd => ⟨_, (pss_cons (ps_if (pt_cmpR (opEq K hr.units) (pe_df D_law_draw (hr.mono (by decide)) hgd rfl (pa_cons (pv 0) (pa_cons pe_int pa_nil))) pe_int (nomark _)) (pss_cons (ps_set (i := 1) nd rfl (Or.inl rfl) (pe_df D_law_ends (hr.mono (by decide)) hgd rfl (pa_cons (pv 0) pa_nil)))
      (pss_cons (ps_set (i := 2) nd rfl (Or.inl rfl) (pe_tup (pa_cons pe_str (pa_cons (pv 1) (pa_cons (pe_op (opAdd K) pe_int (pe_df D_law_draw (hr.mono (by decide)) hgd rfl (pa_cons (pv 0) (pa_cons pe_int pa_nil)))) (pa_cons pe_bl (pa_cons pe_bl pa_nil)))))))
      (pss_one (ps_ret (pe_df D_law_span (hr.mono (by decide)) hgd rfl (pa_cons (pv 2) (pa_cons (pe_df D_law_draw (hr.mono (by decide)) hgd rfl (pa_cons (pv 0) (pa_cons (pe_op (opAdd K) (pe_ix (ixU K) (pv 2) pe_int (fun _ _ => rfl)) pe_int) pa_nil))) pa_nil))))))) pss_nil)
      (pss_cons (ps_set (i := 3) nd rfl (Or.inl rfl) (pe_df D_law_lowest (hr.mono (by decide)) hgd rfl (pa_cons (pe_op op_sub (pe_df D_law_draw (hr.mono (by decide)) hgd rfl (pa_cons (pv 0) (pa_cons pe_int pa_nil))) pe_int) (pa_cons (pe_op (opAdd K) pe_int (pe_df D_law_draw (hr.mono (by decide)) hgd rfl (pa_cons (pv 0) (pa_cons pe_int pa_nil)))) pa_nil))))
      (pss_cons (ps_if (pt_cmpR (opEq K hr.units) (pe_df D_law_draw (hr.mono (by decide)) hgd rfl (pa_cons (pv 0) (pa_cons pe_int pa_nil))) pe_int (nomark _)) (pss_one (ps_set (i := 3) nd rfl (Or.inl rfl) (pe_ix (ixU K) (pe_lst (pa_cons (pe_tup (pa_cons pe_int (pa_cons pe_int pa_nil))) (pa_cons (pe_tup (pa_cons (pe_un un_neg pe_int) (pa_cons (pe_op (opAdd K) pe_int (pe_df D_law_draw (hr.mono (by decide)) hgd rfl (pa_cons (pv 0) (pa_cons pe_int pa_nil)))) pa_nil))) pa_nil))) (pe_df D_law_draw (hr.mono (by decide)) hgd rfl (pa_cons (pv 0) (pa_cons pe_int pa_nil))) (fun _ _ => rfl)))) pss_nil)
      (pss_cons (ps_set (i := 4) nd rfl (Or.inl rfl) (pe_df D_law_lowest (hr.mono (by decide)) hgd rfl (pa_cons (pe_op (opAdd K) pe_int (pe_df D_law_draw (hr.mono (by decide)) hgd rfl (pa_cons (pv 0) (pa_cons pe_int pa_nil)))) (pa_cons (pe_op (opAdd K) pe_int (pe_df D_law_draw (hr.mono (by decide)) hgd rfl (pa_cons (pv 0) (pa_cons pe_int pa_nil)))) pa_nil))))
      (pss_cons (ps_set (i := 5) nd rfl (Or.inl rfl) (pe_df D_law_lowest (hr.mono (by decide)) hgd rfl (pa_cons (pe_op (opAdd K) (pe_op (opMul K) (pe_ix (ixU K) (pv 3) pe_int (fun _ _ => rfl)) (pe_ix (ixU K) (pv 4) pe_int (fun _ _ => rfl))) (pe_op (opMul K) (pe_ix (ixU K) (pv 4) pe_int (fun _ _ => rfl)) (pe_ix (ixU K) (pv 3) pe_int (fun _ _ => rfl)))) (pa_cons (pe_op (opMul K) (pe_ix (ixU K) (pv 3) pe_int (fun _ _ => rfl)) (pe_ix (ixU K) (pv 4) pe_int (fun _ _ => rfl))) pa_nil))))
      (pss_one (ps_ret (pe_tup (pa_cons (pv 3) (pa_cons (pv 5) (pa_cons (pe_cmpR (opEq K hr.units) (pe_df D_law_draw (hr.mono (by decide)) hgd rfl (pa_cons (pv 0) (pa_cons pe_int pa_nil))) pe_int (nomark _)) pa_nil))))))))))),
    (rs_seq (rs_if (rt_test (re_op os_eq (re_draw (ra_cons (re_var (i := 0)) (ra_cons re_int ra_nil))) re_int)) (rs_seq (rs_asg (re_fn (ra_cons (re_var (i := 0)) ra_nil)) (rg_name (i := 1)))
      (rs_seq (rs_asg (re_tup (ra_cons re_str (ra_cons (re_var (i := 1)) (ra_cons (re_op os_add re_int (re_draw (ra_cons (re_var (i := 0)) (ra_cons re_int ra_nil)))) (ra_cons re_bl (ra_cons re_bl ra_nil)))))) (rg_name (i := 2)))
      (rs_ret (re_fn (ra_cons (re_var (i := 2)) (ra_cons (re_draw (ra_cons (re_var (i := 0)) (ra_cons (re_op os_add (re_op os_ix (re_var (i := 2)) re_int) re_int) ra_nil))) ra_nil)))))) rs_next)
      (rs_seq (rs_asg (re_fn (ra_cons (re_op os_sub (re_draw (ra_cons (re_var (i := 0)) (ra_cons re_int ra_nil))) re_int) (ra_cons (re_op os_add re_int (re_draw (ra_cons (re_var (i := 0)) (ra_cons re_int ra_nil)))) ra_nil))) (rg_name (i := 3)))
      (rs_seq (rs_if (rt_test (re_op os_eq (re_draw (ra_cons (re_var (i := 0)) (ra_cons re_int ra_nil))) re_int)) (rs_asg (re_op os_ix (re_lst (ra_cons (re_tup (ra_cons re_int (ra_cons re_int ra_nil))) (ra_cons (re_tup (ra_cons (re_un us_neg re_int) (ra_cons (re_op os_add re_int (re_draw (ra_cons (re_var (i := 0)) (ra_cons re_int ra_nil)))) ra_nil))) ra_nil))) (re_draw (ra_cons (re_var (i := 0)) (ra_cons re_int ra_nil)))) (rg_name (i := 3))) rs_next)
      (rs_seq (rs_asg (re_fn (ra_cons (re_op os_add re_int (re_draw (ra_cons (re_var (i := 0)) (ra_cons re_int ra_nil)))) (ra_cons (re_op os_add re_int (re_draw (ra_cons (re_var (i := 0)) (ra_cons re_int ra_nil)))) ra_nil))) (rg_name (i := 4)))
      (rs_seq (rs_asg (re_fn (ra_cons (re_op os_add (re_op os_mul (re_op os_ix (re_var (i := 3)) re_int) (re_op os_ix (re_var (i := 4)) re_int)) (re_op os_mul (re_op os_ix (re_var (i := 4)) re_int) (re_op os_ix (re_var (i := 3)) re_int))) (ra_cons (re_op os_mul (re_op os_ix (re_var (i := 3)) re_int) (re_op os_ix (re_var (i := 4)) re_int)) ra_nil))) (rg_name (i := 5)))
      (rs_ret (re_tup (ra_cons (re_var (i := 3)) (ra_cons (re_var (i := 5)) (ra_cons (re_op os_eq (re_draw (ra_cons (re_var (i := 0)) (ra_cons re_int ra_nil))) re_int) ra_nil))))))))))⟩)
end

theorem at0 {p : Int × Int} : oIx (.val (frD p)) (.val (.int 0)) = .ret (.val (.int p.1)) := by unfold frD; walk_at "pl"
theorem at1 {p : Int × Int} : oIx (.val (frD p)) (.val (.int 1)) = .ret (.val (.int p.2)) := by unfold frD; walk_at "pl"
theorem oPow_i {i j : Int} : oPow (.val (.int i)) (.val (.int j)) = if cPow i j = true then .ret (.val (.int (i ^ j.toNat))) else .fail := oInt_v
theorem cp10_6 : cPow 10 6 = true := by decide
theorem ep10_6 : (10 : Int) ^ Int.toNat 6 = 1000000 := by decide
theorem cp10_9 : cPow 10 9 = true := by decide
theorem ep10_9 : (10 : Int) ^ Int.toNat 9 = 1000000000 := by decide
theorem cp10_12 : cPow 10 12 = true := by decide
theorem ep10_12 : (10 : Int) ^ Int.toNat 12 = 1000000000000 := by decide
theorem cp10_59 : cPow 10 59 = true := by decide
theorem ep10_59 : (10 : Int) ^ Int.toNat 59 = 100000000000000000000000000000000000000000000000000000000000 := by decide
theorem cp10_60 : cPow 10 60 = true := by decide
theorem ep10_60 : (10 : Int) ^ Int.toNat 60 = 1000000000000000000000000000000000000000000000000000000000000 := by decide
theorem cp2_39 : cPow 2 39 = true := by decide
theorem ep2_39 : (2 : Int) ^ Int.toNat 39 = 549755813888 := by decide
theorem cp2_64 : cPow 2 64 = true := by decide
theorem ep2_64 : (2 : Int) ^ Int.toNat 64 = 18446744073709551616 := by decide
theorem cp5_17 : cPow 5 17 = true := by decide
theorem ep5_17 : (5 : Int) ^ Int.toNat 17 = 762939453125 := by decide
theorem cp5_64 : cPow 5 64 = true := by decide
theorem ep5_64 : (5 : Int) ^ Int.toNat 64 = 542101086242752217003726400434970855712890625 := by decide
theorem cp10_8 : cPow 10 8 = true := by decide
theorem ep10_8 : (10 : Int) ^ Int.toNat 8 = 100000000 := by decide
theorem cp10_18 : cPow 10 18 = true := by decide
theorem ep10_18 : (10 : Int) ^ Int.toNat 18 = 1000000000000000000 := by decide
local macro_rules | `(tactic| walk_at "pw") => `(tactic| simp only [cp10_6, ep10_6, cp10_9, ep10_9, cp10_12, ep10_12, cp10_59, ep10_59, cp10_60, ep10_60, cp2_39, ep2_39, cp2_64, ep2_64, cp5_17, ep5_17, cp5_64, ep5_64, cp10_8, ep10_8, cp10_18, ep10_18, if_true])
theorem lowest_eq {n d : Int} (hd : d ≠ 0) (hb : Bd 8000 d) : f_lowest [.val (.int n), .val (.int d)] = .ret (.val (frD (low n d))) := by
  have c1 : cDivA n (lowG n d) = true := bdivA (lowG_nz hd) (lowG_bd hd hb)
  have c2 : cDivA d (lowG n d) = true := bdivA (lowG_nz hd) (lowG_bd hd hb)
  unfold f_lowest
  walk_at "pl"
  unfold low frD
  unfold lowG at c1 c2 ⊢
  by_cases h : d < 0
  · rw [if_pos h] at c1 c2 ⊢
    rw [if_pos h]
    rw [show ((Nat.gcd n.natAbs d.natAbs : Nat) : Int) = gc n d from rfl]; rw [if_pos c1, if_pos c2]
  · rw [if_neg h] at c1 c2 ⊢
    rw [if_neg h]
    rw [show ((Nat.gcd n.natAbs d.natAbs : Nat) : Int) = gc n d from rfl]; rw [if_pos c1, if_pos c2]
theorem plus_eq {p q : Int × Int} {k l : Nat} (hp : FB k p) (hq : FB l q) (hk : k + l ≤ 7998 := by decide) : f_plus [.val (frD p), .val (frD q)] = .ret (.val (frD (qadd p q))) := by
  have cm : ∀ {a b : Int}, Bd k a ∨ Bd l a → Bd k b ∨ Bd l b → cMul a b = true := fun ha hb => bmul (ha.elim (·.up (by omega)) (·.up (by omega))) (hb.elim (·.up (by omega)) (·.up (by omega)))
  unfold f_plus
  walk_at "pl"
  simp only [at0, at1, retB, oMul_i, cm (.inl hp.b1) (.inr hq.b2), cm (.inr hq.b1) (.inl hp.b2), cm (.inl hp.b2) (.inr hq.b2), cm (.inl hp.b1) (.inr hq.b1), cm (.inl hp.b2) (.inr hq.b1), if_true, oAdd_i, oInt_v]
  walk_at "pl"
  exact lowest_eq (nz22 hp hq) (.mul 8000 hp.b2 hq.b2 (by omega))
theorem minus_eq {p q : Int × Int} {k l : Nat} (hp : FB k p) (hq : FB l q) (hk : k + l ≤ 7998 := by decide) : f_minus [.val (frD p), .val (frD q)] = .ret (.val (frD (qsub p q))) := by
  have cm : ∀ {a b : Int}, Bd k a ∨ Bd l a → Bd k b ∨ Bd l b → cMul a b = true := fun ha hb => bmul (ha.elim (·.up (by omega)) (·.up (by omega))) (hb.elim (·.up (by omega)) (·.up (by omega)))
  unfold f_minus
  walk_at "pl"
  simp only [at0, at1, retB, oMul_i, cm (.inl hp.b1) (.inr hq.b2), cm (.inr hq.b1) (.inl hp.b2), cm (.inl hp.b2) (.inr hq.b2), cm (.inl hp.b1) (.inr hq.b1), cm (.inl hp.b2) (.inr hq.b1), if_true, oAdd_i, oInt_v]
  walk_at "pl"
  exact lowest_eq (nz22 hp hq) (.mul 8000 hp.b2 hq.b2 (by omega))
theorem over_eq {p q : Int × Int} {k l : Nat} (hp : FB k p) (hq : FB l q) (hk : k + l ≤ 7998 := by decide) (h : q.1 ≠ 0) : f_over [.val (frD p), .val (frD q)] = .ret (.val (frD (qdiv p q))) := by
  have cm : ∀ {a b : Int}, Bd k a ∨ Bd l a → Bd k b ∨ Bd l b → cMul a b = true := fun ha hb => bmul (ha.elim (·.up (by omega)) (·.up (by omega))) (hb.elim (·.up (by omega)) (·.up (by omega)))
  unfold f_over
  walk_at "pl"
  simp only [at0, at1, retB, oMul_i, cm (.inl hp.b1) (.inr hq.b2), cm (.inr hq.b1) (.inl hp.b2), cm (.inl hp.b2) (.inr hq.b2), cm (.inl hp.b1) (.inr hq.b1), cm (.inl hp.b2) (.inr hq.b1), if_true, oAdd_i, oInt_v]
  walk_at "pl"
  exact lowest_eq (Int.mul_ne_zero hp.nz h) (.mul 8000 hp.b2 hq.b1 (by omega))
theorem compare_eq {p q : Int × Int} {k l : Nat} (hp : FB k p) (hq : FB l q) (hk : k + l ≤ 7998 := by decide) : f_compare [.val (frD p), .val (frD q)] = .ret (.val (.int (if vl p = vl q then 0 else if vl p < vl q then -1 else 1))) := by
  have cm : ∀ {a b : Int}, Bd k a ∨ Bd l a → Bd k b ∨ Bd l b → cMul a b = true := fun ha hb => bmul (ha.elim (·.up (by omega)) (·.up (by omega))) (hb.elim (·.up (by omega)) (·.up (by omega)))
  have e1 := vl_eq hp.pos hq.pos
  have e2 := vl_lt hp.pos hq.pos
  unfold f_compare
  walk_at "pl"
  simp only [at0, at1, retB, oMul_i, cm (.inl hp.b1) (.inr hq.b2), cm (.inr hq.b1) (.inl hp.b2), if_true]
  walk_at "pl"
  by_cases h : p.1 * q.2 = q.1 * p.2
  · simp only [if_pos h, if_pos (e1.mp h), iteB]
    try walk_at "pl"
  · rw [if_neg h, if_neg (fun z => h (e1.mpr z))]
    by_cases h2 : p.1 * q.2 < q.1 * p.2
    · rw [if_pos h2, if_pos (e2.mp h2)]
    · rw [if_neg h2, if_neg (fun z => h2 (e2.mpr z))]
theorem floor_eq {p : Int × Int} {k : Nat} (hp : FB k p) (hk : k ≤ 7998 := by decide) : f_floor_of [.val (frD p)] = .ret (.val (.int (p.1 / p.2))) := by
  unfold f_floor_of
  walk_at "wk"
  simp only [at0, at1, retB, oInt_v, bdivA hp.nz (hp.b2.up (by omega)), if_true, Int.fdiv_eq_ediv_of_nonneg _ (Int.le_of_lt hp.pos)]
  try walk_at "wk"
theorem ceiling_eq {p : Int × Int} {k : Nat} (hp : FB k p) (hk : k ≤ 7998 := by decide) : f_ceiling_of [.val (frD p)] = .ret (.val (.int (-(-p.1 / p.2)))) := by
  unfold f_ceiling_of
  walk_at "wk"
  simp only [at0, at1, retB, oNeg_i, oInt_v, bdivA hp.nz (hp.b2.up (by omega)), if_true, Int.fdiv_eq_ediv_of_nonneg _ (Int.le_of_lt hp.pos)]
  try walk_at "wk"
theorem ne_same {x : Str} : oNe (.val (.str x)) (.val (.str x)) = .ret (.val (.bool false)) := by rw [oNe_s, decide_eq_true rfl]; rfl
theorem eq_same {x : Str} : oEq (.val (.str x)) (.val (.str x)) = .ret (.val (.bool true)) := by rw [oEq_s, decide_eq_true rfl]
theorem plain_i {i : Int} (h : Bd 1900 i) : plainD (.int i) = true := by
  have := h.log (by decide)
  simp only [plainD]
  exact decide_eq_true (by omega)
theorem rep_i {i : Int} (h : Bd 1900 i) : RepOk (.int i) := ⟨plain_i h, by simp [PyData.depth], by simp only [cost]; decide⟩
theorem rep_n : RepOk .none := ⟨rfl, by simp [PyData.depth], by simp only [cost]; decide⟩
theorem plain_fr {p : Int × Int} (h1 : Bd 1900 p.1) (h2 : Bd 1900 p.2) : plainD (frD p) = true := by
  have p1 := plain_i h1
  have p2 := plain_i h2
  unfold frD
  simp only [plainD, plainAll, Bool.and_true, Bool.and_eq_true] at *
  exact ⟨p1, p2⟩
theorem rep_fr {p : Int × Int} (h1 : Bd 1900 p.1) (h2 : Bd 1900 p.2) : RepOk (frD p) :=
  ⟨plain_fr h1 h2, by simp [frD, PyData.depth, PyData.depthAll], by simp only [frD, cost, costAll]; decide⟩

theorem eqv_fr {p q : Int × Int} : PyData.eqv (frD p) (frD q) = decide (p = q) := by
  obtain ⟨a, b⟩ := p
  obtain ⟨c, d⟩ := q
  unfold frD
  simp only [PyData.eqv, PyData.eqvAll, Bool.and_true]
  rw [Bool.eq_iff_iff]
  simp
theorem eq_fr {p q : Int × Int} : oEq (.val (frD p)) (.val (frD q)) = .ret (.val (.bool (decide (p = q)))) := by
  show oEqD false (some (frD p)) (some (frD q)) = _
  rw [← eqv_fr]
  unfold frD oEqD
  dsimp only
  rw [if_pos (by rfl), Bool.false_xor]
theorem low_1 (n : Int) : low n 1 = (n, 1) := by
  have : gc n 1 = 1 := by unfold gc; simp
  unfold low lowG
  rw [if_neg (by omega), this, Int.fdiv_one]
  rfl
theorem cl_bd {lo : Int × Int} {k : Nat} (h : FB k lo) : Bd (k + 1) (cl lo) := by
  have hp := h.pos
  have h1 := Int.ediv_mul_le (-lo.1) (show lo.2 ≠ 0 by omega)
  have h2 := Int.lt_ediv_add_one_mul_self (-lo.1) hp
  have hb : lo.1.natAbs < 2 ^ k := h.b1
  have : (cl lo).natAbs ≤ lo.1.natAbs + 1 := by
    unfold cl
    generalize -lo.1 / lo.2 = q at *
    rw [Int.add_mul] at h2
    by_cases z : 0 ≤ q
    · have : q * 1 ≤ q * lo.2 := Int.mul_le_mul_of_nonneg_left (by omega) z
      omega
    · have : q * lo.2 ≤ q * 1 := Int.mul_le_mul_of_nonpos_left (by omega) (by omega)
      by_cases z2 : q = -1
      · omega
      · have : (q + 1) * lo.2 ≤ (q + 1) * 1 := Int.mul_le_mul_of_nonpos_left (by omega) (by omega)
        rw [Int.add_mul] at this
        omega
  show (cl lo).natAbs < 2 ^ (k + 1)
  rw [Nat.pow_succ]
  omega
theorem oneT : PyData.tuple [.int 1, .int 1] = frD (1, 1) := rfl
theorem one_FB : FB 1 (1, 1) := ⟨by decide, by decide, .of (by decide), .of (by decide)⟩
theorem fw_eq {lo : Int × Int} {li : Bool} {k : Nat} (h : FB k lo) (hk : k ≤ 1000) : f_first_whole [.val (frD lo), .val (.bool li)] = .ret (.val (frD (fw lo li, 1))) := by
  have c := cl_bd h
  have cF : FB (k + 1) (cl lo, 1) := int_FB (by omega) c
  unfold f_first_whole
  walk_at "wk"
  rw [ceiling_eq h (by omega)]
  walk_at "wk"
  rw [show -(-lo.1 / lo.2) = cl lo from rfl, show PyData.tuple [.int (cl lo), .int 1] = frD (cl lo, 1) from rfl, eq_fr, oneT]
  walk_at "wk"
  unfold fw
  by_cases e : (cl lo, (1 : Int)) = lo
  · cases li
    · rw [if_pos (by rw [decide_eq_true e]; rfl), if_pos ⟨e, rfl⟩, plus_eq cF one_FB (by omega)]
      unfold qadd
      rw [show (cl lo, (1 : Int)).1 * ((1, 1) : Int × Int).2 + ((1, 1) : Int × Int).1 * (cl lo, (1 : Int)).2 = cl lo + 1 by show cl lo * 1 + 1 * 1 = _; omega, show (cl lo, (1 : Int)).2 * ((1, 1) : Int × Int).2 = 1 from rfl, low_1]
    · rw [if_neg (by simp), if_neg (by simp)]
  · rw [if_neg (by rw [decide_eq_false e]; simp), if_neg (fun z => e z.1)]

def hiD : Option (Int × Int) → PyData
  | none => .none
  | some h => frD h
def meas (lo : Int × Int) (hi : Option (Int × Int)) : Nat := lo.2.natAbs + (match hi with | none => 0 | some h => h.2.natAbs)
def cf : List (Int × Int) → Int × Int → Int × Int
  | [], w => w
  | p :: ps, w => qadd p (qdiv (1, 1) (cf ps w))
def Gd : List (Int × Int) → Int × Int → Prop
  | [], w => FB 25 w
  | p :: ps, w => Gd ps w ∧ FB 25 p ∧ (cf ps w).1 ≠ 0 ∧ FB 25 (cf (p :: ps) w)
theorem Gd.fb : ∀ {ps : List (Int × Int)} {w : Int × Int}, Gd ps w → FB 25 (cf ps w)
  | [], _, h => h
  | _ :: _, _, h => h.2.2.2
theorem mediant {lo h : Int × Int} {li hn : Bool} (hl : 0 < lo.2) (hh : 0 < h.2) (lt : vl lo < vl h) : Inb lo (some h) li hn (((lo.1 + h.1 : Int) : Rat) / ((lo.2 + h.2 : Int) : Rat)) := by
  have lt' := (vl_lt hl hh).mpr lt
  have e : ((lo.1 + h.1 : Int) : Rat) / ((lo.2 + h.2 : Int) : Rat) = vl (lo.1 + h.1, lo.2 + h.2) := rfl
  rw [e]
  refine ⟨.inl ?_, fun q z => ?_⟩
  · refine (vl_lt (p := lo) (q := (lo.1 + h.1, lo.2 + h.2)) hl (by show 0 < lo.2 + h.2; omega)).mp ?_
    show lo.1 * (lo.2 + h.2) < (lo.1 + h.1) * lo.2
    rw [Int.mul_add, Int.add_mul]
    omega
  · cases z
    refine .inl ((vl_lt (p := (lo.1 + h.1, lo.2 + h.2)) (q := h) (by show 0 < lo.2 + h.2; omega) hh).mp ?_)
    show (lo.1 + h.1) * h.2 < h.1 * (lo.2 + h.2)
    rw [Int.mul_add, Int.add_mul]
    omega
theorem Best.fb {lo h : Int × Int} {li hn : Bool} {r : Int × Int} (b : Best lo (some h) li hn r) (hl : FB 23 lo) (hh : FB 23 h) (lt : vl lo < vl h) : FB 25 r := by
  have hl2 := hl.pos
  have hh2 := hh.pos
  obtain ⟨l1, l2⟩ := b.least _ _ (show 0 < lo.2 + h.2 by omega) (mediant hl2 hh2 lt)
  have a1 : lo.1.natAbs < 2 ^ 23 := hl.b1
  have a2 : lo.2.natAbs < 2 ^ 23 := hl.b2
  have a3 : h.1.natAbs < 2 ^ 23 := hh.b1
  have a4 : h.2.natAbs < 2 ^ 23 := hh.b2
  have nn := b.nn
  have pp := b.pos
  refine ⟨b.pos, best_cop b, ?_, ?_⟩
  · show r.1.natAbs < 2 ^ 25
    omega
  · show r.2.natAbs < 2 ^ 25
    omega
theorem fw_FB {lo : Int × Int} {li : Bool} (h : FB 23 lo) : FB 25 (fw lo li, 1) := by
  refine int_FB (by decide) ?_
  have c : (cl lo).natAbs < 2 ^ 24 := cl_bd h
  show (fw lo li).natAbs < 2 ^ 25
  unfold fw
  split <;> omega
theorem flo_FB {lo : Int × Int} (h : FB 23 lo) (h0 : 0 ≤ lo.1) : FB 25 (flo lo, 1) := by
  refine int_FB (by decide) ?_
  have c : lo.1.natAbs < 2 ^ 23 := h.b1
  have : flo lo ≤ lo.1 := Int.ediv_le_self _ h0
  have : 0 ≤ flo lo := Int.ediv_nonneg h0 (Int.le_of_lt h.pos)
  show (flo lo).natAbs < 2 ^ 25
  omega
/-- 1 over the rest, as the program reckons it -/
theorem rcp_eq {p : Int × Int} {f : Int} (h : FB 23 p) (hf : FB 25 (f, 1)) (f0 : 0 ≤ f) (hr : 0 < p.1 - f * p.2) : qdiv (1, 1) (qsub p (f, 1)) = rcp p f ∧ (qsub p (f, 1)).1 ≠ 0 := by
  obtain ⟨e1, p1⟩ := rcp_vl h.pos hr
  have hs := h.sub hf 49 (by decide)
  have vs : vl (qsub p (f, 1)) = vl p - f := by rw [vl_sub h hf, vl_int]
  have nz : (qsub p (f, 1)).1 ≠ 0 := fun z => by
    have := (vl_zero hs.pos).mp z
    rw [vs] at this
    grind
  refine ⟨vl_inj (one_FB.div hs 50 (by decide) nz) (rcp_FB h f0 hr) ?_, nz⟩
  rw [vl_div one_FB hs nz, vs, e1, vl_int]
  rfl
theorem cf_step {r : Int × Int} {f : Int} (hr : FB 25 r) (hf : FB 25 (f, 1)) (r1 : 0 < r.1) (h : FB 25 (f * r.1 + r.2, r.1)) : qadd (f, 1) (qdiv (1, 1) r) = (f * r.1 + r.2, r.1) := by
  have nz : r.1 ≠ 0 := by omega
  have hd := one_FB.div hr 26 (by decide) nz
  refine vl_inj (hf.add hd 60 (by decide)) h ?_
  rw [vl_add hf hd, vl_div one_FB hr nz, vl_int, vl_int]
  have h1 := qpos r1
  have h2 := qpos hr.pos
  unfold vl
  push_cast
  grind
noncomputable def sbC : Ro → M Bool := gAnd (gTest (gOp (oIsX true) (gVar 1) (gC .none))) (gTest (gOp oGe (gFn f_compare (gaCons (gVar 5) (gaCons (gVar 1) gaNil))) (gC (.int 0))))
noncomputable def sbB : Ro → M Res := mSeq (mAsg (gTupE (gaCons (gFn f_floor_of (gaCons (gVar 0) gaNil)) (gaCons (gC (.int 1)) gaNil))) (asgR 6))
      (mSeq (mApp 4 (gVar 6))
      (mSeq (mPar 0 1 (gaCons (gFn f_over (gaCons (gC (.tuple [.int 1, .int 1])) (gaCons (gFn f_minus (gaCons (gVar 1) (gaCons (gVar 6) gaNil))) gaNil))) (gaCons (gIfE (gTest (gOp oEq (gVar 0) (gVar 6))) (gC .none) (gFn f_over (gaCons (gC (.tuple [.int 1, .int 1])) (gaCons (gFn f_minus (gaCons (gVar 0) (gaCons (gVar 6) gaNil))) gaNil)))) gaNil)))
      (mSeq (mPar 2 3 (gaCons (gVar 3) (gaCons (gVar 2) gaNil)))
      (mAsg (gFn f_first_whole (gaCons (gVar 0) (gaCons (gVar 2) gaNil))) (asgR 5)))))
def stS (lo : Int × Int) (hi : Option (Int × Int)) (li hn : Bool) (ws : List (Int × Int)) (w : Int × Int) (z6 : Option C) : Ro := [some (.val (frD lo)), some (.val (hiD hi)), some (.val (.bool li)), some (.val (.bool hn)), some (.own (.lst (ws.map frD))), some (.val (frD w)), z6, none]
theorem sbC_n {lo : Int × Int} {li hn : Bool} {ws : List (Int × Int)} {w : Int × Int} {z6 : Option C} : sbC (stS lo none li hn ws w z6) = .ret false := by
  unfold sbC stS
  rw [show hiD none = .none from rfl]
  walk_at "wk"
theorem sbC_s {lo h : Int × Int} {li hn : Bool} {ws : List (Int × Int)} {n : Int} {z6 : Option C} (hn' : FB 25 (n, 1)) (hF : FB 23 h) : sbC (stS lo (some h) li hn ws (n, 1) z6) = .ret (decide (¬ (n : Rat) < vl h)) := by
  unfold sbC stS
  rw [show hiD (some h) = frD h from rfl]
  walk_at "wk"
  rw [show C.isN (.val (frD h)) = false from rfl]
  walk_at "wk"
  rw [compare_eq hn' hF]
  walk_at "wk"
  rw [vl_int]
  congr 1
  apply decide_eq_decide.mpr
  by_cases e : (n : Rat) = vl h
  · rw [if_pos e]
    exact ⟨fun _ => by grind, fun _ => by decide⟩
  · rw [if_neg e]
    by_cases l : (n : Rat) < vl h
    · rw [if_pos l]
      exact ⟨fun z => absurd z (by decide), fun z => absurd l z⟩
    · rw [if_neg l]
      exact ⟨fun _ => l, fun _ => by decide⟩
theorem sbB_eq {lo h : Int × Int} {li hn : Bool} {ws : List (Int × Int)} {w : Int × Int} {z6 : Option C} (hl : FB 23 lo) (hF : FB 23 h) (h0 : 0 ≤ lo.1) (rh : 0 < h.1 - flo lo * h.2) (sl : ¬ lo = (flo lo, 1) → 0 < lo.1 - flo lo * lo.2) (hw : ws.length ≤ 16777214) :
    sbB (stS lo (some h) li hn ws w z6) = .ret (.nx (stS (rcp h (flo lo)) (hi2 lo) hn li (ws ++ [(flo lo, 1)]) (fw (rcp h (flo lo)) hn, 1) (some (.val (frD (flo lo, 1)))))) := by
  have f0 : 0 ≤ flo lo := Int.ediv_nonneg h0 (Int.le_of_lt hl.pos)
  have fF := flo_FB hl h0
  have hF' := rcp_FB hF f0 rh
  obtain ⟨q1, q2⟩ := rcp_eq hF fF f0 rh
  unfold sbB stS
  rw [show hiD (some h) = frD h from rfl]
  walk_at "wk"
  rw [floor_eq hl]
  walk_at "wk"
  rw [show PyData.tuple [.int (lo.1 / lo.2), .int 1] = frD (flo lo, 1) from rfl]
  rw [if_pos (show (ws.map frD).length ≤ 16777215 by rw [List.length_map]; omega)]
  walk_at "wk"
  rw [minus_eq hF fF, oneT]
  walk_at "wk"
  rw [over_eq one_FB (hF.sub fF 49 (by decide)) (by decide) q2, q1]
  walk_at "wk"
  rw [eq_fr]
  walk_at "wk"
  rw [show ws.map frD ++ [frD (flo lo, 1)] = (ws ++ [(flo lo, 1)]).map frD by rw [List.map_append]; rfl]
  by_cases e1 : lo = (flo lo, 1)
  · rw [if_pos e1]
    walk_at "wk"
    rw [fw_eq hF' (by decide)]
    walk_at "wk"
    rw [show hiD (hi2 lo) = .none by unfold hi2; rw [if_pos e1]; rfl]
  · rw [if_neg e1]
    obtain ⟨q3, q4⟩ := rcp_eq hl fF f0 (sl e1)
    walk_at "wk"
    rw [minus_eq hl fF]
    walk_at "wk"
    rw [over_eq one_FB (hl.sub fF 49 (by decide)) (by decide) q4, q3]
    walk_at "wk"
    rw [fw_eq hF' (by decide)]
    walk_at "wk"
    rw [show hiD (hi2 lo) = frD (rcp lo (flo lo)) by unfold hi2; rw [if_neg e1]; rfl]
theorem whlL_f {gc : Ro → M Bool} {b : Ro → M Res} {N : Nat} {ρ : Ro} (h : gc ρ = .ret false) : whlL gc b (N + 1) ρ = .ret (.nx ρ) := by
  unfold whlL
  rw [h]
  rfl
theorem whlL_t {gc : Ro → M Bool} {b : Ro → M Res} {N : Nat} {ρ ρ' : Ro} (h : gc ρ = .ret true) (h2 : b ρ = .ret (.nx ρ')) : whlL gc b (N + 1) ρ = whlL gc b N ρ' := by
  rw [whlL]
  rw [h, retB, if_pos rfl, h2]
  rfl
theorem sb_loop : ∀ (N : Nat) (lo : Int × Int) (hi : Option (Int × Int)) (li hn : Bool) (ws : List (Int × Int)) (z6 : Option C), FB 23 lo → (∀ h, hi = some h → FB 23 h ∧ vl lo < vl h) → 0 ≤ lo.1 → meas lo hi < N → ws.length + meas lo hi ≤ 16777214 →
    ∃ lo' hi' li' hn' ps w z6', whlL sbC sbB N (stS lo hi li hn ws (fw lo li, 1) z6) = .ret (.nx (stS lo' hi' li' hn' (ws ++ ps) w z6')) ∧ Best lo hi li hn (cf ps w) ∧ Gd ps w := by
  intro N
  induction N with
  | zero => intro lo hi li hn ws z6 _ _ _ h; omega
  | succ N ih =>
    intro lo hi li hn ws z6 hl hh h0 hm hw
    cases hi with
    | none =>
      exact ⟨lo, none, li, hn, [], (fw lo li, 1), z6, by rw [whlL_f sbC_n, List.append_nil], best_whole hl h0 (fun q z => by cases z), fw_FB hl⟩
    | some h =>
      obtain ⟨hF, lt⟩ := hh h rfl
      by_cases no : ((fw lo li : Int) : Rat) < vl h
      · exact ⟨lo, some h, li, hn, [], (fw lo li, 1), z6, by rw [whlL_f (by rw [sbC_s (fw_FB hl) hF, decide_eq_false (fun z => z no)]), List.append_nil], best_whole hl h0 (fun q z => by cases z; exact no), fw_FB hl⟩
      · have f0 := st_f0 hl hF h0 lt no
        have rh := st_rh hl hF h0 lt no
        have sh := st_h hl hF h0 lt no
        have fF := flo_FB hl h0
        have hF' := rcp_FB hF f0 rh
        have hl2 := hl.pos
        have hh2 := hF.pos
        have hms : meas lo (some h) = lo.2.natAbs + h.2.natAbs := rfl
        have nx : (∀ g, hi2 lo = some g → FB 23 g ∧ vl (rcp h (flo lo)) < vl g) ∧ meas (rcp h (flo lo)) (hi2 lo) < meas lo (some h) := by
          unfold hi2
          by_cases e : lo = (flo lo, 1)
          · rw [if_pos e]
            refine And.intro (fun g z => by cases z) ?_
            show (h.1 - flo lo * h.2).natAbs + 0 < _
            omega
          · rw [if_neg e]
            have sl := st_lo hl hF h0 lt no e
            have ss := st_small hl hF h0 lt no e
            refine And.intro (fun g z => ?_) ?_
            · cases z
              refine And.intro (rcp_FB hl f0 sl) ?_
              obtain ⟨a1, a2⟩ := rcp_vl (f := flo lo) hl2 sl
              obtain ⟨b1, b2⟩ := rcp_vl (f := flo lo) hh2 rh
              rw [a1, b1, inv_lt b2 a2]
              grind
            · show (h.1 - flo lo * h.2).natAbs + (lo.1 - flo lo * lo.2).natAbs < _
              omega
        have h1 : (0 : Int) ≤ (rcp h (flo lo)).1 := by show 0 ≤ h.2; omega
        obtain ⟨lo', hi', li', hn', ps, w, z6', e, b, g⟩ := ih (rcp h (flo lo)) (hi2 lo) hn li (ws ++ [(flo lo, 1)]) (some (.val (frD (flo lo, 1)))) hF' nx.1 h1 (by omega) (by rw [List.length_append]; simp only [List.length_cons, List.length_nil]; omega)
        obtain ⟨r1, bb⟩ := best_step hl hF h0 lt no b
        have gf := g.fb
        have cs := cf_step gf fF r1 (bb.fb hl hF lt)
        refine ⟨lo', hi', li', hn', (flo lo, 1) :: ps, w, z6', ?_, by rw [show cf ((flo lo, 1) :: ps) w = qadd (flo lo, 1) (qdiv (1, 1) (cf ps w)) from rfl, cs]; exact bb, g, fF, by omega, by rw [show cf ((flo lo, 1) :: ps) w = qadd (flo lo, 1) (qdiv (1, 1) (cf ps w)) from rfl, cs]; exact bb.fb hl hF lt⟩
        rw [show ws ++ (flo lo, 1) :: ps = ws ++ [(flo lo, 1)] ++ ps by simp, ← e]
        exact whlL_t (by rw [sbC_s (fw_FB hl) hF, decide_eq_true no]) (sbB_eq hl hF h0 rh (fun e => st_lo hl hF h0 lt no e) (by omega))

noncomputable def fdB : Ro → M Res := mAsg (gFn f_plus (gaCons (gVar 6) (gaCons (gFn f_over (gaCons (gC (.tuple [.int 1, .int 1])) (gaCons (gVar 7) gaNil))) gaNil))) (asgR 7)
theorem fd_loop (a0 a1 a2 a3 a4 a5 : Option C) : ∀ (ps : List (Int × Int)) (w : Int × Int) (rest : List (Int × Int)) (z6 : Option C), Gd ps w →
    ∃ z6', forL (asgR 6) fdB ((ps.reverse ++ rest).map frD) [a0, a1, a2, a3, a4, a5, z6, some (.val (frD w))] = forL (asgR 6) fdB (rest.map frD) [a0, a1, a2, a3, a4, a5, z6', some (.val (frD (cf ps w)))]
  | [], w, rest, z6, g => ⟨z6, rfl⟩
  | p :: ps, w, rest, z6, g => by
    obtain ⟨z, e⟩ := fd_loop a0 a1 a2 a3 a4 a5 ps w (p :: rest) z6 g.1
    refine ⟨some (.val (frD p)), ?_⟩
    rw [show (p :: ps).reverse ++ rest = ps.reverse ++ p :: rest by simp, e, List.map_cons, forL_cons]
    have gf := g.1.fb
    have gd := one_FB.div gf 26 (by decide) g.2.2.1
    unfold fdB
    walk_at "wk"
    rw [oneT, over_eq one_FB gf (by decide) g.2.2.1]
    walk_at "wk"
    rw [plus_eq g.2.1 gd]
    walk_at "wk"
    rfl
theorem between_eq {lo h : Int × Int} {li hn : Bool} (hl : FB 23 lo) (hF : FB 23 h) (h0 : 0 ≤ lo.1) (lt : vl lo < vl h) : ∃ r, FB 25 r ∧ Best lo (some h) li hn r ∧ f_simplest_between [.val (frD lo), .val (frD h), .val (.bool li), .val (.bool hn)] = .ret (.val (frD r)) := by
  have hl2 := hl.pos
  have hh2 := hF.pos
  have a2 : lo.2.natAbs < 2 ^ 23 := hl.b2
  have a4 : h.2.natAbs < 2 ^ 23 := hF.b2
  obtain ⟨lo', hi', li', hn', ps, w, z6', e, b, g⟩ := sb_loop (lo.2.natAbs + h.2.natAbs + 1) lo (some h) li hn [] none hl (fun q z => by cases z; exact ⟨hF, lt⟩) h0 (Nat.lt_succ_self _) (show 0 + (lo.2.natAbs + h.2.natAbs) ≤ _ by omega)
  refine ⟨cf ps w, b.fb hl hF lt, b, ?_⟩
  obtain ⟨z, e2⟩ := fd_loop (some (.val (frD lo'))) (some (.val (hiD hi'))) (some (.val (.bool li'))) (some (.val (.bool hn'))) (some (.bor (.lst (([] ++ ps).map frD)))) (some (.val (frD w))) ps w [] z6' g
  unfold f_simplest_between
  walk_at "wk"
  rw [fw_eq hl (by decide)]
  walk_at "wk"
  have es : whlL (gAnd (gTest (gOp (oIsX true) (gVar 1) (gC .none))) (gTest (gOp oGe (gFn f_compare (gaCons (gVar 5) (gaCons (gVar 1) gaNil))) (gC (.int 0))))) (mSeq (mAsg (gTupE (gaCons (gFn f_floor_of (gaCons (gVar 0) gaNil)) (gaCons (gC (.int 1)) gaNil))) (asgR 6))
      (mSeq (mApp 4 (gVar 6))
      (mSeq (mPar 0 1 (gaCons (gFn f_over (gaCons (gC (.tuple [.int 1, .int 1])) (gaCons (gFn f_minus (gaCons (gVar 1) (gaCons (gVar 6) gaNil))) gaNil))) (gaCons (gIfE (gTest (gOp oEq (gVar 0) (gVar 6))) (gC .none) (gFn f_over (gaCons (gC (.tuple [.int 1, .int 1])) (gaCons (gFn f_minus (gaCons (gVar 0) (gaCons (gVar 6) gaNil))) gaNil)))) gaNil)))
      (mSeq (mPar 2 3 (gaCons (gVar 3) (gaCons (gVar 2) gaNil)))
      (mAsg (gFn f_first_whole (gaCons (gVar 0) (gaCons (gVar 2) gaNil))) (asgR 5)))))) (lo.2.natAbs + h.2.natAbs + 1) [some (.val (frD lo)), some (.val (frD h)), some (.val (.bool li)), some (.val (.bool hn)), some (.own (.lst [])), some (.val (frD (fw lo li, 1))), none, none] = .ret (.nx (stS lo' hi' li' hn' ([] ++ ps) w z6')) := e
  unfold mWhile
  rw [show (fun ρ : Ro => fuelQ ρ[0]? ρ[1]?) [some (C.val (frD lo)), some (.val (frD h)), some (.val (.bool li)), some (.val (.bool hn)), some (.own (.lst [])), some (.val (frD (fw lo li, 1))), none, none] = lo.2.natAbs + h.2.natAbs + 1 from rfl, es]
  walk_at "wk"
  unfold stS
  walk_at "wk"
  rw [show (List.map frD ([] ++ ps)).reverse = List.map frD (ps.reverse ++ []) by simp]
  unfold fdB at e2
  rw [e2, List.map_nil, forL_nil]
  walk_at "wk"

/-! spans -/
def spn (lo h : Int × Int) (c : Bool) : PyData := .tuple [frD lo, frD h, .bool c]
def InS (lo h : Int × Int) (c : Bool) (x : Rat) : Prop := vl lo ≤ x ∧ (x < vl h ∨ c = true ∧ x = vl h)
structure Simp (lo h : Int × Int) (c : Bool) (r : Int × Int) : Prop where
  pos : 0 < r.2
  inn : InS lo h c (vl r)
  least : ∀ m d : Int, 0 < d → InS lo h c ((m : Rat) / d) → r.2 ≤ d ∧ (r.2 = d → r.1.natAbs ≤ m.natAbs)
theorem Simp.one {lo h : Int × Int} {c : Bool} {r s : Int × Int} (a : Simp lo h c r) (b : Simp lo h c s) : r = s := by
  obtain ⟨a1, a2⟩ := a.least s.1 s.2 b.pos b.inn
  obtain ⟨b1, b2⟩ := b.least r.1 r.2 a.pos a.inn
  have e2 : r.2 = s.2 := by omega
  have a3 := a2 e2
  have b3 := b2 e2.symm
  have pr := a.pos
  have hq := qpos pr
  by_cases e : r.1 = s.1
  · exact Prod.ext e e2
  · exfalso
    have en : r.1 = - s.1 := by omega
    -- then 0 lies between them
    have i1 := a.inn
    have i2 := b.inn
    have vn : vl r = - vl s := by unfold vl; rw [en, e2]; push_cast; grind
    rw [vn] at i1
    have z : InS lo h c (((0 : Int) : Rat) / (r.2 : Int)) := by
      have e0 : ((0 : Int) : Rat) / (r.2 : Int) = 0 := by push_cast; grind
      rw [e0]
      unfold InS at *
      constructor
      · grind
      · grind
    obtain ⟨_, z2⟩ := a.least 0 r.2 pr z
    have := z2 rfl
    omega
theorem neg_vl (p : Int × Int) : vl (-p.1, p.2) = - vl p := by unfold vl; push_cast; grind
theorem neg_FB {p : Int × Int} {k : Nat} (h : FB k p) : FB k (-p.1, p.2) := ⟨h.pos, by show Nat.gcd (-p.1).natAbs _ = 1; rw [Int.natAbs_neg]; exact h.cop, h.b1.neg, h.b2⟩
theorem zeroT : PyData.tuple [.int 0, .int 1] = frD (0, 1) := rfl
theorem zero_FB : FB 1 (0, 1) := ⟨by decide, by decide, .of (by decide), .of (by decide)⟩
theorem neg_eq {p : Int × Int} {k : Nat} (h : FB k p) : qsub (0, 1) p = (-p.1, p.2) := by
  refine vl_inj (zero_FB.sub h (k + 2) (by omega)) ((neg_FB h).up (m := k) (Nat.le_refl k)) ?_
  rw [vl_sub zero_FB h, neg_vl, vl_int]
  push_cast
  grind
theorem simplest_eq {lo h : Int × Int} {c : Bool} (hl : FB 23 lo) (hF : FB 23 h) (lt : vl lo < vl h) : ∃ r, FB 25 r ∧ Simp lo h c r ∧ f_simplest [.val (spn lo h c)] = .ret (.val (frD r)) := by
  have hl2 := hl.pos
  have hh2 := hF.pos
  unfold f_simplest spn
  walk_at "wk"
  rw [zeroT, compare_eq hl zero_FB]
  walk_at "wk"
  rw [show vl (0, 1) = 0 from vl_int 0]
  by_cases c1 : 0 ≤ vl lo
  · rw [if_pos (show (0 : Int) ≤ (if vl lo = 0 then 0 else if vl lo < 0 then -1 else 1) by
      by_cases z : vl lo = 0
      · rw [if_pos z]; decide
      · rw [if_neg z, if_neg (by grind)]; decide)]
    have l0 : 0 ≤ lo.1 := by
      by_cases z : 0 ≤ lo.1
      · exact z
      · exfalso
        have := (vl_pos (p := (-lo.1, lo.2)) hl2).mp (by show 0 < -lo.1; omega)
        rw [neg_vl] at this
        grind
    obtain ⟨r, fr, b, e⟩ := between_eq (li := true) (hn := c) hl hF l0 lt
    walk_at "wk"
    refine ⟨r, fr, ⟨b.pos, ?_, fun m d hd hm => ?_⟩, e⟩
    · have := b.inn
      refine ⟨?_, this.2 h rfl⟩
      rcases this.1 with z | z <;> grind
    · have nn := b.nn
      have key := b.least m d hd ⟨by have := hm.1; by_cases z : (m : Rat) / d = vl lo; exact .inr ⟨rfl, z⟩; exact .inl (by grind), fun q z => by cases z; exact hm.2⟩
      exact ⟨key.2, fun _ => by omega⟩
  · rw [if_neg (show ¬ (0 : Int) ≤ (if vl lo = 0 then 0 else if vl lo < 0 then -1 else 1) by
      rw [if_neg (by grind), if_pos (by grind)]; decide)]
    walk_at "wk"
    rw [compare_eq hF zero_FB]
    walk_at "wk"
    rw [show vl (0, 1) = 0 from vl_int 0]
    by_cases c2 : 0 < vl h
    · rw [if_pos (show (0 : Int) < (if vl h = 0 then 0 else if vl h < 0 then -1 else 1) by rw [if_neg (by grind), if_neg (by grind)]; decide)]
      walk_at "wk"
      refine ⟨(0, 1), zero_FB.up (by decide), ⟨by decide, ?_, fun m d hd hm => ?_⟩, rfl⟩
      · rw [show vl (0, 1) = 0 from vl_int 0]
        exact ⟨by grind, .inl c2⟩
      · exact ⟨by show (1 : Int) ≤ d; omega, fun _ => Nat.zero_le _⟩
    · rw [if_neg (show ¬ (0 : Int) < (if vl h = 0 then 0 else if vl h < 0 then -1 else 1) by
        by_cases z : vl h = 0
        · rw [if_pos z]; decide
        · rw [if_neg z, if_pos (by grind)]; decide)]
      walk_at "wk"
      rw [minus_eq zero_FB hF, neg_eq hF]
      walk_at "wk"
      rw [minus_eq zero_FB hl, neg_eq hl]
      walk_at "wk"
      have nl := neg_FB hl
      have nh := neg_FB hF
      have h0 : 0 ≤ -h.1 := by
        by_cases z : 0 ≤ -h.1
        · exact z
        · exfalso
          exact c2 ((vl_pos hh2).mp (by omega))
      obtain ⟨r, fr, b, e⟩ := between_eq (li := c) (hn := true) nh nl h0 (by rw [neg_vl, neg_vl]; grind)
      rw [e]
      walk_at "wk"
      rw [minus_eq zero_FB fr, neg_eq fr]
      refine ⟨(-r.1, r.2), neg_FB fr, ⟨b.pos, ?_, fun m d hd hm => ?_⟩, rfl⟩
      · have b1 := b.inn.1
        have b2 := b.inn.2 _ rfl
        rw [neg_vl] at b1 b2
        rw [neg_vl]
        constructor
        · rcases b2 with z | z <;> grind
        · rcases b1 with z | z
          · exact .inl (by grind)
          · exact .inr ⟨z.1, by grind⟩
      · have nn := b.nn
        have em : ((-m : Int) : Rat) / d = - ((m : Rat) / d) := by push_cast; grind
        have key := b.least (-m) d hd (by
          rw [em]
          refine ⟨?_, fun q z => ?_⟩
          · rw [neg_vl]
            rcases hm.2 with z | z
            · exact .inl (by grind)
            · exact .inr ⟨z.1, by rw [z.2]⟩
          · cases z
            rw [neg_vl]
            have := hm.1
            by_cases z : (m : Rat) / d = vl lo
            · exact .inr ⟨rfl, by rw [z]⟩
            · exact .inl (by grind))
        refine ⟨key.2, fun _ => ?_⟩
        show (-r.1).natAbs ≤ m.natAbs
        omega

theorem gcdl : ∀ (k : Nat) (n d a b : Int) (z : Option C), 0 ≤ a → 0 ≤ b → b.natAbs < k → ∃ z', whlL (gTest (gOp oGt (gVar 3) (gC (.int 0)))) (mSeq (mAsg (gOp oMod (gCall oIntC (gaCons (gVar 2) gaNil)) (gVar 3)) (asgR 4))
      (mSeq (mAsg (gVar 3) (asgR 2))
      (mAsg (gVar 4) (asgR 3)))) k [some (.val (.int n)), some (.val (.int d)), some (.val (.int a)), some (.val (.int b)), z] = .ret (.nx [some (.val (.int n)), some (.val (.int d)), some (.val (.int (gc a b))), some (.val (.int 0)), z'])
  | 0, n, d, a, b, z, _, _, h => absurd h (Nat.not_lt_zero _)
  | k + 1, n, d, a, b, z, ha, hb, h => by
    unfold whlL
    walk_at "wk"
    by_cases h0 : 0 < b
    · rw [if_pos h0]
      rw [if_pos (cMod_ok h0)]
      have h1 := Int.emod_nonneg a (show b ≠ 0 by omega)
      have h2 := Int.emod_lt_of_pos a h0
      obtain ⟨z', e⟩ := gcdl k n d b (a % b) (some (.val (.int (a % b)))) (by omega) h1 (by omega)
      refine ⟨z', ?_⟩
      rw [e]
      have : gc b (a % b) = gc a b := by
        unfold gc
        have e1 : (a % b).natAbs = a.natAbs % b.natAbs := by
          rw [Int.natAbs_emod_of_nonneg ha]
        rw [e1, Nat.gcd_comm a.natAbs b.natAbs, Nat.gcd_rec b.natAbs a.natAbs, Nat.gcd_comm]
      rw [this]
    · rw [if_neg h0]
      have : b = 0 := by omega
      subst this
      refine ⟨z, ?_⟩
      have : gc a 0 = a := by
        unfold gc
        rw [show (0 : Int).natAbs = 0 from rfl, Nat.gcd_zero_right]
        omega
      rw [this]
theorem llow_eq {n d : Int} (hd : d ≠ 0) (hb : Bd 8000 d) : f_law_lowest [.val (.int n), .val (.int d)] = .ret (.val (frD (low n d))) := by
  have c1 : cDivA n (lowG n d) = true := bdivA (lowG_nz hd) (lowG_bd hd hb)
  have c2 : cDivA d (lowG n d) = true := bdivA (lowG_nz hd) (lowG_bd hd hb)
  unfold f_law_lowest
  walk_at "wk"
  obtain ⟨z', e⟩ := gcdl ((d.natAbs : Int).natAbs + 1) n d n.natAbs d.natAbs none (by omega) (by omega) (by omega)
  unfold mWhile
  rw [show (fun ρ : Ro => fuelI ρ[3]?) [some (C.val (PyData.int n)), some (C.val (PyData.int d)), some (C.val (PyData.int n.natAbs)), some (C.val (PyData.int d.natAbs)), none] = (d.natAbs : Int).natAbs + 1 from rfl, e]
  have eg : gc (n.natAbs : Int) (d.natAbs : Int) = gc n d := rfl
  rw [eg]
  unfold low frD
  unfold lowG at c1 c2 ⊢
  walk_at "wk"
  by_cases h : d < 0
  · rw [if_pos h] at c1 c2 ⊢
    rw [if_pos h, Int.zero_sub]
    walk_at "wk"
    rw [if_pos c1, if_pos c2]
  · rw [if_neg h] at c1 c2 ⊢
    rw [if_neg h]
    walk_at "wk"
    rw [if_pos c1, if_pos c2]
theorem kind_eq {p : Int × Int} : f_law_cell_kind [.val (frD p)] = .ret (.val (.str "number")) := by
  unfold f_law_cell_kind frD
  walk_at "wk"
theorem before_eq {p q : Int × Int} {k l : Nat} (hp : FB k p) (hq : FB l q) (hk : k ≤ 4000) (hl : l ≤ 4000) : f_law_comes_before [.val (frD p), .val (frD q)] = .ret (.val (.bool (decide (vl p < vl q)))) := by
  unfold f_law_comes_before
  walk_at "wk"
  rw [show ∀ r : Int × Int, C.isN (.val (frD r)) = false from fun _ => rfl, show ∀ r : Int × Int, C.isN (.val (frD r)) = false from fun _ => rfl]
  walk_at "wk"
  simp only [kind_eq, retB]
  walk_at "wk"
  rw [if_neg (by decide), show tyX (frD p) = some "tuple" from rfl, isiX_tt]
  walk_at "wk"
  simp only [at0, at1, retB, oMul_i]
  rw [if_pos (bmul (hp.b1.up (by omega)) (hq.b2.up (by omega))), retB, if_pos (bmul (hq.b1.up (by omega)) (hp.b2.up (by omega))), retB]
  walk_at "wk"
  congr 3
  exact decide_eq_decide.mpr (vl_lt hp.pos hq.pos)
instance {lo h : Int × Int} {c : Bool} {x : Rat} : Decidable (InS lo h c x) := by unfold InS; infer_instance
theorem lies_eq {x lo h : Int × Int} {c : Bool} (hx : FB 100 x) (hl : FB 23 lo) (hF : FB 23 h) : f_law_lies_in [.val (frD x), .val (spn lo h c)] = .ret (.val (.bool (decide (InS lo h c (vl x))))) := by
  have key : decide (InS lo h c (vl x)) = (!decide (vl x < vl lo) && (decide (vl x < vl h) || (c && decide (x = h)))) := by
    have e : vl x = vl h ↔ x = h := ⟨vl_inj hx hF, fun z => by rw [z]⟩
    rw [Bool.eq_iff_iff]
    simp only [decide_eq_true_eq, Bool.and_eq_true, Bool.or_eq_true, Bool.not_eq_true', decide_eq_false_iff_not]
    unfold InS
    rw [e]
    constructor
    · rintro ⟨a, b⟩; exact ⟨by grind, b⟩
    · rintro ⟨a, b⟩; exact ⟨by grind, b⟩
  rw [key]
  unfold f_law_lies_in spn
  walk_at "wk"
  rw [before_eq hx hl (by decide) (by decide)]
  walk_at "wk"
  by_cases a : vl x < vl lo
  · rw [if_pos a, decide_eq_true a]
    rfl
  · rw [if_neg a, decide_eq_false a]
    rw [before_eq hx hF (by decide) (by decide)]
    walk_at "wk"
    rw [eq_fr]
    generalize decide (vl x < vl h) = b1
    generalize decide (x = h) = b2
    cases b1 <;> cases c <;> cases b2 <;> (walk_at "wk"; rfl)
/-- the ends, drawn -/
theorem ends_wp {α : Type} {k : C → M α} {Q : α → Prop} (q : ∀ lo hi, FB 9 lo → FB 9 hi → Bd 4 lo.1 → Bd 2 lo.2 → Bd 4 hi.2 → vl lo < vl hi → wp (k (.val (.tuple [frD lo, frD hi]))) Q) : wp ((f_law_ends [.tape]).bind k) Q := by
  refine wp_call (fun c => ∃ lo hi, FB 9 lo ∧ FB 9 hi ∧ Bd 4 lo.1 ∧ Bd 2 lo.2 ∧ Bd 4 hi.2 ∧ vl lo < vl hi ∧ c = .val (.tuple [frD lo, frD hi])) ?_ (by rintro c ⟨lo, hi, h1, h2, h3, h4, h5, h6, rfl⟩; exact q lo hi h1 h2 h3 h4 h5 h6)
  refine wp_fn rfl ?_
  walk_at "we"
  refine wp_seqJ (fun ρ => ∃ p, FB 9 p ∧ Bd 4 p.1 ∧ Bd 2 p.2 ∧ ρ = [some .tape, some (.val (frD p)), none]) ?_ ?_
  · walk_at "wk"
    refine wp_drawn (by decide) fun a a0 a1 => ?_
    walk_at "wk"
    refine wp_drawn (by decide) fun b b0 b1 => ?_
    walk_at "wk"
    refine wp_pick b0 (by simp only [List.length_cons, List.length_nil]; omega) fun d hd => ?_
    simp only [List.mem_cons, List.not_mem_nil, or_false] at hd
    rcases hd with rfl | rfl | rfl | rfl
    · walk_at "wk"; exact ⟨(0, 1), zero_FB.up (by decide), .of (by decide), .of (by decide), rfl⟩
    · walk_at "wk"; exact ⟨(0, 1), zero_FB.up (by decide), .of (by decide), .of (by decide), rfl⟩
    · walk_at "wk"; exact ⟨(-3, 2), ⟨by decide, by decide, .of (by decide), .of (by decide)⟩, .of (by decide), .of (by decide), rfl⟩
    · walk_at "wk"; exact ⟨(a - 10, 1), int_FB (by decide) (.of (by omega)), .of (show (a - 10).natAbs < 2 ^ 4 by omega), .of (show (1 : Int).natAbs < 2 ^ 2 by decide), rfl⟩
  rintro ρ ⟨p, hp, A1, B3, rfl⟩
  refine wp_seqJ (fun ρ => ∃ s : Int × Int, 0 < s.1 ∧ s.1 ≤ 40 ∧ 0 < s.2 ∧ s.2 ≤ 3 ∧ ρ = [some .tape, some (.val (frD p)), some (.val (frD s))]) ?_ ?_
  · walk_at "wk"
    refine wp_drawn (by decide) fun a a0 a1 => ?_
    walk_at "wk"
    refine wp_drawn (by decide) fun b b0 b1 => ?_
    walk_at "wk"
    refine wp_pick b0 (by simp only [List.length_cons, List.length_nil]; omega) fun d hd => ?_
    simp only [List.mem_cons, List.not_mem_nil, or_false] at hd
    rcases hd with rfl | rfl | rfl | rfl
    · walk_at "wk"; exact ⟨(10, 1), by decide, by decide, by decide, by decide, rfl⟩
    · walk_at "wk"; exact ⟨(1, 1), by decide, by decide, by decide, by decide, rfl⟩
    · walk_at "wk"; exact ⟨(7, 3), by decide, by decide, by decide, by decide, rfl⟩
    · walk_at "wk"; exact ⟨(1 + a, 1), by show 0 < 1 + a; omega, by show 1 + a ≤ 40; omega, Int.one_pos, (by decide : (1 : Int) ≤ 3), rfl⟩
  rintro ρ ⟨s, s0, s1, s2, s3, rfl⟩
  have B1 : Bd 6 s.1 := .of (by omega)
  have B2 : Bd 2 s.2 := .of (by omega)
  have pp := hp.pos
  walk_at "wk"
  simp only [at0, at1, retB, oMul_i]
  walk_at "wk"
  rw [if_pos (bmul (hp.b1.up (by decide)) (B2.up (by decide)))]
  walk_at "wk"
  rw [if_pos (bmul (B1.up (by decide)) (B3.up (by decide)))]
  walk_at "wk"
  rw [if_pos (bmul (B3.up (by decide)) (B2.up (by decide)))]
  walk_at "wk"
  have dn : p.2 * s.2 ≠ 0 := Int.mul_ne_zero (by omega) (by omega)
  have Bd1 : Bd 4 (p.2 * s.2) := Bd.mul 4 B3 B2 (by decide)
  have Bn1 : Bd 9 (p.1 * s.2 + s.1 * p.2) := Bd.add 9 (Bd.mul 8 A1 B2 (by decide)) (Bd.mul 8 B1 B3 (by decide)) (by decide) (by decide)
  rw [llow_eq dn (Bd1.up (by decide))]
  walk_at "wk"
  refine ⟨p, _, hp, low_FB dn Bn1 (Bd1.up (by decide)), A1, B3, Bd1.le (low_le dn).2, ?_, rfl⟩
  rw [vl_low dn]
  have h1 := qpos pp
  have h2 := qpos s2
  have h3 := qpos s0
  have h4 : 0 < (s.1 : Rat) / s.2 := by rw [Rat.lt_div_iff h2]; grind
  have e : ((p.1 * s.2 + s.1 * p.2 : Int) : Rat) / ((p.2 * s.2 : Int) : Rat) = vl p + (s.1 : Rat) / s.2 := by
    unfold vl
    push_cast
    grind
  rw [e]
  grind

section
variable {lo hi : Int × Int} {L n : Int} (hl : FB 9 lo) (hh : FB 9 hi) (l1 : Bd 4 lo.1) (l2 : Bd 2 lo.2) (h2 : Bd 4 hi.2) (L0 : 4 ≤ L) (L1 : L ≤ 400)
def edQ (lo hi : Int × Int) (L n : Int) : Int × Int := low (lo.1 * 2 * L * hi.2 + (2 * n - 1) * (hi.1 * lo.2 - lo.1 * hi.2)) (2 * L * lo.2 * hi.2)
include hl hh L0 L1
theorem ed_nz : 2 * L * lo.2 * hi.2 ≠ 0 := Int.mul_ne_zero (Int.mul_ne_zero (by omega) hl.nz) hh.nz
theorem ed_vl : vl (edQ lo hi L n) = vl lo + (vl hi - vl lo) * ((2 * n - 1) / (2 * L)) := by
  unfold edQ
  rw [vl_low (ed_nz hl hh L0 L1)]
  have h1 := qpos hl.pos
  have h2 := qpos hh.pos
  have h3 := qpos (show 0 < L by omega)
  unfold vl
  push_cast
  grind
include l1 l2 h2
theorem ed_FB (n0 : 0 ≤ n) (n1 : n ≤ 401) : FB 23 (edQ lo hi L n) ∧ Bd 23 (2 * L * lo.2 * hi.2) := by
  have BL : Bd 9 L := .of (by omega)
  have B2 : Bd 2 (2 : Int) := .of (by decide)
  have Bn : Bd 10 (2 * n - 1) := .of (by omega)
  have a1 : Bd 23 (2 * L * lo.2 * hi.2) := Bd.mul 23 (Bd.mul 13 (Bd.mul 11 B2 BL (by decide)) l2 (by decide)) h2 (by decide)
  have a2 : Bd 19 (lo.1 * 2 * L * hi.2) := Bd.mul 19 (Bd.mul 15 (Bd.mul 6 l1 B2 (by decide)) BL (by decide)) h2 (by decide)
  have a3 : Bd 12 (hi.1 * lo.2 - lo.1 * hi.2) := Bd.sub 12 (Bd.mul 11 hh.b1 l2 (by decide)) (Bd.mul 8 l1 h2 (by decide)) (by decide) (by decide)
  have a4 : Bd 22 ((2 * n - 1) * (hi.1 * lo.2 - lo.1 * hi.2)) := Bd.mul 22 Bn a3 (by decide)
  exact ⟨low_FB (ed_nz hl hh L0 L1) (Bd.add 23 a2 a4 (by decide) (by decide)) a1, a1⟩
theorem ed_eq (n0 : 0 ≤ n) (n1 : n ≤ 401) : f_law_edge [.val (.tuple [frD lo, frD hi]), .val (.int L), .val (.int n)] = .ret (.val (frD (edQ lo hi L n))) := by
  have BL : Bd 9 L := .of (by omega)
  have B2 : Bd 2 (2 : Int) := .of (by decide)
  have Bn : Bd 10 (2 * n - 1) := .of (by omega)
  have Bnn : Bd 10 n := .of (by omega)
  have b8 : ∀ {a : Int} {k : Nat}, Bd k a → k ≤ 8000 → Bd 8000 a := fun h l => h.up l
  have m1 : cMul 2 n = true := bmul (b8 B2 (by decide)) (b8 Bnn (by decide))
  have m2 : cMul hi.1 lo.2 = true := bmul (b8 hh.b1 (by decide)) (b8 l2 (by decide))
  have m3 : cMul lo.1 hi.2 = true := bmul (b8 l1 (by decide)) (b8 h2 (by decide))
  have a3 : Bd 12 (hi.1 * lo.2 - lo.1 * hi.2) := Bd.sub 12 (Bd.mul 11 hh.b1 l2 (by decide)) (Bd.mul 8 l1 h2 (by decide)) (by decide) (by decide)
  have m4 : cMul (2 * n - 1) (hi.1 * lo.2 - lo.1 * hi.2) = true := bmul (b8 Bn (by decide)) (b8 a3 (by decide))
  have m5 : cMul lo.1 2 = true := bmul (b8 l1 (by decide)) (b8 B2 (by decide))
  have c6 : Bd 6 (lo.1 * 2) := Bd.mul 6 l1 B2 (by decide)
  have m6 : cMul (lo.1 * 2) L = true := bmul (b8 c6 (by decide)) (b8 BL (by decide))
  have c7 : Bd 15 (lo.1 * 2 * L) := Bd.mul 15 c6 BL (by decide)
  have m7 : cMul (lo.1 * 2 * L) hi.2 = true := bmul (b8 c7 (by decide)) (b8 h2 (by decide))
  have m8 : cMul 2 L = true := bmul (b8 B2 (by decide)) (b8 BL (by decide))
  have c9 : Bd 11 (2 * L) := Bd.mul 11 B2 BL (by decide)
  have m9 : cMul (2 * L) lo.2 = true := bmul (b8 c9 (by decide)) (b8 l2 (by decide))
  have c10 : Bd 13 (2 * L * lo.2) := Bd.mul 13 c9 l2 (by decide)
  have m10 : cMul (2 * L * lo.2) hi.2 = true := bmul (b8 c10 (by decide)) (b8 h2 (by decide))
  unfold f_law_edge
  walk_at "wk"
  (try simp only [at0, at1, retB, oMul_i, m1, m2, m3, m4, m5, m6, m7, m8, m9, m10, if_true])
  walk_at "wk"
  (try simp only [at0, at1, retB, oMul_i, m1, m2, m3, m4, m5, m6, m7, m8, m9, m10, if_true])
  walk_at "wk"
  (try simp only [at0, at1, retB, oMul_i, m1, m2, m3, m4, m5, m6, m7, m8, m9, m10, if_true])
  walk_at "wk"
  exact llow_eq (ed_nz hl hh L0 L1) (b8 (ed_FB hl hh l1 l2 h2 L0 L1 n0 n1).2 (by decide))
theorem span_eq' (lt : vl lo < vl hi) (n0 : 0 ≤ n) (n1 : n ≤ L) : ∃ a b c, FB 23 a ∧ FB 23 b ∧ vl a < vl b ∧ f_law_span [.val (.tuple [.str "linear", .tuple [frD lo, frD hi], .int L, .bool false, .bool false]), .val (.int n)] = .ret (.val (spn a b c)) := by
  have f1 := ed_FB hl hh l1 l2 h2 L0 L1 n0 (show n ≤ 401 by omega)
  have f2 := ed_FB hl hh l1 l2 h2 L0 L1 (show 0 ≤ n + 1 by omega) (show n + 1 ≤ 401 by omega)
  have e1 := ed_eq hl hh l1 l2 h2 L0 L1 n0 (show n ≤ 401 by omega)
  have e2 := ed_eq hl hh l1 l2 h2 L0 L1 (show 0 ≤ n + 1 by omega) (show n + 1 ≤ 401 by omega)
  have v1 := ed_vl (n := n) hl hh L0 L1
  have v2 := ed_vl (n := n + 1) hl hh L0 L1
  have hL := qpos (show 0 < L by omega)
  have w : 0 < vl hi - vl lo := by grind
  have nL : (n : Rat) ≤ L := qle.mpr n1
  have n0q : (0 : Rat) ≤ n := qle.mpr n0
  have q : ∀ x y : Rat, x < y → (vl hi - vl lo) * (x / (2 * L)) < (vl hi - vl lo) * (y / (2 * L)) := fun x y h => by
    have : 0 < (vl hi - vl lo) * ((y - x) / (2 * L)) := Rat.mul_pos w (by rw [Rat.lt_div_iff (by grind)]; grind)
    grind
  push_cast at v2
  have s0 : (vl hi - vl lo) * ((0 : Rat) / (2 * L)) = 0 := by grind
  have sL : (vl hi - vl lo) * ((2 * L : Rat) / (2 * L)) = vl hi - vl lo := by grind
  unfold f_law_span
  walk_at "wk"
  by_cases c1 : 0 < n
  · have c1q : (1 : Rat) ≤ n := by exact_mod_cast (show (1 : Int) ≤ n by omega)
    rw [if_pos c1]
    walk_at "wk"
    rw [e1]
    walk_at "wk"
    by_cases c2 : n < L
    · rw [if_pos c2]
      walk_at "wk"
      rw [e2]
      walk_at "wk"
      refine ⟨_, _, _, f1.1, f2.1, ?_, rfl⟩
      rw [v1, v2]
      have := q (2 * n - 1) (2 * (n + 1) - 1) (by grind)
      grind
    · rw [if_neg c2]
      walk_at "wk"
      refine ⟨_, _, _, f1.1, hh.up (by decide), ?_, rfl⟩
      rw [v1]
      have := q (2 * n - 1) (2 * L) (by grind)
      grind
  · rw [if_neg c1]
    walk_at "wk"
    rw [if_pos (show n < L by omega)]
    walk_at "wk"
    rw [e2]
    walk_at "wk"
    refine ⟨_, _, _, hl.up (by decide), f2.1, ?_, rfl⟩
    rw [v2]
    have := q 0 (2 * (n + 1) - 1) (by grind)
    grind
end

theorem drawn_wp {α : Type} {k : C → M α} {Q : α → Prop} (q : ∀ lo h c, FB 23 lo → FB 23 h → vl lo < vl h → wp (k (.val (spn lo h c))) Q) : wp ((f_law_drawn_span [.tape]).bind k) Q := by
  refine wp_call (fun c => ∃ lo h b, FB 23 lo ∧ FB 23 h ∧ vl lo < vl h ∧ c = .val (spn lo h b)) ?_ (by rintro c ⟨lo, hi, b, h1, h2, h3, rfl⟩; exact q lo hi b h1 h2 h3)
  refine wp_fn rfl ?_
  walk_at "we"
  refine wp_seqJ (fun ρ => ρ = [some .tape, none, none, none, none, none]) ?_ ?_
  · walk_at "wk"
    refine wp_drawn (by decide) fun a a0 a1 => ?_
    walk_at "wk"
    refine wp_ite (fun h => ?_) (fun h => ?_)
    · refine ends_wp fun lo hi hl hh l1 l2 h2 lt => ?_
      walk_at "wk"
      refine wp_drawn (by decide) fun b b0 b1 => ?_
      walk_at "wk"
      refine wp_drawn (by omega) fun n n0 n1 => ?_
      walk_at "wk"
      obtain ⟨x, y, c, fx, fy, xy, e⟩ := span_eq' (L := 4 + b) (n := n) hl hh l1 l2 h2 (by omega) (by omega) lt n0 (by omega)
      rw [e]
      walk_at "wk"
      exact out_ok ⟨x, y, c, fx, fy, xy, rfl⟩
    · walk_at "wk"
      rfl
  rintro ρ rfl
  refine wp_seqJ (fun ρ => ∃ p, FB 9 p ∧ ρ = [some .tape, none, none, some (.val (frD p)), none, none]) ?_ ?_
  · walk_at "wk"
    refine wp_drawn (by decide) fun a a0 a1 => ?_
    walk_at "wk"
    refine wp_drawn (by decide) fun b b0 b1 => ?_
    walk_at "wk"
    have dn : (1 + b : Int) ≠ 0 := by omega
    have d9 : Bd 9 (1 + b) := .of (by omega)
    rw [llow_eq dn (d9.up (by decide))]
    walk_at "wk"
    exact ⟨_, low_FB dn (.of (by omega)) d9, rfl⟩
  rintro ρ ⟨p, hp, rfl⟩
  refine wp_seqJ (fun ρ => ∃ p, FB 9 p ∧ ρ = [some .tape, none, none, some (.val (frD p)), none, none]) ?_ ?_
  · walk_at "wk"
    refine wp_drawn (by decide) fun a a0 a1 => ?_
    walk_at "wk"
    refine wp_ite (fun h => ?_) (fun h => ?_)
    · walk_at "wk"
      refine wp_drawn (by decide) fun b b0 b1 => ?_
      walk_at "wk"
      refine wp_drawn (by decide) fun c c0 c1 => ?_
      walk_at "wk"
      refine wp_pick c0 (by simp only [List.length_cons, List.length_nil]; omega) fun d hd => ?_
      simp only [List.mem_cons, List.not_mem_nil, or_false] at hd
      rcases hd with rfl | rfl
      · walk_at "wk"; exact ⟨(0, 1), zero_FB.up (by decide), rfl⟩
      · walk_at "wk"; exact ⟨(-1, 1 + b), ⟨by show 0 < 1 + b; omega, by show Nat.gcd 1 _ = 1; exact Nat.gcd_one_left _, .of (show (-1 : Int).natAbs < 2 ^ 9 by decide), .of (show (1 + b).natAbs < 2 ^ 9 by omega)⟩, rfl⟩
    · walk_at "wk"
      exact ⟨p, hp, rfl⟩
  clear hp
  rintro ρ ⟨p, hp, rfl⟩
  refine wp_seqJ (fun ρ => ∃ s, FB 9 s ∧ 0 < s.1 ∧ ρ = [some .tape, none, none, some (.val (frD p)), some (.val (frD s)), none]) ?_ ?_
  · walk_at "wk"
    refine wp_drawn (by decide) fun a a0 a1 => ?_
    walk_at "wk"
    refine wp_drawn (by decide) fun b b0 b1 => ?_
    walk_at "wk"
    have dn : (1 + b : Int) ≠ 0 := by omega
    have d9 : Bd 9 (1 + b) := .of (by omega)
    rw [llow_eq dn (d9.up (by decide))]
    walk_at "wk"
    have fb := low_FB dn (show Bd 9 (1 + a) from .of (by omega)) d9
    refine ⟨_, fb, (vl_pos fb.pos).mpr ?_, rfl⟩
    rw [vl_low dn, Rat.lt_div_iff (qpos (show 0 < 1 + b by omega))]
    have := qpos (show 0 < 1 + a by omega)
    grind
  rintro ρ ⟨s, hs, s0, rfl⟩
  refine wp_seqJ (fun ρ => ∃ h, FB 23 h ∧ vl p < vl h ∧ ρ = [some .tape, none, none, some (.val (frD p)), some (.val (frD s)), some (.val (frD h))]) ?_ ?_
  · walk_at "wk"
    simp only [at0, at1, retB, oMul_i]
    walk_at "wk"
    rw [if_pos (bmul (hp.b1.up (by decide)) (hs.b2.up (by decide)))]
    walk_at "wk"
    rw [if_pos (bmul (hs.b1.up (by decide)) (hp.b2.up (by decide)))]
    walk_at "wk"
    rw [if_pos (bmul (hp.b2.up (by decide)) (hs.b2.up (by decide)))]
    walk_at "wk"
    have nz := nz22 hp hs
    rw [llow_eq nz (Bd.mul 8000 hp.b2 hs.b2 (by decide))]
    walk_at "wk"
    have e : low (p.1 * s.2 + s.1 * p.2) (p.2 * s.2) = qadd p s := rfl
    rw [e]
    refine ⟨_, (hp.add hs 19 (by decide)).up (by decide), ?_, rfl⟩
    rw [vl_add hp hs]
    have := (vl_pos hs.pos).mp s0
    grind
  rintro ρ ⟨h, hh, lt, rfl⟩
  walk_at "wk"
  refine wp_drawn (by decide) fun a a0 a1 => ?_
  walk_at "wk"
  exact ⟨p, h, _, hp.up (by decide), hh, lt, rfl⟩

/-- the least whole number m with lo ≤ m / d -/
theorem ceil_iff {lo : Int × Int} (hl : 0 < lo.2) {d m : Int} (hd : 0 < d) : -((-lo.1 * d).fdiv lo.2) ≤ m ↔ vl lo ≤ (m : Rat) / d := by
  have e : vl lo ≤ (m : Rat) / d ↔ lo.1 * d ≤ m * lo.2 := by
    have := vl_lt (p := (m, d)) (q := lo) hd hl
    have v : vl (m, d) = (m : Rat) / d := rfl
    rw [v] at this
    constructor
    · intro h
      have : ¬ m * lo.2 < lo.1 * d := fun z => by have := this.mp z; grind
      omega
    · intro h
      have : ¬ (m : Rat) / d < vl lo := fun z => by
        have := this.mpr z
        have : m * lo.2 < lo.1 * d := this
        omega
      grind
  rw [e, Int.fdiv_eq_ediv_of_nonneg _ (Int.le_of_lt hl)]
  have h1 := Int.ediv_mul_le (-lo.1 * d) (show lo.2 ≠ 0 by omega)
  have h2 := Int.lt_ediv_add_one_mul_self (-lo.1 * d) hl
  rw [Int.neg_mul] at *
  generalize -(lo.1 * d) / lo.2 = q at *
  constructor
  · intro h
    have : -q * lo.2 ≤ m * lo.2 := Int.mul_le_mul_of_nonneg_right h (by omega)
    rw [Int.neg_mul] at this
    omega
  · intro h
    by_cases z : -q ≤ m
    · exact z
    · exfalso
      have : (m + 1) * lo.2 ≤ -q * lo.2 := Int.mul_le_mul_of_nonneg_right (by omega) (by omega)
      rw [Int.neg_mul, Int.add_mul] at this
      rw [Int.add_mul] at h2
      omega
theorem last_iff {h : Int × Int} {c : Bool} (hh : 0 < h.2) {d m : Int} (hd : 0 < d) : m ≤ (if (h.1 * d).fdiv h.2 * h.2 = h.1 * d ∧ c = false then (h.1 * d).fdiv h.2 - 1 else (h.1 * d).fdiv h.2) ↔ ((m : Rat) / d < vl h ∨ c = true ∧ (m : Rat) / d = vl h) := by
  have v : vl (m, d) = (m : Rat) / d := rfl
  have e1 : (m : Rat) / d < vl h ↔ m * h.2 < h.1 * d := by rw [← v]; exact (vl_lt (p := (m, d)) hd hh).symm
  have e2 : (m : Rat) / d = vl h ↔ m * h.2 = h.1 * d := by rw [← v]; exact (vl_eq (p := (m, d)) hd hh).symm
  rw [e1, e2, Int.fdiv_eq_ediv_of_nonneg _ (Int.le_of_lt hh)]
  have h1 := Int.ediv_mul_le (h.1 * d) (show h.2 ≠ 0 by omega)
  have h2 := Int.lt_ediv_add_one_mul_self (h.1 * d) hh
  generalize h.1 * d / h.2 = q at *
  have le_of : m ≤ q → m * h.2 ≤ q * h.2 := fun z => Int.mul_le_mul_of_nonneg_right z (by omega)
  have gt_of : q + 1 ≤ m → (q + 1) * h.2 ≤ m * h.2 := fun z => Int.mul_le_mul_of_nonneg_right z (by omega)
  have lt_of : m ≤ q - 1 → m * h.2 ≤ (q - 1) * h.2 := fun z => Int.mul_le_mul_of_nonneg_right z (by omega)
  rw [Int.sub_mul] at lt_of
  rw [Int.add_mul] at h2 gt_of
  split
  · rename_i z
    rw [z.2]
    constructor
    · intro k; have := lt_of k; exact .inl (by omega)
    · rintro (k | k)
      · by_cases y : m ≤ q - 1
        · exact y
        · by_cases y2 : m = q
          · subst y2; omega
          · have := gt_of (by omega); omega
      · exact absurd k.1 (by simp)
  · rename_i z
    constructor
    · intro k
      have := le_of k
      by_cases y : m * h.2 = h.1 * d
      · refine .inr ⟨?_, y⟩
        cases c
        · exfalso
          apply z
          refine ⟨?_, rfl⟩
          omega
        · rfl
      · exact .inl (by omega)
    · intro k
      have k' : m * h.2 ≤ h.1 * d := by rcases k with k | k <;> omega
      by_cases y : m ≤ q
      · exact y
      · have := gt_of (by omega); omega
theorem lsimp_wp {lo h : Int × Int} {c : Bool} (hl : FB 23 lo) (hh : FB 23 h) (lt : vl lo < vl h) {α : Type} {k : C → M α} {Q : α → Prop} (q : ∀ r, Simp lo h c r → wp (k (.val (frD r))) Q) : wp ((f_law_simplest [.val (spn lo h c)]).bind k) Q := by
  refine wp_call (fun x => ∃ r, Simp lo h c r ∧ x = .val (frD r)) ?_ (by rintro x ⟨r, h1, rfl⟩; exact q r h1)
  have hl2 := hl.pos
  have hh2 := hh.pos
  have a2 : lo.2.natAbs < 2 ^ 23 := hl.b2
  refine wp_fn rfl ?_
  unfold spn
  walk_at "we"
  refine wp_seqJ (fun ρ => ρ = [some (.val (spn lo h c)), some (.val (frD lo)), none, none, none, none]) ?_ ?_
  · unfold spn
    walk_at "wk"
    rfl
  rintro ρ rfl
  refine wp_seqJ (fun ρ => ρ = [some (.val (spn lo h c)), some (.val (frD lo)), some (.val (frD h)), none, none, none]) ?_ ?_
  · unfold spn
    walk_at "wk"
    rfl
  rintro ρ rfl
  refine wp_seqJ (fun ρ => False) ?_ (fun ρ z => z.elim)
  walk_at "wk"
  simp only [at0, at1, retB]
  walk_at "wk"
  rw [if_pos (by rw [rngOk_ok (by decide) (by decide), rngOk_ok (by omega) (by omega)]; rfl)]
  walk_at "wk"
  refine wp_turns (n := (lo.2 + 1 - 1).toNat) (fun i ρ => ∃ x y z : Option C, (∀ m d : Int, 0 < d → d ≤ i → ¬ InS lo h c ((m : Rat) / d)) ∧ ρ = [some (.val (spn lo h c)), some (.val (frD lo)), some (.val (frD h)), x, y, z]) ?_ ?_ ⟨none, none, none, fun m d h1 h2 => by omega, rfl⟩
  · rintro ρ ⟨x, y, z, no, rfl⟩
    refine no lo.1 lo.2 hl2 (by omega) ?_
    exact ⟨Rat.le_refl, .inl lt⟩
  · rintro i ds ρ hi ⟨x, y, z, no, rfl⟩
    obtain ⟨d, hd⟩ : ∃ d : Int, d = 1 + (i : Int) * 1 := ⟨_, rfl⟩
    have d0 : 0 < d := by omega
    have dB : Bd 24 d := .of (by omega)
    rw [← hd]
    have m1 : cMul (-lo.1) d = true := bmul (hl.b1.neg.up (by decide)) (dB.up (by decide))
    have m2 : cDivA (-lo.1 * d) lo.2 = true := bdivA (by omega) (hl.b2.up (by decide))
    have m3 : cMul h.1 d = true := bmul (hh.b1.up (by decide)) (dB.up (by decide))
    have m4 : cDivA (h.1 * d) h.2 = true := bdivA (by omega) (hh.b2.up (by decide))
    have lB : Bd 60 ((h.1 * d).fdiv h.2) := by
      have b : Bd 47 (h.1 * d) := Bd.mul 47 hh.b1 dB (by decide)
      have b' : (h.1 * d).natAbs < 2 ^ 47 := b
      have h1 := Int.ediv_mul_le (h.1 * d) (show h.2 ≠ 0 by omega)
      have h2 := Int.lt_ediv_add_one_mul_self (h.1 * d) hh2
      rw [Int.fdiv_eq_ediv_of_nonneg _ (Int.le_of_lt hh2)]
      generalize h.1 * d / h.2 = w at *
      refine .of ?_
      rw [Int.add_mul] at h2
      by_cases z : 0 ≤ w
      · have : w * 1 ≤ w * h.2 := Int.mul_le_mul_of_nonneg_left (by omega) z
        omega
      · have : (w + 1) * h.2 ≤ (w + 1) * 1 := by
          by_cases y : w + 1 ≤ 0
          · exact Int.mul_le_mul_of_nonpos_left y (by omega)
          · omega
        rw [Int.add_mul] at this
        omega
    have m5 : cMul ((h.1 * d).fdiv h.2) h.2 = true := bmul (lB.up (by decide)) (hh.b2.up (by decide))
    rw [show (asgR 3 (.val (.int d)) [some (.val (spn lo h c)), some (.val (frD lo)), some (.val (frD h)), x, y, z]) = .ret [some (.val (spn lo h c)), some (.val (frD lo)), some (.val (frD h)), some (.val (.int d)), y, z] from rfl, retB]
    refine wp_seqJ (fun ρ => ρ = [some (.val (spn lo h c)), some (.val (frD lo)), some (.val (frD h)), some (.val (.int d)), some (.val (.int (-((-lo.1 * d).fdiv lo.2)))), z]) ?_ ?_
    · walk_at "wk"
      simp only [at0, at1, retB, oNeg_i, oMul_i, oInt_v, m1, m2, if_true]
      walk_at "wk"
      (try simp only [at0, at1, retB, oNeg_i, oMul_i, oInt_v, m1, m2, if_true])
      walk_at "wk"
      rfl
    rintro ρ rfl
    refine wp_seqJ (fun ρ => ρ = [some (.val (spn lo h c)), some (.val (frD lo)), some (.val (frD h)), some (.val (.int d)), some (.val (.int (-((-lo.1 * d).fdiv lo.2)))), some (.val (.int ((h.1 * d).fdiv h.2)))]) ?_ ?_
    · walk_at "wk"
      simp only [at0, at1, retB, oMul_i, oInt_v, m3, m4, if_true]
      walk_at "wk"
      rfl
    rintro ρ rfl
    have il := fun m : Int => ceil_iff (m := m) hl2 (d := d) (hd := d0)
    have ih := fun m : Int => last_iff (m := m) (h := h) (c := c) hh2 (d := d) (hd := d0)
    obtain ⟨la, hla⟩ : ∃ la, la = (if (h.1 * d).fdiv h.2 * h.2 = h.1 * d ∧ c = false then (h.1 * d).fdiv h.2 - 1 else (h.1 * d).fdiv h.2) := ⟨_, rfl⟩
    rw [← hla] at ih
    refine wp_seqJ (fun ρ => ρ = [some (.val (spn lo h c)), some (.val (frD lo)), some (.val (frD h)), some (.val (.int d)), some (.val (.int (-((-lo.1 * d).fdiv lo.2)))), some (.val (.int la))]) ?_ ?_
    · walk_at "wk"
      simp only [at0, at1, retB, oMul_i, oInt_v, m3, m5, if_true]
      walk_at "wk"
      rw [show oIx (.val (spn lo h c)) (.val (.int 2)) = .ret (.val (.bool c)) from by unfold spn; walk_at "wk"]
      walk_at "wk"
      by_cases e : (h.1 * d).fdiv h.2 * h.2 = h.1 * d
      · rw [decide_eq_true e]
        cases c
        · rw [if_pos ⟨e, rfl⟩] at hla
          walk_at "wk"
          rw [hla, if_pos (by rfl)]
          walk_at "wk"
          try rfl
        · rw [if_neg (by simp)] at hla
          walk_at "wk"
          rw [hla, if_neg (by decide)]
          walk_at "wk"
          try rfl
      · rw [if_neg (fun z => e z.1)] at hla
        rw [decide_eq_false e]
        walk_at "wk"
        rw [hla, if_neg (by cases c <;> decide)]
        walk_at "wk"
        try rfl
    rintro ρ rfl
    generalize -((-lo.1 * d).fdiv lo.2) = fi at *
    walk_at "wk"
    refine wp_ite (fun le => ?_) (fun nle => ?_)
    · walk_at "wk"
      refine out_ok ⟨(max fi (min la 0), d), ⟨d0, ?_, fun m e he hm => ?_⟩, rfl⟩
      · exact ⟨(il (max fi (min la 0))).mp (by omega), (ih (max fi (min la 0))).mp (by omega)⟩
      · have de : d ≤ e := by
          by_cases z : d ≤ e
          · exact z
          · exact absurd hm (no m e he (by omega))
        refine ⟨de, fun ed => ?_⟩
        have ed : d = e := ed
        subst ed
        have k1 := (il m).mpr hm.1
        have k2 := (ih m).mpr hm.2
        show (max fi (min la 0)).natAbs ≤ m.natAbs
        omega
    · walk_at "wk"
      refine ⟨_, _, _, fun m e e0 e1 hm => ?_, rfl⟩
      by_cases z : e ≤ i
      · exact no m e e0 z hm
      · have ed : e = d := by omega
        subst ed
        have k1 := (il m).mpr hm.1
        have k2 := (ih m).mpr hm.2
        omega
theorem law_true : wp (m_law ([none, some .tape] ++ List.replicate 7 none)) (fun r => r = .rt (.val (.bool true))) := by
  unfold m_law
  refine wp_seqJ (fun ρ => ∃ lo h c, FB 23 lo ∧ FB 23 h ∧ vl lo < vl h ∧ ρ = [none, some .tape, some (.val (spn lo h c)), none, none, none, none, none, none]) ?_ ?_
  · walk_at "wk"
    refine drawn_wp fun lo h c hl hh lt => ?_
    walk_at "wk"
    exact ⟨lo, h, c, hl, hh, lt, rfl⟩
  rintro ρ ⟨lo, h, c, hl, hh, lt, rfl⟩
  obtain ⟨r, fr, sr, e⟩ := simplest_eq (c := c) hl hh lt
  refine wp_seqJ (fun ρ => ρ = [none, some .tape, some (.val (spn lo h c)), some (.val (frD r)), none, none, none, none, none]) ?_ ?_
  · walk_at "wk"
    rw [e]
    walk_at "wk"
    rfl
  rintro ρ rfl
  have rp : RepOk (frD r) := rep_fr (fr.b1.up (by decide)) (fr.b2.up (by decide))
  refine wp_seqJ (fun ρ => ρ = [none, some .tape, some (.val (spn lo h c)), some (.val (frD r)), none, none, none, none, none]) ?_ ?_
  · walk_at "wk"
    rw [repr_ok rp]
    walk_at "wk"
    refine lsimp_wp hl hh lt fun s hs => ?_
    rw [hs.one sr]
    walk_at "wk"
    rw [repr_ok rp]
    walk_at "wk"
    try rw [ne_same]
    walk_at "wk"
    rw [lies_eq (fr.up (by decide)) hl hh, decide_eq_true sr.inn]
    walk_at "wk"
    rfl
  rintro ρ rfl
  refine wp_seqJ (fun ρ => ρ = [none, some .tape, some (.val (spn lo h c)), some (.val (frD r)), some (.val (frD lo)), none, none, none, none]) ?_ ?_
  · unfold spn
    walk_at "wk"
    rfl
  rintro ρ rfl
  refine wp_seqJ (fun ρ => ρ = [none, some .tape, some (.val (spn lo h c)), some (.val (frD r)), some (.val (frD lo)), some (.val (frD h)), none, none, none]) ?_ ?_
  · unfold spn
    walk_at "wk"
    rfl
  rintro ρ rfl
  walk_at "wk"
  refine wp_drawn (by decide) fun a a0 a1 => ?_
  walk_at "wk"
  refine wp_drawn (by decide) fun b b0 b1 => ?_
  walk_at "wk"
  simp only [at0, at1, retB, oMul_i]
  have Bw : Bd 7 (1 + a + b - (1 + a)) := .of (by omega)
  have Bp : Bd 7 (1 + a) := .of (by omega)
  have Bt : Bd 7 (1 + a + b) := .of (by omega)
  have c1 : Bd 46 (lo.1 * h.2) := Bd.mul 46 hl.b1 hh.b2 (by decide)
  have c2 : Bd 46 (h.1 * lo.2) := Bd.mul 46 hh.b1 hl.b2 (by decide)
  have c3 : Bd 46 (lo.2 * h.2) := Bd.mul 46 hl.b2 hh.b2 (by decide)
  rw [if_pos (bmul (hl.b1.up (by decide)) (hh.b2.up (by decide)))]
  walk_at "wk"
  rw [if_pos (bmul (c1.up (by decide)) (Bw.up (by decide)))]
  walk_at "wk"
  rw [if_pos (bmul (hh.b1.up (by decide)) (hl.b2.up (by decide)))]
  walk_at "wk"
  rw [if_pos (bmul (c2.up (by decide)) (Bp.up (by decide)))]
  walk_at "wk"
  rw [if_pos (bmul (hl.b2.up (by decide)) (hh.b2.up (by decide)))]
  walk_at "wk"
  rw [if_pos (bmul (c3.up (by decide)) (Bt.up (by decide)))]
  walk_at "wk"
  have dn : lo.2 * h.2 * (1 + a + b) ≠ 0 := Int.mul_ne_zero (Int.mul_ne_zero hl.nz hh.nz) (by omega)
  have d1 : Bd 60 (lo.2 * h.2 * (1 + a + b)) := Bd.mul 60 c3 Bt (by decide)
  have n1 : Bd 60 (lo.1 * h.2 * (1 + a + b - (1 + a)) + h.1 * lo.2 * (1 + a)) := Bd.add 60 (Bd.mul 53 c1 Bw (by decide)) (Bd.mul 53 c2 Bp (by decide)) (by decide) (by decide)
  rw [llow_eq dn (d1.up (by decide))]
  walk_at "wk"
  have fo := low_FB dn n1 d1
  generalize low (lo.1 * h.2 * (1 + a + b - (1 + a)) + h.1 * lo.2 * (1 + a)) (lo.2 * h.2 * (1 + a + b)) = o at *
  rw [lies_eq (fo.up (by decide)) hl hh]
  walk_at "wk"
  by_cases i : InS lo h c (vl o)
  · rw [decide_eq_true i]
    walk_at "wk"
    simp only [at0, at1, retB]
    walk_at "wk"
    obtain ⟨k1, _⟩ := sr.least o.1 o.2 fo.pos i
    rw [decide_eq_true k1]
  · rw [decide_eq_false i]
    walk_at "wk"

section
variable {P : Program} {w : World} {K : PySem.W.Frag} {mg : Str → Option Value} {base : Heap}
theorem fn_law {f : Addr} {fd : FuncData} (M : Blt mg) (F : Fun K "law" "law" s_law f fd) (D_law_tape : Df P w K mg base 1 "_law_tape" ["script"] (sp_law_tape K)) (D_law_drawn_span : Df P w K mg base 4 "_law_drawn_span" ["tape"] (spU K f_law_drawn_span)) (D_simplest : Df P w K mg base 5 "simplest" ["span"] (spU K f_simplest)) (D_law_lowest : Df P w K mg base 1 "_law_lowest" ["n", "d"] (spU K f_law_lowest)) (D_law_draw : Df P w K mg base 1 "_law_draw" ["tape", "many"] (sp_law_draw K)) (D_law_lies_in : Df P w K mg base 3 "_law_lies_in" ["x", "span"] (spU K f_law_lies_in)) (D_law_simplest : Df P w K mg base 1 "_law_simplest" ["span"] (spU K f_law_simplest)) : FnG P w K mg base 6 f fd ["script"] (spLaw K) := by
  have nd := sc_law.nd
  refine FnG.of F sc_law (fun vs H Q E h => ?_) (fun cdv A out s H vs Q E hr hgd h => ?_)
  · obtain ⟨a, ns, rfl, _⟩ := h
    rfl
  · obtain ⟨a, ns, rfl, hS, hlen, q⟩ := h
    refine ⟨_, pss_cons (ps_set (i := 1) nd rfl (Or.inl rfl) (pe_df D_law_tape (hr.mono (by decide)) hgd rfl (pa_cons (pv 0) pa_nil)))
      (pss_cons (ps_set (i := 2) nd rfl (Or.inl rfl) (pe_df D_law_drawn_span (hr.mono (by decide)) hgd rfl (pa_cons (pv 1) pa_nil)))
      (pss_cons (ps_set (i := 3) nd rfl (Or.inl rfl) (pe_df D_simplest (hr.mono (by decide)) hgd rfl (pa_cons (pv 2) pa_nil)))
      (pss_cons (ps_if (PW.pt (pw_or (pt_cmpR (opNe K hr.units) (pe_callB (reprK K hr.units hgd) (by rfl) M.repr (by decide +kernel) (pa_cons (pv 3) pa_nil)) (pe_callB (reprK K hr.units hgd) (by rfl) M.repr (by decide +kernel) (pa_cons (pe_df D_law_simplest (hr.mono (by decide)) hgd rfl (pa_cons (pv 2) pa_nil)) pa_nil)) (nomark _)) (pw_or1 (pt_not (truK K (pe_df D_law_lies_in (hr.mono (by decide)) hgd rfl (pa_cons (pv 3) (pa_cons (pv 2) pa_nil)))))))) (pss_one (ps_ret pe_bl)) pss_nil)
      (pss_cons (ps_set (i := 4) nd rfl (Or.inl rfl) (pe_ix (ixU K) (pv 2) pe_int (fun _ _ => rfl)))
      (pss_cons (ps_set (i := 5) nd rfl (Or.inl rfl) (pe_ix (ixU K) (pv 2) pe_int (fun _ _ => rfl)))
      (pss_cons (ps_set (i := 6) nd rfl (Or.inl rfl) (pe_op (opAdd K) pe_int (pe_df D_law_draw (hr.mono (by decide)) hgd rfl (pa_cons (pv 1) (pa_cons pe_int pa_nil)))))
      (pss_cons (ps_set (i := 7) nd rfl (Or.inl rfl) (pe_op (opAdd K) (pv 6) (pe_df D_law_draw (hr.mono (by decide)) hgd rfl (pa_cons (pv 1) (pa_cons pe_int pa_nil)))))
      (pss_cons (ps_set (i := 8) nd rfl (Or.inl rfl) (pe_df D_law_lowest (hr.mono (by decide)) hgd rfl (pa_cons (pe_op (opAdd K) (pe_op (opMul K) (pe_op (opMul K) (pe_ix (ixU K) (pv 4) pe_int (fun _ _ => rfl)) (pe_ix (ixU K) (pv 5) pe_int (fun _ _ => rfl))) (pe_op op_sub (pv 7) (pv 6))) (pe_op (opMul K) (pe_op (opMul K) (pe_ix (ixU K) (pv 5) pe_int (fun _ _ => rfl)) (pe_ix (ixU K) (pv 4) pe_int (fun _ _ => rfl))) (pv 6))) (pa_cons (pe_op (opMul K) (pe_op (opMul K) (pe_ix (ixU K) (pv 4) pe_int (fun _ _ => rfl)) (pe_ix (ixU K) (pv 5) pe_int (fun _ _ => rfl))) (pv 7)) pa_nil))))
      (pss_one (ps_ret (orT K (notT K (pe_df D_law_lies_in (hr.mono (by decide)) hgd rfl (pa_cons (pv 8) (pa_cons (pv 2) pa_nil)))) (pe_one (pe_cmpR op_le (pe_ix (ixU K) (pv 3) pe_int (fun _ _ => rfl)) (pe_ix (ixU K) (pv 8) pe_int (fun _ _ => rfl)) (nomark _)))))))))))))), at_start (σ := [some (.ref a), none] ++ List.replicate 7 none) rfl ?_⟩
    exact law_go (k := 7) (m := m_law) (ns := ns)
      (rs_seq (rs_asg (re_fn (ra_cons (re_var (i := 1)) ra_nil)) (rg_name (i := 2)))
      (rs_seq (rs_asg (re_fn (ra_cons (re_var (i := 2)) ra_nil)) (rg_name (i := 3)))
      (rs_seq (rs_if (rt_or (rt_test (re_op os_ne (re_call cs_repr (ra_cons (re_var (i := 3)) ra_nil)) (re_call cs_repr (ra_cons (re_fn (ra_cons (re_var (i := 2)) ra_nil)) ra_nil)))) (rt_not (rt_tru (re_fn (ra_cons (re_var (i := 3)) (ra_cons (re_var (i := 2)) ra_nil)))))) (rs_ret re_bl) rs_next)
      (rs_seq (rs_asg (re_op os_ix (re_var (i := 2)) re_int) (rg_name (i := 4)))
      (rs_seq (rs_asg (re_op os_ix (re_var (i := 2)) re_int) (rg_name (i := 5)))
      (rs_seq (rs_asg (re_op os_add re_int (re_draw (ra_cons (re_var (i := 1)) (ra_cons re_int ra_nil)))) (rg_name (i := 6)))
      (rs_seq (rs_asg (re_op os_add (re_var (i := 6)) (re_draw (ra_cons (re_var (i := 1)) (ra_cons re_int ra_nil)))) (rg_name (i := 7)))
      (rs_seq (rs_asg (re_fn (ra_cons (re_op os_add (re_op os_mul (re_op os_mul (re_op os_ix (re_var (i := 4)) re_int) (re_op os_ix (re_var (i := 5)) re_int)) (re_op os_sub (re_var (i := 7)) (re_var (i := 6)))) (re_op os_mul (re_op os_mul (re_op os_ix (re_var (i := 5)) re_int) (re_op os_ix (re_var (i := 4)) re_int)) (re_var (i := 6)))) (ra_cons (re_op os_mul (re_op os_mul (re_op os_ix (re_var (i := 4)) re_int) (re_op os_ix (re_var (i := 5)) re_int)) (re_var (i := 7))) ra_nil))) (rg_name (i := 8)))
      (rs_ret (re_or (re_not (re_fn (ra_cons (re_var (i := 8)) (ra_cons (re_var (i := 2)) ra_nil)))) (re_op os_cmp0 (re_op os_ix (re_var (i := 3)) re_int) (re_op os_ix (re_var (i := 8)) re_int))))))))))))
      hS hlen (wp_out law_true) q
end

theorem all_mk {l : PySem.W.OpenLaw} {w : World} {K : PySem.W.Frag} {h : Heap} {mg : Str → Option Value} {fa : Addr} (X : K.In h) (G : h.Ns mainGlobals mg) (hfa : mg "law" = some (.ref fa))
    {f_lowest f_plus f_minus f_over f_compare f_floor_of f_ceiling_of f_simplest f_simplest_between f_first_whole f_law_tape f_law_draw f_law_lowest f_law_cell_kind f_law_comes_before f_law_ends f_law_edge f_law_span f_law_simplest f_law_lies_in f_law_drawn_span f_law : Addr}
    {od_lowest an_lowest : Option Addr} {sl_lowest : Array (Option Value)} {oc_lowest kV_lowest dc_lowest pm_lowest cd_lowest ct_lowest : Value}
    {od_plus an_plus : Option Addr} {sl_plus : Array (Option Value)} {oc_plus kV_plus dc_plus pm_plus cd_plus ct_plus : Value}
    {od_minus an_minus : Option Addr} {sl_minus : Array (Option Value)} {oc_minus kV_minus dc_minus pm_minus cd_minus ct_minus : Value}
    {od_over an_over : Option Addr} {sl_over : Array (Option Value)} {oc_over kV_over dc_over pm_over cd_over ct_over : Value}
    {od_compare an_compare : Option Addr} {sl_compare : Array (Option Value)} {oc_compare kV_compare dc_compare pm_compare cd_compare ct_compare : Value}
    {od_floor_of an_floor_of : Option Addr} {sl_floor_of : Array (Option Value)} {oc_floor_of kV_floor_of dc_floor_of pm_floor_of cd_floor_of ct_floor_of : Value}
    {od_ceiling_of an_ceiling_of : Option Addr} {sl_ceiling_of : Array (Option Value)} {oc_ceiling_of kV_ceiling_of dc_ceiling_of pm_ceiling_of cd_ceiling_of ct_ceiling_of : Value}
    {od_simplest an_simplest : Option Addr} {sl_simplest : Array (Option Value)} {oc_simplest kV_simplest dc_simplest pm_simplest cd_simplest ct_simplest : Value}
    {od_simplest_between an_simplest_between : Option Addr} {sl_simplest_between : Array (Option Value)} {oc_simplest_between kV_simplest_between dc_simplest_between pm_simplest_between cd_simplest_between ct_simplest_between : Value}
    {od_first_whole an_first_whole : Option Addr} {sl_first_whole : Array (Option Value)} {oc_first_whole kV_first_whole dc_first_whole pm_first_whole cd_first_whole ct_first_whole : Value}
    {od_law_tape an_law_tape : Option Addr} {sl_law_tape : Array (Option Value)} {oc_law_tape kV_law_tape dc_law_tape pm_law_tape cd_law_tape ct_law_tape : Value}
    {od_law_draw an_law_draw : Option Addr} {sl_law_draw : Array (Option Value)} {oc_law_draw kV_law_draw dc_law_draw pm_law_draw cd_law_draw ct_law_draw : Value}
    {od_law_lowest an_law_lowest : Option Addr} {sl_law_lowest : Array (Option Value)} {oc_law_lowest kV_law_lowest dc_law_lowest pm_law_lowest cd_law_lowest ct_law_lowest : Value}
    {od_law_cell_kind an_law_cell_kind : Option Addr} {sl_law_cell_kind : Array (Option Value)} {oc_law_cell_kind kV_law_cell_kind dc_law_cell_kind pm_law_cell_kind cd_law_cell_kind ct_law_cell_kind : Value}
    {od_law_comes_before an_law_comes_before : Option Addr} {sl_law_comes_before : Array (Option Value)} {oc_law_comes_before kV_law_comes_before dc_law_comes_before pm_law_comes_before cd_law_comes_before ct_law_comes_before : Value}
    {od_law_ends an_law_ends : Option Addr} {sl_law_ends : Array (Option Value)} {oc_law_ends kV_law_ends dc_law_ends pm_law_ends cd_law_ends ct_law_ends : Value}
    {od_law_edge an_law_edge : Option Addr} {sl_law_edge : Array (Option Value)} {oc_law_edge kV_law_edge dc_law_edge pm_law_edge cd_law_edge ct_law_edge : Value}
    {od_law_span an_law_span : Option Addr} {sl_law_span : Array (Option Value)} {oc_law_span kV_law_span dc_law_span pm_law_span cd_law_span ct_law_span : Value}
    {od_law_simplest an_law_simplest : Option Addr} {sl_law_simplest : Array (Option Value)} {oc_law_simplest kV_law_simplest dc_law_simplest pm_law_simplest cd_law_simplest ct_law_simplest : Value}
    {od_law_lies_in an_law_lies_in : Option Addr} {sl_law_lies_in : Array (Option Value)} {oc_law_lies_in kV_law_lies_in dc_law_lies_in pm_law_lies_in cd_law_lies_in ct_law_lies_in : Value}
    {od_law_drawn_span an_law_drawn_span : Option Addr} {sl_law_drawn_span : Array (Option Value)} {oc_law_drawn_span kV_law_drawn_span dc_law_drawn_span pm_law_drawn_span cd_law_drawn_span ct_law_drawn_span : Value}
    {od_law an_law : Option Addr} {sl_law : Array (Option Value)} {oc_law kV_law dc_law pm_law cd_law ct_law : Value}
    (a_lowest : PySem.W.nsIn K mainGlobals "lowest" = some (some (.ref f_lowest))) (l_lowest : K.lookup f_lowest = some ⟨oc_lowest, od_lowest, .func (PySem.W.fnOf "lowest" "lowest" (defArgs s_lowest) (defBody s_lowest) (defScope s_lowest) .none kV_lowest dc_lowest pm_lowest an_lowest cd_lowest ct_lowest), sl_lowest⟩) (c_lowest : PySem.W.codeIn K cd_lowest "lowest" = true) (k_lowest : PySem.W.keepIn K (.ref f_lowest) = true)
    (a_plus : PySem.W.nsIn K mainGlobals "plus" = some (some (.ref f_plus))) (l_plus : K.lookup f_plus = some ⟨oc_plus, od_plus, .func (PySem.W.fnOf "plus" "plus" (defArgs s_plus) (defBody s_plus) (defScope s_plus) .none kV_plus dc_plus pm_plus an_plus cd_plus ct_plus), sl_plus⟩) (c_plus : PySem.W.codeIn K cd_plus "plus" = true) (k_plus : PySem.W.keepIn K (.ref f_plus) = true)
    (a_minus : PySem.W.nsIn K mainGlobals "minus" = some (some (.ref f_minus))) (l_minus : K.lookup f_minus = some ⟨oc_minus, od_minus, .func (PySem.W.fnOf "minus" "minus" (defArgs s_minus) (defBody s_minus) (defScope s_minus) .none kV_minus dc_minus pm_minus an_minus cd_minus ct_minus), sl_minus⟩) (c_minus : PySem.W.codeIn K cd_minus "minus" = true) (k_minus : PySem.W.keepIn K (.ref f_minus) = true)
    (a_over : PySem.W.nsIn K mainGlobals "over" = some (some (.ref f_over))) (l_over : K.lookup f_over = some ⟨oc_over, od_over, .func (PySem.W.fnOf "over" "over" (defArgs s_over) (defBody s_over) (defScope s_over) .none kV_over dc_over pm_over an_over cd_over ct_over), sl_over⟩) (c_over : PySem.W.codeIn K cd_over "over" = true) (k_over : PySem.W.keepIn K (.ref f_over) = true)
    (a_compare : PySem.W.nsIn K mainGlobals "compare" = some (some (.ref f_compare))) (l_compare : K.lookup f_compare = some ⟨oc_compare, od_compare, .func (PySem.W.fnOf "compare" "compare" (defArgs s_compare) (defBody s_compare) (defScope s_compare) .none kV_compare dc_compare pm_compare an_compare cd_compare ct_compare), sl_compare⟩) (c_compare : PySem.W.codeIn K cd_compare "compare" = true) (k_compare : PySem.W.keepIn K (.ref f_compare) = true)
    (a_floor_of : PySem.W.nsIn K mainGlobals "floor_of" = some (some (.ref f_floor_of))) (l_floor_of : K.lookup f_floor_of = some ⟨oc_floor_of, od_floor_of, .func (PySem.W.fnOf "floor_of" "floor_of" (defArgs s_floor_of) (defBody s_floor_of) (defScope s_floor_of) .none kV_floor_of dc_floor_of pm_floor_of an_floor_of cd_floor_of ct_floor_of), sl_floor_of⟩) (c_floor_of : PySem.W.codeIn K cd_floor_of "floor_of" = true) (k_floor_of : PySem.W.keepIn K (.ref f_floor_of) = true)
    (a_ceiling_of : PySem.W.nsIn K mainGlobals "ceiling_of" = some (some (.ref f_ceiling_of))) (l_ceiling_of : K.lookup f_ceiling_of = some ⟨oc_ceiling_of, od_ceiling_of, .func (PySem.W.fnOf "ceiling_of" "ceiling_of" (defArgs s_ceiling_of) (defBody s_ceiling_of) (defScope s_ceiling_of) .none kV_ceiling_of dc_ceiling_of pm_ceiling_of an_ceiling_of cd_ceiling_of ct_ceiling_of), sl_ceiling_of⟩) (c_ceiling_of : PySem.W.codeIn K cd_ceiling_of "ceiling_of" = true) (k_ceiling_of : PySem.W.keepIn K (.ref f_ceiling_of) = true)
    (a_simplest : PySem.W.nsIn K mainGlobals "simplest" = some (some (.ref f_simplest))) (l_simplest : K.lookup f_simplest = some ⟨oc_simplest, od_simplest, .func (PySem.W.fnOf "simplest" "simplest" (defArgs s_simplest) (defBody s_simplest) (defScope s_simplest) .none kV_simplest dc_simplest pm_simplest an_simplest cd_simplest ct_simplest), sl_simplest⟩) (c_simplest : PySem.W.codeIn K cd_simplest "simplest" = true) (k_simplest : PySem.W.keepIn K (.ref f_simplest) = true)
    (a_simplest_between : PySem.W.nsIn K mainGlobals "simplest_between" = some (some (.ref f_simplest_between))) (l_simplest_between : K.lookup f_simplest_between = some ⟨oc_simplest_between, od_simplest_between, .func (PySem.W.fnOf "simplest_between" "simplest_between" (defArgs s_simplest_between) (defBody s_simplest_between) (defScope s_simplest_between) .none kV_simplest_between dc_simplest_between pm_simplest_between an_simplest_between cd_simplest_between ct_simplest_between), sl_simplest_between⟩) (c_simplest_between : PySem.W.codeIn K cd_simplest_between "simplest_between" = true) (k_simplest_between : PySem.W.keepIn K (.ref f_simplest_between) = true)
    (a_first_whole : PySem.W.nsIn K mainGlobals "first_whole" = some (some (.ref f_first_whole))) (l_first_whole : K.lookup f_first_whole = some ⟨oc_first_whole, od_first_whole, .func (PySem.W.fnOf "first_whole" "first_whole" (defArgs s_first_whole) (defBody s_first_whole) (defScope s_first_whole) .none kV_first_whole dc_first_whole pm_first_whole an_first_whole cd_first_whole ct_first_whole), sl_first_whole⟩) (c_first_whole : PySem.W.codeIn K cd_first_whole "first_whole" = true) (k_first_whole : PySem.W.keepIn K (.ref f_first_whole) = true)
    (a_law_tape : PySem.W.nsIn K mainGlobals "_law_tape" = some (some (.ref f_law_tape))) (l_law_tape : K.lookup f_law_tape = some ⟨oc_law_tape, od_law_tape, .func (PySem.W.fnOf "_law_tape" "_law_tape" (defArgs s_law_tape) (defBody s_law_tape) (defScope s_law_tape) .none kV_law_tape dc_law_tape pm_law_tape an_law_tape cd_law_tape ct_law_tape), sl_law_tape⟩) (c_law_tape : PySem.W.codeIn K cd_law_tape "_law_tape" = true) (k_law_tape : PySem.W.keepIn K (.ref f_law_tape) = true)
    (a_law_draw : PySem.W.nsIn K mainGlobals "_law_draw" = some (some (.ref f_law_draw))) (l_law_draw : K.lookup f_law_draw = some ⟨oc_law_draw, od_law_draw, .func (PySem.W.fnOf "_law_draw" "_law_draw" (defArgs s_law_draw) (defBody s_law_draw) (defScope s_law_draw) .none kV_law_draw dc_law_draw pm_law_draw an_law_draw cd_law_draw ct_law_draw), sl_law_draw⟩) (c_law_draw : PySem.W.codeIn K cd_law_draw "_law_draw" = true) (k_law_draw : PySem.W.keepIn K (.ref f_law_draw) = true)
    (a_law_lowest : PySem.W.nsIn K mainGlobals "_law_lowest" = some (some (.ref f_law_lowest))) (l_law_lowest : K.lookup f_law_lowest = some ⟨oc_law_lowest, od_law_lowest, .func (PySem.W.fnOf "_law_lowest" "_law_lowest" (defArgs s_law_lowest) (defBody s_law_lowest) (defScope s_law_lowest) .none kV_law_lowest dc_law_lowest pm_law_lowest an_law_lowest cd_law_lowest ct_law_lowest), sl_law_lowest⟩) (c_law_lowest : PySem.W.codeIn K cd_law_lowest "_law_lowest" = true) (k_law_lowest : PySem.W.keepIn K (.ref f_law_lowest) = true)
    (a_law_cell_kind : PySem.W.nsIn K mainGlobals "_law_cell_kind" = some (some (.ref f_law_cell_kind))) (l_law_cell_kind : K.lookup f_law_cell_kind = some ⟨oc_law_cell_kind, od_law_cell_kind, .func (PySem.W.fnOf "_law_cell_kind" "_law_cell_kind" (defArgs s_law_cell_kind) (defBody s_law_cell_kind) (defScope s_law_cell_kind) .none kV_law_cell_kind dc_law_cell_kind pm_law_cell_kind an_law_cell_kind cd_law_cell_kind ct_law_cell_kind), sl_law_cell_kind⟩) (c_law_cell_kind : PySem.W.codeIn K cd_law_cell_kind "_law_cell_kind" = true) (k_law_cell_kind : PySem.W.keepIn K (.ref f_law_cell_kind) = true)
    (a_law_comes_before : PySem.W.nsIn K mainGlobals "_law_comes_before" = some (some (.ref f_law_comes_before))) (l_law_comes_before : K.lookup f_law_comes_before = some ⟨oc_law_comes_before, od_law_comes_before, .func (PySem.W.fnOf "_law_comes_before" "_law_comes_before" (defArgs s_law_comes_before) (defBody s_law_comes_before) (defScope s_law_comes_before) .none kV_law_comes_before dc_law_comes_before pm_law_comes_before an_law_comes_before cd_law_comes_before ct_law_comes_before), sl_law_comes_before⟩) (c_law_comes_before : PySem.W.codeIn K cd_law_comes_before "_law_comes_before" = true) (k_law_comes_before : PySem.W.keepIn K (.ref f_law_comes_before) = true)
    (a_law_ends : PySem.W.nsIn K mainGlobals "_law_ends" = some (some (.ref f_law_ends))) (l_law_ends : K.lookup f_law_ends = some ⟨oc_law_ends, od_law_ends, .func (PySem.W.fnOf "_law_ends" "_law_ends" (defArgs s_law_ends) (defBody s_law_ends) (defScope s_law_ends) .none kV_law_ends dc_law_ends pm_law_ends an_law_ends cd_law_ends ct_law_ends), sl_law_ends⟩) (c_law_ends : PySem.W.codeIn K cd_law_ends "_law_ends" = true) (k_law_ends : PySem.W.keepIn K (.ref f_law_ends) = true)
    (a_law_edge : PySem.W.nsIn K mainGlobals "_law_edge" = some (some (.ref f_law_edge))) (l_law_edge : K.lookup f_law_edge = some ⟨oc_law_edge, od_law_edge, .func (PySem.W.fnOf "_law_edge" "_law_edge" (defArgs s_law_edge) (defBody s_law_edge) (defScope s_law_edge) .none kV_law_edge dc_law_edge pm_law_edge an_law_edge cd_law_edge ct_law_edge), sl_law_edge⟩) (c_law_edge : PySem.W.codeIn K cd_law_edge "_law_edge" = true) (k_law_edge : PySem.W.keepIn K (.ref f_law_edge) = true)
    (a_law_span : PySem.W.nsIn K mainGlobals "_law_span" = some (some (.ref f_law_span))) (l_law_span : K.lookup f_law_span = some ⟨oc_law_span, od_law_span, .func (PySem.W.fnOf "_law_span" "_law_span" (defArgs s_law_span) (defBody s_law_span) (defScope s_law_span) .none kV_law_span dc_law_span pm_law_span an_law_span cd_law_span ct_law_span), sl_law_span⟩) (c_law_span : PySem.W.codeIn K cd_law_span "_law_span" = true) (k_law_span : PySem.W.keepIn K (.ref f_law_span) = true)
    (a_law_simplest : PySem.W.nsIn K mainGlobals "_law_simplest" = some (some (.ref f_law_simplest))) (l_law_simplest : K.lookup f_law_simplest = some ⟨oc_law_simplest, od_law_simplest, .func (PySem.W.fnOf "_law_simplest" "_law_simplest" (defArgs s_law_simplest) (defBody s_law_simplest) (defScope s_law_simplest) .none kV_law_simplest dc_law_simplest pm_law_simplest an_law_simplest cd_law_simplest ct_law_simplest), sl_law_simplest⟩) (c_law_simplest : PySem.W.codeIn K cd_law_simplest "_law_simplest" = true) (k_law_simplest : PySem.W.keepIn K (.ref f_law_simplest) = true)
    (a_law_lies_in : PySem.W.nsIn K mainGlobals "_law_lies_in" = some (some (.ref f_law_lies_in))) (l_law_lies_in : K.lookup f_law_lies_in = some ⟨oc_law_lies_in, od_law_lies_in, .func (PySem.W.fnOf "_law_lies_in" "_law_lies_in" (defArgs s_law_lies_in) (defBody s_law_lies_in) (defScope s_law_lies_in) .none kV_law_lies_in dc_law_lies_in pm_law_lies_in an_law_lies_in cd_law_lies_in ct_law_lies_in), sl_law_lies_in⟩) (c_law_lies_in : PySem.W.codeIn K cd_law_lies_in "_law_lies_in" = true) (k_law_lies_in : PySem.W.keepIn K (.ref f_law_lies_in) = true)
    (a_law_drawn_span : PySem.W.nsIn K mainGlobals "_law_drawn_span" = some (some (.ref f_law_drawn_span))) (l_law_drawn_span : K.lookup f_law_drawn_span = some ⟨oc_law_drawn_span, od_law_drawn_span, .func (PySem.W.fnOf "_law_drawn_span" "_law_drawn_span" (defArgs s_law_drawn_span) (defBody s_law_drawn_span) (defScope s_law_drawn_span) .none kV_law_drawn_span dc_law_drawn_span pm_law_drawn_span an_law_drawn_span cd_law_drawn_span ct_law_drawn_span), sl_law_drawn_span⟩) (c_law_drawn_span : PySem.W.codeIn K cd_law_drawn_span "_law_drawn_span" = true) (k_law_drawn_span : PySem.W.keepIn K (.ref f_law_drawn_span) = true)
    (a_law : PySem.W.nsIn K mainGlobals "law" = some (some (.ref f_law))) (l_law : K.lookup f_law = some ⟨oc_law, od_law, .func (PySem.W.fnOf "law" "law" (defArgs s_law) (defBody s_law) (defScope s_law) .none kV_law dc_law pm_law an_law cd_law ct_law), sl_law⟩) (c_law : PySem.W.codeIn K cd_law "law" = true) (k_law : PySem.W.keepIn K (.ref f_law) = true)
    (a_gcd : PySem.W.nsIn K mainGlobals "gcd" = some (some (.builtin "math.gcd"))) {a0 a1 : Addr} (a_z : PySem.W.nsIn K mainGlobals "ZERO" = some (some (.ref a0))) {o0 o1 : Obj} (l_z : K.lookup a0 = some o0) (c_z : ktupI [0, 1] o0 = true) (a_o : PySem.W.nsIn K mainGlobals "ONE" = some (some (.ref a1))) (l_o : K.lookup a1 = some o1) (c_o : ktupI [1, 1] o1 = true)
    (z_abs : PySem.W.nsIn K mainGlobals "abs" = some none) (z_bool : PySem.W.nsIn K mainGlobals "bool" = some none) (z_int : PySem.W.nsIn K mainGlobals "int" = some none) (z_isinstance : PySem.W.nsIn K mainGlobals "isinstance" = some none) (z_len : PySem.W.nsIn K mainGlobals "len" = some none) (z_list : PySem.W.nsIn K mainGlobals "list" = some none) (z_max : PySem.W.nsIn K mainGlobals "max" = some none) (z_min : PySem.W.nsIn K mainGlobals "min" = some none) (z_range : PySem.W.nsIn K mainGlobals "range" = some none) (z_repr : PySem.W.nsIn K mainGlobals "repr" = some none) (z_reversed : PySem.W.nsIn K mainGlobals "reversed" = some none) (z_str : PySem.W.nsIn K mainGlobals "str" = some none) (z_tuple : PySem.W.nsIn K mainGlobals "tuple" = some none) :
    ∃ fd : FuncData, (∀ (s : Shared) (v : Value), BindsTo s fd ⟨[v], []⟩ [("script", v)]) ∧ ∀ base : Heap, K.In base → base.Ns mainGlobals mg → FnG l.prog w K mg base 6 fa fd ["script"] (spLaw K) := by
  have e := hfa.symm.trans (PySem.W.mg_of X G a_law)
  cases e
  have MB : Blt mg := ⟨PySem.W.mg_none_of X G z_abs, PySem.W.mg_none_of X G z_bool, PySem.W.mg_none_of X G z_int, PySem.W.mg_none_of X G z_isinstance, PySem.W.mg_none_of X G z_len, PySem.W.mg_none_of X G z_list, PySem.W.mg_none_of X G z_max, PySem.W.mg_none_of X G z_min, PySem.W.mg_none_of X G z_range, PySem.W.mg_none_of X G z_repr, PySem.W.mg_none_of X G z_reversed, PySem.W.mg_none_of X G z_str, PySem.W.mg_none_of X G z_tuple⟩
  have A_lowest : At K mg "lowest" s_lowest := ⟨_, _, PySem.W.mg_of X G a_lowest, fun_mk (st := s_lowest) l_lowest c_lowest k_lowest⟩
  have A_plus : At K mg "plus" s_plus := ⟨_, _, PySem.W.mg_of X G a_plus, fun_mk (st := s_plus) l_plus c_plus k_plus⟩
  have A_minus : At K mg "minus" s_minus := ⟨_, _, PySem.W.mg_of X G a_minus, fun_mk (st := s_minus) l_minus c_minus k_minus⟩
  have A_over : At K mg "over" s_over := ⟨_, _, PySem.W.mg_of X G a_over, fun_mk (st := s_over) l_over c_over k_over⟩
  have A_compare : At K mg "compare" s_compare := ⟨_, _, PySem.W.mg_of X G a_compare, fun_mk (st := s_compare) l_compare c_compare k_compare⟩
  have A_floor_of : At K mg "floor_of" s_floor_of := ⟨_, _, PySem.W.mg_of X G a_floor_of, fun_mk (st := s_floor_of) l_floor_of c_floor_of k_floor_of⟩
  have A_ceiling_of : At K mg "ceiling_of" s_ceiling_of := ⟨_, _, PySem.W.mg_of X G a_ceiling_of, fun_mk (st := s_ceiling_of) l_ceiling_of c_ceiling_of k_ceiling_of⟩
  have A_simplest : At K mg "simplest" s_simplest := ⟨_, _, PySem.W.mg_of X G a_simplest, fun_mk (st := s_simplest) l_simplest c_simplest k_simplest⟩
  have A_simplest_between : At K mg "simplest_between" s_simplest_between := ⟨_, _, PySem.W.mg_of X G a_simplest_between, fun_mk (st := s_simplest_between) l_simplest_between c_simplest_between k_simplest_between⟩
  have A_first_whole : At K mg "first_whole" s_first_whole := ⟨_, _, PySem.W.mg_of X G a_first_whole, fun_mk (st := s_first_whole) l_first_whole c_first_whole k_first_whole⟩
  have A_law_tape : At K mg "_law_tape" s_law_tape := ⟨_, _, PySem.W.mg_of X G a_law_tape, fun_mk (st := s_law_tape) l_law_tape c_law_tape k_law_tape⟩
  have A_law_draw : At K mg "_law_draw" s_law_draw := ⟨_, _, PySem.W.mg_of X G a_law_draw, fun_mk (st := s_law_draw) l_law_draw c_law_draw k_law_draw⟩
  have A_law_lowest : At K mg "_law_lowest" s_law_lowest := ⟨_, _, PySem.W.mg_of X G a_law_lowest, fun_mk (st := s_law_lowest) l_law_lowest c_law_lowest k_law_lowest⟩
  have A_law_cell_kind : At K mg "_law_cell_kind" s_law_cell_kind := ⟨_, _, PySem.W.mg_of X G a_law_cell_kind, fun_mk (st := s_law_cell_kind) l_law_cell_kind c_law_cell_kind k_law_cell_kind⟩
  have A_law_comes_before : At K mg "_law_comes_before" s_law_comes_before := ⟨_, _, PySem.W.mg_of X G a_law_comes_before, fun_mk (st := s_law_comes_before) l_law_comes_before c_law_comes_before k_law_comes_before⟩
  have A_law_ends : At K mg "_law_ends" s_law_ends := ⟨_, _, PySem.W.mg_of X G a_law_ends, fun_mk (st := s_law_ends) l_law_ends c_law_ends k_law_ends⟩
  have A_law_edge : At K mg "_law_edge" s_law_edge := ⟨_, _, PySem.W.mg_of X G a_law_edge, fun_mk (st := s_law_edge) l_law_edge c_law_edge k_law_edge⟩
  have A_law_span : At K mg "_law_span" s_law_span := ⟨_, _, PySem.W.mg_of X G a_law_span, fun_mk (st := s_law_span) l_law_span c_law_span k_law_span⟩
  have A_law_simplest : At K mg "_law_simplest" s_law_simplest := ⟨_, _, PySem.W.mg_of X G a_law_simplest, fun_mk (st := s_law_simplest) l_law_simplest c_law_simplest k_law_simplest⟩
  have A_law_lies_in : At K mg "_law_lies_in" s_law_lies_in := ⟨_, _, PySem.W.mg_of X G a_law_lies_in, fun_mk (st := s_law_lies_in) l_law_lies_in c_law_lies_in k_law_lies_in⟩
  have A_law_drawn_span : At K mg "_law_drawn_span" s_law_drawn_span := ⟨_, _, PySem.W.mg_of X G a_law_drawn_span, fun_mk (st := s_law_drawn_span) l_law_drawn_span c_law_drawn_span k_law_drawn_span⟩
  have A_law : At K mg "law" s_law := ⟨_, _, PySem.W.mg_of X G a_law, fun_mk (st := s_law) l_law c_law k_law⟩
  have GG : mg "gcd" = some (.builtin "math.gcd") := PySem.W.mg_of X G a_gcd
  have GM0 : mg "ZERO" = some (.ref a0) := PySem.W.mg_of X G a_z
  have GM1 : mg "ONE" = some (.ref a1) := PySem.W.mg_of X G a_o
  have GK0 : KTup K a0 [.int 0, .int 1] := ktupI_of l_z c_z
  have GK1 : KTup K a1 [.int 1, .int 1] := ktupI_of l_o c_o
  refine ⟨PySem.W.fnOf "law" "law" (defArgs s_law) (defBody s_law) (defScope s_law) .none kV_law dc_law pm_law an_law cd_law ct_law, fun s v => .of_eq rfl, fun base _ _ => ?_⟩
  have D_lowest := df_lowest (P := l.prog) (w := w) (base := base) MB A_lowest GG
  have D_plus := df_plus (P := l.prog) (w := w) (base := base) MB A_plus D_lowest
  have D_minus := df_minus (P := l.prog) (w := w) (base := base) MB A_minus D_lowest
  have D_over := df_over (P := l.prog) (w := w) (base := base) MB A_over D_lowest
  have D_compare := df_compare (P := l.prog) (w := w) (base := base) MB A_compare
  have D_floor_of := df_floor_of (P := l.prog) (w := w) (base := base) MB A_floor_of
  have D_ceiling_of := df_ceiling_of (P := l.prog) (w := w) (base := base) MB A_ceiling_of
  have D_first_whole := df_first_whole (P := l.prog) (w := w) (base := base) MB A_first_whole GM1 GK1 D_ceiling_of D_plus
  have D_simplest_between := df_simplest_between (P := l.prog) (w := w) (base := base) MB A_simplest_between GM1 GK1 D_first_whole D_plus D_compare D_floor_of D_over D_minus
  have D_simplest := df_simplest (P := l.prog) (w := w) (base := base) MB A_simplest GM0 GK0 D_minus D_compare D_simplest_between
  have D_law_tape := df_law_tape (P := l.prog) (w := w) (base := base) MB A_law_tape
  have D_law_draw := df_law_draw (P := l.prog) (w := w) (base := base) MB A_law_draw
  have D_law_lowest := df_law_lowest (P := l.prog) (w := w) (base := base) MB A_law_lowest
  have D_law_cell_kind := df_law_cell_kind (P := l.prog) (w := w) (base := base) MB A_law_cell_kind
  have D_law_comes_before := df_law_comes_before (P := l.prog) (w := w) (base := base) MB A_law_comes_before D_law_cell_kind
  have D_law_ends := df_law_ends (P := l.prog) (w := w) (base := base) MB A_law_ends D_law_draw D_law_lowest
  have D_law_edge := df_law_edge (P := l.prog) (w := w) (base := base) MB A_law_edge D_law_lowest
  have D_law_span := df_law_span (P := l.prog) (w := w) (base := base) MB A_law_span D_law_edge
  have D_law_simplest := df_law_simplest (P := l.prog) (w := w) (base := base) MB A_law_simplest
  have D_law_lies_in := df_law_lies_in (P := l.prog) (w := w) (base := base) MB A_law_lies_in D_law_comes_before
  have D_law_drawn_span := df_law_drawn_span (P := l.prog) (w := w) (base := base) MB A_law_drawn_span D_law_lowest D_law_draw D_law_ends D_law_span
  exact fn_law MB (fun_mk (st := s_law) l_law c_law k_law) D_law_tape D_law_drawn_span D_simplest D_law_lowest D_law_draw D_law_lies_in D_law_simplest

end Cs
open PySem PySem.W PyProof.Rows
set_option maxRecDepth 100000 in
set_option maxHeartbeats 0 in
theorem PySem.Challenge.cw_chartspec_k80_simplest_fractions_holds : PySem.Challenge.rw_chartspec_k80_simplest_fractions.Holds := by
  w_on; o_law; k_head; (case hw => w_witness2)
  k_fill
  refine Cs.walkG (k := 6) (x := "script") (sp := Cs.spLaw) (l := PySem.Challenge.rw_chartspec_k80_simplest_fractions) rfl (by decide) rfl ⟨rfl, by decide, by decide⟩ (fun w h Y => PySem.W.kIn_of Y) ?F Cs.law_start
  case F =>
    intro w mg fa h KX G hmg
    refine' Cs.all_mk KX G hmg ?a_lowest ?l_lowest ?c_lowest ?k_lowest ?a_plus ?l_plus ?c_plus ?k_plus ?a_minus ?l_minus ?c_minus ?k_minus ?a_over ?l_over ?c_over ?k_over ?a_compare ?l_compare ?c_compare ?k_compare ?a_floor_of ?l_floor_of ?c_floor_of ?k_floor_of ?a_ceiling_of ?l_ceiling_of ?c_ceiling_of ?k_ceiling_of ?a_simplest ?l_simplest ?c_simplest ?k_simplest ?a_simplest_between ?l_simplest_between ?c_simplest_between ?k_simplest_between ?a_first_whole ?l_first_whole ?c_first_whole ?k_first_whole ?a_law_tape ?l_law_tape ?c_law_tape ?k_law_tape ?a_law_draw ?l_law_draw ?c_law_draw ?k_law_draw ?a_law_lowest ?l_law_lowest ?c_law_lowest ?k_law_lowest ?a_law_cell_kind ?l_law_cell_kind ?c_law_cell_kind ?k_law_cell_kind ?a_law_comes_before ?l_law_comes_before ?c_law_comes_before ?k_law_comes_before ?a_law_ends ?l_law_ends ?c_law_ends ?k_law_ends ?a_law_edge ?l_law_edge ?c_law_edge ?k_law_edge ?a_law_span ?l_law_span ?c_law_span ?k_law_span ?a_law_simplest ?l_law_simplest ?c_law_simplest ?k_law_simplest ?a_law_lies_in ?l_law_lies_in ?c_law_lies_in ?k_law_lies_in ?a_law_drawn_span ?l_law_drawn_span ?c_law_drawn_span ?k_law_drawn_span ?a_law ?l_law ?c_law ?k_law ?a_gcd ?a_z ?l_z ?c_z ?a_o ?l_o ?c_o ?z_abs ?z_bool ?z_int ?z_isinstance ?z_len ?z_list ?z_max ?z_min ?z_range ?z_repr ?z_reversed ?z_str ?z_tuple
    (case a_lowest => k_is)
    (case l_lowest => k_is)
    (case c_lowest => k_is)
    (case k_lowest => k_is)
    (case a_plus => k_is)
    (case l_plus => k_is)
    (case c_plus => k_is)
    (case k_plus => k_is)
    (case a_minus => k_is)
    (case l_minus => k_is)
    (case c_minus => k_is)
    (case k_minus => k_is)
    (case a_over => k_is)
    (case l_over => k_is)
    (case c_over => k_is)
    (case k_over => k_is)
    (case a_compare => k_is)
    (case l_compare => k_is)
    (case c_compare => k_is)
    (case k_compare => k_is)
    (case a_floor_of => k_is)
    (case l_floor_of => k_is)
    (case c_floor_of => k_is)
    (case k_floor_of => k_is)
    (case a_ceiling_of => k_is)
    (case l_ceiling_of => k_is)
    (case c_ceiling_of => k_is)
    (case k_ceiling_of => k_is)
    (case a_simplest => k_is)
    (case l_simplest => k_is)
    (case c_simplest => k_is)
    (case k_simplest => k_is)
    (case a_simplest_between => k_is)
    (case l_simplest_between => k_is)
    (case c_simplest_between => k_is)
    (case k_simplest_between => k_is)
    (case a_first_whole => k_is)
    (case l_first_whole => k_is)
    (case c_first_whole => k_is)
    (case k_first_whole => k_is)
    (case a_law_tape => k_is)
    (case l_law_tape => k_is)
    (case c_law_tape => k_is)
    (case k_law_tape => k_is)
    (case a_law_draw => k_is)
    (case l_law_draw => k_is)
    (case c_law_draw => k_is)
    (case k_law_draw => k_is)
    (case a_law_lowest => k_is)
    (case l_law_lowest => k_is)
    (case c_law_lowest => k_is)
    (case k_law_lowest => k_is)
    (case a_law_cell_kind => k_is)
    (case l_law_cell_kind => k_is)
    (case c_law_cell_kind => k_is)
    (case k_law_cell_kind => k_is)
    (case a_law_comes_before => k_is)
    (case l_law_comes_before => k_is)
    (case c_law_comes_before => k_is)
    (case k_law_comes_before => k_is)
    (case a_law_ends => k_is)
    (case l_law_ends => k_is)
    (case c_law_ends => k_is)
    (case k_law_ends => k_is)
    (case a_law_edge => k_is)
    (case l_law_edge => k_is)
    (case c_law_edge => k_is)
    (case k_law_edge => k_is)
    (case a_law_span => k_is)
    (case l_law_span => k_is)
    (case c_law_span => k_is)
    (case k_law_span => k_is)
    (case a_law_simplest => k_is)
    (case l_law_simplest => k_is)
    (case c_law_simplest => k_is)
    (case k_law_simplest => k_is)
    (case a_law_lies_in => k_is)
    (case l_law_lies_in => k_is)
    (case c_law_lies_in => k_is)
    (case k_law_lies_in => k_is)
    (case a_law_drawn_span => k_is)
    (case l_law_drawn_span => k_is)
    (case c_law_drawn_span => k_is)
    (case k_law_drawn_span => k_is)
    (case a_law => k_is)
    (case l_law => k_is)
    (case c_law => k_is)
    (case k_law => k_is)
    (case z_abs => k_is)
    (case z_bool => k_is)
    (case z_int => k_is)
    (case z_isinstance => k_is)
    (case z_len => k_is)
    (case z_list => k_is)
    (case z_max => k_is)
    (case z_min => k_is)
    (case z_range => k_is)
    (case z_repr => k_is)
    (case z_reversed => k_is)
    (case z_str => k_is)
    (case z_tuple => k_is)
    (case a_gcd => k_is)
    (case a_z => k_is)
    (case l_z => k_is)
    (case c_z => kernel_rfl)
    (case a_o => k_is)
    (case l_o => k_is)
    (case c_o => kernel_rfl)
#print axioms PySem.Challenge.cw_chartspec_k80_simplest_fractions_holds

