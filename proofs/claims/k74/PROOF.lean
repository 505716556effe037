import PyProof.Rows.All
import Wide.All
import OpenK.AllK
import Wide.FinOn
import HandS.Base
import HandS.Call
import HandS.List
import HandS.Comp
import HandS.Ends
import HandS.Iter
import HandS.Text
import HandS.Words
import HandS.WordsList
import HandS.TupAny
import HandS.TupLe
import HandS.Rev
import HandS.Style
import HandS.Flow
import HandS.IsInst
import HandS.Codes
import HandS.FStrTup
import HandS.Walk
import HandS.More
import PyProof.StrBlock2
import HandS.Wide
import HandS.WideBits
import HandS.TupMul
import HandS.Deep
import HandS.SortInts
import HandS.Gcd
import HandS.Zip
import HandS.Conv
import HandS.NoneIn
import HandS.Strs
import HandS.Replace
import HandS.Defaults
import HandS.ForExc
import HandS.ExcInit
import HandS.ExcIs
import KE.KExcIs
import HandS.ExcField
import HandS.ExcOwn
import HandS.Small
import HandS.Dict
import HandS.DictComp
import KE.KDictZip
import HandS.RevTup
import KE.LtSeq
import KE.GoesMore
import PyProof.EnumMake
import PyProof.Draws
import PySem.Challenge.RW_chartspec_k74_labels_in_the_clear_and_ob
set_option Elab.async false
set_option linter.all false
set_option maxRecDepth 100000
set_option maxHeartbeats 4000000
/-! The layer's promises with one thing more: no repr is under way (A.guards = some []). -/
namespace Cs
open PySem PySem.Spec PyProof.Rows L2

/-- a def's promise, given where no repr is under way -/
structure FnG (P : Program) (w : World) (K : PySem.W.Frag) (mg : Str → Option Value) (base : Heap) (k : Nat) (f : Addr) (fd : FuncData) (ps : List Str) (sp : Sp) : Prop where
  len : ∀ vs H Q E, sp vs H Q E → vs.length = ps.length
  go : ∀ (A : Around) (out : List Env) (s : Shared) (H : Hp) (args : Args) (us : List Value) (vs : List V) (Q : VK) (E : XK),
    Room k A → A.guards = some [] → Env0 P w K mg base A out s H → BindsTo s fd args (ps.zip us) → Vals vs us → sp vs H Q E →
    codeAny (model P w) A (.call (.ref f) args) (CR CX0 out P w H s Q E) s

section
variable {P : Program} {w : World} {K : PySem.W.Frag} {mg : Str → Option Value} {base : Heap}

/-- the contexts of bodies: as cxOf, nothing leaves the def -/
abbrev cxG (P : Program) (w : World) (K : PySem.W.Frag) (mg : Str → Option Value) (base : Heap) (N : List Str) (qual : Str) (sc : Scope) (f : Addr) (cd : Value) (A : Around) (out : List Env) (s : Shared) (H : Hp) (E : XK) : Cx :=
  (cxOf CX0 P w K mg base N qual sc f cd A out s H E).nox

/-- a def by its body -/
theorem FnG.of {x qual : Str} {st : Stmt} {f : Addr} {fd : FuncData} {N ps : List Str} {k : Nat} {sp : Sp} (F : Fun K x qual st f fd) (S : FnScope N ps (defScope st)) (len : ∀ vs H Q E, sp vs H Q E → vs.length = ps.length)
    (body : ∀ (cdv : Value) (A : Around) (out : List Env) (s : Shared) (H : Hp) (vs : List V) (Q : VK) (E : XK), Room k (A.deeper (envOfC qual (defScope st) s.heap.objs.size f cdv)) → A.guards = some [] → sp vs H Q E →
      ∃ t, PSs (cxG P w K mg base N qual (defScope st) f cdv A out s H E) (defBody st) t ∧ t { nx := fun _ H' => Q .non H', rt := Q } (start N vs) H) :
    FnG P w K mg base (k + 1) f fd ps sp := by
  obtain ⟨oc, od, kV, doc, pm, an, cdv, ct, osl, rfl, lk, hcd⟩ := F.ex
  refine ⟨len, fun A out s H args us vs Q E hr hg e0 hb r hsp => ?_⟩
  have hl := len _ _ _ _ hsp
  have inK : K.In s.heap := e0.mod.kin.keeps fun b o e => (e0.bs b o e).1
  have noL : s.heap.NoLimit := e0.mod.nolimit.keeps fun b o e => (e0.bs b o e).1
  refine codeAny_call_function hr.depth (inK _ _ lk) rfl S.co S.gen rfl (PySem.W.codeRec_of inK hcd) (hb _ _ _ _ ?_)
  refine wpAny_newFunctionEnv_cells S.kind (fun y hy => ?_) fun env he s1 x => ?_
  · rcases S.par y.1 (List.of_mem_zip (show (y.1, y.2) ∈ ps.zip us from hy)).1 with q | q
    · exact Or.inl q
    · exact Or.inr ⟨q, PySem.W.cellsFrom_some _ _ _ (Or.inl q)⟩
  · subst he
    refine ⟨noL.keeps x.toInCall.keep, codeAny_func ?_⟩
    obtain ⟨t, ht, hq⟩ := body cdv A out s H vs Q E (hr.deeper _) hg hsp
    have I : Inv (cxOf CX0 P w K mg base N qual (defScope st) f cdv A out s H E) [] (start N vs) H s1 := inv_start S hr.hd e0 hl r x
    refine wpAny_mono (ht.nox.run [] s1 (start N vs) H _ I hq) (fun fl s' hs => ?_) fun e s' hs => hs
    have fin : ∀ {σ' : L2.St} {H' : Hp} {v : V} {u : Value}, Inv (cxOf CX0 P w K mg base N qual (defScope st) f cdv A out s H E) [] σ' H' s' → RelV v u → Q v H' → CE out P w H s Q u s' :=
      fun {σ' H' v u} J rv q => ⟨v, H', J.os, J.bare, J.base, J.hok, rv, q⟩
    cases fl with
    | next =>
      obtain ⟨σ', H', J, q⟩ := hs
      exact fin (v := V.non) (u := Value.none) J rfl q
    | ret u =>
      obtain ⟨v, σ', H', J, rv, q⟩ := hs
      exact fin J rv q
    | brk =>
      obtain ⟨_, _, _, q⟩ := hs
      exact q.elim
    | cont =>
      obtain ⟨_, _, _, q⟩ := hs
      exact q.elim
end

section
variable {X : Cx} {k : Nat} {f : Addr} {fd : FuncData} {ps : List Str} {sp : Sp} {x : Str} {p pos : Pos} {e : Expr} {es : List Expr} {t : TA}
theorem goFn {pins : List (Addr × Obj)} {σ : L2.St} {H : Hp} {s : Shared} {Q : VK} {us : List Value} {vs : List V} (F : FnG X.prog X.w X.K X.mg X.base k f fd ps sp) (hr : Room k X.A) (hg : X.A.guards = some []) (hb : Binds X.K fd ps [])
    (I : Inv X pins σ H s) (r : Vals vs us) (h : sp vs H Q E0) : wpAny (model X.prog X.w) X.A (call (.ref f) us) (EP X pins σ Q) X.xe s := by
  have hl : (us ++ []).length = ps.length := by rw [List.append_nil, ← r.length]; exact F.len _ _ _ _ h
  have hb' := hb s us I.kIn hl
  rw [List.append_nil] at hb'
  refine wpAny_call (codeAny_mono (F.go X.A X.stack s H ⟨us, []⟩ us vs Q E0 hr hg I.env0 hb' r h) fun r s' hq => ?_)
  match r, hq with
  | .ok (.ret u), hq => exact I.after hq
  | .error e, hq => exact False.elim hq
  | .ok .next, hq => exact False.elim hq
  | .ok .brk, hq => exact False.elim hq
  | .ok .cont, hq => exact False.elim hq
/-- f(a, ..): the callee's promise -/
def tFn (sp : Sp) (t : TA) : TE := fun σ H Q => t σ H fun vs H1 => sp vs H1 Q E0
theorem pe_fn (F : FnG X.prog X.w X.K X.mg X.base k f fd ps sp) (hr : Room k X.A) (hgd : X.A.guards = some []) (hg : Gl X x) (hm : X.mg x = some (.ref f)) (hk : PySem.W.keepIn X.K (.ref f) = true) (hb : Binds X.K fd ps [])
    (ha : PA X (e :: es) t) (hdb : (x == ("__debug__" : Str)) = false := by decide) (he : starEach (e :: es) X.env = (false, eval e X.env) :: starEach es X.env := by rfl) (hpl : (backTo pos (starEach es X.env)).any (·.1) = false := by rfl) :
    PE X (.Call (.Name x p) (e :: es) [] pos) (tFn sp t) := by
  refine ⟨fun pins s σ H Q I h => wpAny_Call_Name_kw (ld_glob I hg hm ?_ hdb)⟩
  refine PySem.W.callWith_K (h₀ := X.base) I.ok.mod.kin hk (thn (ha.run pos pins s σ H _ I h) fun us s1 ⟨vs, H1, I1, r, q⟩ => ⟨I1.kIn, ?_⟩) he hpl
  exact goFn F hr hgd hb I1 r q
theorem pe_fn0 (F : FnG X.prog X.w X.K X.mg X.base k f fd ps sp) (hr : Room k X.A) (hgd : X.A.guards = some []) (hg : Gl X x) (hm : X.mg x = some (.ref f)) (hk : PySem.W.keepIn X.K (.ref f) = true) (hb : Binds X.K fd ps [])
    (hdb : (x == ("__debug__" : Str)) = false := by decide) : PE X (.Call (.Name x p) [] [] pos) (tFn sp tNil) := by
  refine ⟨fun pins s σ H Q I h => wpAny_Call_Name_kw (ld_glob I hg hm ?_ hdb)⟩
  exact PySem.W.callWith_K0 I.kIn hk (goFn (us := []) F hr hgd hb I .nil h)

/-- repr(x) of data: what stands in the text -/
def rRepr (K : PySem.W.Frag) : List V → Hp → VK → Prop := fun vs H Q => ∃ (x : V) (d : PyData), vs = [x] ∧ Dp K H x d ∧ d.showable = true ∧ d.hasDict = false ∧ d.depth ≤ 40 ∧ d.shown.length ≤ sizeLine ∧ Q (.str d.shown) H
theorem call_repr (hu : X.A.units + 64 < cLine) (hg : X.A.guards = some []) : CallR X (.builtin "repr") (rRepr X.K) := by
  intro pins s σ H vs us Q I r h
  obtain ⟨x, d, rfl, hd, sh, nd, dp, sz, q⟩ := h
  cases r with
  | cons r1 rr =>
    cases rr
    rename_i u
    obtain ⟨as, rd⟩ := Dp.reads I d x u hd r1
    cases hd with
    | non =>
      cases r1
      exact PySem.P.repr_of_none ⟨.str _, H, I.tok _, ⟨_, rfl⟩, q⟩
    | bl b =>
      cases r1
      exact PySem.P.repr_of_bool ⟨.str _, H, I.tok _, ⟨_, rfl⟩, q⟩
    | int i =>
      obtain ⟨t, rfl⟩ := r1
      exact PySem.P.repr_of_int (of_decide_eq_true sh) ⟨.str _, H, I.tok _, ⟨_, rfl⟩, q⟩
    | str z =>
      obtain ⟨t, rfl⟩ := r1
      exact PySem.P.repr_of_str ⟨.str _, H, I.tok _, ⟨_, rfl⟩, q⟩ sz
    | lst h1 h2 =>
      cases r1
      exact repr_of_reads' rd sh (PyData.noDict_hsm nd) hg (by omega) (fun _ _ e => e) (fun h1 u tk hk => ⟨.str _, H, I.kept hk, ⟨u, rfl⟩, q⟩) sz
    | tup h1 h2 =>
      cases r1
      exact repr_of_reads' rd sh (PyData.noDict_hsm nd) hg (by omega) (fun _ _ e => e) (fun h1 u tk hk => ⟨.str _, H, I.kept hk, ⟨u, rfl⟩, q⟩) sz
end
end Cs

set_option maxRecDepth 100000
set_option maxHeartbeats 4000000
namespace Cs
open PySem PySem.Spec PyProof.Rows L2

/-- what is tracked at the law's entry: the script, locked -/
def hpOf (a : Addr) (o : Obj) (xs : List V) : Hp := fun b => if b = a then some (.frz o (.lst xs)) else none
theorem hpOf_some {a b : Addr} {o : Obj} {xs : List V} {u : HO} (h : hpOf a o xs b = some u) : b = a ∧ u = .frz o (.lst xs) := by
  unfold hpOf at h
  by_cases e : b = a
  · rw [if_pos e] at h
    exact ⟨e, (Option.some.inj h).symm⟩
  · rw [if_neg e] at h
    cases h
theorem hpOf_at {a : Addr} {o : Obj} {xs : List V} : hpOf a o xs a = some (.frz o (.lst xs)) := if_pos rfl

section
variable {P : Program} {w : World} {K : PySem.W.Frag} {mg mb : Str → Option Value} {k : Nat} {fa a : Addr} {fd : FuncData} {x : Str} {sp : Sp} {s₁ : Shared} {vs : List Value} {ns : List Int}

/-- one run of the law from an abstract heap H that tracks no more than the script -/
theorem law_from (H : Hp) (inK : K.In s₁.heap) (hns : s₁.heap.Ns mainGlobals mg) (hb : s₁.heap.Ns builtinsNs mb) (hbb : ∀ y : Str, y ≠ "__name__" → mb y = bootBuiltins y) (hlim : s₁.heap.NoLimit) (hg : s₁.gens = #[])
    (ha : s₁.heap.get? a = some { cls := .type "list", data := .seq vs.toArray }) (hr : Room k callerA)
    (F : ∀ base : Heap, K.In base → base.Ns mainGlobals mg → FnG P w K mg base k fa fd [x] sp) (hbind : ∀ (s : Shared) (u : Value), BindsTo s fd ⟨[u], []⟩ [(x, u)])
    (hS : sp [.ref a] H (fun v _ => v = .bl true) E0) (hok : HOk P w H s₁.heap) (one : ∀ b u, H b = some u → b = a ∧ ∃ o xs, u = .frz o (.lst xs)) (off : ∀ u, H a = some u → K.lookup a = none) :
    codeAny (model P w) callerA (.call (.ref fa) ⟨[.ref a], []⟩) (fun r s' => r = .ok (.ret (.bool true)) ∧ OldK s₁.heap s'.heap ∧ s'.os = s₁.os ∧ AllBare s'.gens) s₁ := by
  have none_of : ∀ {b : Addr}, b ≠ a → H b = none := fun {b} n => by
    cases e : H b with
    | none => rfl
    | some u => exact absurd (one b u e).1 n
  have ns_keep : ∀ {b : Addr} {m : Str → Option Value}, s₁.heap.Ns b m → (hidT s₁.heap H).Ns b m := fun {b m} ⟨o, es, ep, e, d, q⟩ => by
    refine ⟨o, es, ep, hidT_get e (none_of fun z => ?_), d, q⟩
    rw [z, ha] at e
    cases e
    cases (show Data.seq vs.toArray _ = Data.dict es ep from d)
  have kb : K.In (hidT s₁.heap H) := fun b o e => by
    refine hidT_get (inK b o e) ?_
    cases q : H b with
    | none => rfl
    | some u =>
      obtain ⟨z, _⟩ := one b u q
      rw [z] at q e
      rw [off u q] at e
      cases e
  obtain ⟨mc, c1, c2⟩ := hlim
  have md : Mod K mg (hidT s₁.heap H) := ⟨kb, ns_keep hns, ⟨mb, ns_keep hb, hbb⟩, ⟨mc, ns_keep c1, c2⟩⟩
  have e0 : Env0 P w K mg (hidT s₁.heap H) callerA [] s₁ H :=
    ⟨rfl, md, fun _ _ e => of_hidT e, Nat.le_of_eq (hidT_size _ _), trivial, (fun b hm => absurd (show b ∈ ([] : List Addr) from hm) List.not_mem_nil), hok, .of_eq hg⟩
  refine codeAny_mono ((F _ kb (ns_keep hns)).go callerA [] s₁ H ⟨[.ref a], []⟩ [.ref a] [.ref a] _ _ hr rfl e0 (hbind s₁ (.ref a)) (.cons rfl .nil) hS) fun r s' h => ?_
  match r, h with
  | .error e, h => exact False.elim h
  | .ok .next, h => exact False.elim h
  | .ok .brk, h => exact False.elim h
  | .ok .cont, h => exact False.elim h
  | .ok (.ret u), ⟨v, H', os, bare, un, hok', rv, q⟩ =>
    cases (show v = V.bl true from q)
    cases (show u = Value.bool true from rv)
    refine ⟨rfl, OldK.of_keep fun b o e => ?_, os, bare⟩
    cases q : H b with
    | none => exact un.keep b o e q (fun z => absurd (show b ∈ ([] : List Addr) from z) List.not_mem_nil) (fun z => absurd (show b ∈ ([] : List Addr) from z) List.not_mem_nil)
    | some u =>
      obtain ⟨_, ob, xs, z⟩ := one b u q
      subst z
      obtain ⟨g1, _⟩ := hok b _ q
      obtain ⟨g2, _⟩ := hok' b _ (un.frzs b ob _ q)
      rw [e] at g1
      cases g1
      exact g2

theorem law_run (inK : K.In s₁.heap) (hns : s₁.heap.Ns mainGlobals mg) (hb : s₁.heap.Ns builtinsNs mb) (hbb : ∀ y : Str, y ≠ "__name__" → mb y = bootBuiltins y) (hlim : s₁.heap.NoLimit) (hg : s₁.gens = #[])
    (ha : s₁.heap.get? a = some { cls := .type "list", data := .seq vs.toArray }) (hi : IntsAre vs ns) (hl : ns.length ≤ sizeLine) (hr : Room k callerA)
    (F : ∀ base : Heap, K.In base → base.Ns mainGlobals mg → FnG P w K mg base k fa fd [x] sp) (hbind : ∀ (s : Shared) (u : Value), BindsTo s fd ⟨[u], []⟩ [(x, u)])
    (hsp : ∀ H : Hp, SqL K H a (ns.map V.int) → sp [.ref a] H (fun v _ => v = .bl true) E0) :
    codeAny (model P w) callerA (.call (.ref fa) ⟨[.ref a], []⟩) (fun r s' => r = .ok (.ret (.bool true)) ∧ OldK s₁.heap s'.heap ∧ s'.os = s₁.os ∧ AllBare s'.gens) s₁ := by
  have rv := vals_ints hi
  have hl2 : (ns.map V.int).length ≤ sizeLine := by rw [List.length_map]; exact hl
  have hl3 : vs.length ≤ sizeLine := by rw [← rv.length]; exact hl2
  cases hk : K.lookup a with
  | none =>
    refine law_from (hpOf a { cls := .type "list", data := .seq vs.toArray } (ns.map V.int)) inK hns hb hbb hlim hg ha hr F hbind (hsp _ (.inl (.inr ⟨_, hpOf_at⟩))) (fun b u e => ?_) (fun b u e => ?_) fun _ _ => hk
    · obtain ⟨rfl, rfl⟩ := hpOf_some e
      exact ⟨ha, hl2, vs, _, rv, ha⟩
    · obtain ⟨z, q⟩ := hpOf_some e
      exact ⟨z, _, _, q⟩
  | some o =>
    have e := inK a o hk
    rw [ha] at e
    cases e
    exact law_from (fun _ => none) inK hns hb hbb hlim hg ha hr F hbind (hsp _ (.inr ⟨_, vs.toArray, _, hk, rfl, rfl, rfl, by rw [List.size_toArray]; exact hl3, by simpa using rv⟩)) (fun _ u e => absurd (show (none : Option HO) = some u from e) (by simp)) (fun _ u e => absurd (show (none : Option HO) = some u from e) (by simp)) fun u e => absurd (show (none : Option HO) = some u from e) (by simp)
end

/-- the law's row from the law's promise -/
theorem walkG {l : PySem.W.OpenLaw} {n k : Nat} {q : Program} {loose : List Str} {XP : (Str → Option Value) → Heap → Prop} {YP : World → Heap → Prop} {d : DefRec} {K : Params → PySem.W.Frag} {sp : PySem.W.Frag → Sp} {x : Str}
    (hn : l.most = some n) (hn2 : n ≤ sizeLine) (hdf : d.params.defaults = []) (hr : Room k callerA)
    (hY : ∀ (w : World) (h : Heap), YP w h → (K w.params).In h)
    (F : ∀ (w : World) (mg : Str → Option Value) (fa : Addr) (h : Heap), (K w.params).In h → h.Ns mainGlobals mg → mg d.name = some (.ref fa) →
      ∃ fd : FuncData, (∀ (s : Shared) (u : Value), BindsTo s fd ⟨[u], []⟩ [(x, u)]) ∧
        ∀ base : Heap, (K w.params).In base → base.Ns mainGlobals mg → FnG l.prog w (K w.params) mg base k fa fd [x] (sp (K w.params)))
    (hsp : ∀ (K : PySem.W.Frag) (H : Hp) (a : Addr) (ns : List Int), ns.length ≤ n → SqL K H a (ns.map V.int) → sp K [.ref a] H (fun v _ => v = .bl true) E0) :
    PySem.W.WalkO q loose XP YP l.row.toRowW d [] (fun f vs => PySem.call f vs) := by
  refine Att.attach_call hn hdf fun w s₀ s₁ mg mb fa o pm cd doc a vs ns G Y ho hd hcd hmg hobj hints hlen hg => ?_
  have inK := hY w _ Y
  obtain ⟨fd, hb, hF⟩ := F w mg fa _ inK G.T.g hmg
  exact law_run inK G.T.g G.T.b G.T.builtins G.T.nolimit hg hobj hints (Nat.le_trans hlen hn2) hr hF hb fun H hS => hsp (K w.params) H a ns hlen hS
end Cs

set_option maxRecDepth 100000
set_option maxHeartbeats 4000000
namespace Cs
open PySem PySem.Spec PyProof.Rows L2

/-! ### a def that stands in the text and keeps a promise -/
def At (K : PySem.W.Frag) (mg : Str → Option Value) (x : Str) (st : Stmt) : Prop := ∃ (f : Addr) (fd : FuncData), mg x = some (.ref f) ∧ Fun K x x st f fd
def Df (P : Program) (w : World) (K : PySem.W.Frag) (mg : Str → Option Value) (base : Heap) (k : Nat) (x : Str) (ps : List Str) (sp : Sp) : Prop :=
  ∃ (f : Addr) (fd : FuncData), mg x = some (.ref f) ∧ PySem.W.keepIn K (.ref f) = true ∧ Binds K fd ps [] ∧ FnG P w K mg base k f fd ps sp
section
variable {P : Program} {w : World} {K : PySem.W.Frag} {mg : Str → Option Value} {base : Heap}
theorem Df.of {x : Str} {st : Stmt} {N ps : List Str} {k : Nat} {sp : Sp} (A : At K mg x st)
    (bd : ∀ (kV doc pm : Value) (an : Option Addr) (cdv ct : Value) (us : List Value), us.length = ps.length → bindArgs (PySem.W.fnOf x x (defArgs st) (defBody st) (defScope st) .none kV doc pm an cdv ct) ⟨us, []⟩ = pure (ps.zip us))
    (S : FnScope N ps (defScope st)) (len : ∀ vs H Q E, sp vs H Q E → vs.length = ps.length)
    (body : ∀ (cdv : Value) (A : Around) (out : List Env) (f : Addr) (s : Shared) (H : Hp) (vs : List V) (Q : VK) (E : XK), Room k (A.deeper (envOfC x (defScope st) s.heap.objs.size f cdv)) → A.guards = some [] → sp vs H Q E →
      ∃ t, PSs (cxG P w K mg base N x (defScope st) f cdv A out s H E) (defBody st) t ∧ t { nx := fun _ H' => Q .non H', rt := Q } (start N vs) H) :
    Df P w K mg base (k + 1) x ps sp := by
  obtain ⟨f, fd, m, F⟩ := A
  exact ⟨f, fd, m, F.kp, F.binds bd, FnG.of F S len fun cdv A out s H vs Q E hr hg h => body cdv A out f s H vs Q E hr hg h⟩
end
section
variable {X : Cx} {k : Nat} {ps : List Str} {sp : Sp} {x : Str} {p pos : Pos} {e : Expr} {es : List Expr} {t : TA}
theorem pe_df (D : Df X.prog X.w X.K X.mg X.base k x ps sp) (hr : Room k X.A) (hgd : X.A.guards = some []) (hg : Gl X x)
    (ha : PA X (e :: es) t) (hdb : (x == ("__debug__" : Str)) = false := by decide) (he : starEach (e :: es) X.env = (false, eval e X.env) :: starEach es X.env := by rfl) (hpl : (backTo pos (starEach es X.env)).any (·.1) = false := by rfl) :
    PE X (.Call (.Name x p) (e :: es) [] pos) (tFn sp t) := by
  obtain ⟨f, fd, m, kp, b, G⟩ := D
  exact pe_fn G hr hgd hg m kp b ha hdb he hpl
theorem pe_df0 (D : Df X.prog X.w X.K X.mg X.base k x ps sp) (hr : Room k X.A) (hgd : X.A.guards = some []) (hg : Gl X x) (hdb : (x == ("__debug__" : Str)) = false := by decide) :
    PE X (.Call (.Name x p) [] [] pos) (tFn sp tNil) := by
  obtain ⟨f, fd, m, kp, b, G⟩ := D
  exact pe_fn0 G hr hgd hg m kp b hdb
end

/-! ### heaps -/
/-- all but t is as it was -/
def Al (t : Addr) (H H' : Hp) : Prop := ∀ b, b ≠ t → H' b = H b
/-- all that was tracked, but t, is as it was -/
def Gr (t : Addr) (H H' : Hp) : Prop := ∀ b o, H b = some o → b ≠ t → H' b = some o
theorem Al.gr {t : Addr} {H H' : Hp} (a : Al t H H') : Gr t H H' := fun b o e n => by rw [a b n]; exact e
theorem Al.upd {t : Addr} {H : Hp} {o : HO} : Al t H (upd H t o) := fun b n => upd_ne n
theorem Al.trans {t : Addr} {H H1 H2 : Hp} (a : Al t H H1) (b : Al t H1 H2) : Al t H H2 := fun c n => (b c n).trans (a c n)
theorem Al.free {t b : Addr} {H H' : Hp} (a : Al t H H') (n : b ≠ t) (h : H' b = none) : H b = none := by rw [← a b n]; exact h
theorem Gr.refl (t : Addr) (H : Hp) : Gr t H H := fun _ _ e _ => e
theorem Gr.trans {t : Addr} {H H1 H2 : Hp} (a : Gr t H H1) (b : Gr t H1 H2) : Gr t H H2 := fun c o e n => b c o (a c o e n) n
theorem Gr.of {t : Addr} {H H' : Hp} (a : Same H H') : Gr t H H' := fun b o e _ => a b o e
theorem Gr.free {t b : Addr} {H H' : Hp} (a : Gr t H H') (n : b ≠ t) (h : H' b = none) : H b = none := by
  cases e : H b with
  | none => rfl
  | some o =>
    rw [a b o e n] at h
    cases h
theorem Same.new {p : Addr} {H : Hp} {o : HO} (h : H p = none) : Same H (upd H p o) := fun b u e => by rw [upd_ne (ne_of_none e h)]; exact e
theorem Gr.new {t p : Addr} {H : Hp} {o : HO} (h : H p = none) : Gr t H (upd H p o) := Gr.of (Same.new h)

/-- things that never change are as they were -/
structure Im (H H' : Hp) : Prop where
  tup : ∀ b xs, H b = some (.tup xs) → H' b = some (.tup xs)
  frz : ∀ b o u, H b = some (.frz o u) → H' b = some (.frz o u)
theorem Im.refl (H : Hp) : Im H H := ⟨fun _ _ e => e, fun _ _ _ e => e⟩
theorem Im.trans {H H1 H2 : Hp} (a : Im H H1) (b : Im H1 H2) : Im H H2 := ⟨fun c xs e => b.tup c xs (a.tup c xs e), fun c o u e => b.frz c o u (a.frz c o u e)⟩
theorem Im.same {H H' : Hp} (a : Same H H') : Im H H' := ⟨fun b _ e => a b _ e, fun b _ _ e => a b _ e⟩
theorem Im.new {p : Addr} {H : Hp} {o : HO} (h : H p = none) : Im H (upd H p o) := Im.same (Same.new h)
theorem Im.gr {t : Addr} {H H' : Hp} {xs : List V} (a : Gr t H H') (h : H t = some (.lst xs)) : Im H H' :=
  ⟨fun b ys e => a b _ e fun z => (by subst z; rw [h] at e; cases e), fun b o u e => a b _ e fun z => (by subst z; rw [h] at e; cases e)⟩
theorem Im.set {t : Addr} {H : Hp} {xs : List V} {o : HO} (h : H t = some (.lst xs)) : Im H (upd H t o) := Im.gr (Al.upd.gr) h
theorem Im.sqT {K : PySem.W.Frag} {H H' : Hp} {a : Addr} {xs : List V} (e : Im H H') (h : SqT K H a xs) : SqT K H' a xs := by
  rcases h with (h | ⟨o, h⟩) | h
  · exact .inl (.inl (e.tup _ _ h))
  · exact .inl (.inr ⟨o, e.frz _ _ _ h⟩)
  · exact .inr h

/-! ### the tape -/
structure TapeAt (H : Hp) (t l : Addr) : Prop where
  ex : ∃ (ns : List Int) (p r s : Int), H t = some (.lst [.ref l, .int p, .int r, .int s]) ∧ H l = some (.lst (ns.map V.int)) ∧ 0 ≤ p ∧ 0 ≤ r ∧ 0 ≤ s
  ne : l ≠ t
theorem TapeAt.list {H : Hp} {t l : Addr} (T : TapeAt H t l) : ∃ xs, H t = some (.lst xs) := let ⟨_, _, _, _, h, _⟩ := T.ex; ⟨_, h⟩
theorem TapeAt.list' {H : Hp} {t l : Addr} (T : TapeAt H t l) : ∃ xs, H l = some (.lst xs) := let ⟨_, _, _, _, _, h, _⟩ := T.ex; ⟨_, h⟩
theorem TapeAt.same {H H' : Hp} {t l : Addr} (T : TapeAt H t l) (e : Same H H') : TapeAt H' t l := let ⟨ns, p, r, s, h1, h2, q⟩ := T.ex; ⟨⟨ns, p, r, s, e _ _ h1, e _ _ h2, q⟩, T.ne⟩
theorem TapeAt.new {H : Hp} {t l b : Addr} {o : HO} (T : TapeAt H t l) (h : H b = none) : TapeAt (upd H b o) t l := T.same (Same.new h)
theorem TapeAt.upd {H : Hp} {t l b : Addr} {o : HO} (T : TapeAt H t l) (n1 : b ≠ t) (n2 : b ≠ l) : TapeAt (upd H b o) t l :=
  let ⟨ns, p, r, s, h1, h2, q⟩ := T.ex; ⟨⟨ns, p, r, s, by rw [upd_ne n1.symm]; exact h1, by rw [upd_ne n2.symm]; exact h2, q⟩, T.ne⟩
theorem TapeAt.ne_t {H : Hp} {t l b : Addr} (T : TapeAt H t l) (h : H b = none) : b ≠ t := let ⟨_, e⟩ := T.list; (ne_of_none e h).symm
theorem TapeAt.ne_l {H : Hp} {t l b : Addr} (T : TapeAt H t l) (h : H b = none) : b ≠ l := let ⟨_, e⟩ := T.list'; (ne_of_none e h).symm
theorem TapeAt.im {H H' : Hp} {t l : Addr} (T : TapeAt H t l) (g : Gr t H H') : Im H H' := let ⟨_, e⟩ := T.list; Im.gr g e

/-- the law's own two: a tape is made; a number is drawn -/
def sp_law_tape (K : PySem.W.Frag) : Sp := fun vs H Q _ => ∃ (a : Addr) (ns : List Int), vs = [.ref a] ∧ SqL K H a (ns.map V.int) ∧ ns.length ≤ 63 ∧ ∀ t l H', Same H H' → TapeAt H' t l → H t = none → H l = none → Q (.ref t) H'
def sp_law_draw (K : PySem.W.Frag) : Sp := fun vs H Q _ => ∃ (t l : Addr) (m : Int), vs = [.ref t, .int m] ∧ TapeAt H t l ∧ m ≤ 1000000000 ∧ ∀ v H', TapeAt H' t l → Al t H H' → 0 ≤ v → v < max m 1 → Q (.int v) H'
end Cs

set_option maxRecDepth 100000
set_option maxHeartbeats 4000000
namespace Cs
open PySem PySem.Spec PyProof.Rows L2
/-! ### tests -/
section
variable {A B c : Prop}
theorem if_dec [Decidable c] (h1 : c → A) (h2 : ¬ c → B) : if decide c = true then A else B := by
  by_cases h : c
  · rw [decide_eq_true h, if_pos rfl]; exact h1 h
  · rw [decide_eq_false h, if_neg Bool.false_ne_true]; exact h2 h
theorem if_ndec [Decidable c] (h1 : ¬ c → A) (h2 : c → B) : if (!decide c) = true then A else B := by
  by_cases h : c
  · rw [decide_eq_true h]; exact h2 h
  · rw [decide_eq_false h]; exact h1 h
theorem if_int {i j : Int} (h1 : i = j → A) (h2 : ¬ i = j → B) : if decide (V.int i = V.int j) = true then A else B :=
  if_dec (fun h => h1 (V.int.inj h)) fun h => h2 fun e => h (by rw [e])
theorem if_nint {i j : Int} (h1 : ¬ i = j → A) (h2 : i = j → B) : if (!decide (V.int i = V.int j)) = true then A else B :=
  if_ndec (fun h => h1 fun e => h (by rw [e])) fun h => h2 (V.int.inj h)
theorem if_str {i j : Str} (h1 : i = j → A) (h2 : ¬ i = j → B) : if decide (V.str i = V.str j) = true then A else B :=
  if_dec (fun h => h1 (V.str.inj h)) fun h => h2 fun e => h (by rw [e])
theorem if_nstr {i j : Str} (h1 : ¬ i = j → A) (h2 : i = j → B) : if (!decide (V.str i = V.str j)) = true then A else B :=
  if_ndec (fun h => h1 fun e => h (by rw [e])) fun h => h2 (V.str.inj h)
theorem if_bool {b : Bool} (h1 : b = true → A) (h2 : b = false → B) : if b = true then A else B := by
  cases b with
  | true => exact h1 rfl
  | false => exact h2 rfl
theorem if_nbool {b : Bool} (h1 : b = false → A) (h2 : b = true → B) : if (!b) = true then A else B := by
  cases b with
  | true => exact h2 rfl
  | false => exact h1 rfl
end
theorem int_at {ns : List Int} {i : Nat} {y : V} (h : (ns.map V.int)[i]? = some y) : ∃ n, y = V.int n := by
  rw [List.getElem?_map] at h
  cases e : ns[i]? with
  | none => rw [e] at h; cases h
  | some z => rw [e] at h; exact ⟨z, (Option.some.inj h).symm⟩
theorem at_int {ns : List Int} {i : Int} (h0 : 0 ≤ i) (h : i < ns.length) : ∃ n, atI (ns.map V.int) i = some (V.int n) := by
  obtain ⟨j, rfl⟩ : ∃ j : Nat, i = (j : Int) := ⟨i.toNat, by omega⟩
  have hj : j < ns.length := by omega
  exact ⟨ns[j], atI_nat (by rw [List.getElem?_map, List.getElem?_eq_getElem hj]; rfl)⟩
theorem max_one (m : Int) : (if (1 : Int) > m then (1 : Int) else m) = max m 1 := by
  by_cases h : (1 : Int) > m
  · rw [if_pos h]; omega
  · rw [if_neg h]; omega
end Cs
namespace Cs
open PySem PySem.Spec PyProof.Rows L2
theorem set3 {α : Type} (σ : List α) (s : Nat) (a b c : α) : (((σ.set s a).set s b).set s c) = σ.set s c := by
  rw [List.set_set, List.set_set]
theorem get_snoc {ys : List V} {v u : V} {j : Nat} (e : (ys ++ [v])[j]? = some u) : (j < ys.length ∧ ys[j]? = some u) ∨ (j = ys.length ∧ u = v) := by
  by_cases h : j < ys.length
  · rw [List.getElem?_append_left h] at e
    exact .inl ⟨h, e⟩
  · rw [List.getElem?_append_right (by omega)] at e
    have q : j - ys.length = 0 := by
      by_cases z : j - ys.length = 0
      · exact z
      · rw [List.getElem?_eq_none (by show 1 ≤ _; omega)] at e
        cases e
    rw [q] at e
    exact .inr ⟨by omega, (Option.some.inj e).symm⟩
section
variable {K : PySem.W.Frag} {a : Addr} {xs : List V} {te : TE} {s : Nat} {σ : L2.St} {H1 : Hp} {D : Addr} {Qd : Hp → Prop}
/-- what holds of a comprehension's list under way: its items so far are as P says -/
def CompSo (P : Nat → V → Hp → Prop) (H1 : Hp) (D : Addr) (i : Nat) (H : Hp) : Prop := Same H1 H ∧ ∃ ys, H D = some (.lst ys) ∧ ys.length = i ∧ ∀ j v, ys[j]? = some v → P j v H
theorem comp_turn {P : Nat → V → Hp → Prop} {i n : Nat} {x : V} {H : Hp} (mono : ∀ i v H H', P i v H → Im H H' → P i v H') (hz : n ≤ sizeLine) (fresh : H1 D = none) (hi : i < n) (so : CompSo P H1 D i H)
    (elt : ∀ H, Same H1 H → ∀ Q' : VK, (∀ v H', Same H H' → P i v H' → Q' v H') → te ((σ.set s none).set s (some x)) H Q') :
    gName s x (wipe σ [s]) H fun σ2 H2 => wipe σ2 [s] = wipe σ [s] ∧ tYes σ2 H2 fun b H3 =>
      if b = true then te σ2 H3 fun y H4 => ∃ acc, H4 D = some (.lst acc) ∧ acc.length < sizeLine ∧ CompSo P H1 D (i + 1) (upd H4 D (.lst (acc ++ [y]))) else CompSo P H1 D (i + 1) H3 := by
  obtain ⟨sm, ys, hD, hlen, hP⟩ := so
  refine ⟨set3 σ s none (some x) none, ?_⟩
  unfold tYes
  dsimp only
  rw [if_pos rfl]
  refine elt H sm _ fun v H' sm' pv => ?_
  have hD' := sm' _ _ hD
  have im2 : Im H' (upd H' D (.lst (ys ++ [v]))) := Im.set hD'
  refine ⟨ys, hD', by omega, fun b o e => by rw [upd_ne (ne_of_none e fresh)]; exact sm' _ _ (sm _ _ e), ys ++ [v], upd_same, by rw [List.length_append, hlen]; rfl, fun j u e => ?_⟩
  rcases get_snoc e with ⟨_, e⟩ | ⟨rfl, rfl⟩
  · exact mono _ _ _ _ (hP j u e) ((Im.same sm').trans im2)
  · rw [hlen]
    exact mono _ _ _ _ pv im2
theorem comp_start {P : Nat → V → Hp → Prop} (fresh : H1 D = none) : CompSo P H1 D 0 (upd H1 D (.lst [])) := ⟨Same.new fresh, [], upd_same, rfl, fun j v e => by simp at e⟩
/-- a comprehension over a list, no test: each element of the new list is what P says; nothing that was tracked changes -/
theorem comp_list (P : Nat → V → Hp → Prop) (mono : ∀ i v H H', P i v H → Im H H' → P i v H') (hl : SqL K H1 a xs) (hz : xs.length ≤ sizeLine) (fresh : H1 D = none)
    (elt : ∀ i x, xs[i]? = some x → ∀ H, Same H1 H → ∀ Q' : VK, (∀ v H', Same H H' → P i v H' → Q' v H') → te ((σ.set s none).set s (some x)) H Q')
    (hd : ∀ H ys, Same H1 H → H D = some (.lst ys) → ys.length = xs.length → (∀ i v, ys[i]? = some v → P i v H) → Qd H) :
    ∃ W : Nat → Nat → Hp → Prop, (∃ m, W 0 m (upd H1 D (.lst []))) ∧ ∀ i m H, W i m H →
      ((Itl K a).stop i H ∧ Qd H) ∨ ((Itl K a).go i H ∧ ∃ Nx : Hp → Prop, (∀ H', Nx H' → ∃ m', m' < m ∧ W (i + 1) m' H') ∧ ∀ x H', (Itl K a).yld i H x H' → gName s x (wipe σ [s]) H' fun σ2 H2 => wipe σ2 [s] = wipe σ [s] ∧ tYes σ2 H2 fun b H3 =>
        if b = true then te σ2 H3 fun y H4 => ∃ acc, H4 D = some (.lst acc) ∧ acc.length < sizeLine ∧ Nx (upd H4 D (.lst (acc ++ [y]))) else Nx H3) :=
  lc_list (K := K) (a := a) (xs := xs) (CompSo P H1 D) (comp_start fresh) (fun i H _ h => h.1.seq hl)
    (fun i x H hx so => comp_turn mono hz fresh (List.getElem?_eq_some_iff.mp hx).1 so (elt i x hx)) fun H ⟨sm, ys, hD, hlen, hP⟩ => hd H ys sm hD hlen hP
theorem comp_tup (P : Nat → V → Hp → Prop) (mono : ∀ i v H H', P i v H → Im H H' → P i v H') (hl : SqT K H1 a xs) (hz : xs.length ≤ sizeLine) (fresh : H1 D = none)
    (elt : ∀ i x, xs[i]? = some x → ∀ H, Same H1 H → ∀ Q' : VK, (∀ v H', Same H H' → P i v H' → Q' v H') → te ((σ.set s none).set s (some x)) H Q')
    (hd : ∀ H ys, Same H1 H → H D = some (.lst ys) → ys.length = xs.length → (∀ i v, ys[i]? = some v → P i v H) → Qd H) :
    ∃ W : Nat → Nat → Hp → Prop, (∃ m, W 0 m (upd H1 D (.lst []))) ∧ ∀ i m H, W i m H →
      ((Itt K a).stop i H ∧ Qd H) ∨ ((Itt K a).go i H ∧ ∃ Nx : Hp → Prop, (∀ H', Nx H' → ∃ m', m' < m ∧ W (i + 1) m' H') ∧ ∀ x H', (Itt K a).yld i H x H' → gName s x (wipe σ [s]) H' fun σ2 H2 => wipe σ2 [s] = wipe σ [s] ∧ tYes σ2 H2 fun b H3 =>
        if b = true then te σ2 H3 fun y H4 => ∃ acc, H4 D = some (.lst acc) ∧ acc.length < sizeLine ∧ Nx (upd H4 D (.lst (acc ++ [y]))) else Nx H3) :=
  lc_tup (K := K) (a := a) (xs := xs) (CompSo P H1 D) (comp_start fresh) (fun i H _ h => (Im.same h.1).sqT hl)
    (fun i x H hx so => comp_turn mono hz fresh (List.getElem?_eq_some_iff.mp hx).1 so (elt i x hx)) fun H ⟨sm, ys, hD, hlen, hP⟩ => hd H ys sm hD hlen hP
end
end Cs

namespace Cs
open PySem PySem.Spec PyProof.Rows L2
theorem eq_map {α : Type} {ys : List V} {rs : List α} {f : α → V} (h1 : ys.length = rs.length) (h2 : ∀ (i : Nat) v, ys[i]? = some v → ∃ r, rs[i]? = some r ∧ v = f r) : ys = rs.map f := by
  refine List.ext_getElem? fun i => ?_
  rw [List.getElem?_map]
  cases e : ys[i]? with
  | none =>
    have : rs[i]? = none := List.getElem?_eq_none_iff.mpr (by have := List.getElem?_eq_none_iff.mp e; omega)
    rw [this]; rfl
  | some v =>
    obtain ⟨r, hr, rfl⟩ := h2 i v e
    rw [hr]; rfl
theorem get_len {α β : Type} {xs : List α} {rs : List β} (h : xs.length = rs.length) {i : Nat} {x : α} (e : xs[i]? = some x) : ∃ r, rs[i]? = some r := by
  have hi := (List.getElem?_eq_some_iff.mp e).1
  exact ⟨rs[i]'(by omega), List.getElem?_eq_getElem (by omega)⟩
section
variable {K : PySem.W.Frag} {a : Addr} {xs : List V} {te : TE} {s : Nat} {σ : L2.St} {H1 : Hp} {D : Addr} {Qd : Hp → Prop} {α : Type}
/-- .. where each element is a value that hangs on the datum alone -/
theorem map_list (rs : List α) (f : α → V) (hl : SqL K H1 a xs) (hz : xs.length ≤ sizeLine) (hlen : xs.length = rs.length) (fresh : H1 D = none)
    (elt : ∀ (i : Nat) x r, xs[i]? = some x → rs[i]? = some r → ∀ H, Same H1 H → ∀ Q' : VK, (∀ H', Same H H' → Q' (f r) H') → te ((σ.set s none).set s (some x)) H Q')
    (hd : ∀ H, Same H1 H → H D = some (.lst (rs.map f)) → Qd H) :
    ∃ W : Nat → Nat → Hp → Prop, (∃ m, W 0 m (upd H1 D (.lst []))) ∧ ∀ i m H, W i m H →
      ((Itl K a).stop i H ∧ Qd H) ∨ ((Itl K a).go i H ∧ ∃ Nx : Hp → Prop, (∀ H', Nx H' → ∃ m', m' < m ∧ W (i + 1) m' H') ∧ ∀ x H', (Itl K a).yld i H x H' → gName s x (wipe σ [s]) H' fun σ2 H2 => wipe σ2 [s] = wipe σ [s] ∧ tYes σ2 H2 fun b H3 =>
        if b = true then te σ2 H3 fun y H4 => ∃ acc, H4 D = some (.lst acc) ∧ acc.length < sizeLine ∧ Nx (upd H4 D (.lst (acc ++ [y]))) else Nx H3) :=
  comp_list (K := K) (a := a) (fun i v _ => ∃ r, rs[i]? = some r ∧ v = f r) (fun _ _ _ _ h _ => h) hl hz fresh
    (fun i x hx H sm Q' hQ => by
      obtain ⟨r, hr⟩ := get_len hlen hx
      exact elt i x r hx hr H sm Q' fun H' sm' => hQ _ H' sm' ⟨r, hr, rfl⟩)
    fun H ys sm hD hl2 hP => hd H sm (by rw [← eq_map (hl2.trans hlen) hP]; exact hD)
theorem map_tup (rs : List α) (f : α → V) (hl : SqT K H1 a xs) (hz : xs.length ≤ sizeLine) (hlen : xs.length = rs.length) (fresh : H1 D = none)
    (elt : ∀ (i : Nat) x r, xs[i]? = some x → rs[i]? = some r → ∀ H, Same H1 H → ∀ Q' : VK, (∀ H', Same H H' → Q' (f r) H') → te ((σ.set s none).set s (some x)) H Q')
    (hd : ∀ H, Same H1 H → H D = some (.lst (rs.map f)) → Qd H) :
    ∃ W : Nat → Nat → Hp → Prop, (∃ m, W 0 m (upd H1 D (.lst []))) ∧ ∀ i m H, W i m H →
      ((Itt K a).stop i H ∧ Qd H) ∨ ((Itt K a).go i H ∧ ∃ Nx : Hp → Prop, (∀ H', Nx H' → ∃ m', m' < m ∧ W (i + 1) m' H') ∧ ∀ x H', (Itt K a).yld i H x H' → gName s x (wipe σ [s]) H' fun σ2 H2 => wipe σ2 [s] = wipe σ [s] ∧ tYes σ2 H2 fun b H3 =>
        if b = true then te σ2 H3 fun y H4 => ∃ acc, H4 D = some (.lst acc) ∧ acc.length < sizeLine ∧ Nx (upd H4 D (.lst (acc ++ [y]))) else Nx H3) :=
  comp_tup (K := K) (a := a) (fun i v _ => ∃ r, rs[i]? = some r ∧ v = f r) (fun _ _ _ _ h _ => h) hl hz fresh
    (fun i x hx H sm Q' hQ => by
      obtain ⟨r, hr⟩ := get_len hlen hx
      exact elt i x r hx hr H sm Q' fun H' sm' => hQ _ H' sm' ⟨r, hr, rfl⟩)
    fun H ys sm hD hl2 hP => hd H sm (by rw [← eq_map (hl2.trans hlen) hP]; exact hD)
end
/-! ### rectangles -/
structure R where
  l : Int
  t : Int
  w : Int
  h : Int
  deriving DecidableEq
def R.vs (r : R) : List V := [.int r.l, .int r.t, .int r.w, .int r.h]
def R.es (r : R) : List V := [.int r.l, .int r.t, .int (r.l + r.w), .int (r.t + r.h)]
/-- v is the rectangle r -/
def Rc (K : PySem.W.Frag) (H : Hp) (v : V) (r : R) : Prop := ∃ a, v = .ref a ∧ SqT K H a r.vs
theorem Rc.im {K : PySem.W.Frag} {H H' : Hp} {v : V} {r : R} (h : Rc K H v r) (e : Im H H') : Rc K H' v r := let ⟨a, h1, h2⟩ := h; ⟨a, h1, e.sqT h2⟩
theorem Rc.same {K : PySem.W.Frag} {H H' : Hp} {v : V} {r : R} (h : Rc K H v r) (e : Same H H') : Rc K H' v r := h.im (Im.same e)
/-- xs are the rectangles rs -/
structure Rcs (K : PySem.W.Frag) (H : Hp) (xs : List V) (rs : List R) : Prop where
  len : xs.length = rs.length
  at_ : ∀ (i : Nat) (x : V) (r : R), xs[i]? = some x → rs[i]? = some r → Rc K H x r
theorem Rcs.im {K : PySem.W.Frag} {H H' : Hp} {xs : List V} {rs : List R} (h : Rcs K H xs rs) (e : Im H H') : Rcs K H' xs rs := ⟨h.len, fun i x r h1 h2 => (h.at_ i x r h1 h2).im e⟩
theorem Rcs.nil {K : PySem.W.Frag} {H : Hp} : Rcs K H [] [] := ⟨rfl, fun i x r h => by simp at h⟩
theorem Rcs.snoc {K : PySem.W.Frag} {H : Hp} {xs : List V} {rs : List R} {x : V} {r : R} (h : Rcs K H xs rs) (q : Rc K H x r) : Rcs K H (xs ++ [x]) (rs ++ [r]) := by
  refine ⟨by rw [List.length_append, List.length_append, h.len]; rfl, fun i y s h1 h2 => ?_⟩
  rcases get_snoc h1 with ⟨hi, h1⟩ | ⟨rfl, rfl⟩
  · rw [List.getElem?_append_left (by rw [← h.len]; exact hi)] at h2
    exact h.at_ i y s h1 h2
  · rw [h.len, List.getElem?_append_right (Nat.le_refl _), Nat.sub_self] at h2
    cases (Option.some.inj h2)
    exact q
theorem Rcs.take {K : PySem.W.Frag} {H : Hp} {xs : List V} {rs : List R} (h : Rcs K H xs rs) (n : Nat) : Rcs K H (xs.take n) (rs.take n) := by
  refine ⟨by rw [List.length_take, List.length_take, h.len], fun i y s h1 h2 => ?_⟩
  rw [List.getElem?_take] at h1 h2
  split at h1
  · rw [if_pos (by assumption)] at h2
    exact h.at_ i y s h1 h2
  · cases h1
theorem Rcs.drop {K : PySem.W.Frag} {H : Hp} {xs : List V} {rs : List R} (h : Rcs K H xs rs) (n : Nat) : Rcs K H (xs.drop n) (rs.drop n) := by
  refine ⟨by rw [List.length_drop, List.length_drop, h.len], fun i y s h1 h2 => ?_⟩
  rw [List.getElem?_drop] at h1 h2
  exact h.at_ _ y s h1 h2
theorem Rcs.reverse {K : PySem.W.Frag} {H : Hp} {xs : List V} {rs : List R} (h : Rcs K H xs rs) : Rcs K H xs.reverse rs.reverse := by
  refine ⟨by rw [List.length_reverse, List.length_reverse, h.len], fun i y s h1 h2 => ?_⟩
  have hi : i < xs.length := by have := (List.getElem?_eq_some_iff.mp h1).1; rw [List.length_reverse] at this; exact this
  rw [List.getElem?_reverse hi] at h1
  rw [List.getElem?_reverse (by rw [← h.len]; exact hi), ← h.len] at h2
  exact h.at_ _ y s h1 h2
end Cs

set_option maxRecDepth 100000
set_option maxHeartbeats 4000000
/-! rules with the written part named, so that they stand within comprehensions too -/
namespace Cs
open PySem PySem.Spec PyProof.Rows L2
section
variable {X : Cx} {a b e : Expr} {ta tb te : TE} {pos : Pos}
theorem ixL (K : PySem.W.Frag) (h : X.K = K := by rfl) : IxR X (rIxL K) := h ▸ ix_list
theorem ixT (K : PySem.W.Frag) (h : X.K = K := by rfl) : IxR X (rIxT K) := h ▸ ix_tup
theorem slL (K : PySem.W.Frag) (h : X.K = K := by rfl) : SlR X (rSlL K) := h ▸ sl_list
theorem slT (K : PySem.W.Frag) (h : X.K = K := by rfl) : SlR X (rSlA K) := h ▸ sl_tupA
theorem eqK (K : PySem.W.Frag) (hu : X.A.units + 64 < cLine) (h : X.K = K := by rfl) : OpR X (compareOp .Eq) (rEqD K) := h ▸ op_eqD hu
theorem neK (K : PySem.W.Frag) (hu : X.A.units + 64 < cLine) (h : X.K = K := by rfl) : OpR X (compareOp .NotEq) (rNeD K) := h ▸ op_neD hu
theorem catT (K : PySem.W.Frag) (h : X.K = K := by rfl) : OpR X (binaryOp .Add) (rCatA K) := h ▸ op_catA
def rLen (K : PySem.W.Frag) : List V → Hp → VK → Prop := fun xs H Q => ∃ x n, xs = [x] ∧ LenV K x H n ∧ Q (.int n) H
theorem lenK (K : PySem.W.Frag) (h : X.K = K := by rfl) : CallR X (.builtin "len") (rLen K) := h ▸ call_len
def rListOf (K : PySem.W.Frag) : List V → Hp → VK → Prop := fun xs H Q => ∃ p ys, xs = [.ref p] ∧ (SqL K H p ys ∨ SqT K H p ys) ∧ ∀ l, H l = none → Q (.ref l) (upd H l (.lst ys))
theorem listK (K : PySem.W.Frag) (h : X.K = K := by rfl) : CallR X (.type "list") (rListOf K) := h ▸ call_list_of
def rTupOf (K : PySem.W.Frag) : List V → Hp → VK → Prop := fun xs H Q => ∃ p ys, xs = [.ref p] ∧ ((SqL K H p ys ∧ ∀ l, H l = none → Q (.ref l) (upd H l (.tup ys))) ∨ (SqT K H p ys ∧ Q (.ref p) H))
theorem tupK (K : PySem.W.Frag) (h : X.K = K := by rfl) : CallR X (.type "tuple") (rTupOf K) := h ▸ call_tuple_of
theorem reprK (K : PySem.W.Frag) (hu : X.A.units + 64 < cLine) (hg : X.A.guards = some []) (h : X.K = K := by rfl) : CallR X (.builtin "repr") (rRepr K) := h ▸ call_repr hu hg
theorem minK (K : PySem.W.Frag) (hc : X.calm = true) (h : X.K = K := by rfl) : CallR X (.builtin "min") (rMin K) := h ▸ cr_min hc
theorem maxK (K : PySem.W.Frag) (hc : X.calm = true) (h : X.K = K := by rfl) : CallR X (.builtin "max") (rMax K) := h ▸ cr_max hc
theorem sumK (K : PySem.W.Frag) (hc : X.calm = true) (h : X.K = K := by rfl) : CallR X (.builtin "sum") (rSum K) := h ▸ cr_sum hc
/-- a test by truth -/
def tTru (K : PySem.W.Frag) (ta : TE) : TT := fun σ H Q => ta σ H fun x H' => ∃ k, TruV K x H' k ∧ Q k H'
theorem truK (K : PySem.W.Frag) (ha : PE X a ta) (he : ∀ whole, isTrue a X.env whole = (do let v ← whole; standAt a.pos; holding [v] (truthy v)) := by intro _; rfl) (h : X.K = K := by rfl) : PT X a (tTru K ta) := h ▸ pt_truth ha he
end
theorem atI_mem {α : Type} {xs : List α} {v : Int} (h0 : 0 ≤ v) (h1 : v < xs.length) : ∃ z, atI xs v = some z ∧ xs[v.toNat]? = some z ∧ z ∈ xs := by
  obtain ⟨j, rfl⟩ : ∃ j : Nat, v = (j : Int) := ⟨v.toNat, by omega⟩
  have hj : j < xs.length := by omega
  have e : xs[j]? = some xs[j] := List.getElem?_eq_getElem hj
  exact ⟨xs[j], atI_nat e, by rw [Int.toNat_natCast]; exact e, List.getElem_mem hj⟩
/-! the slots as a written list -/
theorem gset {i : Nat} {v : V} {σ σ' : L2.St} {H : Hp} {Q : L2.St → Hp → Prop} (e : σ.set i (some v) = σ') (h : Q σ' H) : gName i v σ H Q := by
  subst e
  exact h
theorem set_0 {α : Type} {a b : α} {l : List α} : (a :: l).set 0 b = b :: l := rfl
theorem set_s {α : Type} {a b : α} {l l' : List α} {n : Nat} (h : l.set n b = l') : (a :: l).set (n + 1) b = a :: l' := by
  subst h
  rfl
def tPar2 (i j : Nat) (ta : TA) : TS := fun D σ H => ta σ H fun vs H1 => ∃ v w, vs = [v, w] ∧ gName i v σ H1 fun σ' H' => gName j w σ' H' D.nx
theorem par2 {X : Cx} {i j : Nat} {st : Stmt} {ta : TA} (h : PS X st (tPar i j ta)) : PS X st (tPar2 i j ta) := h
theorem at_start {N : List Str} {vs : List V} {σ : L2.St} {t : TS} {D : Ends} {H : Hp} (e : L2.start N vs = σ) (h : t D σ H) : t D (L2.start N vs) H := by
  subst e
  exact h
theorem rep_0 {α : Type} {a : α} : List.replicate 0 a = [] := rfl
theorem rep_s {α : Type} {a : α} {k : Nat} {l : List α} (h : List.replicate k a = l) : List.replicate (k + 1) a = a :: l := by
  subst h
  rfl
theorem app_nil {α : Type} {r l : List (Option α)} (h : r = l) : ([] : List α).map some ++ r = l := h
theorem app_cons {α : Type} {v : α} {vs : List α} {r l : List (Option α)} (h : vs.map some ++ r = l) : (v :: vs).map some ++ r = some v :: l := by
  subst h
  rfl
theorem st_of {N : List Str} {vs : List V} {k : Nat} {σ : L2.St} (h : N.length - vs.length = k) (e : vs.map some ++ List.replicate k none = σ) : L2.start N vs = σ := by
  subst h
  exact e
theorem cut_to {xs : List V} {k : Int} (h : 0 ≤ k) : cutV xs none (some k) = xs.take k.toNat := by
  obtain ⟨j, rfl⟩ : ∃ j : Nat, k = (j : Int) := ⟨k.toNat, by omega⟩
  unfold cutV
  rw [HT.sIx_none, HT.sIx_nat, List.drop_zero, Nat.sub_zero, Int.toNat_natCast]
  by_cases h : j ≤ xs.length
  · rw [Nat.min_eq_left h]
  · rw [Nat.min_eq_right (by omega), List.take_length, List.take_of_length_le (by omega)]
theorem cut_from {xs : List V} {k : Int} (h : 0 ≤ k) : cutV xs (some k) none = xs.drop k.toNat := by
  obtain ⟨j, rfl⟩ : ∃ j : Nat, k = (j : Int) := ⟨k.toNat, by omega⟩
  unfold cutV
  rw [HT.sIx_none, HT.sIx_nat, Int.toNat_natCast]
  by_cases h : j ≤ xs.length
  · rw [Nat.min_eq_left h, List.take_of_length_le (by rw [List.length_drop]; omega)]
  · rw [Nat.min_eq_right (by omega), List.drop_of_length_le (Nat.le_refl _), List.drop_of_length_le (by omega), List.take_nil]
theorem Al.at_ {t b : Addr} {H H' : Hp} {o : HO} (a : Al t H H') (n : b ≠ t) (h : H b = some o) : H' b = some o := by rw [a b n]; exact h
theorem Al.none_ {t b : Addr} {H H' : Hp} (a : Al t H H') (n : b ≠ t) (h : H b = none) : H' b = none := by rw [a b n]; exact h
end Cs

set_option maxRecDepth 100000
set_option maxHeartbeats 4000000
/-! how long the text of data may get -/
namespace Cs
open PySem PySem.Spec PyProof.Rows L2
def smallStr (x : Str) : Bool := x.cps.toList.all fun c => decide (c < 16 ^ 8)
theorem smallStr_all {x : Str} (h : smallStr x = true) : ∀ c ∈ x.cps.toList, c < 16 ^ 8 := fun c hc => of_decide_eq_true (List.all_eq_true.mp h c hc)
mutual
/-- no dicts, ints below 2 ^ 1920, texts of codes that can be shown -/
def plainD : PyData → Bool
  | .none => true
  | .bool _ => true
  | .int i => decide (i.natAbs.log2 < 1920)
  | .str x => smallStr x
  | .list xs => plainAll xs
  | .tuple xs => plainAll xs
  | .dict _ => false
def plainAll : List PyData → Bool
  | [] => true
  | x :: xs => plainD x && plainAll xs
end
mutual
def cost : PyData → Nat
  | .none => 4
  | .bool _ => 5
  | .int _ => 1921
  | .str x => 10 * x.length + 2
  | .list xs => costAll xs + 2
  | .tuple xs => costAll xs + 2
  | .dict _ => 0
def costAll : List PyData → Nat
  | [] => 0
  | x :: xs => cost x + 2 + costAll xs
end
theorem list_text (ts : List Str) : (listText ts).length ≤ piled ts + 2 := by
  cases ts with
  | nil => decide +kernel
  | cons t r =>
    have e1 : (listText (t :: r)).length = (textFrom 0 "[" (t :: r)).length + 1 := by
      show (textFrom 0 "[" (t :: r) ++ "]").length = _
      rw [strLen_append]; rfl
    have e2 : (textFrom 0 "[" (t :: r)).length = (textFrom 1 (("[" : Str) ++ (if (0 : Nat) > 0 then ", " else "" : String) ++ t) r).length := rfl
    have e3 : ((("[" : Str) ++ (if (0 : Nat) > 0 then ", " else "" : String) ++ t)).length = 1 + t.length := by
      rw [strLen_append, strLen_append]; rfl
    have h := textFrom_length_pos r 1 (("[" : Str) ++ (if (0 : Nat) > 0 then ", " else "" : String) ++ t) (Nat.succ_pos 0)
    rw [piled_cons]
    omega
mutual
theorem plain_shows : ∀ d : PyData, plainD d = true → d.showable = true ∧ d.hasDict = false ∧ d.shown.length ≤ cost d
  | .none, _ => ⟨by simp only [PyData.showable], by simp only [PyData.hasDict], by simp only [PyData.shown, cost]; decide +kernel⟩
  | .bool b, _ => ⟨by simp only [PyData.showable], by simp only [PyData.hasDict], by simp only [PyData.shown, cost]; cases b <;> decide +kernel⟩
  | .int i, h => by
    simp only [plainD] at h
    exact ⟨by simp only [PyData.showable]; exact h, by simp only [PyData.hasDict], by simp only [PyData.shown, cost]; exact int_text_len_1921 (of_decide_eq_true h)⟩
  | .str x, h => by
    simp only [plainD] at h
    exact ⟨by simp only [PyData.showable], by simp only [PyData.hasDict], by simp only [PyData.shown, cost]; exact StrLaws.reprText_len x (smallStr_all h)⟩
  | .list xs, h => by
    simp only [plainD] at h
    obtain ⟨h1, h2, h3⟩ := plain_showsAll xs h
    refine ⟨by simp only [PyData.showable]; exact h1, by simp only [PyData.hasDict]; exact h2, ?_⟩
    simp only [PyData.shown, cost]
    have := list_text (PyData.shownAll xs)
    omega
  | .tuple xs, h => by
    simp only [plainD] at h
    obtain ⟨h1, h2, h3⟩ := plain_showsAll xs h
    refine ⟨by simp only [PyData.showable]; exact h1, by simp only [PyData.hasDict]; exact h2, ?_⟩
    simp only [PyData.shown, cost]
    have := fmt_text (PyData.shownAll xs)
    omega
  | .dict _, h => by simp [plainD] at h
theorem plain_showsAll : ∀ xs : List PyData, plainAll xs = true → PyData.showableAll xs = true ∧ PyData.hasDictAll xs = false ∧ piled (PyData.shownAll xs) ≤ costAll xs
  | [], _ => ⟨by simp only [PyData.showableAll], by simp only [PyData.hasDictAll], by simp only [PyData.shownAll, costAll]; exact Nat.le_refl _⟩
  | x :: xs, h => by
    simp only [plainAll, Bool.and_eq_true] at h
    obtain ⟨a1, a2, a3⟩ := plain_shows x h.1
    obtain ⟨b1, b2, b3⟩ := plain_showsAll xs h.2
    refine ⟨by simp only [PyData.showableAll, a1, b1, Bool.and_self], by simp only [PyData.hasDictAll, a2, b2, Bool.or_self], ?_⟩
    simp only [PyData.shownAll, costAll, piled_cons]
    omega
end
/-- what repr asks of data -/
def RepOk (d : PyData) : Prop := plainD d = true ∧ d.depth ≤ 40 ∧ cost d ≤ sizeLine
theorem repr_go {K : PySem.W.Frag} {x : V} {d : PyData} {H : Hp} {Q : VK} (hd : Dp K H x d) (ok : RepOk d) (q : Q (.str d.shown) H) : rRepr K [x] H Q := by
  obtain ⟨h1, h2, h3⟩ := plain_shows d ok.1
  exact ⟨x, d, rfl, hd, h1, h2, ok.2.1, Nat.le_trans h3 ok.2.2, q⟩
theorem RepOk.sh {d : PyData} (ok : RepOk d) : d.showable = true := (plain_shows d ok.1).1
theorem RepOk.nd {d : PyData} (ok : RepOk d) : d.hasDict = false := (plain_shows d ok.1).2.1
theorem RepOk.dp {d : PyData} (ok : RepOk d) : d.depth ≤ 40 := ok.2.1
theorem RepOk.sz {d : PyData} (ok : RepOk d) : d.shown.length ≤ sizeLine := Nat.le_trans (plain_shows d ok.1).2.2 ok.2.2
theorem small_int {i : Int} (h1 : -1000000000000000000000000000000 ≤ i) (h2 : i ≤ 1000000000000000000000000000000) : plainD (.int i) = true := by
  simp only [plainD]
  refine decide_eq_true ?_
  by_cases h : i.natAbs = 0
  · rw [h]; decide
  · refine (Nat.log2_lt h).mpr ?_
    have : i.natAbs ≤ 1000000000000000000000000000000 := by omega
    exact Nat.lt_of_le_of_lt this (by decide)
/-- the rectangle as data -/
def R.d (r : R) : PyData := .tuple [.int r.l, .int r.t, .int r.w, .int r.h]
theorem Rc.dp {K : PySem.W.Frag} {H : Hp} {v : V} {r : R} (h : Rc K H v r) : Dp K H v r.d := by
  obtain ⟨a, rfl, h⟩ := h
  exact .tup h (.cons (.int _) (.cons (.int _) (.cons (.int _) (.cons (.int _) .nil))))
theorem R.rep {r : R} (h : ∀ z ∈ [r.l, r.t, r.w, r.h], -1000000000000000000000000000000 ≤ z ∧ z ≤ 1000000000000000000000000000000) : RepOk r.d := by
  refine ⟨?_, by simp [R.d, PyData.depth, PyData.depthAll], ?_⟩
  · have p : ∀ z ∈ [r.l, r.t, r.w, r.h], plainD (.int z) = true := fun z hz => small_int (h z hz).1 (h z hz).2
    simp only [R.d, plainD, plainAll, Bool.and_true, Bool.and_eq_true] at *
    exact ⟨p _ (by simp), p _ (by simp), p _ (by simp), p _ (by simp)⟩
  · simp only [R.d, cost, costAll]
    decide
end Cs

set_option maxRecDepth 100000
set_option maxHeartbeats 4000000
/-! rectangles: the plain functions, and what the program's functions promise of them -/
namespace Cs
open PySem PySem.Spec PyProof.Rows L2
def has (r : R) (x y : Int) : Bool := (decide (r.l ≤ x) && decide (x < r.l + r.w)) && (decide (r.t ≤ y) && decide (y < r.t + r.h))
def In (a b : R) : Bool := decide (b.l ≤ a.l) && (decide (b.t ≤ a.t) && (decide (a.l + a.w ≤ b.l + b.w) && decide (a.t + a.h ≤ b.t + b.h)))
def com (a b : R) : Option R :=
  if max a.l b.l < min (a.l + a.w) (b.l + b.w) ∧ max a.t b.t < min (a.t + a.h) (b.t + b.h) then
    some ⟨max a.l b.l, max a.t b.t, min (a.l + a.w) (b.l + b.w) - max a.l b.l, min (a.t + a.h) (b.t + b.h) - max a.t b.t⟩
  else none
theorem com_comm (a b : R) : com a b = com b a := by
  unfold com
  rw [Int.max_comm a.l b.l, Int.max_comm a.t b.t, Int.min_comm (a.l + a.w), Int.min_comm (a.t + a.h)]
theorem max_if (i j : Int) : (if j > i then j else i) = max i j := by split <;> omega
theorem min_if (i j : Int) : (if j < i then j else i) = min i j := by split <;> omega
/-- v is None or the rectangle o -/
def OptR (K : PySem.W.Frag) (H : Hp) (v : V) : Option R → Prop
  | none => v = .non
  | some r => Rc K H v r
theorem OptR.im {K : PySem.W.Frag} {H H' : Hp} {v : V} {o : Option R} (h : OptR K H v o) (e : Im H H') : OptR K H' v o := by
  cases o with
  | none => exact h
  | some r => exact Rc.im h e
theorem OptR.same {K : PySem.W.Frag} {H H' : Hp} {v : V} {o : Option R} (h : OptR K H v o) (e : Same H H') : OptR K H' v o := h.im (Im.same e)
theorem OptR.isN {K : PySem.W.Frag} {H : Hp} {v : V} {o : Option R} (h : OptR K H v o) : decide (v = .non) = o.isNone := by
  cases o with
  | none => cases h; rfl
  | some r => obtain ⟨a, rfl, _⟩ := h; rfl
def odata : Option R → PyData
  | none => .none
  | some r => r.d
theorem OptR.dp {K : PySem.W.Frag} {H : Hp} {v : V} {o : Option R} (h : OptR K H v o) : Dp K H v (odata o) := by
  cases o with
  | none => cases h; exact .non
  | some r => exact Rc.dp h
theorem none_rep : RepOk .none := ⟨rfl, by simp [PyData.depth], by simp only [cost]; decide⟩
def sp_edges (K : PySem.W.Frag) : Sp := fun vs H Q _ => ∃ (v : V) (r : R), vs = [v] ∧ Rc K H v r ∧ ∀ p, H p = none → Q (.ref p) (upd H p (.tup r.es))
def sp_inside (K : PySem.W.Frag) : Sp := fun vs H Q _ => ∃ (u v : V) (a b : R), vs = [u, v] ∧ Rc K H u a ∧ Rc K H v b ∧ ∀ H', Same H H' → Q (.bl (In a b)) H'
def sp_contains (K : PySem.W.Frag) : Sp := fun vs H Q _ => ∃ (v : V) (r : R) (x y : Int), vs = [v, .int x, .int y] ∧ Rc K H v r ∧ Q (.bl (has r x y)) H
def sp_common (K : PySem.W.Frag) : Sp := fun vs H Q _ => ∃ (u v : V) (a b : R), vs = [u, v] ∧ Rc K H u a ∧ Rc K H v b ∧ ∀ x H', Same H H' → OptR K H' x (com a b) → Q x H'
def sp_overlap (K : PySem.W.Frag) : Sp := fun vs H Q _ => ∃ (u v : V) (a b : R), vs = [u, v] ∧ Rc K H u a ∧ Rc K H v b ∧ ∀ H', Same H H' → Q (.bl (com a b).isSome) H'
def spLaw (K : PySem.W.Frag) : Sp := fun vs H Q _ => ∃ (a : Addr) (ns : List Int), vs = [.ref a] ∧ SqL K H a (ns.map V.int) ∧ ns.length ≤ 63 ∧ ∀ H', Q (.bl true) H'
theorem law_start (K : PySem.W.Frag) (H : Hp) (a : Addr) (ns : List Int) (h1 : ns.length ≤ 63) (h2 : SqL K H a (ns.map V.int)) : spLaw K [.ref a] H (fun v _ => v = .bl true) E0 := ⟨a, ns, rfl, h2, h1, fun _ => rfl⟩
end Cs

set_option maxRecDepth 100000
set_option maxHeartbeats 4000000
/-! texts as lists of codes; a written dict asked by get; comprehensions and loops over a text -/
namespace Cs
open PySem PySem.Spec PyProof.Rows L2
/-- the text of the codes l -/
def S (l : List Nat) : Str := ⟨l.toArray⟩
theorem S_len (l : List Nat) : (S l).length = l.length := by simp [S, Str.length]
theorem S_codes (l : List Nat) : (S l).cps.toList = l := by simp [S]
theorem S_app (l m : List Nat) : S l ++ S m = S (l ++ m) := by
  show Str.mk (l.toArray ++ m.toArray) = Str.mk (l ++ m).toArray
  rw [List.append_toArray]
theorem S_inj {l m : List Nat} (h : S l = S m) : l = m := by
  have := congrArg (fun x : Str => x.cps.toList) h
  simpa [S] using this
theorem S_of (x : Str) : ∃ l, x = S l := ⟨x.cps.toList, by cases x; simp [S]⟩
theorem S_eq {l : List Nat} {x : Str} (h : x.cps.toList = l) : x = S l := by
  subst h
  cases x
  simp [S]
theorem S_at {l : List Nat} {i : Nat} {c : Nat} (h : (S l).cps[i]? = some c) : l[i]? = some c := by
  have : (S l).cps.toList[i]? = some c := by rw [Array.getElem?_toList]; exact h
  rwa [S_codes] at this
/-- text * int -/
def rMulS : R2 := fun x y H Q => ∃ (l : List Nat) (k : Int), x = .str (S l) ∧ y = .int k ∧ 1 ≤ k ∧ l.length * k.toNat ≤ 100000 ∧ k ≤ 100000 ∧ Q (.str (S (List.replicate k.toNat l).flatten)) H
theorem fold_cat : ∀ (n : Nat) (acc l : List Nat), (List.replicate n l.toArray).foldl (· ++ ·) acc.toArray = (acc ++ (List.replicate n l).flatten).toArray
  | 0, acc, l => by simp
  | n + 1, acc, l => by
    rw [List.replicate_succ, List.foldl_cons, List.append_toArray, fold_cat n (acc ++ l) l, List.replicate_succ, List.flatten_cons, List.append_assoc]
theorem op_mul_str {X : Cx} : OpR X (binaryOp .Mult) rMulS := by
  intro pins s σ H x y v u Q I rx ry h
  obtain ⟨l, k, rfl, rfl, k1, k2, k3, q⟩ := h
  obtain ⟨t, rfl⟩ := rx
  obtain ⟨t', rfl⟩ := ry
  have hz : sizeLine = 16777216 := by decide
  refine SB.mul (x := S l) ⟨by simp; omega, fun _ _ h => ?_, fun _ _ => ?_⟩ fun t' n => ⟨.str (Txt.mul (S l) k), H, I.tok _, ⟨_, rfl⟩, ?_⟩
  · rw [S_len] at h
    have hl : (l.length : Int) ≤ 100000 := by
      have : l.length * 1 ≤ l.length * k.toNat := Nat.mul_le_mul_left _ (by omega)
      omega
    have : (2 ^ 63 - 1 : Int) / 100000 ≤ (2 ^ 63 - 1) / k := by
      refine Int.le_ediv_of_mul_le (by omega) ?_
      have : (2 ^ 63 - 1 : Int) / 100000 * k ≤ (2 ^ 63 - 1 : Int) / 100000 * 100000 := Int.mul_le_mul_of_nonneg_left k3 (by decide)
      exact Int.le_trans this (by decide)
    have : (100000 : Int) ≤ (2 ^ 63 - 1 : Int) / 100000 := by decide
    omega
  · rw [S_len]
    show decide (l.length * k.toNat > sizeLine) = false
    exact decide_eq_false (by omega)
  · have e : Txt.mul (S l) k = S (List.replicate k.toNat l).flatten := by
      unfold Txt.mul
      rw [if_neg (by omega)]
      by_cases h1 : (k == 1 || (S l).length == 0) = true
      · rw [if_pos h1]
        rcases Bool.or_eq_true _ _ ▸ h1 with h | h
        · have : k = 1 := by simpa using h
          subst this
          show S l = S (List.replicate 1 l).flatten
          simp
        · rw [S_len] at h
          have : l = [] := by simpa using h
          subst this
          simp
      · rw [if_neg h1]
        have := fold_cat k.toNat [] l
        show Str.mk _ = Str.mk _
        rw [show (S l).cps = l.toArray from rfl]
        simpa using this
    rw [e]
    exact q
section
variable {X : Cx} {o e f : Expr} {apos cpos : Pos} {td ty tx : TE}
/-- d.get(x, z) of a written dict: r says what it holds at the text -/
def tWGet (K : PySem.W.Frag) (w : World) (ty tx : TE) (d : Addr) : TE := fun σ H Q => ty σ H fun y H2 => tx σ H2 fun z H3 => ∃ (x : Str) (es : Array DictEntry) (n : Nat), y = .str x ∧ KDict K w d es n ∧
  ((∃ u v, findBy Value.isStrOf es x = some u ∧ RelV v u ∧ Q v H3) ∨ (findBy Value.isStrOf es x = none ∧ Q z H3))
theorem pe_wget {d : Addr} {x : Str} {pos : Pos} (hg : Gl X x) (hm : X.mg x = some (.ref d)) (D : ∃ es n, KDict X.K X.w d es n) (he : PE X e ty) (hf : PE X f tx) (m : M2 X (.Name x pos) "get" apos e f cpos) (hd : (x == ("__debug__" : Str)) = false := by decide) :
    PE X (.Call (.Attribute (.Name x pos) "get" apos) [e, f] [] cpos) (tWGet X.K X.w ty tx d) := by
  refine ⟨fun pins s σ H Q I h => ?_⟩
  obtain ⟨es, n, D⟩ := D
  refine wpAny_Call_method m.base m.few m.line PySem.F.plainAttrs_dict PySem.F.slot_dict_get PySem.F.type_dict_get (thn ((pe_glob (X := X) (v := .ref d) hg hm rfl hd).run pins s σ H (fun v H' => v = .ref d ∧ H' = H) I ⟨rfl, rfl⟩) fun u s1 ⟨v, H1, I1, rx, e1, e2⟩ => ?_)
  subst e1
  subst e2
  obtain rfl : u = Value.ref d := rx
  have hm0 := PySem.W.mapOf_K (prog := X.prog) (w := X.w) I1.kIn D.at_ D.lit
  refine ⟨hm0.typeIs, fun b eb => ?_, ?_⟩
  · cases eb
    exact ⟨_, I1.kIn _ _ D.at_, rfl⟩
  rw [m.trees]
  refine Calls.callWith_builtin rfl (Calls.evalArgs_plain (Calls.spliced_cons (thn (he.run pins s1 σ H1 _ I1 h) fun iv s2 ⟨y, H2, I2, ry, q2⟩ => Calls.spliced_cons (thn (hf.run pins s2 σ H2 _ I2 q2) fun fv s3 ⟨z, H3, I3, rz, q3⟩ => Calls.spliced_nil ?_))))
  obtain ⟨x0, es', n', ey, D', q⟩ := q3
  subst ey
  obtain ⟨t, rfl⟩ := (show ∃ t, iv = Value.str x0 t from ry)
  have hm3 := PySem.W.mapOf_K (prog := X.prog) (w := X.w) I3.kIn D'.at_ D'.lit
  refine call_meetsIn PySem.F.slot_dict_get hm3.typeIs PySem.F.entry_dict_get (PySem.F.args_dict_get_3 _ _ _) (meets_dict_get_default (strKind X.prog X.w) d (strKind_is X.prog X.w x0 t) D'.low fv) ⟨_, hm3, ?_⟩
  rcases q with ⟨u0, v0, hq, rv, q⟩ | ⟨hq, q⟩
  · rw [hq]
    exact ⟨v0, H3, I3.tok _, rv, q⟩
  · rw [hq]
    exact ⟨z, H3, I3.tok _, rz, q⟩
/-- a module's number, whatever token it bears -/
theorem pe_globI {x : Str} {i : Int} {pos : Pos} (hg : Gl X x) (hm : ∃ t, X.mg x = some (.int i t)) (hd : (x == ("__debug__" : Str)) = false := by decide) : PE X (.Name x pos) (tC (.int i)) := by
  obtain ⟨t, hm⟩ := hm
  exact pe_glob hg hm ⟨t, rfl⟩ hd
end
section
variable {K : PySem.W.Frag} {l : List Nat} {te : TE} {g : TG} {tb : TS} {s : Nat} {σ : L2.St} {H H1 : Hp} {D : Addr} {Qd : Hp → Prop} {En : Ends}
theorem for_text (Pv : Nat → L2.St → Hp → Prop) (h0 : Pv 0 σ H)
    (hs : ∀ (i : Nat) c σ H, l[i]? = some c → Pv i σ H → g (.str (S [c])) σ H fun σ2 H2 => tb { En with nx := Pv (i + 1), ct := Pv (i + 1), bk := En.nx } σ2 H2) (hd : ∀ σ H, Pv l.length σ H → En.nx σ H) :
    ∃ W : Nat → Nat → L2.St → Hp → Prop, (∃ m, W 0 m σ H) ∧ ∀ i m σ H, W i m σ H →
      ((Its (S l)).stop i H ∧ En.nx σ H) ∨ ((Its (S l)).go i H ∧ ∃ N : L2.St → Hp → Prop, (∀ σ' H', N σ' H' → ∃ m', m' < m ∧ W (i + 1) m' σ' H') ∧ ∀ x H', (Its (S l)).yld i H x H' → g x σ H' fun σ2 H2 => tb { En with nx := N, ct := N, bk := En.nx } σ2 H2) := by
  have sz : (S l).cps.size = l.length := by simp [S]
  refine ⟨fun i m σ H => m = l.length - i ∧ i ≤ l.length ∧ Pv i σ H, ⟨l.length, by simp, Nat.zero_le _, h0⟩, ?_⟩
  rintro i m σ H ⟨rfl, hi, p⟩
  by_cases hlt : i < l.length
  · refine .inr ⟨by show i < (S l).cps.size; omega, Pv (i + 1), fun σ' H' p' => ⟨l.length - (i + 1), by omega, rfl, hlt, p'⟩, fun x H' y => ?_⟩
    obtain ⟨e, c, hc, ex⟩ := y
    subst e
    subst ex
    exact hs i c σ _ (S_at hc) p
  · have e : i = l.length := by omega
    subst e
    exact .inl ⟨by show (S l).cps.size ≤ _; omega, hd σ H p⟩
theorem lc_text (Pv : Nat → Hp → Prop) (h0 : Pv 0 (upd H1 D (.lst [])))
    (hs : ∀ (i : Nat) c H, l[i]? = some c → Pv i H → gName s (.str (S [c])) (wipe σ [s]) H fun σ2 H2 => wipe σ2 [s] = wipe σ [s] ∧ tYes σ2 H2 fun b H3 =>
      if b = true then te σ2 H3 fun y H4 => ∃ acc, H4 D = some (.lst acc) ∧ acc.length < sizeLine ∧ Pv (i + 1) (upd H4 D (.lst (acc ++ [y]))) else Pv (i + 1) H3) (hd : ∀ H, Pv l.length H → Qd H) :
    ∃ W : Nat → Nat → Hp → Prop, (∃ m, W 0 m (upd H1 D (.lst []))) ∧ ∀ i m H, W i m H →
      ((Its (S l)).stop i H ∧ Qd H) ∨ ((Its (S l)).go i H ∧ ∃ Nx : Hp → Prop, (∀ H', Nx H' → ∃ m', m' < m ∧ W (i + 1) m' H') ∧ ∀ x H', (Its (S l)).yld i H x H' → gName s x (wipe σ [s]) H' fun σ2 H2 => wipe σ2 [s] = wipe σ [s] ∧ tYes σ2 H2 fun b H3 =>
        if b = true then te σ2 H3 fun y H4 => ∃ acc, H4 D = some (.lst acc) ∧ acc.length < sizeLine ∧ Nx (upd H4 D (.lst (acc ++ [y]))) else Nx H3) := by
  have sz : (S l).cps.size = l.length := by simp [S]
  refine ⟨fun i m H => m = l.length - i ∧ i ≤ l.length ∧ Pv i H, ⟨l.length, by simp, Nat.zero_le _, h0⟩, ?_⟩
  rintro i m H ⟨rfl, hi, p⟩
  by_cases hlt : i < l.length
  · refine .inr ⟨by show i < (S l).cps.size; omega, Pv (i + 1), fun H' p' => ⟨l.length - (i + 1), by omega, rfl, hlt, p'⟩, fun x H' y => ?_⟩
    obtain ⟨e, c, hc, ex⟩ := y
    subst e
    subst ex
    exact hs i c _ (S_at hc) p
  · have e : i = l.length := by omega
    subst e
    exact .inl ⟨by show (S l).cps.size ≤ _; omega, hd H p⟩
/-- [f(c) for c in text], f a value that hangs on the sign alone -/
theorem map_text (f : Nat → V) (hz : l.length ≤ sizeLine) (fresh : H1 D = none)
    (elt : ∀ (i : Nat) c, l[i]? = some c → ∀ H, Same H1 H → ∀ Q' : VK, (∀ H', Same H H' → Q' (f c) H') → te ((σ.set s none).set s (some (.str (S [c])))) H Q')
    (hd : ∀ H, Same H1 H → H D = some (.lst (l.map f)) → Qd H) :
    ∃ W : Nat → Nat → Hp → Prop, (∃ m, W 0 m (upd H1 D (.lst []))) ∧ ∀ i m H, W i m H →
      ((Its (S l)).stop i H ∧ Qd H) ∨ ((Its (S l)).go i H ∧ ∃ Nx : Hp → Prop, (∀ H', Nx H' → ∃ m', m' < m ∧ W (i + 1) m' H') ∧ ∀ x H', (Its (S l)).yld i H x H' → gName s x (wipe σ [s]) H' fun σ2 H2 => wipe σ2 [s] = wipe σ [s] ∧ tYes σ2 H2 fun b H3 =>
        if b = true then te σ2 H3 fun y H4 => ∃ acc, H4 D = some (.lst acc) ∧ acc.length < sizeLine ∧ Nx (upd H4 D (.lst (acc ++ [y]))) else Nx H3) :=
  lc_text (CompSo (fun i v _ => ∃ c, l[i]? = some c ∧ v = f c) H1 D) (comp_start fresh)
    (fun i c H hc so => comp_turn (fun _ _ _ _ h _ => h) hz fresh (List.getElem?_eq_some_iff.mp hc).1 so fun H sm Q' hQ => elt i c hc H sm Q' fun H' sm' => hQ _ H' sm' ⟨c, hc, rfl⟩)
    fun H ⟨sm, ys, hD, hlen, hP⟩ => hd H sm (by rw [← eq_map hlen hP]; exact hD)
end
end Cs

set_option maxRecDepth 100000
set_option maxHeartbeats 4000000
/-! widths of texts -/
namespace Cs
open PySem PySem.Spec PyProof.Rows L2
def alpha : List Nat := (Str.ofString " !\"#$&'()*+,-./0123456789:;<=>?@ABCDEFGHIJKLMNOPQRSTUVWXYZ[\\]^_`" ++ Str.ofString "abcdefghijklmnopqrstuvwxyz{|}~").cps.toList
theorem alpha_len : alpha.length = 94 := by decide +kernel
theorem alpha_small : ∀ c ∈ alpha, c < 128 := by decide +kernel
/-- the width of the sign with the code c -/
def gw (c : Nat) : Int :=
  if c ∈ (Str.ofString "!'.:i|").cps.toList then 1
  else if c ∈ (Str.ofString "(),;[]jl`").cps.toList then 2
  else if c ∈ (Str.ofString " \"*-/1<>I\\^frt{}").cps.toList then 3
  else if c ∈ (Str.ofString "$023456789=?J_abcdeghknopqsuvxyz").cps.toList then 4
  else 5
theorem gw_pos (c : Nat) : 1 ≤ gw c := by unfold gw; split <;> (try decide); split <;> (try decide); split <;> (try decide); split <;> decide
theorem gw_le (c : Nat) : gw c ≤ 5 := by unfold gw; split <;> (try decide); split <;> (try decide); split <;> (try decide); split <;> decide
/-- a text of such signs -/
def Word (l : List Nat) : Prop := ∀ c ∈ l, c ∈ alpha
theorem Word.nil : Word [] := fun _ h => absurd h List.not_mem_nil
theorem Word.app {l m : List Nat} (a : Word l) (b : Word m) : Word (l ++ m) := fun c h => (List.mem_append.mp h).elim (a c) (b c)
theorem Word.one {c : Nat} (h : c ∈ alpha) : Word [c] := fun d hd => by rw [List.mem_singleton.mp hd]; exact h
def tw (l : List Nat) : Int := if l = [] then 0 else (l.map gw).sum + l.length - 1
theorem sum_gw : ∀ l : List Nat, (l.length : Int) ≤ (l.map gw).sum ∧ (l.map gw).sum ≤ 5 * l.length
  | [] => by simp
  | c :: r => by
    have := sum_gw r
    have := gw_pos c
    have := gw_le c
    rw [List.map_cons, List.sum_cons, List.length_cons]
    omega
theorem tw_nn (l : List Nat) : 0 ≤ tw l := by
  unfold tw
  split
  · exact Int.le_refl _
  · have := (sum_gw l).1
    have : 0 < l.length := List.length_pos_iff.mpr (by assumption)
    omega
theorem tw_le (l : List Nat) : tw l ≤ 6 * l.length := by
  unfold tw
  split
  · omega
  · have := (sum_gw l).2
    omega
theorem sum_gw1 : ∀ l : List Nat, (l.map fun c => 1 + gw c).sum = (l.map gw).sum + l.length
  | [] => by simp
  | c :: r => by
    have := sum_gw1 r
    rw [List.map_cons, List.sum_cons, List.map_cons, List.sum_cons, List.length_cons]
    omega
theorem tw_law (l : List Nat) : max ((l.map fun c => 1 + gw c).sum - 1) 0 = tw l := by
  rw [sum_gw1]
  unfold tw
  split
  · rename_i h
    subst h
    show max ((0 : Int) + 0 - 1) 0 = 0
    decide
  · have := (sum_gw l).1
    have : 0 < l.length := List.length_pos_iff.mpr (by assumption)
    omega
theorem tw_app (l m : List Nat) (h1 : l ≠ []) (h2 : m ≠ []) : tw (l ++ m) = tw l + 1 + tw m := by
  unfold tw
  rw [if_neg h1, if_neg h2, if_neg (by simp [h1]), List.map_append, List.sum_append, List.length_append]
  omega
theorem sum_take_map {f : Nat → Int} {l : List Nat} {i : Nat} {c : Nat} (h : l[i]? = some c) : ((l.take (i + 1)).map f).sum = ((l.take i).map f).sum + f c := by
  rw [List.take_add_one, h, List.map_append, List.sum_append]
  simp
/-- the column x is one of a sign's, the first sign at left -/
def ink : List Nat → Int → Int → Bool
  | [], _, _ => false
  | c :: r, left, x => if x < left + gw c then decide (left ≤ x) && !decide (c = 32) else ink r (left + gw c + 1) x
theorem ink_cons (c : Nat) (r : List Nat) (left x : Int) : ink (c :: r) left x = if x < left + gw c then decide (left ≤ x) && !decide (c = 32) else ink r (left + gw c + 1) x := rfl
theorem ink_off : ∀ (l : List Nat) (left x : Int), x < left → ink l left x = false
  | [], _, _, _ => rfl
  | c :: r, left, x, h => by
    have := gw_pos c
    unfold ink
    rw [if_pos (by omega), decide_eq_false (by omega)]
    rfl
/-- .. as the law asks it -/
def ink2 : List Nat → Int → Int → Bool
  | [], _, _ => false
  | c :: r, left, x => if left ≤ x ∧ x < left + gw c then !decide (c = 32) else ink2 r (left + gw c + 1) x
theorem ink2_cons (c : Nat) (r : List Nat) (left x : Int) : ink2 (c :: r) left x = if left ≤ x ∧ x < left + gw c then !decide (c = 32) else ink2 r (left + gw c + 1) x := rfl
theorem ink2_off : ∀ (l : List Nat) (left x : Int), x < left → ink2 l left x = false
  | [], _, _, _ => rfl
  | c :: r, left, x, h => by
    have := gw_pos c
    unfold ink2
    rw [if_neg (by omega)]
    exact ink2_off r _ _ (by omega)
theorem ink_eq : ∀ (l : List Nat) (left x : Int), ink2 l left x = ink l left x
  | [], _, _ => rfl
  | c :: r, left, x => by
    have := gw_pos c
    unfold ink2 ink
    by_cases h : x < left + gw c
    · rw [if_pos h]
      by_cases h2 : left ≤ x
      · rw [if_pos ⟨h2, h⟩, decide_eq_true h2]; rfl
      · rw [if_neg (by omega), decide_eq_false h2, ink2_off r _ _ (by omega)]; rfl
    · rw [if_neg h, if_neg (by omega)]
      exact ink_eq r _ _
def inkT (l : List Nat) (x y : Int) : Bool := (decide (0 ≤ y) && decide (y < 7)) && ink l 0 x
theorem drop_cons {l : List Nat} {i : Nat} {c : Nat} (h : l[i]? = some c) : l.drop i = c :: l.drop (i + 1) := by
  obtain ⟨hi, e⟩ := List.getElem?_eq_some_iff.mp h
  rw [List.drop_eq_getElem_cons hi, e]
/-- the written table of widths -/
structure Glyphs (K : PySem.W.Frag) (w : World) (mg : Str → Option Value) : Prop where
  tab : ∃ (d : Addr) (es : Array DictEntry) (n : Nat), mg "GLYPH_WIDTHS" = some (.ref d) ∧ KDict K w d es n ∧ ∀ c ∈ alpha, (∃ t, findBy Value.isStrOf es (S [c]) = some (.int (gw c) t)) ∨ (findBy Value.isStrOf es (S [c]) = none ∧ gw c = 5)
  other : ∃ t, mg "OTHER_WIDTH" = some (.int 5 t)
  height : ∃ t, mg "TEXT_HEIGHT" = some (.int 7 t)
/-- the check of the table, to be run -/
def tabB (es : Array DictEntry) : Bool := alpha.all fun c => match findBy Value.isStrOf es (S [c]) with
  | some (.int i _) => decide (i = gw c)
  | none => decide (gw c = 5)
  | _ => false
theorem tab_of {es : Array DictEntry} (h : tabB es = true) : ∀ c ∈ alpha, (∃ t, findBy Value.isStrOf es (S [c]) = some (.int (gw c) t)) ∨ (findBy Value.isStrOf es (S [c]) = none ∧ gw c = 5) := fun c hc => by
  have q := List.all_eq_true.mp h c hc
  split at q
  · rename_i i t e
    exact .inl ⟨t, by rw [e, of_decide_eq_true q]⟩
  · rename_i e
    exact .inr ⟨e, of_decide_eq_true q⟩
  · cases q
def sp_glyph_width (K : PySem.W.Frag) : Sp := fun vs H Q _ => ∃ c, vs = [.str (S [c])] ∧ c ∈ alpha ∧ Q (.int (gw c)) H
def sp_text_width (K : PySem.W.Frag) : Sp := fun vs H Q _ => ∃ l, vs = [.str (S l)] ∧ Word l ∧ l.length ≤ 100000 ∧ ∀ H', Same H H' → Q (.int (tw l)) H'
def sp_inked (K : PySem.W.Frag) : Sp := fun vs H Q _ => ∃ l x y, vs = [.str (S l), .int x, .int y] ∧ Word l ∧ Q (.bl (inkT l x y)) H
def sp_law_sign_width (K : PySem.W.Frag) : Sp := fun vs H Q _ => ∃ c, vs = [.str (S [c])] ∧ Q (.int (gw c)) H
def sp_law_width (K : PySem.W.Frag) : Sp := fun vs H Q _ => ∃ l, vs = [.str (S l)] ∧ Q (.int (tw l)) H
def sp_law_inked (K : PySem.W.Frag) : Sp := fun vs H Q _ => ∃ l x y, vs = [.str (S l), .int x, .int y] ∧ Q (.bl (inkT l x y)) H
def sp_law_word (K : PySem.W.Frag) : Sp := fun vs H Q _ => ∃ (t l : Addr), vs = [.ref t] ∧ TapeAt H t l ∧ ∀ m H', TapeAt H' t l → Gr t H H' → Word m → m.length ≤ 5 → Q (.str (S m)) H'
theorem S_lit : S [] = Str.ofString "" := by decide +kernel
theorem S_sp : S [32] = Str.ofString " " := by decide +kernel
theorem S_sp_iff {c : Nat} : (S [c] = Str.ofString " ") ↔ c = 32 := by
  rw [← S_sp]
  constructor
  · intro h
    have := S_inj h
    simpa using this
  · intro h; rw [h]
end Cs

set_option maxRecDepth 100000
set_option maxHeartbeats 4000000
/-! t[a::2] of a tuple -/
namespace Cs
open PySem PySem.Spec PyProof.Rows L2
/-- every other item, from the first on -/
def ev {α : Type} : List α → List α
  | [] => []
  | [a] => [a]
  | a :: _ :: r => a :: ev r
theorem ev_vals : ∀ {xs : List V} {us : List Value}, Vals xs us → Vals (ev xs) (ev us)
  | _, _, .nil => .nil
  | _, _, .cons h .nil => .cons h .nil
  | _, _, .cons h (.cons _ t) => .cons h (ev_vals t)
theorem ev_len {α : Type} : ∀ l : List α, (ev l).length ≤ l.length
  | [] => Nat.le_refl _
  | [_] => Nat.le_refl _
  | _ :: _ :: r => by have := ev_len r; show (ev r).length + 1 ≤ r.length + 1 + 1; omega
theorem ev_pick {α : Type} : ∀ l : List α, ((List.range ((l.length + 1) / 2)).filterMap fun m => l[2 * m]?) = ev l
  | [] => by simp [ev]
  | [a] => by simp [ev]
  | a :: b :: r => by
    have e : ((a :: b :: r).length + 1) / 2 = (r.length + 1) / 2 + 1 := by
      show (r.length + 1 + 1 + 1) / 2 = _
      omega
    rw [e, List.range_succ_eq_map, List.filterMap_cons, List.filterMap_map]
    have e2 : ((fun m => (a :: b :: r)[2 * m]?) ∘ Nat.succ) = fun m => r[2 * m]? := by
      funext m
      show (a :: b :: r)[2 * (m + 1)]? = _
      rw [show 2 * (m + 1) = 2 * m + 1 + 1 from by omega, List.getElem?_cons_succ, List.getElem?_cons_succ]
    rw [e2, ev_pick r]
    rfl
section
variable {prog : Program} {w : World} {A : Around} {E : Value → Shared → Prop} {s : Shared}
theorem slice_two {sl : Addr} {vl : Value} {u : Tok} {lo : Option Int} {n : Nat} {Q : Int × Int × Nat → Shared → Prop} (hs : s.heap.IsSliceOf sl vl .none (.int 2 u)) (pl : IsPart vl lo)
    (h : Q (((HT.sIx n 0 lo : Nat) : Int), 2, (n - HT.sIx n 0 lo + 1) / 2) s) : wpAny (model prog w) A (Builtin.Slice.sliceApplied (.ref sl) (pure (n : Int))) Q E s := by
  obtain ⟨os, hos, hcs, hds⟩ := id hs
  unfold Builtin.Slice.sliceApplied Builtin.Slice.sliceFields
  refine wpAny_bind (wpAny_bind (wpAny_field hos hds (x := vl) rfl (wpAny_bind (wpAny_field hos hds (x := .none) rfl (wpAny_bind (wpAny_field hos hds (x := .int 2 u) rfl (wpAny_pure ?_)))))))
  refine wpAny_bind (HT.slicePart_ (.int 2 u) ?_)
  show wpAny _ _ (if ((2 : Int) == 0) = true then _ else _) _ _ s
  rw [if_neg (by decide)]
  refine wpAny_bind (HT.slicePart_ pl (wpAny_bind (HT.slicePart_ .none (wpAny_bind (wpAny_pure ?_)))))
  have e1 : Builtin.Slice.sliceAdjust lo none 2 (n : Int) = (((HT.sIx n 0 lo : Nat) : Int), (n : Int)) := by
    unfold Builtin.Slice.sliceAdjust
    simp only [show ¬ ((2 : Int) < 0) from by omega, if_false]
    refine Prod.ext ?_ rfl
    cases lo with
    | none => rfl
    | some v => exact HT.clip_eq v n 0
  have hle : HT.sIx n 0 lo ≤ n := HT.sIx_le n 0 (Nat.zero_le _) lo
  have e2 : Builtin.Slice.slicePlaces ((HT.sIx n 0 lo : Nat) : Int) (n : Int) 2 = (n - HT.sIx n 0 lo + 1) / 2 := by
    unfold Builtin.Slice.slicePlaces
    simp only [show (2 : Int) > 0 from by omega, if_true]
    split <;> omega
  show wpAny _ _ (match Builtin.Slice.sliceAdjust lo none 2 (n : Int) with | (lo, hi) => pure (lo, (2 : Int), Builtin.Slice.slicePlaces lo hi 2)) _ _ s
  rw [e1]
  show wpAny _ _ (pure (((HT.sIx n 0 lo : Nat) : Int), (2 : Int), Builtin.Slice.slicePlaces ((HT.sIx n 0 lo : Nat) : Int) (n : Int) 2)) _ _ s
  rw [e2]
  exact wpAny_pure h
theorem pick_two (xs : Array Value) (i : Nat) : ((List.range ((xs.size - i + 1) / 2)).filterMap fun (m : Nat) => xs[((i : Int) + (m : Int) * 2).toNat]?).toArray = (ev (xs.toList.drop i)).toArray := by
  have e : (fun (m : Nat) => xs[((i : Int) + (m : Int) * 2).toNat]?) = fun m => (xs.toList.drop i)[2 * m]? := by
    funext m
    rw [List.getElem?_drop, Array.getElem?_toList]
    congr 1
    omega
  rw [e, ← ev_pick (xs.toList.drop i), List.length_drop, Array.length_toList]
theorem item_two {t sl : Addr} {items : Array Value} {vl : Value} {u : Tok} {lo : Option Int} {Q : Value → Shared → Prop} (ht : IsTup s.heap t items) (hs : s.heap.IsSliceOf sl vl .none (.int 2 u)) (pl : IsPart vl lo)
    (h : Q (.ref s.heap.objs.size) { s with heap := s.heap.push { cls := .type "tuple", data := .seq (ev (items.toList.drop (HT.sIx items.size 0 lo))).toArray } })
    (hsz : items.size ≤ sizeLine) : wpAny (model prog w) A (getItem (.ref t) (.ref sl)) Q E s := by
  have ok : sizeOk (.seq (ev (items.toList.drop (HT.sIx items.size 0 lo))).toArray) := by
    show (ev (items.toList.drop (HT.sIx items.size 0 lo))).toArray.size ≤ sizeLine
    have := ev_len (items.toList.drop (HT.sIx items.size 0 lo))
    rw [List.length_drop] at this
    have e : items.toList.length = items.size := Array.length_toList
    rw [List.size_toArray]
    omega
  obtain ⟨os, hos, hcs, hds⟩ := id hs
  have hTs : s.TypeIs (.ref sl) "slice" := ⟨os, hos, hcs⟩
  unfold getItem
  try with_reducible refine wpAny_holding ?_
  first | refine wpAny_bind (wpAny_pure ?_) | skip
  refine wpAny_bind (wpAny_sequenceKey ht.typeIs (by decide) ?_)
  refine wpAny_bind (wpAny_callSpecial?_slot (name := Str.ofString "__getitem__") ht.typeIs PyProof.Rows.slot_tuple_getitem (wpAny_call_entry PyProof.Rows.slot_tuple_getitem ht.typeIs entry_tuple_getitem ?_ (args_tuple_getitem _ _)))
  show wpAny _ _ (Builtin.Tuple.tupleItemsOf (.ref t) >>= _) _ _ s
  refine wpAny_bind (tupleItemsOf_ ht (wpAny_bind (wpAny_typeOf hTs ?_)))
  rw [if_pos (by decide)]
  refine wpAny_bind (slice_two hs pl ?_)
  have hno : ¬ ((((HT.sIx items.size 0 lo : Nat) : Int) == 0 && (2 : Int) == 1 && ((items.size - HT.sIx items.size 0 lo + 1) / 2) == items.size) = true) := by
    intro q
    rw [Bool.and_eq_true, Bool.and_eq_true] at q
    exact absurd q.1.2 (by decide)
  show wpAny _ _ (if (((HT.sIx items.size 0 lo : Nat) : Int) == 0 && (2 : Int) == 1 && ((items.size - HT.sIx items.size 0 lo + 1) / 2) == items.size) = true then _ else _) _ _ s
  rw [if_neg hno, pick_two]
  first
    | exact wpAny_bind (m := Builtin.Tuple.tupleExact _) (wpAny_newObj_type (wpAny_pure ⟨_, rfl, wpAny_pure h⟩) ok)
    | exact wpAny_bind (m := Builtin.Tuple.tupleExact _) (wpAny_newObj_type (wpAny_bind (wpAny_pure (wpAny_pure ⟨_, rfl, wpAny_pure h⟩))) ok)
    | exact wpAny_bind (wpAny_bind (m := Builtin.Tuple.tupleExact _) (wpAny_newObj_type (wpAny_pure (wpAny_pure ⟨_, rfl, wpAny_pure h⟩)) ok))
    | exact wpAny_bind (wpAny_bind (m := Builtin.Tuple.tupleExact _) (wpAny_newObj_type (wpAny_pure ⟨_, rfl, wpAny_pure h⟩) ok))
end
section
variable {X : Cx} {e : Expr} {te : TE} {lo : Option Expr} {tl : TO} {pos p2 p3 : Pos} {j : Nat}
def tSl2 (K : PySem.W.Frag) (te : TE) (tl : TO) : TE := fun σ H Q => te σ H fun x H1 => tl σ H1 fun l H2 => ∃ a xs, x = .ref a ∧ SqT K H2 a xs ∧ ∀ p, H2 p = none → Q (.ref p) (upd H2 p (.tup (ev (xs.drop (HT.sIx xs.length 0 l)))))
theorem pe_sl2 (K : PySem.W.Frag) (he : PE X e te) (hl : PO X lo tl) (hK : X.K = K := by rfl) : PE X (.Subscript e (.Slice lo none (some (.Constant (.int 2) j p3)) p2) pos) (tSl2 K te tl) := by
  subst hK
  refine ⟨fun pins s σ H Q I h => ?_⟩
  refine Subscript_ (thn (he.run pins s σ H _ I h) fun v s1 ⟨x, H1, I1, r1, q1⟩ => ?_)
  refine wpAny_Slice (thn (hl.run pins s1 σ H1 _ I1 q1) fun vl s2 ⟨l, H2, I2, pl, q2⟩ => ?_)
  rw [evalPart_none]
  refine wpAny_pure (thn ((pe_int (X := X) (i := 2) (j := j) (pos := p3)).run pins s2 σ H2 (fun v H' => v = .int 2 ∧ H' = H2) I2 ⟨rfl, rfl⟩) fun vs s3 ⟨y, H3, I3, ry, e1, e2⟩ => ?_)
  subst e1
  subst e2
  obtain ⟨u, rfl⟩ := (show ∃ t, vs = Value.int 2 t from ry)
  obtain ⟨a, xs, ex, hx, q⟩ := q2
  subst ex
  obtain rfl : v = Value.ref a := r1
  have I4 : Inv X pins σ H3 { s3 with heap := s3.heap.push { cls := .type "slice", data := .fields #[vl, .none, .int 2 u] } } := I3.kept (t' := s3.toks) fun b ob q => Heap.get?_push_of_some _ q
  obtain ⟨its, r, ht, hz⟩ := I4.tuple hx
  have hlen : its.toArray.size = xs.length := by rw [List.size_toArray]; exact r.length.symm
  show wpAny (model X.prog X.w) X.A (subscriptTail e (.Slice lo none (some (.Constant (.int 2) j p3)) p2) (.ref a) (.ref s3.heap.objs.size)) (EP X pins σ Q) X.xe { s3 with heap := s3.heap.push { cls := .type "slice", data := .fields #[vl, .none, .int 2 u] } }
  refine tail_any (ops := [.ref a, .ref s3.heap.objs.size]) ht.typeIs PyProof.Rows.slot_tuple_getitem.lookup ?_ (by with_unfolding_all rfl)
  refine item_two ht (Heap.IsSliceOf.new ..) pl ?_ (by rw [hlen]; exact hz)
  rw [hlen]
  refine ⟨.ref _, _, I4.laid (t' := s3.toks) (o := .tup (ev (xs.drop (HT.sIx xs.length 0 l)))) (fun b ob q => Heap.get?_push_of_some _ q) (Nat.le_refl _) ?_, rfl, q _ (I4.hok.fresh (Nat.le_refl _))⟩
  exact ⟨Nat.le_trans (ev_len _) (by rw [List.length_drop]; omega), _, ev_vals (r.drop (HT.sIx xs.length 0 l)), IsTup.new _ _⟩
end
end Cs

set_option maxRecDepth 100000
set_option maxHeartbeats 4000000
/-! shapes -/
namespace Cs
open PySem PySem.Spec PyProof.Rows L2
/-- v is a tuple of vs -/
def Tup (K : PySem.W.Frag) (H : Hp) (v : V) (vs : List V) : Prop := ∃ a, v = .ref a ∧ SqT K H a vs
theorem Tup.im {K : PySem.W.Frag} {H H' : Hp} {v : V} {vs : List V} (h : Tup K H v vs) (e : Im H H') : Tup K H' v vs := let ⟨a, h1, h2⟩ := h; ⟨a, h1, e.sqT h2⟩
theorem Tup.same {K : PySem.W.Frag} {H H' : Hp} {v : V} {vs : List V} (h : Tup K H v vs) (e : Same H H') : Tup K H' v vs := h.im (Im.same e)
inductive Sh where
  | rect (x y w h : Int)
  | line (x y u v : Int)
  | poly (p : Int × Int) (ps : List (Int × Int))
  | circ (x y r : Int)
  | tS (x y : Int) (l : List Nat)
  | tM (x y : Int) (l : List Nat)
  | tE (x y : Int) (l : List Nat)
def flat : List (Int × Int) → List Int
  | [] => []
  | p :: r => p.1 :: p.2 :: flat r
def Sh.name : Sh → Str
  | .rect .. => Str.ofString "rectangle"
  | .line .. => Str.ofString "line"
  | .poly .. => Str.ofString "polyline"
  | .circ .. => Str.ofString "circle"
  | .tS .. => Str.ofString "text start"
  | .tM .. => Str.ofString "text middle"
  | .tE .. => Str.ofString "text end"
def Sh.pts : Sh → List Int
  | .rect x y w h => [x, y, w, h]
  | .line x y u v => [x, y, u, v]
  | .poly p ps => flat (p :: ps)
  | .circ x y r => [x, y, r]
  | .tS x y _ => [x, y]
  | .tM x y _ => [x, y]
  | .tE x y _ => [x, y]
def Sh.txt : Sh → List Nat
  | .tS _ _ l => l
  | .tM _ _ l => l
  | .tE _ _ l => l
  | _ => []
/-- its corners (of a line, a polyline) -/
def Sh.cor : Sh → List (Int × Int)
  | .line x y u v => [(x, y), (u, v)]
  | .poly p ps => p :: ps
  | _ => []
/-- r is the least rectangle that holds the pixels ps -/
structure IsBB (ps : List (Int × Int)) (r : R) : Prop where
  l1 : r.l ∈ ps.map (·.1)
  l2 : ∀ p ∈ ps, r.l ≤ p.1
  t1 : r.t ∈ ps.map (·.2)
  t2 : ∀ p ∈ ps, r.t ≤ p.2
  r1 : r.l + r.w - 1 ∈ ps.map (·.1)
  r2 : ∀ p ∈ ps, p.1 ≤ r.l + r.w - 1
  b1 : r.t + r.h - 1 ∈ ps.map (·.2)
  b2 : ∀ p ∈ ps, p.2 ≤ r.t + r.h - 1
theorem IsBB.one {ps : List (Int × Int)} {a b : R} (h : IsBB ps a) (k : IsBB ps b) : a = b := by
  have el : a.l = b.l := by
    obtain ⟨p, p1, p2⟩ := List.mem_map.mp h.l1
    obtain ⟨q, q1, q2⟩ := List.mem_map.mp k.l1
    have := h.l2 q q1; have := k.l2 p p1; omega
  have et : a.t = b.t := by
    obtain ⟨p, p1, p2⟩ := List.mem_map.mp h.t1
    obtain ⟨q, q1, q2⟩ := List.mem_map.mp k.t1
    have := h.t2 q q1; have := k.t2 p p1; omega
  have er : a.l + a.w - 1 = b.l + b.w - 1 := by
    obtain ⟨p, p1, p2⟩ := List.mem_map.mp h.r1
    obtain ⟨q, q1, q2⟩ := List.mem_map.mp k.r1
    have := h.r2 q q1; have := k.r2 p p1; omega
  have eb : a.t + a.h - 1 = b.t + b.h - 1 := by
    obtain ⟨p, p1, p2⟩ := List.mem_map.mp h.b1
    obtain ⟨q, q1, q2⟩ := List.mem_map.mp k.b1
    have := h.b2 q q1; have := k.b2 p p1; omega
  obtain ⟨l, t, w, h'⟩ := a
  obtain ⟨l2, t2, w2, h2⟩ := b
  simp only at el et er eb
  subst el et
  have : w = w2 := by omega
  have : h' = h2 := by omega
  simp [*]
/-- r is the rectangle around s -/
def IsBox : Sh → R → Prop
  | .rect x y w h, r => r = ⟨x, y, w, h⟩
  | .line x y u v, r => IsBB [(x, y), (u, v)] r
  | .poly p ps, r => IsBB (p :: ps) r
  | .circ x y q, r => r = ⟨x - q, y - q, 2 * q + 1, 2 * q + 1⟩
  | .tS x y l, r => r = ⟨x, y, tw l, 7⟩
  | .tM x y l, r => r = ⟨x - tw l / 2, y, tw l, 7⟩
  | .tE x y l, r => r = ⟨x - tw l, y, tw l, 7⟩
theorem IsBox.one {s : Sh} {a b : R} (h : IsBox s a) (k : IsBox s b) : a = b := by
  cases s with
  | line x y u v => exact IsBB.one h k
  | poly p ps => exact IsBB.one h k
  | rect x y w h' => exact Eq.trans h (Eq.symm k)
  | circ x y q => exact Eq.trans h (Eq.symm k)
  | tS x y l => exact Eq.trans h (Eq.symm k)
  | tM x y l => exact Eq.trans h (Eq.symm k)
  | tE x y l => exact Eq.trans h (Eq.symm k)
theorem flat_ev : ∀ ps : List (Int × Int), ev (flat ps) = ps.map (·.1)
  | [] => rfl
  | p :: r => by show p.1 :: ev (flat r) = _; rw [flat_ev r]; rfl
theorem flat_od : ∀ ps : List (Int × Int), ev ((flat ps).drop 1) = ps.map (·.2)
  | [] => rfl
  | [p] => rfl
  | p :: q :: r => by
    have := flat_od (q :: r)
    show p.2 :: ev (q.2 :: flat r) = _
    have e : ev (q.2 :: flat r) = ev ((flat (q :: r)).drop 1) := rfl
    rw [e, this]
    rfl
theorem flat_len : ∀ ps : List (Int × Int), (flat ps).length = 2 * ps.length
  | [] => rfl
  | p :: r => by show (flat r).length + 1 + 1 = _; rw [flat_len r, List.length_cons]; omega
theorem flat_app : ∀ a b : List (Int × Int), flat (a ++ b) = flat a ++ flat b
  | [], b => rfl
  | p :: r, b => by show p.1 :: p.2 :: flat (r ++ b) = _; rw [flat_app r b]; rfl
theorem flat_at : ∀ (ps : List (Int × Int)) (i : Nat) (p : Int × Int), ps[i]? = some p → (flat ps)[2 * i]? = some p.1 ∧ (flat ps)[2 * i + 1]? = some p.2
  | [], i, p, h => by simp at h
  | q :: r, 0, p, h => by
    have e : q = p := Option.some.inj h
    subst e
    exact ⟨rfl, rfl⟩
  | q :: r, i + 1, p, h => by
    have := flat_at r i p h
    show (q.1 :: q.2 :: flat r)[2 * (i + 1)]? = _ ∧ (q.1 :: q.2 :: flat r)[2 * (i + 1) + 1]? = _
    rw [show 2 * (i + 1) = 2 * i + 1 + 1 from by omega, List.getElem?_cons_succ, List.getElem?_cons_succ, List.getElem?_cons_succ, List.getElem?_cons_succ]
    exact this
theorem ev_map {α β : Type} (f : α → β) : ∀ l : List α, ev (l.map f) = (ev l).map f
  | [] => rfl
  | [_] => rfl
  | a :: b :: r => by show f a :: ev (r.map f) = _; rw [ev_map f r]; rfl
theorem Sh.pts_cor {s : Sh} (h : s.cor ≠ []) : s.pts = flat s.cor := by
  cases s <;> first | rfl | exact absurd rfl h
theorem bb_of {ps : List (Int × Int)} {L T Rt B : Int} (h1 : L ∈ ps.map (·.1)) (h1' : ∀ z, z ∈ ps.map (·.1) → L ≤ z) (h2 : T ∈ ps.map (·.2)) (h2' : ∀ z, z ∈ ps.map (·.2) → T ≤ z)
    (h3 : Rt ∈ ps.map (·.1)) (h3' : ∀ z, z ∈ ps.map (·.1) → z ≤ Rt) (h4 : B ∈ ps.map (·.2)) (h4' : ∀ z, z ∈ ps.map (·.2) → z ≤ B) : IsBB ps ⟨L, T, Rt - L + 1, B - T + 1⟩ := by
  have e1 : L + (Rt - L + 1) - 1 = Rt := by omega
  have e2 : T + (B - T + 1) - 1 = B := by omega
  refine ⟨h1, fun p hp => h1' _ (List.mem_map.mpr ⟨p, hp, rfl⟩), h2, fun p hp => h2' _ (List.mem_map.mpr ⟨p, hp, rfl⟩), ?_, fun p hp => ?_, ?_, fun p hp => ?_⟩
  · show L + (Rt - L + 1) - 1 ∈ _
    rw [e1]; exact h3
  · show _ ≤ L + (Rt - L + 1) - 1
    rw [e1]; exact h3' _ (List.mem_map.mpr ⟨p, hp, rfl⟩)
  · show T + (B - T + 1) - 1 ∈ _
    rw [e2]; exact h4
  · show _ ≤ T + (B - T + 1) - 1
    rw [e2]; exact h4' _ (List.mem_map.mpr ⟨p, hp, rfl⟩)
def iv (l : List Int) : List V := l.map V.int
structure ShOk (s : Sh) : Prop where
  word : Word s.txt
  tlen : s.txt.length ≤ 1000
  plen : s.pts.length ≤ 1000
def sp_around_points (K : PySem.W.Frag) : Sp := fun vs H Q _ => ∃ (v : V) (ps : List (Int × Int)), vs = [v] ∧ Tup K H v (iv (flat ps)) ∧ ps ≠ [] ∧ ps.length ≤ 1000 ∧ ∀ x r H', Same H H' → IsBB ps r → Rc K H' x r → Q x H'
def sp_around_text (K : PySem.W.Frag) : Sp := fun vs H Q _ => ∃ (s : Sh) (v : V), vs = [.str s.name, v, .str (S s.txt)] ∧ Tup K H v (iv s.pts) ∧ ShOk s ∧ (∃ x y l, s = .tS x y l ∨ s = .tM x y l ∨ s = .tE x y l) ∧ ∀ x r H', Same H H' → IsBox s r → Rc K H' x r → Q x H'
def sp_around (K : PySem.W.Frag) : Sp := fun vs H Q _ => ∃ (s : Sh) (v : V), vs = [.str s.name, v, .str (S s.txt)] ∧ Tup K H v (iv s.pts) ∧ ShOk s ∧ ∀ x r H', Same H H' → IsBox s r → Rc K H' x r → Q x H'
def sp_law_around (K : PySem.W.Frag) : Sp := sp_around K
end Cs

set_option maxRecDepth 100000
set_option maxHeartbeats 4000000
/-! min and max of a tuple of ints -/
namespace Cs
open PySem PySem.Spec PyProof.Rows L2
section
variable {prog : Program} {w : World} {A : Around} {E : Value → Shared → Prop} {s : Shared} {l : Addr} {xs : Array (Int × Tok)} {Q : Value → Shared → Prop}
theorem walk_tup (hl : s.heap.IsTuple l (intItems xs))
    (h : ∀ s₂ : Shared, s₂ = { s with heap := s.heap.push { cls := .type "tuple_iterator", data := .fields #[.ref l, .int 0 0] } } →
      (s₂.heap.IsTupleIter s.heap.objs.size l 0 ∧ s₂.heap.IsTuple l (intItems xs)) → (∀ b ∈ [s.heap.objs.size, l], b < s₂.heap.objs.size) → l ≠ s.heap.objs.size → Q (.ref s.heap.objs.size) s₂) :
    wpAny (model prog w) A (pyIter (.ref l)) Q E s := by
  have hlt : l < s.heap.objs.size := by
    obtain ⟨_, e, _⟩ := hl
    exact Heap.lt_size e
  refine wpAny_pyIter_tuple hl (h _ rfl ⟨⟨_, Heap.get?_push_size _ rfl, rfl, rfl⟩, hl.push _⟩ (fun b hb => ?_) (Nat.ne_of_lt hlt))
  show b < (s.heap.push _).objs.size
  rw [Heap.size_push]
  rcases List.mem_cons.mp hb with rfl | hb
  · exact Nat.lt_succ_self _
  · rw [List.mem_singleton.mp hb]
    exact Nat.lt_succ_of_lt hlt
theorem tup_old {h' : Heap} (hk : ∀ b o, b ∉ [s.heap.objs.size] → (s.heap.push { cls := .type "tuple_iterator", data := .fields #[.ref l, .int 0 0] }).get? b = some o → h'.get? b = some o) :
    ∀ b o, s.heap.get? b = some o → h'.get? b = some o := fun b o e => by
  refine hk b o (fun hm => ?_) (Heap.get?_push_of_some _ e)
  have := Heap.lt_size e
  rw [List.mem_singleton.mp hm] at this
  exact absurd this (Nat.lt_irrefl _)
theorem max_tup (hh : A.handled = none) (hl : s.heap.IsTuple l (intItems xs)) (hne : 0 < xs.size)
    (h : ∀ v h' tk, (intItems xs)[argBest (fun i j => decide (numAt xs i > numAt xs j)) (xs.size - 1)]? = some v → (∀ b o, s.heap.get? b = some o → h'.get? b = some o) → Q v { s with heap := h', toks := tk }) :
    wpAny (model prog w) A (call (.builtin "max") [.ref l]) Q E s := by
  refine call_max_walk (walk_tup hl fun s₂ e st hfp hlI => ?_)
  subst e
  refine ⟨_, _, _, _, _, _, _, rfl, Walks.tuple (A := A.in1) hh _ l hlI (intItems xs), st, hfp, by simpa [intItems] using hne, CmpOf.ints_gt (numAt xs) (fun _ _ => intItems_at), fun v h' tk hP hk => ?_⟩
  exact h v h' tk (by simpa [intItems] using hP) (tup_old hk)
theorem min_tup (hh : A.handled = none) (hl : s.heap.IsTuple l (intItems xs)) (hne : 0 < xs.size)
    (h : ∀ v h' tk, (intItems xs)[argBest (fun i j => decide (numAt xs i < numAt xs j)) (xs.size - 1)]? = some v → (∀ b o, s.heap.get? b = some o → h'.get? b = some o) → Q v { s with heap := h', toks := tk }) :
    wpAny (model prog w) A (call (.builtin "min") [.ref l]) Q E s := by
  refine call_min_walk (walk_tup hl fun s₂ e st hfp hlI => ?_)
  subst e
  refine ⟨_, _, _, _, _, _, _, rfl, Walks.tuple (A := A.in1) hh _ l hlI (intItems xs), st, hfp, by simpa [intItems] using hne, CmpOf.ints_lt (numAt xs) (fun _ _ => intItems_at), fun v h' tk hP hk => ?_⟩
  exact h v h' tk (by simpa [intItems] using hP) (tup_old hk)
end
section
variable {X : Cx}
def rMaxT (K : PySem.W.Frag) : List V → Hp → VK → Prop := fun vs H Q => ∃ (a : Addr) (ns : List Int), vs = [V.ref a] ∧ SqT K H a (ns.map V.int) ∧ 0 < ns.length ∧ ∀ m, m ∈ ns → (∀ y, y ∈ ns → y ≤ m) → Q (.int m) H
def rMinT (K : PySem.W.Frag) : List V → Hp → VK → Prop := fun vs H Q => ∃ (a : Addr) (ns : List Int), vs = [V.ref a] ∧ SqT K H a (ns.map V.int) ∧ 0 < ns.length ∧ ∀ m, m ∈ ns → (∀ y, y ∈ ns → m ≤ y) → Q (.int m) H
theorem cr_maxT (hc : X.calm = true) : CallR X (.builtin "max") (rMaxT X.K) := by
  intro pins s σ H vs us Q I r h
  obtain ⟨a, ns, rfl, hs, hne, q⟩ := h
  obtain ⟨its, rv, hl, _⟩ := I.tuple hs
  rw [Vals.ref1 r]
  have hi := rv.ints
  obtain ⟨xs, e⟩ := hi.allInts.items
  have hn : numsOf (intItems xs).toList = ns := by rw [← e]; exact hi.numsOf
  rw [nums_intItems] at hn
  subst hn
  rw [e] at hl
  have hsz : 0 < xs.size := by simpa using hne
  refine max_tup (I.ok.hd hc) hl hsz fun v h' tk hv hk => ?_
  obtain ⟨t, rfl⟩ := intItems_at hv
  obtain ⟨h1, h2⟩ := argBest_gt (numAt xs) (xs.size - 1)
  refine ⟨.int _, H, I.kept hk, ⟨_, rfl⟩, q _ ?_ fun a ha => ?_⟩
  · rw [numAt_eq]; exact PySem.getD_mem (by rw [List.length_map, Array.length_toList]; omega)
  · obtain ⟨j, hj, rfl⟩ := mem_getD ha
    rw [List.length_map, Array.length_toList] at hj
    rw [← numAt_eq]; exact h2 j (by omega)
theorem cr_minT (hc : X.calm = true) : CallR X (.builtin "min") (rMinT X.K) := by
  intro pins s σ H vs us Q I r h
  obtain ⟨a, ns, rfl, hs, hne, q⟩ := h
  obtain ⟨its, rv, hl, _⟩ := I.tuple hs
  rw [Vals.ref1 r]
  have hi := rv.ints
  obtain ⟨xs, e⟩ := hi.allInts.items
  have hn : numsOf (intItems xs).toList = ns := by rw [← e]; exact hi.numsOf
  rw [nums_intItems] at hn
  subst hn
  rw [e] at hl
  have hsz : 0 < xs.size := by simpa using hne
  refine min_tup (I.ok.hd hc) hl hsz fun v h' tk hv hk => ?_
  obtain ⟨t, rfl⟩ := intItems_at hv
  obtain ⟨h1, h2⟩ := argBest_lt (numAt xs) (xs.size - 1)
  refine ⟨.int _, H, I.kept hk, ⟨_, rfl⟩, q _ ?_ fun a ha => ?_⟩
  · rw [numAt_eq]; exact PySem.getD_mem (by rw [List.length_map, Array.length_toList]; omega)
  · obtain ⟨j, hj, rfl⟩ := mem_getD ha
    rw [List.length_map, Array.length_toList] at hj
    rw [← numAt_eq]; exact h2 j (by omega)
theorem minT (K : PySem.W.Frag) (hc : X.calm = true) (h : X.K = K := by rfl) : CallR X (.builtin "min") (rMinT K) := h ▸ cr_minT hc
theorem maxT (K : PySem.W.Frag) (hc : X.calm = true) (h : X.K = K := by rfl) : CallR X (.builtin "max") (rMaxT K) := h ▸ cr_maxT hc
end
end Cs

set_option maxRecDepth 100000
set_option maxHeartbeats 4000000
/-! The plain layer: a def's text read as a plain program over data. -/
namespace Cs
open PySem PySem.Spec PyProof.Rows L2
/-! ### data that stays: lists in it are frozen -/
mutual
def lst0 : PyData → Bool
  | .none => true
  | .bool _ => true
  | .int _ => true
  | .str _ => true
  | .list _ => false
  | .tuple xs => lst0All xs
  | .dict _ => false
def lst0All : List PyData → Bool
  | [] => true
  | x :: xs => lst0 x && lst0All xs
end
def lf (_ : PyData) : Bool := true
def lfAll (_ : List PyData) : Bool := true
theorem lfAll_get : ∀ {ds : List PyData} {i : Nat} {d : PyData}, lfAll ds = true → ds[i]? = some d → lf d = true := fun _ _ => rfl
theorem lfAll_app {xs ys : List PyData} (_ : lfAll xs = true) (_ : lfAll ys = true) : lfAll (xs ++ ys) = true := rfl
theorem lfAll_iff {ds : List PyData} : lfAll ds = true ↔ ∀ d ∈ ds, lf d = true := ⟨fun _ _ _ => rfl, fun _ => rfl⟩
end Cs
namespace L2
open PySem PySem.Spec PyProof.Rows Cs
section
variable {K : PySem.W.Frag} {H H' : Hp}
/-- a list that nothing changes any more -/
def SqF (_ : PySem.W.Frag) (H : Hp) (a : Addr) (xs : List V) : Prop := ∃ o, H a = some (.frz o (.lst xs))
theorem SqF.sq {a : Addr} {xs : List V} (h : SqF K H a xs) : SqL K H a xs := .inl (.inr h)
theorem SqF.im {a : Addr} {xs : List V} (h : SqF K H a xs) (e : Im H H') : SqF K H' a xs := let ⟨o, h⟩ := h; ⟨o, e.frz _ _ _ h⟩
mutual
inductive Vl (K : PySem.W.Frag) (H : Hp) : V → PyData → Prop
  | non : Vl K H .non .none
  | bl (b : Bool) : Vl K H (.bl b) (.bool b)
  | int (i : Int) : Vl K H (.int i) (.int i)
  | str (x : Str) : Vl K H (.str x) (.str x)
  | lst {a : Addr} {xs : List V} {ds : List PyData} : SqF K H a xs → VlAll K H xs ds → Vl K H (.ref a) (.list ds)
  | tup {a : Addr} {xs : List V} {ds : List PyData} : H a = some (.tup xs) → VlAll K H xs ds → Vl K H (.ref a) (.tuple ds)
inductive VlAll (K : PySem.W.Frag) (H : Hp) : List V → List PyData → Prop
  | nil : VlAll K H [] []
  | cons {v : V} {vs : List V} {d : PyData} {ds : List PyData} : Vl K H v d → VlAll K H vs ds → VlAll K H (v :: vs) (d :: ds)
end
mutual
theorem Vl.dp : ∀ (d : PyData) (v : V), Vl K H v d → Dp K H v d
  | .none, _, h => by cases h; exact .non
  | .bool _, _, h => by cases h; exact .bl _
  | .int _, _, h => by cases h; exact .int _
  | .str _, _, h => by cases h; exact .str _
  | .list ds, _, h => by
    cases h with
    | lst hs ha => exact .lst hs.sq (VlAll.dp ds _ ha)
  | .dict _, _, h => by cases h
  | .tuple ds, _, h => by
    cases h with
    | tup hs ha => exact .tup (SqT.of hs) (VlAll.dp ds _ ha)
theorem VlAll.dp : ∀ (ds : List PyData) (vs : List V), VlAll K H vs ds → DpAll K H vs ds
  | [], _, h => by cases h; exact .nil
  | d :: ds, _, h => by
    cases h with
    | cons h1 h2 => exact .cons (Vl.dp d _ h1) (VlAll.dp ds _ h2)
end
mutual
theorem Vl.imlf (e : Im H H') : ∀ (d : PyData) (v : V), Vl K H v d → lf d = true → Vl K H' v d
  | .none, _, h, _ => by cases h; exact .non
  | .bool _, _, h, _ => by cases h; exact .bl _
  | .int _, _, h, _ => by cases h; exact .int _
  | .str _, _, h, _ => by cases h; exact .str _
  | .list ds, _, h, _ => by
    cases h with
    | lst hs ha => exact .lst (hs.im e) (VlAll.imlf e ds _ ha rfl)
  | .dict _, _, h, _ => by cases h
  | .tuple ds, _, h, f => by
    cases h with
    | tup hs ha => exact .tup (e.tup _ _ hs) (VlAll.imlf e ds _ ha rfl)
theorem VlAll.imlf (e : Im H H') : ∀ (ds : List PyData) (vs : List V), VlAll K H vs ds → lfAll ds = true → VlAll K H' vs ds
  | [], _, h, _ => by cases h; exact .nil
  | d :: ds, _, h, f => by
    cases h with
    | cons h1 h2 => exact .cons (Vl.imlf e d _ h1 rfl) (VlAll.imlf e ds _ h2 rfl)
end
theorem DpAll.len : ∀ {ds : List PyData} {vs : List V}, DpAll K H vs ds → vs.length = ds.length
  | [], _, h => by cases h; rfl
  | d :: ds, _, h => by
    cases h with
    | cons h1 h2 => simp only [List.length_cons, DpAll.len h2]
theorem VlAll.len : ∀ {ds : List PyData} {vs : List V}, VlAll K H vs ds → vs.length = ds.length
  | [], _, h => by cases h; rfl
  | d :: ds, _, h => by
    cases h with
    | cons h1 h2 => simp only [List.length_cons, VlAll.len h2]
theorem VlAll.get : ∀ {ds : List PyData} {vs : List V} {i : Nat} {d : PyData}, VlAll K H vs ds → ds[i]? = some d → ∃ v, vs[i]? = some v ∧ Vl K H v d
  | [], _, _, _, _, e => by simp at e
  | d :: ds, _, 0, _, h, e => by
    cases h with
    | cons h1 h2 => simp at e; subst e; exact ⟨_, rfl, h1⟩
  | d :: ds, _, i + 1, _, h, e => by
    cases h with
    | cons h1 h2 =>
      obtain ⟨v, h3, h4⟩ := VlAll.get (i := i) h2 (by simpa using e)
      exact ⟨v, by simpa using h3, h4⟩
theorem VlAll.getV : ∀ {ds : List PyData} {vs : List V} {i : Nat} {v : V}, VlAll K H vs ds → vs[i]? = some v → ∃ d, ds[i]? = some d ∧ Vl K H v d
  | [], _, _, _, h, e => by cases h; simp at e
  | d :: ds, _, 0, _, h, e => by
    cases h with
    | cons h1 h2 => simp at e; subst e; exact ⟨_, rfl, h1⟩
  | d :: ds, _, i + 1, _, h, e => by
    cases h with
    | cons h1 h2 =>
      obtain ⟨v, h3, h4⟩ := VlAll.getV (i := i) h2 (by simpa using e)
      exact ⟨v, by simpa using h3, h4⟩
theorem VlAll.app : ∀ {ds es : List PyData} {vs us : List V}, VlAll K H vs ds → VlAll K H us es → VlAll K H (vs ++ us) (ds ++ es)
  | [], _, _, _, h, q => by cases h; exact q
  | d :: ds, _, _, _, h, q => by
    cases h with
    | cons h1 h2 => exact .cons h1 (VlAll.app h2 q)
theorem VlAll.take : ∀ {ds : List PyData} {vs : List V} (n : Nat), VlAll K H vs ds → VlAll K H (vs.take n) (ds.take n)
  | _, _, 0, _ => .nil
  | [], _, n + 1, h => by cases h; exact .nil
  | d :: ds, _, n + 1, h => by
    cases h with
    | cons h1 h2 => exact .cons h1 (VlAll.take n h2)
theorem VlAll.drop : ∀ {ds : List PyData} {vs : List V} (n : Nat), VlAll K H vs ds → VlAll K H (vs.drop n) (ds.drop n)
  | _, _, 0, h => h
  | [], _, n + 1, h => by cases h; exact .nil
  | d :: ds, _, n + 1, h => by
    cases h with
    | cons h1 h2 => exact VlAll.drop n h2
theorem VlAll.set : ∀ {ds : List PyData} {vs : List V} (n : Nat) {v : V} {d : PyData}, VlAll K H vs ds → Vl K H v d → VlAll K H (vs.set n v) (ds.set n d)
  | [], _, _, _, _, h, _ => by cases h; exact .nil
  | d :: ds, _, 0, _, _, h, q => by
    cases h with
    | cons h1 h2 => exact .cons q h2
  | d :: ds, _, n + 1, _, _, h, q => by
    cases h with
    | cons h1 h2 => exact .cons h1 (VlAll.set n h2 q)
theorem lfAll_take {ds : List PyData} (n : Nat) (h : lfAll ds = true) : lfAll (ds.take n) = true := lfAll_iff.mpr fun d m => lfAll_iff.mp h d (List.mem_of_mem_take m)
theorem lfAll_drop {ds : List PyData} (n : Nat) (h : lfAll ds = true) : lfAll (ds.drop n) = true := lfAll_iff.mpr fun d m => lfAll_iff.mp h d (List.mem_of_mem_drop m)
theorem lfAll_set {ds : List PyData} (n : Nat) {d : PyData} (h : lfAll ds = true) (f : lf d = true) : lfAll (ds.set n d) = true := lfAll_iff.mpr fun e m => by
  rcases List.mem_or_eq_of_mem_set m with m | m
  · exact lfAll_iff.mp h e m
  · rw [m]; exact f
theorem VlAll.ofInts : ∀ (ns : List Int), VlAll K H (ns.map V.int) (ns.map PyData.int)
  | [] => .nil
  | n :: ns => .cons (.int n) (VlAll.ofInts ns)
/-- what a dict holds, key by key -/
def KvR {κ : Type} (K : PySem.W.Frag) (H : Hp) (vs : List (κ × V)) (ds : List (κ × PyData)) : Prop := vs.map Prod.fst = ds.map Prod.fst ∧ VlAll K H (vs.map Prod.snd) (ds.map Prod.snd)
theorem KvR.imlf {κ : Type} (e : Im H H') (ds : List (κ × PyData)) (vs : List (κ × V)) (h : KvR K H vs ds) (_ : True) : KvR K H' vs ds := ⟨h.1, h.2.imlf e _ _ rfl⟩
end
end L2
namespace Cs
open PySem PySem.Spec PyProof.Rows L2
/-! ### plain programs -/
inductive M (α : Type) where
  | ret (a : α)
  | fail
  | draw (m : Int) (k : Int → M α)
  | any (p : PyData → Prop) (k : PyData → M α)
def M.bind {α β : Type} : M α → (α → M β) → M β
  | .ret a, f => f a
  | .fail, _ => .fail
  | .draw m k, f => .draw m fun v => (k v).bind f
  | .any p k, f => .any p fun v => (k v).bind f
def wp0 {α : Type} : M α → (α → Prop) → Prop
  | .ret a, Q => Q a
  | .fail, _ => False
  | .draw m k, Q => ∀ v, 0 ≤ v → v < max m 1 → wp0 (k v) Q
  | .any p k, Q => ∀ d, p d → wp0 (k d) Q
@[simp] theorem M.ret_bind {α β : Type} (a : α) (f : α → M β) : (M.ret a).bind f = f a := rfl
@[simp] theorem M.fail_bind {α β : Type} (f : α → M β) : (M.fail : M α).bind f = .fail := rfl
@[simp] theorem M.draw_bind {α β : Type} (m : Int) (k : Int → M α) (f : α → M β) : (M.draw m k).bind f = .draw m fun v => (k v).bind f := rfl
@[simp] theorem M.any_bind {α β : Type} (p : PyData → Prop) (k : PyData → M α) (f : α → M β) : (M.any p k).bind f = .any p fun v => (k v).bind f := rfl
@[simp] theorem wp0_ret {α : Type} (a : α) (Q : α → Prop) : wp0 (.ret a) Q = Q a := rfl
theorem wp0_mono {α : Type} {Q Q' : α → Prop} (h : ∀ a, Q a → Q' a) : ∀ {m : M α}, wp0 m Q → wp0 m Q'
  | .ret a, q => h a q
  | .fail, q => q
  | .draw m k, q => fun v h0 h1 => wp0_mono h (q v h0 h1)
  | .any p k, q => fun d h0 => wp0_mono h (q d h0)
theorem wp0_bind {α β : Type} {f : α → M β} {Q : β → Prop} : ∀ {m : M α}, wp0 (m.bind f) Q ↔ wp0 m fun a => wp0 (f a) Q
  | .ret a => Iff.rfl
  | .fail => Iff.rfl
  | .draw m k => ⟨fun q v h0 h1 => wp0_bind.mp (q v h0 h1), fun q v h0 h1 => wp0_bind.mpr (q v h0 h1)⟩
  | .any p k => ⟨fun q d h0 => wp0_bind.mp (q d h0), fun q d h0 => wp0_bind.mpr (q d h0)⟩
theorem M.bind_assoc {α β γ : Type} (f : α → M β) (g : β → M γ) : ∀ m : M α, (m.bind f).bind g = m.bind fun a => (f a).bind g
  | .ret a => rfl
  | .fail => rfl
  | .draw m k => by simp only [draw_bind, M.bind_assoc f g]
  | .any p k => by simp only [any_bind, M.bind_assoc f g]
/-- an object that may change -/
inductive PO where
  | lst (ds : List PyData)
  | dT (kvs : List (List Key × PyData))
  | dK (kvs : List (Key × PyData))
  | lT (kvs : List (List Key × PyData))
/-- what a slot holds: data, an object of this def's own, one that is lent, the tape -/
inductive C where
  | val (d : PyData)
  | own (o : PO)
  | bor (o : PO)
  | tape
abbrev Ro := List (Option C)
section
variable (tp : Option (Addr × Addr)) (K : PySem.W.Frag)
def GrT (H H' : Hp) : Prop := ∀ b o, H b = some o → tp.map (·.1) ≠ some b → H' b = some o
/-- not the tape's -/
def TNe (a : Addr) : Prop := ∀ t l, tp = some (t, l) → a ≠ t ∧ a ≠ l
def TOk (H : Hp) : Prop := ∀ t l, tp = some (t, l) → TapeAt H t l
def BorL (H : Hp) (b : Addr) (u : HO) : Prop := Rd H b u ∧ tp.map (·.1) ≠ some b
def BorF (H : Hp) (b : Addr) (u : HO) : Prop := (∃ o, H b = some (.frz o u)) ∧ tp.map (·.1) ≠ some b
def OwnO (H : Hp) (a : Addr) : PO → Prop
  | .lst ds => ∃ vs, H a = some (.lst vs) ∧ VlAll K H vs ds ∧ lfAll ds = true
  | .dT ds => ∃ vs, H a = some (.dT vs) ∧ KvR K H vs ds ∧ True
  | .dK ds => ∃ vs, H a = some (.dK vs) ∧ KvR K H vs ds ∧ True
  | .lT _ => False
def BorO (H : Hp) (a : Addr) : PO → Prop
  | .lst ds => ∃ vs, BorL tp H a (.lst vs) ∧ VlAll K H vs ds ∧ lfAll ds = true
  | .dT ds => ∃ vs, BorL tp H a (.dT vs) ∧ KvR K H vs ds ∧ True
  | .dK ds => ∃ vs, BorL tp H a (.dK vs) ∧ KvR K H vs ds ∧ True
  | .lT ds => ∃ vs, BorF tp H a (.dT vs) ∧ KvR K H vs ds ∧ True
def RC (H0 H : Hp) (v : V) : C → Prop
  | .val d => Vl K H v d ∧ lf d = true
  | .own o => ∃ a, v = .ref a ∧ H0 a = none ∧ TNe tp a ∧ OwnO K H a o
  | .bor o => ∃ a, v = .ref a ∧ BorO tp K H a o
  | .tape => ∃ t l, tp = some (t, l) ∧ v = .ref t
/-- what a slot bears: Hq is what the def leaves as it is -/
def SR (Hq H : Hp) (v : V) : C → Prop
  | .val d => Vl K H v d ∧ lf d = true
  | .own o => ∃ a, v = .ref a ∧ Hq a = none ∧ TNe tp a ∧ OwnO K H a o
  | .bor o => ∃ a, v = .ref a ∧ BorO tp K Hq a o
  | .tape => ∃ t l, tp = some (t, l) ∧ v = .ref t
structure Rel (He Hq H : Hp) (σ : L2.St) (ρ : Ro) : Prop where
  len : σ.length = ρ.length
  at_ : ∀ (i : Nat) (c : C), ρ[i]? = some (some c) → ∃ v, σ[i]? = some (some v) ∧ SR tp K Hq H v c
  dist : ∀ (i j : Nat) (a : Addr) (o o' : PO), ρ[i]? = some (some (.own o)) → ρ[j]? = some (some (.own o')) → σ[i]? = some (some (.ref a)) → σ[j]? = some (some (.ref a)) → i = j
  sub : GrT tp He Hq
  gr : GrT tp Hq H
  tok : TOk tp H
  he : ∀ (t l : Addr), tp = some (t, l) → Hq t = none ∨ ∃ xs, Hq t = some (.lst xs)
end
section
variable {tp : Option (Addr × Addr)} {K : PySem.W.Frag} {H H' H'' H0 H1 He : Hp} {Hq : Hp} {σ : L2.St} {ρ : Ro}
theorem GrT.refl : GrT tp H H := fun _ _ e _ => e
theorem GrT.trans (a : GrT tp H H') (b : GrT tp H' H'') : GrT tp H H'' := fun c o e n => b c o (a c o e n) n
theorem GrT.of (a : Same H H') : GrT tp H H' := fun b o e _ => a b o e
theorem GrT.im (g : GrT tp H H') (t : TOk tp H) : Im H H' := by
  cases tp with
  | none => exact Im.same fun b o e => g b o e (by simp)
  | some q =>
    obtain ⟨a, l⟩ := q
    exact (t a l rfl).im fun b o e n => g b o e (by simpa using fun z => n z.symm)
theorem GrT.free (g : GrT tp H H') (t : TOk tp H') {b : Addr} (h : H' b = none) : H b = none := by
  cases e : H b with
  | none => rfl
  | some o =>
    by_cases q : tp.map (·.1) = some b
    · cases tp with
      | none => simp at q
      | some r =>
        obtain ⟨a, l⟩ := r
        obtain ⟨xs, e2⟩ := (t a l rfl).list
        have : a = b := by simpa using q
        subst this
        rw [h] at e2
        cases e2
    · rw [g b o e q] at h
      cases h
theorem TOk.same (t : TOk tp H) (e : Same H H') : TOk tp H' := fun a l h => (t a l h).same e
theorem TNe.ne {a : Addr} (h : TNe tp a) : tp.map (·.1) ≠ some a := by
  cases tp with
  | none => simp
  | some r =>
    obtain ⟨t, l⟩ := r
    simpa using fun z => (h t l rfl).1 z.symm
theorem TOk.tne (t : TOk tp H) {p : Addr} (h : H p = none) : TNe tp p := fun a l e => ⟨(t a l e).ne_t h, (t a l e).ne_l h⟩
theorem TOk.ne (t : TOk tp H) {p : Addr} (h : H p = none) : tp.map (·.1) ≠ some p := by
  cases tp with
  | none => simp
  | some r =>
    obtain ⟨a, l⟩ := r
    have := (t a l rfl).ne_t h
    simpa using fun z => this z.symm
theorem BorL.gr {b : Addr} {u : HO} (h : BorL tp H b u) (g : GrT tp H H') : BorL tp H' b u := by
  rcases h with ⟨h | ⟨o, h⟩, n⟩
  · exact ⟨.inl (g _ _ h n), n⟩
  · exact ⟨.inr ⟨o, g _ _ h n⟩, n⟩
theorem BorF.gr {b : Addr} {u : HO} (h : BorF tp H b u) (g : GrT tp H H') : BorF tp H' b u := let ⟨⟨o, h⟩, n⟩ := h; ⟨⟨o, g _ _ h n⟩, n⟩
theorem BorL.sq {b : Addr} {vs : List V} (h : BorL tp H b (.lst vs)) : SqL K H b vs := by
  exact .inl h.1
theorem OwnO.gr {a : Addr} {o : PO} (h : OwnO K H a o) (g : GrT tp H H') (t : TOk tp H) (n : TNe tp a) : OwnO K H' a o := by
  cases o with
  | lst ds =>
    obtain ⟨vs, h1, h2, h3⟩ := h
    exact ⟨vs, g _ _ h1 n.ne, h2.imlf (g.im t) ds _ h3, h3⟩
  | dT ds =>
    obtain ⟨vs, h1, h2, h3⟩ := h
    exact ⟨vs, g _ _ h1 n.ne, h2.imlf (g.im t) ds _ h3, h3⟩
  | dK ds =>
    obtain ⟨vs, h1, h2, h3⟩ := h
    exact ⟨vs, g _ _ h1 n.ne, h2.imlf (g.im t) ds _ h3, h3⟩
  | lT ds =>
    exact h.elim
theorem BorO.gr {a : Addr} {o : PO} (h : BorO tp K H a o) (g : GrT tp H H') (t : TOk tp H) : BorO tp K H' a o := by
  cases o with
  | lst ds =>
    obtain ⟨vs, h1, h2, h3⟩ := h
    exact ⟨vs, h1.gr g, h2.imlf (g.im t) ds _ h3, h3⟩
  | dT ds =>
    obtain ⟨vs, h1, h2, h3⟩ := h
    exact ⟨vs, h1.gr g, h2.imlf (g.im t) ds _ h3, h3⟩
  | dK ds =>
    obtain ⟨vs, h1, h2, h3⟩ := h
    exact ⟨vs, h1.gr g, h2.imlf (g.im t) ds _ h3, h3⟩
  | lT ds =>
    obtain ⟨vs, h1, h2, h3⟩ := h
    exact ⟨vs, h1.gr g, h2.imlf (g.im t) ds _ h3, h3⟩
theorem OwnO.bor {a : Addr} {o : PO} (h : OwnO K H a o) (n : TNe tp a) : BorO tp K H a o := by
  cases o with
  | lst ds =>
    obtain ⟨vs, h1, h2, h3⟩ := h
    exact ⟨vs, ⟨.inl h1, n.ne⟩, h2, h3⟩
  | dT ds =>
    obtain ⟨vs, h1, h2, h3⟩ := h
    exact ⟨vs, ⟨.inl h1, n.ne⟩, h2, h3⟩
  | dK ds =>
    obtain ⟨vs, h1, h2, h3⟩ := h
    exact ⟨vs, ⟨.inl h1, n.ne⟩, h2, h3⟩
  | lT ds =>
    exact h.elim
theorem RC.gr {v : V} {c : C} (h : RC tp K H0 H v c) (g : GrT tp H H') (t : TOk tp H) : RC tp K H0 H' v c := by
  cases c with
  | val d => exact ⟨h.1.imlf (g.im t) d _ h.2, h.2⟩
  | own o =>
    obtain ⟨a, e, f, n, h⟩ := h
    exact ⟨a, e, f, n, h.gr g t n⟩
  | bor o =>
    obtain ⟨a, e, h⟩ := h
    exact ⟨a, e, h.gr g t⟩
  | tape => exact h
theorem RC.base {v : V} {c : C} (h : RC tp K H1 H v c) (g : GrT tp H0 H1) (t : TOk tp H1) : RC tp K H0 H v c := by
  cases c with
  | val d => exact h
  | own o =>
    obtain ⟨a, e, f, n, h⟩ := h
    exact ⟨a, e, g.free t f, n, h⟩
  | bor o => exact h
  | tape => exact h
theorem SR.gr {v : V} {c : C} (h : SR tp K Hq H v c) (g : GrT tp H H') (t : TOk tp H) : SR tp K Hq H' v c := by
  cases c with
  | val d => exact ⟨h.1.imlf (g.im t) d _ h.2, h.2⟩
  | own o =>
    obtain ⟨a, e, f, n, h⟩ := h
    exact ⟨a, e, f, n, h.gr g t n⟩
  | bor o => exact h
  | tape => exact h
theorem Rel.go (r : Rel tp K He Hq H σ ρ) (g : GrT tp H H') (t : TOk tp H') : Rel tp K He Hq H' σ ρ :=
  ⟨r.len, fun i c e => let ⟨v, h1, h2⟩ := r.at_ i c e; ⟨v, h1, h2.gr g r.tok⟩, r.dist, r.sub, r.gr.trans g, t, r.he⟩
/-- data that a thing reads as -/
def PO.dat : PO → Option PyData
  | .lst ds => some (.list ds)
  | _ => none
def C.dat : C → Option PyData
  | .val d => some d
  | .own o => o.dat
  | .bor o => o.dat
  | .tape => none
theorem RC.dp {v : V} {c : C} {d : PyData} (h : RC tp K H0 H v c) (e : c.dat = some d) : Dp K H v d := by
  cases c with
  | val d' => cases e; exact h.1.dp _ _
  | own o =>
    obtain ⟨a, rfl, _, _, h⟩ := h
    cases o with
    | lst ds =>
      cases e
      obtain ⟨vs, h1, h2, _⟩ := h
      exact .lst (SqL.of h1) (h2.dp _ _)
    | dT _ => cases e
    | dK _ => cases e
    | lT _ => cases e
  | bor o =>
    obtain ⟨a, rfl, h⟩ := h
    cases o with
    | lst ds =>
      cases e
      obtain ⟨vs, h1, h2, _⟩ := h
      exact .lst h1.sq (h2.dp _ _)
    | dT _ => cases e
    | dK _ => cases e
    | lT _ => cases e
  | tape => cases e
/-- what follows an expression -/
def Post (tp : Option (Addr × Addr)) (K : PySem.W.Frag) (H : Hp) (Q : VK) (c : C) : Prop := ∀ v H', GrT tp H H' → TOk tp H' → RC tp K H H' v c → Q v H'
/-- the reading t is served by the plain program g -/
def RE (K : PySem.W.Frag) (t : TE) (g : Ro → M C) : Prop := ∀ tp He Hq ρ σ H Q, Rel tp K He Hq H σ ρ → wp0 (g ρ) (Post tp K H Q) → t σ H Q
def PostB (tp : Option (Addr × Addr)) (H : Hp) (Q : Bool → Hp → Prop) (b : Bool) : Prop := ∀ H', GrT tp H H' → TOk tp H' → Q b H'
def RT (K : PySem.W.Frag) (t : TT) (g : Ro → M Bool) : Prop := ∀ tp He Hq ρ σ H Q, Rel tp K He Hq H σ ρ → wp0 (g ρ) (PostB tp H Q) → t σ H Q
def RCs (tp : Option (Addr × Addr)) (K : PySem.W.Frag) (H0 H : Hp) : List V → List C → Prop
  | [], [] => True
  | v :: vs, c :: cs => RC tp K H0 H v c ∧ RCs tp K H0 H vs cs
  | _, _ => False
def PostA (tp : Option (Addr × Addr)) (K : PySem.W.Frag) (H : Hp) (Q : List V → Hp → Prop) (cs : List C) : Prop := ∀ vs H', GrT tp H H' → TOk tp H' → RCs tp K H H' vs cs → Q vs H'
def RA (K : PySem.W.Frag) (t : TA) (g : Ro → M (List C)) : Prop := ∀ tp He Hq ρ σ H Q, Rel tp K He Hq H σ ρ → wp0 (g ρ) (PostA tp K H Q) → t σ H Q
/-- behind one expression, another -/
theorem Post.step {m : M C} {P Q : C → Prop} (h : wp0 m P) (k : ∀ c, P c → Q c) : wp0 m Q := wp0_mono k h
/-! ### names and constants -/
def gVar (i : Nat) (ρ : Ro) : M C := match ρ[i]? with
  | some (some (.own o)) => .ret (.bor o)
  | some (some c) => .ret c
  | _ => .fail
theorem Rel.im (r : Rel tp K He Hq H σ ρ) : Im Hq H := by
  have n : ∀ b o, Hq b = some o → (∀ xs, o ≠ .lst xs) → tp.map (·.1) ≠ some b := fun b o e h z => by
    cases tp with
    | none => simp at z
    | some w =>
      obtain ⟨t, l⟩ := w
      have : t = b := by simpa using z
      subst this
      rcases r.he t l rfl with q | ⟨xs, q⟩
      · rw [q] at e; cases e
      · rw [q] at e; cases e; exact h xs rfl
  exact ⟨fun b xs e => r.gr b _ e (n b _ e fun _ z => by cases z), fun b o u e => r.gr b _ e (n b _ e fun _ z => by cases z)⟩
theorem Rel.bor (r : Rel tp K He Hq H σ ρ) {a : Addr} {o : PO} (h : BorO tp K Hq a o) : BorO tp K H a o := by
  cases o with
  | lst ds =>
    obtain ⟨vs, h1, h2, h3⟩ := h
    exact ⟨vs, h1.gr r.gr, h2.imlf r.im ds _ h3, h3⟩
  | dT ds =>
    obtain ⟨vs, h1, h2, h3⟩ := h
    exact ⟨vs, h1.gr r.gr, h2.imlf r.im ds _ h3, h3⟩
  | dK ds =>
    obtain ⟨vs, h1, h2, h3⟩ := h
    exact ⟨vs, h1.gr r.gr, h2.imlf r.im ds _ h3, h3⟩
  | lT ds =>
    obtain ⟨vs, h1, h2, h3⟩ := h
    exact ⟨vs, h1.gr r.gr, h2.imlf r.im ds _ h3, h3⟩
def C.lend : C → C
  | .own o => .bor o
  | c => c
theorem RC.lend {v : V} {c : C} (h : RC tp K H0 H v c) : RC tp K H1 H v c.lend := by
  cases c with
  | val d => exact h
  | own o =>
    obtain ⟨a, e, f, n, h⟩ := h
    exact ⟨a, e, h.bor n⟩
  | bor o => exact h
  | tape => exact h
theorem Rel.var (r : Rel tp K He Hq H σ ρ) {i : Nat} {c : C} (e : ρ[i]? = some (some c)) : ∃ v, σ[i]? = some (some v) ∧ RC tp K H H v c.lend := by
  obtain ⟨v, h1, h2⟩ := r.at_ i c e
  refine ⟨v, h1, ?_⟩
  cases c with
  | val d => exact h2
  | own o =>
    obtain ⟨a, e, f, n, h⟩ := h2
    exact ⟨a, e, h.bor n⟩
  | bor o =>
    obtain ⟨a, e, h⟩ := h2
    exact ⟨a, e, r.bor h⟩
  | tape => exact h2
theorem re_var {i : Nat} : RE K (tVar i) (gVar i) := by
  intro tp He Hq ρ σ H Q r h
  unfold gVar at h
  split at h
  · rename_i o e
    obtain ⟨v, h1, h2⟩ := r.var e
    exact ⟨v, h1, h v H .refl r.tok h2⟩
  · rename_i e
    obtain ⟨v, h1, h2⟩ := r.var e
    refine ⟨v, h1, h v H .refl r.tok ?_⟩
    rename_i c' n
    cases c' with
    | own o => exact absurd rfl (n o)
    | val d => exact h2
    | bor d => exact h2
    | tape => exact h2
  · exact h.elim
def gC (d : PyData) (_ : Ro) : M C := .ret (.val d)
theorem re_con {v : V} {d : PyData} (h : ∀ H, Vl K H v d) (f : lf d = true) : RE K (tC v) (gC d) := fun tp He Hq ρ σ H Q r q => q v H .refl r.tok ⟨h H, f⟩
theorem re_int {i : Int} : RE K (tC (.int i)) (gC (.int i)) := re_con (fun _ => .int i) rfl
theorem re_str {x : Str} : RE K (tC (.str x)) (gC (.str x)) := re_con (fun _ => .str x) rfl
theorem re_bl {b : Bool} : RE K (tC (.bl b)) (gC (.bool b)) := re_con (fun _ => .bl b) rfl
theorem re_non : RE K (tC .non) (gC .none) := re_con (fun _ => .non) rfl
/-! ### arguments, displays -/
def gaNil (_ : Ro) : M (List C) := .ret []
def gaCons (g : Ro → M C) (gs : Ro → M (List C)) (ρ : Ro) : M (List C) := (g ρ).bind fun c => (gs ρ).bind fun cs => .ret (c :: cs)
theorem RCs.gr : ∀ {vs : List V} {cs : List C}, RCs tp K H0 H vs cs → GrT tp H H' → TOk tp H → RCs tp K H0 H' vs cs
  | [], [], _, _, _ => trivial
  | v :: vs, c :: cs, h, g, t => ⟨h.1.gr g t, RCs.gr h.2 g t⟩
  | [], _ :: _, h, _, _ => h.elim
  | _ :: _, [], h, _, _ => h.elim
theorem RCs.base : ∀ {vs : List V} {cs : List C}, RCs tp K H1 H vs cs → GrT tp H0 H1 → TOk tp H1 → RCs tp K H0 H vs cs
  | [], [], _, _, _ => trivial
  | v :: vs, c :: cs, h, g, t => ⟨h.1.base g t, RCs.base h.2 g t⟩
  | [], _ :: _, h, _, _ => h.elim
  | _ :: _, [], h, _, _ => h.elim
theorem ra_nil : RA K tNil gaNil := fun tp He Hq ρ σ H Q r q => q [] H .refl r.tok trivial
theorem ra_cons {t : TE} {u : TA} {g : Ro → M C} {gs : Ro → M (List C)} (h1 : RE K t g) (h2 : RA K u gs) : RA K (tCons t u) (gaCons g gs) := by
  intro tp He Hq ρ σ H Q r h
  refine h1 tp He Hq ρ σ H _ r (wp0_mono (fun c hc => ?_) (wp0_bind.mp h))
  intro x H1 g1 t1 rc
  refine h2 tp He Hq ρ σ H1 _ (r.go g1 t1) (wp0_mono (fun cs hcs => ?_) (wp0_bind.mp hc))
  intro xs H2 g2 t2 rcs
  exact hcs (x :: xs) H2 (g1.trans g2) t2 ⟨rc.gr g2 t1, rcs.base g1 t1⟩
def datas : List C → Option (List PyData)
  | [] => some []
  | .val d :: cs => (datas cs).map (d :: ·)
  | _ :: _ => none
theorem datas_dp : ∀ {vs : List V} {cs : List C} {ds : List PyData}, RCs tp K H0 H vs cs → datas cs = some ds → VlAll K H vs ds ∧ lfAll ds = true
  | [], [], ds, _, e => by cases e; exact ⟨.nil, rfl⟩
  | v :: vs, .val d :: cs, ds, h, e => by
    unfold datas at e
    cases q : datas cs with
    | none => rw [q] at e; cases e
    | some es =>
      rw [q] at e
      cases e
      obtain ⟨a1, a2⟩ := datas_dp h.2 q
      exact ⟨.cons h.1.1 a1, rfl⟩
  | _ :: _, .own _ :: _, _, _, e => by cases e
  | _ :: _, .bor _ :: _, _, _, e => by cases e
  | _ :: _, .tape :: _, _, _, e => by cases e
  | [], _ :: _, _, h, _ => h.elim
  | _ :: _, [], _, h, _ => h.elim
/-- lengths that the model holds -/
def lenOk (n : Nat) : Bool := decide (n ≤ 16777216)
theorem lenOk_le {n : Nat} (h : lenOk n = true) : n ≤ sizeLine := by rw [show sizeLine = 16777216 by decide]; exact of_decide_eq_true h
def oTup (cs : List C) : M C := match datas cs with
  | some ds => if lenOk ds.length = true then .ret (.val (.tuple ds)) else .fail
  | none => .fail
def oLst (cs : List C) : M C := match datas cs with
  | some ds => if lenOk ds.length = true then .ret (.own (.lst ds)) else .fail
  | none => .fail
def gTupE (gs : Ro → M (List C)) (ρ : Ro) : M C := (gs ρ).bind oTup
def gLst (gs : Ro → M (List C)) (ρ : Ro) : M C := (gs ρ).bind oLst
theorem re_tup {u : TA} {gs : Ro → M (List C)} (h1 : RA K u gs) : RE K (tTup u) (gTupE gs) := by
  intro tp He Hq ρ σ H Q r h
  refine h1 tp He Hq ρ σ H _ r (wp0_mono (fun cs hcs => ?_) (wp0_bind.mp h))
  intro xs H1 g1 t1 rc
  unfold oTup at hcs
  split at hcs
  · rename_i ds e
    obtain ⟨a1, a2⟩ := datas_dp rc e
    split at hcs
    · rename_i l
      refine ⟨by rw [a1.len]; exact lenOk_le l, fun p hp => hcs _ _ (g1.trans (.of (Same.new hp))) (t1.same (Same.new hp)) ⟨.tup upd_same (a1.imlf (Im.new hp) ds _ a2), rfl⟩⟩
    · exact hcs.elim
  · exact hcs.elim
theorem re_lst {u : TA} {gs : Ro → M (List C)} (h1 : RA K u gs) : RE K (tLst u) (gLst gs) := by
  intro tp He Hq ρ σ H Q r h
  refine h1 tp He Hq ρ σ H _ r (wp0_mono (fun cs hcs => ?_) (wp0_bind.mp h))
  intro xs H1 g1 t1 rc
  unfold oLst at hcs
  split at hcs
  · rename_i ds e
    obtain ⟨a1, a2⟩ := datas_dp rc e
    split at hcs
    · rename_i l
      refine ⟨by rw [a1.len]; exact lenOk_le l, fun p hp => hcs _ _ (g1.trans (.of (Same.new hp))) (t1.same (Same.new hp)) ⟨p, rfl, g1.free t1 hp, t1.tne hp, xs, upd_same, a1.imlf (Im.new hp) ds _ a2, a2⟩⟩
    · exact hcs.elim
  · exact hcs.elim
end
end Cs

set_option maxRecDepth 100000
set_option maxHeartbeats 4000000
/-! operators by values -/
namespace Cs
open PySem PySem.Spec PyProof.Rows L2
section
variable {tp : Option (Addr × Addr)} {K : PySem.W.Frag} {H H' H'' H0 H1 He : Hp} {Hq : Hp} {σ : L2.St} {ρ : Ro}
def OpS (K : PySem.W.Frag) (r : R2) (op : C → C → M C) : Prop := ∀ tp H0 H x y cx cy Q, GrT tp H0 H → TOk tp H → RC tp K H0 H x cx → RC tp K H0 H y cy → wp0 (op cx cy) (Post tp K H0 Q) → r x y H Q
def gOp (op : C → C → M C) (ga gb : Ro → M C) (ρ : Ro) : M C := (ga ρ).bind fun a => (gb ρ).bind fun b => op a b
theorem re_op {r : R2} {op : C → C → M C} {ta tb : TE} {ga gb : Ro → M C} (ho : OpS K r op) (ha : RE K ta ga) (hb : RE K tb gb) : RE K (tOp r ta tb) (gOp op ga gb) := by
  intro tp He Hq ρ σ H Q rl h
  refine ha tp He Hq ρ σ H _ rl (wp0_mono (fun a h1 => ?_) (wp0_bind.mp h))
  intro x H1 g1 t1 rx
  refine hb tp He Hq ρ σ H1 _ (rl.go g1 t1) (wp0_mono (fun b h2 => ?_) (wp0_bind.mp h1))
  intro y H2 g2 t2 ry
  exact ho tp H H2 x y a b Q (g1.trans g2) t2 (rx.gr g2 t1) (ry.base g1 t1) h2
def UnS (K : PySem.W.Frag) (r : V → Hp → VK → Prop) (op : C → M C) : Prop := ∀ tp H0 H x cx Q, GrT tp H0 H → TOk tp H → RC tp K H0 H x cx → wp0 (op cx) (Post tp K H0 Q) → r x H Q
def gUn (op : C → M C) (ga : Ro → M C) (ρ : Ro) : M C := (ga ρ).bind op
theorem re_un {r : V → Hp → VK → Prop} {op : C → M C} {ta : TE} {ga : Ro → M C} (ho : UnS K r op) (ha : RE K ta ga) : RE K (tUn r ta) (gUn op ga) := by
  intro tp He Hq ρ σ H Q rl h
  refine ha tp He Hq ρ σ H _ rl (wp0_mono (fun a h1 => ?_) (wp0_bind.mp h))
  intro x H1 g1 t1 rx
  exact ho tp H H1 x a Q g1 t1 rx h1
/-- a flat answer, the heap as it is -/
theorem Post.at_ {Q : VK} {c : C} {v : V} (p : Post tp K H0 Q c) (g : GrT tp H0 H) (t : TOk tp H) (r : RC tp K H0 H v c) : Q v H := p v H g t r
theorem Post.int {Q : VK} {i : Int} (p : Post tp K H0 Q (.val (.int i))) (g : GrT tp H0 H) (t : TOk tp H) : Q (.int i) H := p _ H g t ⟨.int i, rfl⟩
theorem Post.bl {Q : VK} {b : Bool} (p : Post tp K H0 Q (.val (.bool b))) (g : GrT tp H0 H) (t : TOk tp H) : Q (.bl b) H := p _ H g t ⟨.bl b, rfl⟩
theorem Post.str {Q : VK} {b : Str} (p : Post tp K H0 Q (.val (.str b))) (g : GrT tp H0 H) (t : TOk tp H) : Q (.str b) H := p _ H g t ⟨.str b, rfl⟩
theorem Post.non {Q : VK} (p : Post tp K H0 Q (.val .none)) (g : GrT tp H0 H) (t : TOk tp H) : Q .non H := p _ H g t ⟨.non, rfl⟩
theorem Post.tup {Q : VK} {ds : List PyData} {vs : List V} {a : Addr} (p : Post tp K H0 Q (.val (.tuple ds))) (g : GrT tp H0 H) (t : TOk tp H) (n : H a = none) (h : VlAll K H vs ds) (f : lfAll ds = true) : Q (.ref a) (upd H a (.tup vs)) :=
  p _ _ (g.trans (.of (Same.new n))) (t.same (Same.new n)) ⟨.tup upd_same (h.imlf (Im.new n) ds _ f), rfl⟩
theorem Post.lst {Q : VK} {ds : List PyData} {vs : List V} {a : Addr} (p : Post tp K H0 Q (.own (.lst ds))) (g : GrT tp H0 H) (t : TOk tp H) (n : H a = none) (h : VlAll K H vs ds) (f : lfAll ds = true) : Q (.ref a) (upd H a (.lst vs)) :=
  p _ _ (g.trans (.of (Same.new n))) (t.same (Same.new n)) ⟨a, rfl, g.free t n, t.tne n, vs, upd_same, h.imlf (Im.new n) ds _ f, f⟩
theorem RC.int {v : V} {i : Int} (h : RC tp K H0 H v (.val (.int i))) : v = .int i := by obtain ⟨h, _⟩ := h; cases h; rfl
theorem RC.bl {v : V} {i : Bool} (h : RC tp K H0 H v (.val (.bool i))) : v = .bl i := by obtain ⟨h, _⟩ := h; cases h; rfl
theorem RC.str {v : V} {i : Str} (h : RC tp K H0 H v (.val (.str i))) : v = .str i := by obtain ⟨h, _⟩ := h; cases h; rfl
theorem RC.non {v : V} (h : RC tp K H0 H v (.val .none)) : v = .non := by obtain ⟨h, _⟩ := h; cases h; rfl
theorem RC.tup {v : V} {ds : List PyData} (h : RC tp K H0 H v (.val (.tuple ds))) : ∃ a vs, v = .ref a ∧ SqT K H a vs ∧ VlAll K H vs ds ∧ lfAll ds = true := by
  obtain ⟨h, f⟩ := h
  cases h with
  | tup h1 h2 => exact ⟨_, _, rfl, SqT.of h1, h2, rfl⟩
/-- a list, read -/
def C.items : C → Option (List PyData)
  | .own (.lst ds) => some ds
  | .bor (.lst ds) => some ds
  | .val (.list ds) => some ds
  | _ => none
theorem RC.rd {v : V} {c : C} {ds : List PyData} (h : RC tp K H0 H v c) (e : c.items = some ds) : ∃ a vs, v = .ref a ∧ Rd H a (.lst vs) ∧ VlAll K H vs ds ∧ lfAll ds = true := by
  cases c with
  | val d =>
    cases d <;> cases e
    obtain ⟨h, _⟩ := h
    cases h with
    | lst h1 h2 => exact ⟨_, _, rfl, .inr h1, h2, rfl⟩
  | tape => cases e
  | own o =>
    cases o with
    | lst es =>
      cases e
      obtain ⟨a, rfl, _, _, vs, h1, h2, h3⟩ := h
      exact ⟨a, vs, rfl, .inl h1, h2, h3⟩
    | dT _ => cases e
    | dK _ => cases e
    | lT _ => cases e
  | bor o =>
    cases o with
    | lst es =>
      cases e
      obtain ⟨a, rfl, vs, h1, h2, h3⟩ := h
      exact ⟨a, vs, rfl, h1.1, h2, h3⟩
    | dT _ => cases e
    | dK _ => cases e
    | lT _ => cases e
/-! ### + -/
def rCatR : R2 := fun x y H Q => ∃ l b xs zs, x = .ref l ∧ y = .ref b ∧ Rd H l (.lst xs) ∧ Rd H b (.lst zs) ∧ xs.length + zs.length ≤ sizeLine ∧ ∀ p, H p = none → Q (.ref p) (upd H p (.lst (xs ++ zs)))
theorem op_catR {X : Cx} : OpR X (binaryOp .Add) rCatR := by
  intro pins s σ H x y v u Q I rx ry h
  obtain ⟨l, b, xs, zs, rfl, rfl, hH, hB, hz, q⟩ := h
  cases rx
  cases ry
  obtain ⟨z, its, n, r, e⟩ := hH.ok I.hok
  obtain ⟨z2, its2, n2, r2, e2⟩ := hB.ok I.hok
  have hl := r.length
  have hl2 := r2.length
  refine PySem.P.add_list e e2 ?_ (by rw [List.size_toArray, List.size_toArray]; omega)
  have ea : its.toArray ++ its2.toArray = (its ++ its2).toArray := by simp
  rw [ea]
  exact ⟨.ref _, _, I.lnew (t' := s.toks) (r.append r2) (by rw [List.length_append]; omega), rfl, q _ I.fresh⟩
def rAddS : R2 := fun x y H Q => ∃ i j, x = .str i ∧ y = .str j ∧ i.length + j.length ≤ sizeLine ∧ Q (.str (i ++ j)) H
def rAddU (K : PySem.W.Frag) : R2 := fun x y H Q => rI0 (fun i j => .int (i + j)) x y H Q ∨ rAddS x y H Q ∨ rCatA K x y H Q ∨ rCatR x y H Q
theorem opAdd (K : PySem.W.Frag) {X : Cx} (h : X.K = K := by rfl) : OpR X (binaryOp .Add) (rAddU K) := by
  subst h
  intro pins s σ H x y v u Q I rx ry h
  rcases h with h | h | h | h
  · exact op_add pins s σ H x y v u Q I rx ry h
  · exact op_add_str pins s σ H x y v u Q I rx ry h
  · exact op_catA pins s σ H x y v u Q I rx ry h
  · exact op_catR pins s σ H x y v u Q I rx ry h
def addL : Option (List PyData) → Option (List PyData) → M C
  | some ds, some es => if lenOk (ds.length + es.length) = true then .ret (.own (.lst (ds ++ es))) else .fail
  | _, _ => .fail
def oAdd : C → C → M C
  | .val (.int i), .val (.int j) => .ret (.val (.int (i + j)))
  | .val (.str i), .val (.str j) => if lenOk (i.length + j.length) = true then .ret (.val (.str (i ++ j))) else .fail
  | .val (.tuple ds), .val (.tuple es) => if lenOk (ds.length + es.length) = true then .ret (.val (.tuple (ds ++ es))) else .fail
  | cx, cy => addL cx.items cy.items
theorem addL_ok {x y : V} {cx cy : C} {Q : VK} (g : GrT tp H0 H) (t : TOk tp H) (rx : RC tp K H0 H x cx) (ry : RC tp K H0 H y cy) (h : wp0 (addL cx.items cy.items) (Post tp K H0 Q)) : rAddU K x y H Q := by
  unfold addL at h
  split at h
  · rename_i ds es e1 e2
    obtain ⟨a, vs, rfl, q1, q2, q3⟩ := rx.rd e1
    obtain ⟨b, us, rfl, p1, p2, p3⟩ := ry.rd e2
    split at h
    · rename_i l
      exact .inr (.inr (.inr ⟨a, b, vs, us, rfl, rfl, q1, p1, by rw [q2.len, p2.len]; exact lenOk_le l, fun p hp => Post.lst h g t hp (q2.app p2) (lfAll_app q3 p3)⟩))
    · exact h.elim
  · exact h.elim
theorem os_add : OpS K (rAddU K) oAdd := by
  intro tp H0 H x y cx cy Q g t rx ry h
  unfold oAdd at h
  split at h
  · rename_i i j
    cases rx.int; cases ry.int
    exact .inl ⟨i, j, rfl, rfl, Post.int h g t⟩
  · rename_i i j
    cases rx.str; cases ry.str
    split at h
    · rename_i l
      exact .inr (.inl ⟨i, j, rfl, rfl, lenOk_le l, Post.str h g t⟩)
    · exact h.elim
  · rename_i ds es
    obtain ⟨a, vs, rfl, q1, q2, q3⟩ := rx.tup
    obtain ⟨b, us, rfl, p1, p2, p3⟩ := ry.tup
    split at h
    · rename_i l
      refine .inr (.inr (.inl ⟨a, b, vs, us, rfl, rfl, q1, p1, by rw [q2.len, p2.len]; exact lenOk_le l, fun e => ?_, fun _ e => ?_, fun _ _ p hp => Post.tup h g t hp (q2.app p2) (lfAll_app q3 p3)⟩))
      · subst e
        cases q2
        exact Post.at_ h g t ry
      · subst e
        cases p2
        rw [List.append_nil] at h
        exact Post.at_ h g t rx
    · exact h.elim
  · exact addL_ok g t rx ry h
/-! ### - * // % ** -/
def oInt (f : Int → Int → PyData) (c : Int → Int → Bool) : C → C → M C
  | .val (.int i), .val (.int j) => if c i j = true then .ret (.val (f i j)) else .fail
  | _, _ => .fail
theorem os_int {f : Int → Int → Int} {c : Int → Int → Bool} {R : Int → Int → Prop} (h : ∀ i j, c i j = true → R i j) : OpS K (rI R fun i j => .int (f i j)) (oInt (fun i j => .int (f i j)) c) := by
  intro tp H0 H x y cx cy Q g t rx ry q
  unfold oInt at q
  split at q
  · rename_i i j
    cases rx.int; cases ry.int
    split at q
    · rename_i e
      exact ⟨i, j, rfl, rfl, h i j e, Post.int q g t⟩
    · exact q.elim
  · exact q.elim
theorem os_int0 {f : Int → Int → Int} : OpS K (rI0 fun i j => .int (f i j)) (oInt (fun i j => .int (f i j)) fun _ _ => true) := by
  intro tp H0 H x y cx cy Q g t rx ry q
  unfold oInt at q
  split at q
  · rename_i i j
    cases rx.int; cases ry.int
    split at q
    · rename_i e
      exact ⟨i, j, rfl, rfl, Post.int q g t⟩
    · exact q.elim
  · exact q.elim
theorem os_cmp0 {f : Int → Int → Bool} : OpS K (rI0 fun i j => .bl (f i j)) (oInt (fun i j => .bool (f i j)) fun _ _ => true) := by
  intro tp H0 H x y cx cy Q g t rx ry q
  unfold oInt at q
  split at q
  · rename_i i j
    cases rx.int; cases ry.int
    split at q
    · rename_i e
      exact ⟨i, j, rfl, rfl, Post.bl q g t⟩
    · exact q.elim
  · exact q.elim
abbrev oSub : C → C → M C := oInt (fun i j => .int (i - j)) fun _ _ => true
abbrev oLt : C → C → M C := oInt (fun i j => .bool (decide (i < j))) fun _ _ => true
abbrev oLe : C → C → M C := oInt (fun i j => .bool (decide (i ≤ j))) fun _ _ => true
abbrev oGt : C → C → M C := oInt (fun i j => .bool (decide (j < i))) fun _ _ => true
abbrev oGe : C → C → M C := oInt (fun i j => .bool (decide (j ≤ i))) fun _ _ => true
def cMul (i j : Int) : Bool := decide (i.natAbs.log2 + j.natAbs.log2 < 1000000)
def cDiv (_ j : Int) : Bool := decide (0 < j) && decide (j.natAbs.log2 < 9000)
def cMod (_ j : Int) : Bool := decide (0 < j)
def cPow (i j : Int) : Bool := decide (0 ≤ j) && (decide (j ≤ 1000000) && decide (i.natAbs < 18446744073709551616))
abbrev oFdiv : C → C → M C := oInt (fun i j => .int (i / j)) cDiv
abbrev oMod : C → C → M C := oInt (fun i j => .int (i % j)) cMod
abbrev oPow : C → C → M C := oInt (fun i j => .int (i ^ j.toNat)) cPow
theorem os_sub : OpS K (rI0 fun i j => .int (i - j)) oSub := os_int0 (f := fun i j => i - j)
theorem os_fdiv : OpS K (rI CDivW fun i j => .int (i / j)) oFdiv := os_int (f := fun i j => i / j) fun i j h => by
  simp only [cDiv, Bool.and_eq_true, decide_eq_true_eq] at h
  exact h
/-- // by any divisor -/
def CDivA (_ j : Int) : Prop := j ≠ 0 ∧ j.natAbs.log2 < 9000
theorem op_fdivA {X : Cx} : OpR X (binaryOp .FloorDiv) (rI CDivA fun i j => .int (i.fdiv j)) := opI fun i j _ _ _ _ _ hc q => floordiv_int hc.1 q (.inl (PyProof.noPylong_of_log2 hc.2))
def cDivA (_ j : Int) : Bool := !decide (j = 0) && decide (j.natAbs.log2 < 9000)
abbrev oFdivA : C → C → M C := oInt (fun i j => .int (i.fdiv j)) cDivA
theorem os_fdivA : OpS K (rI CDivA fun i j => .int (i.fdiv j)) oFdivA := os_int (f := fun i j => i.fdiv j) fun i j h => by
  simp only [cDivA, Bool.and_eq_true, Bool.not_eq_true', decide_eq_false_iff_not, decide_eq_true_eq] at h
  exact h
theorem os_mod : OpS K (rI (fun _ j => 0 < j) fun i j => .int (i % j)) oMod := os_int (f := fun i j => i % j) fun i j h => of_decide_eq_true h
theorem os_pow : OpS K (rI CPow fun i j => .int (i ^ j.toNat)) oPow := os_int (f := fun i j => i ^ j.toNat) fun i j h => by
  simp only [cPow, Bool.and_eq_true, decide_eq_true_eq] at h
  exact ⟨h.1, h.2.1, by have := h.2.2; show _ < 18446744073709551616; exact this⟩
/-! ### * -/
def rRepR : R2 := fun x y H Q => ∃ l k xs, x = .ref l ∧ y = .int k ∧ H l = some (.lst xs) ∧ -(2 ^ 63) ≤ k ∧ k < 2 ^ 63 ∧ xs.length * k.toNat ≤ sizeLine ∧
  ∀ p, H p = none → Q (.ref p) (upd H p (.lst (List.replicate k.toNat xs).flatten))
def rMulU (K : PySem.W.Frag) : R2 := fun x y H Q => rI CMulW (fun i j => .int (i * j)) x y H Q ∨ rRepT K x y H Q ∨ rRep x y H Q
theorem opMul (K : PySem.W.Frag) {X : Cx} (h : X.K = K := by rfl) : OpR X (binaryOp .Mult) (rMulU K) := by
  subst h
  intro pins s σ H x y v u Q I rx ry h
  rcases h with h | h | h
  · exact op_mulW pins s σ H x y v u Q I rx ry h
  · exact op_repT pins s σ H x y v u Q I rx ry h
  · exact op_rep pins s σ H x y v u Q I rx ry h
def repD (k : Nat) (ds : List PyData) : List PyData := (List.replicate k ds).flatten
theorem dpRep {vs : List V} {ds : List PyData} (h : VlAll K H vs ds) : ∀ k : Nat, VlAll K H (List.replicate k vs).flatten (repD k ds)
  | 0 => .nil
  | k + 1 => by
    unfold repD
    rw [List.replicate_succ, List.replicate_succ, List.flatten_cons, List.flatten_cons]
    exact h.app (dpRep h k)
theorem lfAll_rep {ds : List PyData} (h : lfAll ds = true) : ∀ k : Nat, lfAll (repD k ds) = true
  | 0 => rfl
  | k + 1 => by
    unfold repD
    rw [List.replicate_succ, List.flatten_cons]
    exact lfAll_app h (lfAll_rep h k)
def cRepT (ds : List PyData) (k : Int) : Bool := !ds.isEmpty && (decide (2 ≤ k) && (decide (k ≤ 1000) && decide (ds.length ≤ 1000)))
def cRepL (ds : List PyData) (k : Int) : Bool := decide (-9223372036854775808 ≤ k) && (decide (k < 9223372036854775808) && lenOk (ds.length * k.toNat))
def oMul : C → C → M C
  | .val (.int i), .val (.int j) => if cMul i j = true then .ret (.val (.int (i * j))) else .fail
  | .val (.tuple ds), .val (.int k) => if cRepT ds k = true then .ret (.val (.tuple (repD k.toNat ds))) else .fail
  | .own (.lst ds), .val (.int k) => if cRepL ds k = true then .ret (.own (.lst (repD k.toNat ds))) else .fail
  | _, _ => .fail
theorem os_mul : OpS K (rMulU K) oMul := by
  intro tp H0 H x y cx cy Q g t rx ry h
  unfold oMul at h
  split at h
  · rename_i i j
    cases rx.int; cases ry.int
    split at h
    · rename_i e
      exact .inl ⟨i, j, rfl, rfl, (show i.natAbs.log2 + j.natAbs.log2 < 1000000 from of_decide_eq_true e), Post.int h g t⟩
    · exact h.elim
  · rename_i ds k
    obtain ⟨a, vs, rfl, q1, q2, q3⟩ := rx.tup
    cases ry.int
    split at h
    · rename_i e
      simp only [cRepT, Bool.and_eq_true, decide_eq_true_eq, Bool.not_eq_true'] at e
      refine .inr (.inl ⟨a, k, vs, rfl, rfl, q1, fun z => ?_, e.2.1, e.2.2.1, by rw [q2.len]; exact e.2.2.2, fun p hp => Post.tup h g t hp (dpRep q2 _) (lfAll_rep q3 _)⟩)
      subst z
      cases q2
      simp at e
    · exact h.elim
  · rename_i ds k
    obtain ⟨a, rfl, _, _, vs, q1, q2, q3⟩ := rx
    cases ry.int
    split at h
    · rename_i e
      simp only [cRepL, Bool.and_eq_true, decide_eq_true_eq] at e
      exact .inr (.inr ⟨a, k, vs, rfl, rfl, q1, e.1, e.2.1, by rw [q2.len]; exact lenOk_le e.2.2, fun p hp => Post.lst h g t hp (dpRep q2 _) (lfAll_rep q3 _)⟩)
    · exact h.elim
  · exact h.elim
/-! ### -x -/
def oNeg : C → M C
  | .val (.int i) => .ret (.val (.int (-i)))
  | _ => .fail
theorem us_neg : UnS K (rU fun i => .int (-i)) oNeg := by
  intro tp H0 H x cx Q g t rx h
  unfold oNeg at h
  split at h
  · rename_i i
    cases rx.int
    exact ⟨i, rfl, Post.int h g t⟩
  · exact h.elim
/-! ### == != is in -/
def rEqU (K : PySem.W.Frag) (n : Bool) : R2 := fun x y H Q => (∃ i j, x = .str i ∧ y = .str j ∧ Q (.bl (n ^^ decide (i = j))) H) ∨ ∃ d e, Dp K H x d ∧ Dp K H y e ∧ SeqAt.shaped d = true ∧ SeqAt.shaped e = true ∧ Q (.bl (n ^^ PyData.eqv d e)) H
theorem dec_strV {i j : Str} : decide (V.str i = V.str j) = decide (i = j) := by
  by_cases h : i = j
  · subst h; simp
  · rw [decide_eq_false h, decide_eq_false (fun z => h (V.str.inj z))]
theorem opEq (K : PySem.W.Frag) {X : Cx} (hu : X.A.units + 64 < cLine) (h : X.K = K := by rfl) : OpR X (compareOp .Eq) (rEqU K false) := by
  subst h
  intro pins s σ H x y v u Q I rx ry h
  rcases h with ⟨i, j, rfl, rfl, q⟩ | ⟨d, e, h1, h2, h3, h4, q⟩
  · rw [Bool.false_xor] at q
    exact op_eq pins s σ H _ _ v u Q I rx ry ⟨rfl, by rw [dec_strV]; exact q⟩
  · rw [Bool.false_xor] at q
    exact op_eqD hu pins s σ H x y v u Q I rx ry ⟨d, e, h1, h2, h3, h4, q⟩
theorem opNe (K : PySem.W.Frag) {X : Cx} (hu : X.A.units + 64 < cLine) (h : X.K = K := by rfl) : OpR X (compareOp .NotEq) (rEqU K true) := by
  subst h
  intro pins s σ H x y v u Q I rx ry h
  rcases h with ⟨i, j, rfl, rfl, q⟩ | ⟨d, e, h1, h2, h3, h4, q⟩
  · rw [Bool.true_xor] at q
    exact op_ne pins s σ H _ _ v u Q I rx ry ⟨rfl, by rw [dec_strV]; exact q⟩
  · rw [Bool.true_xor] at q
    exact op_neD hu pins s σ H x y v u Q I rx ry ⟨d, e, h1, h2, h3, h4, q⟩
def oEqD (n : Bool) : Option PyData → Option PyData → M C
  | some (.str i), some (.str j) => .ret (.val (.bool (n ^^ decide (i = j))))
  | some d, some e => if (SeqAt.shaped d && SeqAt.shaped e) = true then .ret (.val (.bool (n ^^ PyData.eqv d e))) else .fail
  | _, _ => .fail
def oEq (a b : C) : M C := oEqD false a.dat b.dat
def oNe (a b : C) : M C := oEqD true a.dat b.dat
theorem eqD_ok {n : Bool} {x y : V} {cx cy : C} {Q : VK} (g : GrT tp H0 H) (t : TOk tp H) (rx : RC tp K H0 H x cx) (ry : RC tp K H0 H y cy) (h : wp0 (oEqD n cx.dat cy.dat) (Post tp K H0 Q)) : rEqU K n x y H Q := by
  unfold oEqD at h
  split at h
  · rename_i i j h1 h2
    have r1 := rx.dp h1
    have r2 := ry.dp h2
    cases r1; cases r2
    exact .inl ⟨i, j, rfl, rfl, Post.bl h g t⟩
  · rename_i d e _ h1 h2
    split at h
    · rename_i s
      simp only [Bool.and_eq_true] at s
      exact .inr ⟨d, e, rx.dp h1, ry.dp h2, s.1, s.2, Post.bl h g t⟩
    · exact h.elim
  · exact h.elim
theorem os_eq : OpS K (rEqU K false) oEq := fun tp H0 H x y cx cy Q g t rx ry h => eqD_ok g t rx ry h
theorem os_ne : OpS K (rEqU K true) oNe := fun tp H0 H x y cx cy Q g t rx ry h => eqD_ok g t rx ry h
def C.isN : C → Bool
  | .val .none => true
  | _ => false
theorem RC.isN {v : V} {c : C} (h : RC tp K H0 H v c) : decide (v = .non) = c.isN := by
  cases c with
  | val d =>
    obtain ⟨h, f⟩ := h
    cases h <;> rfl
  | own o => obtain ⟨a, rfl, _⟩ := h; rfl
  | bor o => obtain ⟨a, rfl, _⟩ := h; rfl
  | tape => obtain ⟨a, _, _, rfl⟩ := h; rfl
def oIs : C → C → M C
  | a, .val .none => .ret (.val (.bool a.isN))
  | _, _ => .fail
def oIsNot : C → C → M C
  | a, .val .none => .ret (.val (.bool (!a.isN)))
  | _, _ => .fail
theorem os_is : OpS K (fun x y H Q => y = .non ∧ Q (.bl (decide (x = .non))) H) oIs := by
  intro tp H0 H x y cx cy Q g t rx ry h
  unfold oIs at h
  split at h
  · cases ry.non
    exact ⟨rfl, by rw [rx.isN]; exact Post.bl h g t⟩
  · exact h.elim
theorem os_isnot : OpS K (fun x y H Q => y = .non ∧ Q (.bl (!decide (x = .non))) H) oIsNot := by
  intro tp H0 H x y cx cy Q g t rx ry h
  unfold oIsNot at h
  split at h
  · cases ry.non
    exact ⟨rfl, by rw [rx.isN]; exact Post.bl h g t⟩
  · exact h.elim
def rInU (K : PySem.W.Frag) (n : Bool) : R2 := fun x y H Q => (∃ d ds, Dp K H x d ∧ (Dp K H y (.list ds) ∨ Dp K H y (.tuple ds)) ∧ SeqAt.shaped d = true ∧ SeqAt.shaped (.list ds) = true ∧ Q (.bl (n ^^ ds.any fun z => PyData.eqv z d)) H) ∨
  (∃ (c : Nat) (z : Str), x = .str ⟨#[c]⟩ ∧ y = .str z ∧ Q (.bl (n ^^ decide (c ∈ z.cps.toList))) H)
theorem shaped_tup {ds : List PyData} (h : SeqAt.shaped (.list ds) = true) : SeqAt.shaped (.tuple ds) = true := by
  have e : SeqAt.shaped (.list ds) = ((PyData.canLay0 (.list ds)) && decide ((PyData.depth (.list ds)) ≤ 64)) := rfl
  have e' : SeqAt.shaped (.tuple ds) = ((PyData.canLay0 (.tuple ds)) && decide ((PyData.depth (.tuple ds)) ≤ 64)) := rfl
  rw [e] at h
  rw [e']
  simp only [PyData.canLay0, PyData.depth] at h ⊢
  exact h
theorem opIn (K : PySem.W.Frag) {X : Cx} (hu : X.A.units + 65 < cLine) (h : X.K = K := by rfl) : OpR X (compareOp .In) (rInU K false) := by
  subst h
  intro pins s σ H x y v u Q I rx ry h
  rcases h with ⟨d, ds, hd, he | he, sd, se, q⟩ | h
  · rw [Bool.false_xor] at q
    exact op_inD hu pins s σ H x y v u Q I rx ry ⟨d, ds, hd, he, sd, se, q⟩
  · rw [Bool.false_xor] at q
    obtain ⟨as, r1⟩ := Dp.reads I d x v hd rx
    obtain ⟨bs, r2⟩ := Dp.reads I (.tuple ds) y u he ry
    exact SeqAt.in_tuple_reads r2 r1 (SeqAt.canLay_of_shaped se) (SeqAt.canLay_of_shaped sd) (room_in_shaped sd hu) ⟨.bl _, H, I, rfl, q⟩
  · obtain ⟨c, z, h1, h2, q⟩ := h
    rw [Bool.false_xor] at q
    exact op_in_sign pins s σ H x y v u Q I rx ry ⟨c, z, h1, h2, q⟩
theorem opNotIn (K : PySem.W.Frag) {X : Cx} (hu : X.A.units + 65 < cLine) (h : X.K = K := by rfl) : OpR X (compareOp .NotIn) (rInU K true) := by
  subst h
  intro pins s σ H x y v u Q I rx ry h
  rcases h with ⟨d, ds, hd, he | he, sd, se, q⟩ | h
  · rw [Bool.true_xor] at q
    exact op_notInD hu pins s σ H x y v u Q I rx ry ⟨d, ds, hd, he, sd, se, q⟩
  · rw [Bool.true_xor] at q
    obtain ⟨as, r1⟩ := Dp.reads I d x v hd rx
    obtain ⟨bs, r2⟩ := Dp.reads I (.tuple ds) y u he ry
    exact SeqAt.notIn_tuple_reads r2 r1 (SeqAt.canLay_of_shaped se) (SeqAt.canLay_of_shaped sd) (room_in_shaped sd hu) ⟨.bl _, H, I, rfl, q⟩
  · obtain ⟨c, z, h1, h2, q⟩ := h
    rw [Bool.true_xor] at q
    exact op_notIn_sign pins s σ H x y v u Q I rx ry ⟨c, z, h1, h2, q⟩
def oInD (n : Bool) (d : PyData) (ds : List PyData) : M C := if (SeqAt.shaped d && SeqAt.shaped (.list ds)) = true then .ret (.val (.bool (n ^^ ds.any fun z => PyData.eqv z d))) else .fail
def oInS (n : Bool) (x : Str) (z : Str) : M C := if x.cps.size = 1 then .ret (.val (.bool (n ^^ decide (x.cps.getD 0 0 ∈ z.cps.toList)))) else .fail
def oInX (n : Bool) : Option PyData → Option PyData → M C
  | some (.str x), some (.str z) => oInS n x z
  | some d, some (.list ds) => oInD n d ds
  | some d, some (.tuple ds) => oInD n d ds
  | _, _ => .fail
def oIn (a b : C) : M C := oInX false a.dat b.dat
def oNotIn (a b : C) : M C := oInX true a.dat b.dat
theorem inX_ok {n : Bool} {x y : V} {cx cy : C} {Q : VK} (g : GrT tp H0 H) (t : TOk tp H) (rx : RC tp K H0 H x cx) (ry : RC tp K H0 H y cy) (h : wp0 (oInX n cx.dat cy.dat) (Post tp K H0 Q)) : rInU K n x y H Q := by
  unfold oInX at h
  split at h
  · rename_i x' z h1 h2
    unfold oInS at h
    split at h
    · rename_i e
      have r1 := rx.dp h1
      have r2 := ry.dp h2
      cases r1
      cases r2
      obtain ⟨⟨l⟩⟩ := x'
      cases l with
      | nil => simp at e
      | cons c l =>
        cases l with
        | nil => exact .inr ⟨c, z, rfl, rfl, Post.bl h g t⟩
        | cons _ _ => simp at e
    · exact h.elim
  · rename_i d ds h1 h2
    unfold oInD at h
    split at h
    · rename_i e
      simp only [Bool.and_eq_true] at e
      exact .inl ⟨d, ds, rx.dp h1, .inl (ry.dp h2), e.1, e.2, Post.bl h g t⟩
    · exact h.elim
  · rename_i d ds h1 h2
    unfold oInD at h
    split at h
    · rename_i e
      simp only [Bool.and_eq_true] at e
      exact .inl ⟨d, ds, rx.dp h1, .inr (ry.dp h2), e.1, e.2, Post.bl h g t⟩
    · exact h.elim
  · exact h.elim
theorem os_in : OpS K (rInU K false) oIn := fun tp H0 H x y cx cy Q g t rx ry h => inX_ok g t rx ry h
theorem os_notin : OpS K (rInU K true) oNotIn := fun tp H0 H x y cx cy Q g t rx ry h => inX_ok g t rx ry h
end
end Cs

set_option maxRecDepth 100000
set_option maxHeartbeats 4000000
/-! tests, subscripts, calls -/
namespace Cs
open PySem PySem.Spec PyProof.Rows L2
section
variable {tp : Option (Addr × Addr)} {K : PySem.W.Frag} {H H' H'' H0 H1 He : Hp} {Hq : Hp} {σ : L2.St} {ρ : Ro}
/-! ### truth -/
def truD : PyData → M Bool
  | .none => .ret false
  | .bool b => .ret b
  | .int i => .ret (i != 0)
  | .str x => if lenOk x.length = true then .ret ((x.length : Int) != 0) else .fail
  | .tuple xs => .ret (!xs.isEmpty)
  | .list xs => .ret (!xs.isEmpty)
  | .dict _ => .fail
def oTru (c : C) : M Bool := match c.dat with
  | some d => truD d
  | none => .fail
theorem dp_empty {vs : List V} {ds : List PyData} (h : DpAll K H vs ds) : vs.isEmpty = ds.isEmpty := by
  cases h <;> rfl
theorem tru_of {v : V} {d : PyData} (h : Dp K H v d) {Q : Bool → Prop} (q : wp0 (truD d) Q) : ∃ k, TruV K v H k ∧ Q k := by
  cases h with
  | non => exact ⟨_, rfl, q⟩
  | bl b => exact ⟨_, rfl, q⟩
  | int i => exact ⟨_, rfl, q⟩
  | str x =>
    unfold truD at q
    dsimp only at q
    split at q
    · rename_i l
      exact ⟨_, ⟨lenOk_le l, rfl⟩, q⟩
    · exact q.elim
  | lst h1 h2 => exact ⟨_, .inl ⟨_, h1, rfl⟩, by rw [dp_empty h2]; exact q⟩
  | tup h1 h2 => exact ⟨_, .inr (.inl ⟨_, h1, rfl⟩), by rw [dp_empty h2]; exact q⟩
def gTru (g : Ro → M C) (ρ : Ro) : M Bool := (g ρ).bind oTru
theorem oTru_ok {x : V} {c : C} {Q : Bool → Prop} (rx : RC tp K H0 H x c) (h : wp0 (oTru c) Q) : ∃ k, TruV K x H k ∧ Q k := by
  unfold oTru at h
  split at h
  · rename_i d e
    exact tru_of (rx.dp e) h
  · exact h.elim
theorem rt_tru {ta : TE} {ga : Ro → M C} (ha : RE K ta ga) : RT K (tTru K ta) (gTru ga) := by
  intro tp He Hq ρ σ H Q rl h
  refine ha tp He Hq ρ σ H _ rl (wp0_mono (fun a h1 => ?_) (wp0_bind.mp h))
  intro x H1 g1 t1 rx
  obtain ⟨k, h2, h3⟩ := oTru_ok rx h1
  exact ⟨k, h2, h3 H1 g1 t1⟩
def oBl : C → M Bool
  | .val (.bool b) => .ret b
  | _ => .fail
def gTest (g : Ro → M C) (ρ : Ro) : M Bool := (g ρ).bind oBl
theorem oBl_ok {x : V} {c : C} {Q : Bool → Prop} (rx : RC tp K H0 H x c) (h : wp0 (oBl c) Q) : ∃ k, x = .bl k ∧ Q k := by
  unfold oBl at h
  split at h
  · cases rx.bl
    exact ⟨_, rfl, h⟩
  · exact h.elim
theorem rt_test {ta : TE} {ga : Ro → M C} (ha : RE K ta ga) : RT K (tTest ta) (gTest ga) := by
  intro tp He Hq ρ σ H Q rl h
  refine ha tp He Hq ρ σ H _ rl (wp0_mono (fun a h1 => ?_) (wp0_bind.mp h))
  intro x H1 g1 t1 rx
  obtain ⟨k, h2, h3⟩ := oBl_ok rx h1
  exact ⟨k, h2, h3 H1 g1 t1⟩
def gAnd (g1 g2 : Ro → M Bool) (ρ : Ro) : M Bool := (g1 ρ).bind fun b => if b = true then g2 ρ else .ret false
def gOr (g1 g2 : Ro → M Bool) (ρ : Ro) : M Bool := (g1 ρ).bind fun b => if b = true then .ret true else g2 ρ
def gNot (g1 : Ro → M Bool) (ρ : Ro) : M Bool := (g1 ρ).bind fun b => .ret (!b)
theorem rt_and {t u : TT} {g1 g2 : Ro → M Bool} (h1 : RT K t g1) (h2 : RT K u g2) : RT K (tAnd t u) (gAnd g1 g2) := by
  intro tp He Hq ρ σ H Q rl h
  refine h1 tp He Hq ρ σ H _ rl (wp0_mono (fun b hb => ?_) (wp0_bind.mp h))
  intro H1 e1 t1
  cases b with
  | true =>
    rw [if_pos rfl] at hb ⊢
    exact h2 tp He Hq ρ σ H1 _ (rl.go e1 t1) (wp0_mono (fun b hb H2 e2 t2 => hb H2 (e1.trans e2) t2) hb)
  | false =>
    rw [if_neg Bool.false_ne_true] at hb ⊢
    exact hb H1 e1 t1
theorem rt_or {t u : TT} {g1 g2 : Ro → M Bool} (h1 : RT K t g1) (h2 : RT K u g2) : RT K (tOr t u) (gOr g1 g2) := by
  intro tp He Hq ρ σ H Q rl h
  refine h1 tp He Hq ρ σ H _ rl (wp0_mono (fun b hb => ?_) (wp0_bind.mp h))
  intro H1 e1 t1
  cases b with
  | true =>
    rw [if_pos rfl] at hb ⊢
    exact hb H1 e1 t1
  | false =>
    rw [if_neg Bool.false_ne_true] at hb ⊢
    exact h2 tp He Hq ρ σ H1 _ (rl.go e1 t1) (wp0_mono (fun b hb H2 e2 t2 => hb H2 (e1.trans e2) t2) hb)
theorem rt_not {t : TT} {g1 : Ro → M Bool} (h1 : RT K t g1) : RT K (tNot t) (gNot g1) := by
  intro tp He Hq ρ σ H Q rl h
  refine h1 tp He Hq ρ σ H _ rl (wp0_mono (fun b hb => ?_) (wp0_bind.mp h))
  intro H1 e1 t1
  exact hb H1 e1 t1
/-! ### and, or, not, if as values -/
theorem andT (K : PySem.W.Frag) {X : Cx} {a b : Expr} {rest : List Expr} {pos : Pos} {ta tb : TE} (ha : PE X a ta) (hb : PE X (.BoolOp .And (b :: rest) pos) tb) (h : X.K = K := by rfl) : PE X (.BoolOp .And (a :: b :: rest) pos) (tAndT K ta tb) := h ▸ pe_andT ha hb
theorem orT (K : PySem.W.Frag) {X : Cx} {a b : Expr} {rest : List Expr} {pos : Pos} {ta tb : TE} (ha : PE X a ta) (hb : PE X (.BoolOp .Or (b :: rest) pos) tb) (h : X.K = K := by rfl) : PE X (.BoolOp .Or (a :: b :: rest) pos) (tOrT K ta tb) := h ▸ pe_orT ha hb
theorem notT (K : PySem.W.Frag) {X : Cx} {a : Expr} {pos : Pos} {ta : TE} (ha : PE X a ta) (h : X.K = K := by rfl) : PE X (.UnaryOp .Not a pos) (tNotT K ta) := h ▸ pe_notT ha
def gAndT (g1 g2 : Ro → M C) (ρ : Ro) : M C := (g1 ρ).bind fun c => (oTru c).bind fun b => if b = true then g2 ρ else .ret c
def gOrT (g1 g2 : Ro → M C) (ρ : Ro) : M C := (g1 ρ).bind fun c => (oTru c).bind fun b => if b = true then .ret c else g2 ρ
def gNotT (g1 : Ro → M C) (ρ : Ro) : M C := (g1 ρ).bind fun c => (oTru c).bind fun b => .ret (.val (.bool (!b)))
theorem Post.after {Q : VK} {c : C} (p : Post tp K H0 Q c) (g : GrT tp H0 H) (t : TOk tp H) : Post tp K H Q c := fun v H' g' t' r => p v H' (g.trans g') t' (r.base g t)
theorem re_and {ta tb : TE} {g1 g2 : Ro → M C} (h1 : RE K ta g1) (h2 : RE K tb g2) : RE K (tAndT K ta tb) (gAndT g1 g2) := by
  intro tp He Hq ρ σ H Q rl h
  refine h1 tp He Hq ρ σ H _ rl (wp0_mono (fun c hc => ?_) (wp0_bind.mp h))
  intro x H1 e1 t1 rx
  obtain ⟨k, h3, h4⟩ := oTru_ok rx (wp0_bind.mp hc)
  refine ⟨k, h3, ?_⟩
  cases k with
  | true =>
    rw [if_pos rfl] at h4 ⊢
    exact h2 tp He Hq ρ σ H1 _ (rl.go e1 t1) (wp0_mono (fun b hb => hb.after e1 t1) h4)
  | false =>
    rw [if_neg Bool.false_ne_true] at h4 ⊢
    exact h4 x H1 e1 t1 rx
theorem re_or {ta tb : TE} {g1 g2 : Ro → M C} (h1 : RE K ta g1) (h2 : RE K tb g2) : RE K (tOrT K ta tb) (gOrT g1 g2) := by
  intro tp He Hq ρ σ H Q rl h
  refine h1 tp He Hq ρ σ H _ rl (wp0_mono (fun c hc => ?_) (wp0_bind.mp h))
  intro x H1 e1 t1 rx
  obtain ⟨k, h3, h4⟩ := oTru_ok rx (wp0_bind.mp hc)
  refine ⟨k, h3, ?_⟩
  cases k with
  | true =>
    rw [if_pos rfl] at h4 ⊢
    exact h4 x H1 e1 t1 rx
  | false =>
    rw [if_neg Bool.false_ne_true] at h4 ⊢
    exact h2 tp He Hq ρ σ H1 _ (rl.go e1 t1) (wp0_mono (fun b hb => hb.after e1 t1) h4)
theorem re_not {ta : TE} {g1 : Ro → M C} (h1 : RE K ta g1) : RE K (tNotT K ta) (gNotT g1) := by
  intro tp He Hq ρ σ H Q rl h
  refine h1 tp He Hq ρ σ H _ rl (wp0_mono (fun c hc => ?_) (wp0_bind.mp h))
  intro x H1 e1 t1 rx
  obtain ⟨k, h3, h4⟩ := oTru_ok rx (wp0_bind.mp hc)
  exact ⟨k, h3, Post.bl h4 e1 t1⟩
def gIfE (gc : Ro → M Bool) (g1 g2 : Ro → M C) (ρ : Ro) : M C := (gc ρ).bind fun b => if b = true then g1 ρ else g2 ρ
theorem re_if {t : TT} {ta tb : TE} {gc : Ro → M Bool} {g1 g2 : Ro → M C} (hc : RT K t gc) (h1 : RE K ta g1) (h2 : RE K tb g2) : RE K (tIf t ta tb) (gIfE gc g1 g2) := by
  intro tp He Hq ρ σ H Q rl h
  refine hc tp He Hq ρ σ H _ rl (wp0_mono (fun b hb => ?_) (wp0_bind.mp h))
  intro H1 e1 t1
  cases b with
  | true =>
    rw [if_pos rfl] at hb ⊢
    exact h1 tp He Hq ρ σ H1 _ (rl.go e1 t1) (wp0_mono (fun b hb => hb.after e1 t1) hb)
  | false =>
    rw [if_neg Bool.false_ne_true] at hb ⊢
    exact h2 tp He Hq ρ σ H1 _ (rl.go e1 t1) (wp0_mono (fun b hb => hb.after e1 t1) hb)
/-! ### a < b < c -/
def gChain (o1 o2 : C → C → M C) (ga gb gc : Ro → M C) (ρ : Ro) : M C := (ga ρ).bind fun a => (gb ρ).bind fun b => (o1 a.lend b.lend).bind fun r => (oBl r).bind fun k => if k = true then (gc ρ).bind fun c => o2 b c else .ret (.val (.bool false))
theorem re_chain {r r' : R2} {o1 o2 : C → C → M C} {ta tb tc : TE} {ga gb gc : Ro → M C} (ho : OpS K r o1) (ho' : OpS K r' o2) (ha : RE K ta ga) (hb : RE K tb gb) (hc : RE K tc gc) : RE K (tChain r r' ta tb tc) (gChain o1 o2 ga gb gc) := by
  intro tp He Hq ρ σ H Q rl h
  refine ha tp He Hq ρ σ H _ rl (wp0_mono (fun a h1 => ?_) (wp0_bind.mp h))
  intro x H1 g1 t1 rx
  refine hb tp He Hq ρ σ H1 _ (rl.go g1 t1) (wp0_mono (fun b h2 => ?_) (wp0_bind.mp h1))
  intro y H2 g2 t2 ry
  refine ho tp H2 H2 x y a.lend b.lend _ .refl t2 (rx.gr g2 t1).lend ry.lend (wp0_mono (fun c h3 => ?_) (wp0_bind.mp h2))
  intro z H3 g3 t3 rz
  obtain ⟨k, e, h4⟩ := oBl_ok rz (wp0_bind.mp h3)
  refine ⟨k, e, ?_⟩
  cases k with
  | true =>
    rw [if_pos rfl] at h4 ⊢
    refine hc tp He Hq ρ σ H3 _ (((rl.go g1 t1).go g2 t2).go g3 t3) (wp0_mono (fun c h5 => ?_) (wp0_bind.mp h4))
    intro w H4 g4 t4 rw'
    exact ho' tp H H4 y w b c Q (g1.trans (g2.trans (g3.trans g4))) t4 ((ry.base g1 t1).gr (g3.trans g4) t2) (rw'.base (g1.trans (g2.trans g3)) t3) h5
  | false =>
    rw [if_neg Bool.false_ne_true] at h4 ⊢
    exact Post.bl h4 (g1.trans (g2.trans g3)) t3
/-! ### subscripts, slices -/
theorem ixU (K : PySem.W.Frag) {X : Cx} (h : X.K = K := by rfl) : IxR X (rIx K) := h ▸ ix_seq
def atD (ds : List PyData) (i : Int) : M C := match atI ds i with
  | some d => .ret (.val d)
  | none => .fail
def atS (z : Str) (i : Int) : M C := if lenOk z.length = true then (match atI z.cps.toList i with
  | some c => .ret (.val (.str ⟨#[c]⟩))
  | none => .fail) else .fail
def oIx (cx cy : C) : M C := match cy with
  | .val (.int i) => (match cx with
    | .val (.tuple ds) => atD ds i
    | .val (.str z) => atS z i
    | cx => (match cx.items with
      | some ds => atD ds i
      | none => .fail))
  | _ => .fail
theorem dp_at {vs : List V} {ds : List PyData} {i : Int} {d : PyData} (h : VlAll K H vs ds) (f : lfAll ds = true) (e : atI ds i = some d) : ∃ v, atI vs i = some v ∧ Vl K H v d ∧ lf d = true := by
  unfold atI at e ⊢
  rw [h.len]
  cases q : ixN ds.length i with
  | none => rw [q] at e; cases e
  | some j =>
    rw [q] at e
    obtain ⟨v, h1, h2⟩ := h.get (show ds[j]? = some d from e)
    exact ⟨v, h1, h2, lfAll_get f (show ds[j]? = some d from e)⟩
theorem atD_ok {vs : List V} {ds : List PyData} {i : Int} {Q : VK} (g : GrT tp H0 H) (t : TOk tp H) (h : VlAll K H vs ds) (f : lfAll ds = true) (q : wp0 (atD ds i) (Post tp K H0 Q)) : ∃ v, atI vs i = some v ∧ Q v H := by
  unfold atD at q
  split at q
  · rename_i d e
    obtain ⟨v, h1, h2, h3⟩ := dp_at h f e
    exact ⟨v, h1, Post.at_ q g t ⟨h2, h3⟩⟩
  · exact q.elim
theorem os_ix : OpS K (rIx K) oIx := by
  intro tp H0 H x y cx cy Q g t rx ry h
  unfold oIx at h
  split at h
  · rename_i i
    cases ry.int
    split at h
    · rename_i ds
      obtain ⟨a, vs, rfl, q1, q2, q3⟩ := rx.tup
      obtain ⟨v, e, q⟩ := atD_ok g t q2 q3 h
      exact .inr (.inl ⟨a, vs, i, v, rfl, rfl, q1, e, q⟩)
    · rename_i z
      cases rx.str
      unfold atS at h
      split at h
      · rename_i l
        split at h
        · rename_i c e
          exact .inr (.inr ⟨z, i, c, rfl, rfl, lenOk_le l, e, Post.str h g t⟩)
        · exact h.elim
      · exact h.elim
    · split at h
      · rename_i ds e
        obtain ⟨a, vs, rfl, q1, q2, q3⟩ := rx.rd e
        obtain ⟨v, e, q⟩ := atD_ok g t q2 q3 h
        exact .inl ⟨a, vs, i, v, rfl, rfl, .inl q1, e, q⟩
      · exact h.elim
  · exact h.elim
def RO (K : PySem.W.Frag) (t : TO) (g : Ro → M (Option Int)) : Prop := ∀ tp He Hq ρ σ H (Q : Option Int → Hp → Prop), Rel tp K He Hq H σ ρ → wp0 (g ρ) (fun o => ∀ H', GrT tp H H' → TOk tp H' → Q o H') → t σ H Q
def gNo (_ : Ro) : M (Option Int) := .ret none
def oInt? : C → M (Option Int)
  | .val (.int i) => .ret (some i)
  | _ => .fail
def gSome (g : Ro → M C) (ρ : Ro) : M (Option Int) := (g ρ).bind oInt?
theorem ro_no : RO K tNoPart gNo := fun tp He Hq ρ σ H Q rl h => h H .refl rl.tok
theorem ro_some {t : TE} {g : Ro → M C} (h1 : RE K t g) : RO K (tPart t) (gSome g) := by
  intro tp He Hq ρ σ H Q rl h
  refine h1 tp He Hq ρ σ H _ rl (wp0_mono (fun c hc => ?_) (wp0_bind.mp h))
  intro x H1 g1 t1 rx
  unfold oInt? at hc
  split at hc
  · cases rx.int
    exact ⟨_, rfl, hc H1 g1 t1⟩
  · exact hc.elim
def cutD (ds : List PyData) (lo hi : Option Int) : List PyData := (ds.drop (HT.sIx ds.length 0 lo)).take (HT.sIx ds.length ds.length hi - HT.sIx ds.length 0 lo)
theorem dp_cut {vs : List V} {ds : List PyData} (h : VlAll K H vs ds) (lo hi : Option Int) : VlAll K H (cutV vs lo hi) (cutD ds lo hi) := by
  unfold cutV cutD
  rw [h.len]
  exact (h.drop _).take _
theorem lf_cut {ds : List PyData} (f : lfAll ds = true) (lo hi : Option Int) : lfAll (cutD ds lo hi) = true := lfAll_take _ (lfAll_drop _ f)
theorem cut_whole {ds : List PyData} {lo hi : Option Int} (h : HT.sIx ds.length 0 lo = 0 ∧ HT.sIx ds.length ds.length hi = ds.length) : cutD ds lo hi = ds := by
  unfold cutD
  rw [h.1, h.2, List.drop_zero, Nat.sub_zero, List.take_length]
def rSlU (K : PySem.W.Frag) : V → Option Int → Option Int → Hp → VK → Prop := fun x lo hi H Q => rSlL K x lo hi H Q ∨ rSlA K x lo hi H Q ∨ rSlS x lo hi H Q
theorem slU (K : PySem.W.Frag) {X : Cx} (h : X.K = K := by rfl) : SlR X (rSlU K) := h ▸ sl_list.or (sl_tupA.or sl_str)
def oSl (c : C) (lo hi : Option Int) : M C := match c with
  | .val (.tuple ds) => .ret (.val (.tuple (cutD ds lo hi)))
  | .val (.str z) => if lenOk z.length = true then .ret (.val (.str (cutS z lo hi))) else .fail
  | c => (match c.items with
    | some ds => .ret (.own (.lst (cutD ds lo hi)))
    | none => .fail)
def gSl (g : Ro → M C) (l u : Ro → M (Option Int)) (ρ : Ro) : M C := (g ρ).bind fun c => (l ρ).bind fun lo => (u ρ).bind fun hi => oSl c lo hi
theorem re_sl {te : TE} {tl th : TO} {g : Ro → M C} {l u : Ro → M (Option Int)} (h1 : RE K te g) (h2 : RO K tl l) (h3 : RO K th u) : RE K (tSl (rSlU K) te tl th) (gSl g l u) := by
  intro tp He Hq ρ σ H Q rl h
  refine h1 tp He Hq ρ σ H _ rl (wp0_mono (fun c hc => ?_) (wp0_bind.mp h))
  intro x H1 g1 t1 rx
  refine h2 tp He Hq ρ σ H1 _ (rl.go g1 t1) (wp0_mono (fun lo hlo => ?_) (wp0_bind.mp hc))
  intro H2 g2 t2
  refine h3 tp He Hq ρ σ H2 _ ((rl.go g1 t1).go g2 t2) (wp0_mono (fun hi hhi => ?_) (wp0_bind.mp hlo))
  intro H3 g3 t3
  have rx3 := (rx.gr g2 t1).gr g3 t2
  have g := g1.trans (g2.trans g3)
  unfold oSl at hhi
  split at hhi
  · rename_i ds
    obtain ⟨a, vs, rfl, q1, q2, q3⟩ := rx3.tup
    refine .inr (.inl ⟨a, vs, rfl, q1, fun e => ?_, fun _ p hp => Post.tup hhi g t3 hp (dp_cut q2 lo hi) (lf_cut q3 lo hi)⟩)
    rw [q2.len] at e
    rw [cut_whole e] at hhi
    exact Post.at_ hhi g t3 rx3
  · rename_i z
    cases rx3.str
    split at hhi
    · rename_i l
      exact .inr (.inr ⟨z, rfl, lenOk_le l, Post.str hhi g t3⟩)
    · exact hhi.elim
  · split at hhi
    · rename_i ds e
      obtain ⟨a, vs, rfl, q1, q2, q3⟩ := rx3.rd e
      exact .inl ⟨a, vs, rfl, .inl q1, fun p hp => Post.lst hhi g t3 hp (dp_cut q2 lo hi) (lf_cut q3 lo hi)⟩
    · exact hhi.elim
/-- t[a::2] -/
def gSl2 (g : Ro → M C) (l : Ro → M (Option Int)) (ρ : Ro) : M C := (g ρ).bind fun c => (l ρ).bind fun lo => match c with
  | .val (.tuple ds) => .ret (.val (.tuple (ev (ds.drop (HT.sIx ds.length 0 lo)))))
  | _ => .fail
theorem dp_ev : ∀ {vs : List V} {ds : List PyData}, VlAll K H vs ds → VlAll K H (ev vs) (ev ds)
  | [], _, h => by cases h; exact .nil
  | [_], _, h => by
    cases h with
    | cons h1 h2 => cases h2; exact .cons h1 .nil
  | _ :: _ :: vs, _, h => by
    cases h with
    | cons h1 h2 =>
      cases h2 with
      | cons h3 h4 => exact .cons h1 (dp_ev h4)
theorem lf_ev {ds : List PyData} (_ : lfAll ds = true) : lfAll (ev ds) = true := rfl
theorem re_sl2 {te : TE} {tl : TO} {g : Ro → M C} {l : Ro → M (Option Int)} (h1 : RE K te g) (h2 : RO K tl l) : RE K (tSl2 K te tl) (gSl2 g l) := by
  intro tp He Hq ρ σ H Q rl h
  refine h1 tp He Hq ρ σ H _ rl (wp0_mono (fun c hc => ?_) (wp0_bind.mp h))
  intro x H1 g1 t1 rx
  refine h2 tp He Hq ρ σ H1 _ (rl.go g1 t1) (wp0_mono (fun lo hlo => ?_) (wp0_bind.mp hc))
  intro H2 g2 t2
  have rx2 := rx.gr g2 t1
  split at hlo
  · rename_i ds
    obtain ⟨a, vs, rfl, q1, q2, q3⟩ := rx2.tup
    refine ⟨a, vs, rfl, q1, fun p hp => ?_⟩
    rw [q2.len]
    exact Post.tup hlo (g1.trans g2) t2 hp (dp_ev (q2.drop _)) (lf_ev (lfAll_drop _ q3))
  · exact hlo.elim
/-! ### calls of what is built in -/
def CallS (K : PySem.W.Frag) (r : List V → Hp → VK → Prop) (op : List C → M C) : Prop := ∀ tp H0 H vs cs Q, GrT tp H0 H → TOk tp H → RCs tp K H0 H vs cs → wp0 (op cs) (Post tp K H0 Q) → r vs H Q
def gCall (op : List C → M C) (gs : Ro → M (List C)) (ρ : Ro) : M C := (gs ρ).bind op
theorem re_call {r : List V → Hp → VK → Prop} {op : List C → M C} {t : TA} {gs : Ro → M (List C)} (ho : CallS K r op) (h1 : RA K t gs) : RE K (tCB r t) (gCall op gs) := by
  intro tp He Hq ρ σ H Q rl h
  refine h1 tp He Hq ρ σ H _ rl (wp0_mono (fun cs hc => ?_) (wp0_bind.mp h))
  intro vs H1 g1 t1 rx
  exact ho tp H H1 vs cs Q g1 t1 rx hc
theorem RCs.one {vs : List V} {c : C} (h : RCs tp K H0 H vs [c]) : ∃ v, vs = [v] ∧ RC tp K H0 H v c := by
  cases vs with
  | nil => exact h.elim
  | cons v vs =>
    cases vs with
    | nil => exact ⟨v, rfl, h.1⟩
    | cons _ _ => exact h.2.elim
theorem RCs.two {vs : List V} {c d : C} (h : RCs tp K H0 H vs [c, d]) : ∃ v w, vs = [v, w] ∧ RC tp K H0 H v c ∧ RC tp K H0 H w d := by
  cases vs with
  | nil => exact h.elim
  | cons v vs =>
    obtain ⟨w, e, q⟩ := RCs.one h.2
    exact ⟨v, w, by rw [e], h.1, q⟩
/-- a call of one thing that is read as data -/
def o1 (f : PyData → M C) : List C → M C
  | [c] => (match c.dat with
    | some d => f d
    | none => .fail)
  | _ => .fail
theorem o1_ok {f : PyData → M C} {vs : List V} {cs : List C} {P : C → Prop} (r : RCs tp K H0 H vs cs) (h : wp0 (o1 f cs) P) : ∃ v d, vs = [v] ∧ Dp K H v d ∧ wp0 (f d) P := by
  unfold o1 at h
  split at h
  · obtain ⟨v, rfl, q⟩ := r.one
    split at h
    · rename_i d e
      exact ⟨v, d, rfl, q.dp e, h⟩
    · exact h.elim
  · exact h.elim
def lenD : PyData → M C
  | .str x => if lenOk x.length = true then .ret (.val (.int x.length)) else .fail
  | .tuple xs => .ret (.val (.int xs.length))
  | .list xs => .ret (.val (.int xs.length))
  | _ => .fail
abbrev oLen := o1 lenD
theorem cs_len : CallS K (rLen K) oLen := by
  intro tp H0 H vs cs Q g t r h
  obtain ⟨v, d, rfl, q, h⟩ := o1_ok r h
  cases q with
  | str x =>
    unfold lenD at h
    dsimp only at h
    split at h
    · rename_i l
      exact ⟨_, _, rfl, ⟨lenOk_le l, rfl⟩, Post.int h g t⟩
    · exact h.elim
  | tup h1 h2 => exact ⟨_, _, rfl, .inr ⟨_, h1, rfl⟩, by rw [h2.len]; exact Post.int h g t⟩
  | lst h1 h2 => exact ⟨_, _, rfl, .inl ⟨_, h1, rfl⟩, by rw [h2.len]; exact Post.int h g t⟩
  | non => exact h.elim
  | bl _ => exact h.elim
  | int _ => exact h.elim
def absD : PyData → M C
  | .int i => .ret (.val (.int (if i < 0 then -i else i)))
  | _ => .fail
abbrev oAbs := o1 absD
theorem cs_abs : CallS K (fun xs H Q => ∃ i, xs = [.int i] ∧ Q (.int (if i < 0 then -i else i)) H) oAbs := by
  intro tp H0 H vs cs Q g t r h
  obtain ⟨v, d, rfl, q, h⟩ := o1_ok r h
  cases q with
  | int i => exact ⟨i, rfl, Post.int h g t⟩
  | _ => exact h.elim
def intD : PyData → M C
  | .int i => .ret (.val (.int i))
  | .bool b => .ret (.val (.int (if b then 1 else 0)))
  | _ => .fail
abbrev oIntC := o1 intD
theorem cs_int : CallS K (fun xs H Q => (∃ i, xs = [.int i] ∧ Q (.int i) H) ∨ ∃ k, xs = [.bl k] ∧ Q (.int (if k then 1 else 0)) H) oIntC := by
  intro tp H0 H vs cs Q g t r h
  obtain ⟨v, d, rfl, q, h⟩ := o1_ok r h
  cases q with
  | int i => exact .inl ⟨i, rfl, Post.int h g t⟩
  | bl b => exact .inr ⟨b, rfl, Post.int h g t⟩
  | _ => exact h.elim
def strD : PyData → M C
  | .int i => if decide (i.natAbs.log2 < 1920) = true then .ret (.val (.str (toString i))) else .fail
  | _ => .fail
abbrev oStr := o1 strD
theorem cs_str : CallS K (fun xs H Q => ∃ i : Int, xs = [.int i] ∧ i.natAbs.log2 < 1920 ∧ Q (.str (toString i)) H) oStr := by
  intro tp H0 H vs cs Q g t r h
  obtain ⟨v, d, rfl, q, h⟩ := o1_ok r h
  cases q with
  | int i =>
    unfold strD at h
    dsimp only at h
    split at h
    · rename_i l
      exact ⟨i, rfl, of_decide_eq_true l, Post.str h g t⟩
    · exact h.elim
  | _ => exact h.elim
/-- what repr asks of data, as a test -/
def repOk (d : PyData) : Bool := plainD d && (decide (d.depth ≤ 40) && decide (cost d ≤ 16777216))
theorem repOk_of {d : PyData} (h : repOk d = true) : RepOk d := by
  simp only [repOk, Bool.and_eq_true, decide_eq_true_eq] at h
  exact ⟨h.1, h.2.1, by rw [show sizeLine = 16777216 by decide]; exact h.2.2⟩
def repD1 (d : PyData) : M C := if repOk d = true then .ret (.val (.str d.shown)) else .fail
abbrev oRepr := o1 repD1
theorem cs_repr : CallS K (rRepr K) oRepr := by
  intro tp H0 H vs cs Q g t r h
  obtain ⟨v, d, rfl, q, h⟩ := o1_ok r h
  unfold repD1 at h
  split at h
  · rename_i l
    exact repr_go q (repOk_of l) (Post.str h g t)
  · exact h.elim
/-! min and max -/
def oMax2 : List C → M C
  | [.val (.int i), .val (.int j)] => .ret (.val (.int (max i j)))
  | _ => .fail
def oMin2 : List C → M C
  | [.val (.int i), .val (.int j)] => .ret (.val (.int (min i j)))
  | _ => .fail
theorem cs_max2 : CallS K (fun xs H Q => ∃ i j : Int, xs = [.int i, .int j] ∧ Q (.int (if j > i then j else i)) H) oMax2 := by
  intro tp H0 H vs cs Q g t r h
  unfold oMax2 at h
  split at h
  · rename_i i j
    obtain ⟨v, w, rfl, q1, q2⟩ := r.two
    cases q1.int; cases q2.int
    refine ⟨i, j, rfl, ?_⟩
    rw [show (if j > i then j else i) = max i j by split <;> omega]
    exact Post.int h g t
  · exact h.elim
theorem cs_min2 : CallS K (fun xs H Q => ∃ i j : Int, xs = [.int i, .int j] ∧ Q (.int (if j < i then j else i)) H) oMin2 := by
  intro tp H0 H vs cs Q g t r h
  unfold oMin2 at h
  split at h
  · rename_i i j
    obtain ⟨v, w, rfl, q1, q2⟩ := r.two
    cases q1.int; cases q2.int
    refine ⟨i, j, rfl, ?_⟩
    rw [show (if j < i then j else i) = min i j by split <;> omega]
    exact Post.int h g t
  · exact h.elim
def intsOf : List PyData → Option (List Int)
  | [] => some []
  | .int i :: ds => (intsOf ds).map (i :: ·)
  | _ :: _ => none
theorem intsOf_map : ∀ ns : List Int, intsOf (ns.map PyData.int) = some ns
  | [] => rfl
  | n :: ns => by rw [List.map_cons, intsOf, intsOf_map ns]; rfl
theorem intsOf_dp : ∀ {vs : List V} {ds : List PyData} {ns : List Int}, DpAll K H vs ds → intsOf ds = some ns → vs = ns.map V.int
  | _, [], ns, h, e => by cases e; cases h; rfl
  | _, .int i :: ds, ns, h, e => by
    unfold intsOf at e
    cases q : intsOf ds with
    | none => rw [q] at e; cases e
    | some ms =>
      rw [q] at e
      cases e
      cases h with
      | cons h1 h2 =>
        cases h1
        rw [intsOf_dp h2 q]
        rfl
  | _, .none :: _, _, _, e => by cases e
  | _, .bool _ :: _, _, _, e => by cases e
  | _, .str _ :: _, _, _, e => by cases e
  | _, .list _ :: _, _, _, e => by cases e
  | _, .tuple _ :: _, _, _, e => by cases e
  | _, .dict _ :: _, _, _, e => by cases e
def maxL : List Int → Int
  | [] => 0
  | [x] => x
  | x :: y :: r => max x (maxL (y :: r))
def minL : List Int → Int
  | [] => 0
  | [x] => x
  | x :: y :: r => min x (minL (y :: r))
theorem maxL_mem : ∀ {ns : List Int}, 0 < ns.length → maxL ns ∈ ns ∧ ∀ y ∈ ns, y ≤ maxL ns
  | [x], _ => by simp [maxL]
  | x :: y :: r, _ => by
    obtain ⟨h1, h2⟩ := maxL_mem (ns := y :: r) (by simp)
    refine ⟨?_, fun z hz => ?_⟩
    · unfold maxL
      by_cases h : x ≤ maxL (y :: r)
      · rw [show max x (maxL (y :: r)) = maxL (y :: r) by omega]; exact List.mem_cons_of_mem _ h1
      · rw [show max x (maxL (y :: r)) = x by omega]; exact List.mem_cons_self
    · unfold maxL
      rcases List.mem_cons.mp hz with rfl | hz
      · omega
      · have := h2 z hz; omega
theorem minL_mem : ∀ {ns : List Int}, 0 < ns.length → minL ns ∈ ns ∧ ∀ y ∈ ns, minL ns ≤ y
  | [x], _ => by simp [minL]
  | x :: y :: r, _ => by
    obtain ⟨h1, h2⟩ := minL_mem (ns := y :: r) (by simp)
    refine ⟨?_, fun z hz => ?_⟩
    · unfold minL
      by_cases h : x ≤ minL (y :: r)
      · rw [show min x (minL (y :: r)) = x by omega]; exact List.mem_cons_self
      · rw [show min x (minL (y :: r)) = minL (y :: r) by omega]; exact List.mem_cons_of_mem _ h1
    · unfold minL
      rcases List.mem_cons.mp hz with rfl | hz
      · omega
      · have := h2 z hz; omega
def foldD (f : List Int → Int) (ne : Bool) : PyData → M C
  | .tuple ds => (match intsOf ds with
    | some ns => if (ne && ns.isEmpty) = true then .fail else .ret (.val (.int (f ns)))
    | none => .fail)
  | .list ds => (match intsOf ds with
    | some ns => if (ne && ns.isEmpty) = true then .fail else .ret (.val (.int (f ns)))
    | none => .fail)
  | _ => .fail
theorem foldD_ok {f : List Int → Int} {ne : Bool} {v : V} {d : PyData} {P : C → Prop} (q : Dp K H v d) (h : wp0 (foldD f ne d) P) : ∃ a ns, v = .ref a ∧ (SqL K H a (ns.map V.int) ∨ SqT K H a (ns.map V.int)) ∧ (ne = true → 0 < ns.length) ∧ P (.val (.int (f ns))) := by
  have go : ∀ {ns : List Int}, wp0 (if (ne && ns.isEmpty) = true then (.fail : M C) else .ret (.val (.int (f ns)))) P → (ne = true → 0 < ns.length) ∧ P (.val (.int (f ns))) := fun {ns} h => by
    split at h
    · exact h.elim
    · rename_i z
      refine ⟨fun e => ?_, h⟩
      subst e
      cases ns with
      | nil => simp at z
      | cons _ _ => simp
  cases q with
  | tup h1 h2 =>
    unfold foldD at h
    dsimp only at h
    split at h
    · rename_i ns e
      have := intsOf_dp h2 e
      subst this
      obtain ⟨a1, a2⟩ := go h
      exact ⟨_, ns, rfl, .inr h1, a1, a2⟩
    · exact h.elim
  | lst h1 h2 =>
    unfold foldD at h
    dsimp only at h
    split at h
    · rename_i ns e
      have := intsOf_dp h2 e
      subst this
      obtain ⟨a1, a2⟩ := go h
      exact ⟨_, ns, rfl, .inl h1, a1, a2⟩
    · exact h.elim
  | _ => exact h.elim
def rMaxU (K : PySem.W.Frag) : List V → Hp → VK → Prop := fun vs H Q => rMax K vs H Q ∨ rMaxT K vs H Q
def rMinU (K : PySem.W.Frag) : List V → Hp → VK → Prop := fun vs H Q => rMin K vs H Q ∨ rMinT K vs H Q
theorem CallR.or {X : Cx} {f : Value} {r r' : List V → Hp → VK → Prop} (h : CallR X f r) (h' : CallR X f r') : CallR X f (fun vs H Q => r vs H Q ∨ r' vs H Q) := by
  intro pins s σ H vs us Q I rv q
  rcases q with q | q
  · exact h pins s σ H vs us Q I rv q
  · exact h' pins s σ H vs us Q I rv q
theorem maxU (K : PySem.W.Frag) {X : Cx} (hc : X.calm = true) (h : X.K = K := by rfl) : CallR X (.builtin "max") (rMaxU K) := h ▸ CallR.or (cr_max hc) (cr_maxT hc)
theorem minU (K : PySem.W.Frag) {X : Cx} (hc : X.calm = true) (h : X.K = K := by rfl) : CallR X (.builtin "min") (rMinU K) := h ▸ CallR.or (cr_min hc) (cr_minT hc)
abbrev oMaxL := o1 (foldD maxL true)
abbrev oMinL := o1 (foldD minL true)
abbrev oSum := o1 (foldD List.sum false)
theorem cs_maxL : CallS K (rMaxU K) oMaxL := by
  intro tp H0 H vs cs Q g t r h
  obtain ⟨v, d, rfl, q, h⟩ := o1_ok r h
  obtain ⟨a, ns, rfl, hs, hn, p⟩ := foldD_ok q h
  have hn := hn rfl
  have fin : ∀ m, m ∈ ns → (∀ y, y ∈ ns → y ≤ m) → Q (.int m) H := fun m h1 h2 => by
    obtain ⟨b1, b2⟩ := maxL_mem hn
    have : m = maxL ns := Int.le_antisymm (b2 m h1) (h2 _ b1)
    rw [this]
    exact Post.int p g t
  rcases hs with hs | hs
  · exact .inl ⟨a, ns, rfl, hs, hn, fin⟩
  · exact .inr ⟨a, ns, rfl, hs, hn, fin⟩
theorem cs_minL : CallS K (rMinU K) oMinL := by
  intro tp H0 H vs cs Q g t r h
  obtain ⟨v, d, rfl, q, h⟩ := o1_ok r h
  obtain ⟨a, ns, rfl, hs, hn, p⟩ := foldD_ok q h
  have hn := hn rfl
  have fin : ∀ m, m ∈ ns → (∀ y, y ∈ ns → m ≤ y) → Q (.int m) H := fun m h1 h2 => by
    obtain ⟨b1, b2⟩ := minL_mem hn
    have : m = minL ns := Int.le_antisymm (h2 _ b1) (b2 m h1)
    rw [this]
    exact Post.int p g t
  rcases hs with hs | hs
  · exact .inl ⟨a, ns, rfl, hs, hn, fin⟩
  · exact .inr ⟨a, ns, rfl, hs, hn, fin⟩
/-- sum of a list (of a tuple: no rule) -/
def sumD : PyData → M C
  | .list ds => (match intsOf ds with
    | some ns => .ret (.val (.int ns.sum))
    | none => .fail)
  | _ => .fail
abbrev oSumL := o1 sumD
theorem cs_sum : CallS K (rSum K) oSumL := by
  intro tp H0 H vs cs Q g t r h
  obtain ⟨v, d, rfl, q, h⟩ := o1_ok r h
  cases q with
  | lst h1 h2 =>
    unfold sumD at h
    dsimp only at h
    split at h
    · rename_i ns e
      have := intsOf_dp h2 e
      subst this
      exact ⟨_, ns, rfl, h1, Post.int h g t⟩
    · exact h.elim
  | _ => exact h.elim
def blsOf : List PyData → Option (List Bool)
  | [] => some []
  | .bool i :: ds => (blsOf ds).map (i :: ·)
  | _ :: _ => none
theorem blsOf_dp : ∀ {vs : List V} {ds : List PyData} {ns : List Bool}, DpAll K H vs ds → blsOf ds = some ns → vs = ns.map V.bl
  | _, [], ns, h, e => by cases e; cases h; rfl
  | _, .bool i :: ds, ns, h, e => by
    unfold blsOf at e
    cases q : blsOf ds with
    | none => rw [q] at e; cases e
    | some ms =>
      rw [q] at e
      cases e
      cases h with
      | cons h1 h2 =>
        cases h1
        rw [blsOf_dp h2 q]
        rfl
  | _, .none :: _, _, _, e => by cases e
  | _, .int _ :: _, _, _, e => by cases e
  | _, .str _ :: _, _, _, e => by cases e
  | _, .list _ :: _, _, _, e => by cases e
  | _, .tuple _ :: _, _, _, e => by cases e
  | _, .dict _ :: _, _, _, e => by cases e
theorem blsOf_map : ∀ ns : List Bool, blsOf (ns.map PyData.bool) = some ns
  | [] => rfl
  | n :: ns => by rw [List.map_cons, blsOf, blsOf_map ns]; rfl
def bigD (f : List Bool → Bool) : PyData → M C
  | .list ds => (match blsOf ds with
    | some ns => .ret (.val (.bool (f ns)))
    | none => .fail)
  | _ => .fail
abbrev oAny := o1 (bigD fun bs => bs.any id)
abbrev oAll := o1 (bigD fun bs => bs.all id)
theorem cs_any : CallS K (rAny K) oAny := by
  intro tp H0 H vs cs Q g t r h
  obtain ⟨v, d, rfl, q, h⟩ := o1_ok r h
  cases q with
  | lst h1 h2 =>
    unfold bigD at h
    dsimp only at h
    split at h
    · rename_i ns e
      have := blsOf_dp h2 e
      subst this
      exact ⟨_, ns, rfl, h1, Post.bl h g t⟩
    · exact h.elim
  | _ => exact h.elim
theorem cs_all : CallS K (rAll K) oAll := by
  intro tp H0 H vs cs Q g t r h
  obtain ⟨v, d, rfl, q, h⟩ := o1_ok r h
  cases q with
  | lst h1 h2 =>
    unfold bigD at h
    dsimp only at h
    split at h
    · rename_i ns e
      have := blsOf_dp h2 e
      subst this
      exact ⟨_, ns, rfl, h1, Post.bl h g t⟩
    · exact h.elim
  | _ => exact h.elim
theorem anyK (K : PySem.W.Frag) {X : Cx} (hc : X.calm = true) (h : X.K = K := by rfl) : CallR X (.builtin "any") (rAny K) := h ▸ cr_any hc
theorem allK (K : PySem.W.Frag) {X : Cx} (hc : X.calm = true) (h : X.K = K := by rfl) : CallR X (.builtin "all") (rAll K) := h ▸ cr_all hc
/-! list(x), tuple(x) -/
def oListC : List C → M C
  | [.val (.tuple ds)] => .ret (.own (.lst ds))
  | [c] => (match c.items with
    | some ds => .ret (.own (.lst ds))
    | none => .fail)
  | _ => .fail
def oTupC : List C → M C
  | [.val (.tuple ds)] => .ret (.val (.tuple ds))
  | [c] => (match c.items with
    | some ds => .ret (.val (.tuple ds))
    | none => .fail)
  | _ => .fail
theorem cs_list : CallS K (rListOf K) oListC := by
  intro tp H0 H vs cs Q g t r h
  unfold oListC at h
  split at h
  · obtain ⟨v, rfl, q⟩ := r.one
    obtain ⟨a, us, rfl, q1, q2, q3⟩ := q.tup
    exact ⟨a, us, rfl, .inr q1, fun p hp => Post.lst h g t hp q2 q3⟩
  · obtain ⟨v, rfl, q⟩ := r.one
    split at h
    · rename_i ds e
      obtain ⟨a, us, rfl, q1, q2, q3⟩ := q.rd e
      exact ⟨a, us, rfl, .inl (.inl q1), fun p hp => Post.lst h g t hp q2 q3⟩
    · exact h.elim
  · exact h.elim
theorem cs_tuple : CallS K (rTupOf K) oTupC := by
  intro tp H0 H vs cs Q g t r h
  unfold oTupC at h
  split at h
  · obtain ⟨v, rfl, q⟩ := r.one
    obtain ⟨a, us, rfl, q1, q2, q3⟩ := q.tup
    exact ⟨a, us, rfl, .inr ⟨q1, Post.at_ h g t q⟩⟩
  · obtain ⟨v, rfl, q⟩ := r.one
    split at h
    · rename_i ds e
      obtain ⟨a, us, rfl, q1, q2, q3⟩ := q.rd e
      exact ⟨a, us, rfl, .inl ⟨.inl q1, fun p hp => Post.tup h g t hp q2 q3⟩⟩
    · exact h.elim
  · exact h.elim
/-! math.gcd -/
def oGcd : List C → M C
  | [.val (.int i), .val (.int j)] => .ret (.val (.int ((Nat.gcd i.natAbs j.natAbs : Nat) : Int)))
  | _ => .fail
theorem cs_gcd : CallS K rGcd oGcd := by
  intro tp H0 H vs cs Q g t r h
  unfold oGcd at h
  split at h
  · rename_i i j
    obtain ⟨v, w, rfl, q1, q2⟩ := r.two
    cases q1.int; cases q2.int
    exact ⟨i, j, rfl, Post.int h g t⟩
  · exact h.elim
/-! isinstance(x, T), x flat -/
def isiD (T : String) : PyData → M C
  | .none => (match kitB "NoneType" T with | some b => .ret (.val (.bool b)) | none => .fail)
  | .bool _ => (match kitB "bool" T with | some b => .ret (.val (.bool b)) | none => .fail)
  | .int _ => (match kitB "int" T with | some b => .ret (.val (.bool b)) | none => .fail)
  | .str _ => (match kitB "str" T with | some b => .ret (.val (.bool b)) | none => .fail)
  | _ => .fail
end
end Cs

set_option maxRecDepth 100000
set_option maxHeartbeats 4000000
/-! statements, loops, comprehensions, defs -/
namespace Cs
open PySem PySem.Spec PyProof.Rows L2
inductive Res where
  | nx (ρ : Ro)
  | rt (c : C)
  | bk (ρ : Ro)
  | ct (ρ : Ro)
section
variable {tp : Option (Addr × Addr)} {K : PySem.W.Frag} {H H' H'' H0 H1 He : Hp} {Hq : Hp} {σ : L2.St} {ρ : Ro}
def NxOk (tp : Option (Addr × Addr)) (K : PySem.W.Frag) (He Hq : Hp) (F : L2.St → Hp → Prop) (ρ : Ro) : Prop := ∀ σ' H' Hq', GrT tp Hq Hq' → Rel tp K He Hq' H' σ' ρ → F σ' H'
def PostS (tp : Option (Addr × Addr)) (K : PySem.W.Frag) (He Hq : Hp) (D : Ends) : Res → Prop
  | .nx ρ => NxOk tp K He Hq D.nx ρ
  | .bk ρ => NxOk tp K He Hq D.bk ρ
  | .ct ρ => NxOk tp K He Hq D.ct ρ
  | .rt c => ∀ v H', GrT tp He H' → TOk tp H' → RC tp K He H' v c → D.rt v H'
def RS (K : PySem.W.Frag) (t : TS) (m : Ro → M Res) : Prop := ∀ tp He Hq ρ σ H D, Rel tp K He Hq H σ ρ → wp0 (m ρ) (PostS tp K He Hq D) → t D σ H
theorem NxOk.mono {F : L2.St → Hp → Prop} {Hq2 : Hp} (h : NxOk tp K He Hq F ρ) (g : GrT tp Hq Hq2) : NxOk tp K He Hq2 F ρ := fun σ' H' Hq' g' r => h σ' H' Hq' (g.trans g') r
theorem PostS.mono {D : Ends} {Hq2 : Hp} {r : Res} (h : PostS tp K He Hq D r) (g : GrT tp Hq Hq2) : PostS tp K He Hq2 D r := by
  cases r with
  | nx ρ => exact NxOk.mono h g
  | bk ρ => exact NxOk.mono h g
  | ct ρ => exact NxOk.mono h g
  | rt c => exact h
/-! ### blocks -/
def mNext (ρ : Ro) : M Res := .ret (.nx ρ)
def mSeq (m n : Ro → M Res) (ρ : Ro) : M Res := (m ρ).bind fun r => match r with
  | .nx ρ' => n ρ'
  | r => .ret r
def mBreak (ρ : Ro) : M Res := .ret (.bk ρ)
def mCont (ρ : Ro) : M Res := .ret (.ct ρ)
theorem rs_next : RS K tNext mNext := fun tp He Hq ρ σ H D r h => h σ H Hq .refl r
theorem rs_break : RS K tBreak mBreak := fun tp He Hq ρ σ H D r h => h σ H Hq .refl r
theorem rs_cont : RS K tCont mCont := fun tp He Hq ρ σ H D r h => h σ H Hq .refl r
theorem rs_seq {t u : TS} {m n : Ro → M Res} (h1 : RS K t m) (h2 : RS K u n) : RS K (tSeq t u) (mSeq m n) := by
  intro tp He Hq ρ σ H D r h
  refine h1 tp He Hq ρ σ H _ r (wp0_mono (fun q hq => ?_) (wp0_bind.mp h))
  cases q with
  | nx ρ' => exact fun σ' H' Hq' g' r' => h2 tp He Hq' ρ' σ' H' D r' (wp0_mono (fun q hq => hq.mono g') hq)
  | bk ρ' => exact hq
  | ct ρ' => exact hq
  | rt c => exact hq
def mDrop (g : Ro → M C) (ρ : Ro) : M Res := (g ρ).bind fun _ => .ret (.nx ρ)
theorem rs_drop {te : TE} {g : Ro → M C} (h1 : RE K te g) : RS K (tDrop te) (mDrop g) := by
  intro tp He Hq ρ σ H D r h
  refine h1 tp He Hq ρ σ H _ r (wp0_mono (fun c hc => ?_) (wp0_bind.mp h))
  intro x H1 g1 t1 rx
  exact hc σ H1 Hq .refl (r.go g1 t1)
def mRet (g : Ro → M C) (ρ : Ro) : M Res := (g ρ).bind fun c => .ret (.rt c)
theorem rs_ret {te : TE} {g : Ro → M C} (h1 : RE K te g) : RS K (tRet te) (mRet g) := by
  intro tp He Hq ρ σ H D r h
  refine h1 tp He Hq ρ σ H _ r (wp0_mono (fun c hc => ?_) (wp0_bind.mp h))
  intro x H1 g1 t1 rx
  exact hc x H1 ((r.sub.trans r.gr).trans g1) t1 (rx.base (r.sub.trans r.gr) r.tok)
/-- return of a name: what is the def's own is handed over -/
def mRetV (i : Nat) (ρ : Ro) : M Res := match ρ[i]? with
  | some (some c) => .ret (.rt c)
  | _ => .fail
theorem rs_retV {i : Nat} : RS K (tRet (tVar i)) (mRetV i) := by
  intro tp He Hq ρ σ H D r h
  unfold mRetV at h
  split at h
  · rename_i c e
    obtain ⟨v, h1, h2⟩ := r.at_ i c e
    refine ⟨v, h1, h v H (r.sub.trans r.gr) r.tok ?_⟩
    cases c with
    | val d => exact h2
    | own o =>
      obtain ⟨a, e, f, n, h⟩ := h2
      refine ⟨a, e, ?_, n, h⟩
      cases q : He a with
      | none => rfl
      | some o =>
        rw [r.sub a o q n.ne] at f
        cases f
    | bor o =>
      obtain ⟨a, e, h⟩ := h2
      exact ⟨a, e, r.bor h⟩
    | tape => exact h2
  · exact h.elim
def mRetN (_ : Ro) : M Res := .ret (.rt (.val .none))
theorem rs_retN : RS K tRetN mRetN := fun tp He Hq ρ σ H D r h => h .non H (r.sub.trans r.gr) r.tok ⟨.non, rfl⟩
def mIf (gc : Ro → M Bool) (m n : Ro → M Res) (ρ : Ro) : M Res := (gc ρ).bind fun b => if b = true then m ρ else n ρ
theorem rs_if {c : TT} {t u : TS} {gc : Ro → M Bool} {m n : Ro → M Res} (hc : RT K c gc) (h1 : RS K t m) (h2 : RS K u n) : RS K (tIfS c t u) (mIf gc m n) := by
  intro tp He Hq ρ σ H D r h
  refine hc tp He Hq ρ σ H _ r (wp0_mono (fun b hb => ?_) (wp0_bind.mp h))
  intro H1 g1 t1
  cases b with
  | true =>
    rw [if_pos rfl] at hb ⊢
    exact h1 tp He Hq ρ σ H1 D (r.go g1 t1) hb
  | false =>
    rw [if_neg Bool.false_ne_true] at hb ⊢
    exact h2 tp He Hq ρ σ H1 D (r.go g1 t1) hb
/-! ### targets -/
def asgR (i : Nat) (c : C) (ρ : Ro) : M Ro := match ρ[i]? with
  | some _ => (match c with
    | .val d => .ret (ρ.set i (some (.val d)))
    | .own o => .ret (ρ.set i (some (.own o)))
    | _ => .fail)
  | none => .fail
theorem Rel.put {v : V} {c : C} {i : Nat} (r : Rel tp K He Hq H σ ρ) (s : SR tp K Hq H v c) (d : ∀ (a : Addr) (o : PO), c = .own o → v = .ref a → ∀ (j : Nat) (o' : PO), ρ[j]? = some (some (.own o')) → σ[j]? ≠ some (some (.ref a))) :
    Rel tp K He Hq H (σ.set i (some v)) (ρ.set i (some c)) := by
  refine ⟨by rw [List.length_set, List.length_set, r.len], fun j c' e => ?_, fun j k a o o' e1 e2 e3 e4 => ?_, r.sub, r.gr, r.tok, r.he⟩
  · by_cases hij : i = j
    · subst hij
      have hl : i < ρ.length := by
        have := (List.getElem?_eq_some_iff.mp e).1
        rwa [List.length_set] at this
      rw [List.getElem?_set_self hl] at e
      cases e
      exact ⟨v, List.getElem?_set_self (by rw [r.len]; exact hl), s⟩
    · rw [List.getElem?_set_ne hij] at e
      obtain ⟨u, h1, h2⟩ := r.at_ j c' e
      exact ⟨u, by rw [List.getElem?_set_ne hij]; exact h1, h2⟩
  · by_cases hij : i = j
    · subst hij
      by_cases hik : i = k
      · exact hik
      · have hl : i < ρ.length := by
          have := (List.getElem?_eq_some_iff.mp e1).1
          rwa [List.length_set] at this
        rw [List.getElem?_set_self hl] at e1
        rw [List.getElem?_set_self (by rw [r.len]; exact hl)] at e3
        rw [List.getElem?_set_ne hik] at e2 e4
        have e1' : c = .own o := by simpa using e1
        have e3' : v = .ref a := by simpa using e3
        exact absurd e4 (d a o e1' e3' k o' e2)
    · rw [List.getElem?_set_ne hij] at e1 e3
      by_cases hik : i = k
      · subst hik
        have hl : i < ρ.length := by
          have := (List.getElem?_eq_some_iff.mp e2).1
          rwa [List.length_set] at this
        rw [List.getElem?_set_self hl] at e2
        rw [List.getElem?_set_self (by rw [r.len]; exact hl)] at e4
        have e2' : c = .own o' := by simpa using e2
        have e4' : v = .ref a := by simpa using e4
        exact absurd e3 (d a o' e2' e4' j o e1)
      · rw [List.getElem?_set_ne hik] at e2 e4
        exact r.dist j k a o o' e1 e2 e3 e4
/-- only the slots sl are stored to -/
def Off (sl : List Nat) (σ σ' : L2.St) : Prop := σ'.length = σ.length ∧ ∀ j : Nat, j ∉ sl → σ'[j]? = σ[j]?
theorem Off.refl {sl : List Nat} {σ : L2.St} : Off sl σ σ := ⟨rfl, fun _ _ => rfl⟩
theorem Off.trans {s1 s2 : List Nat} {σ σ1 σ2 : L2.St} (h : Off s1 σ σ1) (q : Off s2 σ1 σ2) : Off (s1 ++ s2) σ σ2 :=
  ⟨q.1.trans h.1, fun j hj => by
    simp only [List.mem_append, not_or] at hj
    rw [q.2 j hj.2, h.2 j hj.1]⟩
def RG (K : PySem.W.Frag) (g : TG) (a : C → Ro → M Ro) (sl : List Nat) : Prop := ∀ tp He Hq ρ σ Hb H v c (Q : L2.St → Hp → Prop), Rel tp K He Hq Hb σ ρ → GrT tp Hb H → TOk tp H → RC tp K Hb H v c → wp0 (a c ρ) (fun ρ' => ∀ σ', Off sl σ σ' → Rel tp K He Hq H σ' ρ' → Q σ' H) → g v σ H Q
theorem RC.sr {Hb : Hp} {v : V} {c : C} (r : Rel tp K He Hq Hb σ ρ) (h : RC tp K Hb H v c) (n : ∀ o, c ≠ .bor o) : SR tp K Hq H v c := by
  cases c with
  | val d => exact h
  | own o =>
    obtain ⟨a, e, f, k, h⟩ := h
    exact ⟨a, e, r.gr.free r.tok f, k, h⟩
  | bor o => exact absurd rfl (n o)
  | tape => exact h
theorem rg_name {i : Nat} : RG K (gName i) (asgR i) [i] := by
  have off : ∀ {σ : L2.St} {v : V}, Off [i] σ (σ.set i (some v)) := fun {σ v} => ⟨List.length_set, fun j hj => List.getElem?_set_ne (fun z => hj (by simp [z]))⟩
  intro tp He Hq ρ σ Hb H v c Q r g t rc h
  unfold asgR at h
  split at h
  · split at h
    · rename_i d
      exact h _ off ((r.go g t).put (rc.sr r (fun _ z => by cases z)) (fun _ _ z => by cases z))
    · rename_i o
      refine h _ off ((r.go g t).put (rc.sr r (fun _ z => by cases z)) (fun a o2 z e j o' hj hs => ?_))
      obtain ⟨a', e', f, n, q⟩ := rc
      obtain ⟨u, hu, hr⟩ := r.at_ j _ hj
      obtain ⟨b, eb, _, _, qb⟩ := hr
      rw [hs] at hu
      cases hu
      cases eb
      rw [e] at e'
      cases e'
      cases o' with
      | lst ds =>
        obtain ⟨vs, h1, _⟩ := qb
        rw [f] at h1
        cases h1
      | dT ds =>
        obtain ⟨vs, h1, _⟩ := qb
        rw [f] at h1
        cases h1
      | dK ds =>
        obtain ⟨vs, h1, _⟩ := qb
        rw [f] at h1
        cases h1
      | lT ds =>
        exact qb.elim
    · exact h.elim
  · exact h.elim
def RGs (K : PySem.W.Frag) (g : TGs) (a : List PyData → Ro → M Ro) (sl : List Nat) : Prop := ∀ tp He Hq ρ σ H vs ds (Q : L2.St → Hp → Prop), Rel tp K He Hq H σ ρ → VlAll K H vs ds → lfAll ds = true → wp0 (a ds ρ) (fun ρ' => ∀ σ', Off sl σ σ' → Rel tp K He Hq H σ' ρ' → Q σ' H) → g vs σ H Q
def aNil : List PyData → Ro → M Ro
  | [], ρ => .ret ρ
  | _, _ => .fail
def aCons (a : C → Ro → M Ro) (as : List PyData → Ro → M Ro) : List PyData → Ro → M Ro
  | d :: ds, ρ => (a (.val d) ρ).bind fun ρ' => as ds ρ'
  | [], _ => .fail
def aTup (n : Nat) (as : List PyData → Ro → M Ro) : C → Ro → M Ro
  | .val (.tuple ds), ρ => if ds.length = n then as ds ρ else .fail
  | _, _ => .fail
theorem rgs_nil : RGs K gNil aNil [] := by
  intro tp He Hq ρ σ H vs ds Q r hd f h
  unfold aNil at h
  split at h
  · cases hd
    exact ⟨rfl, h σ .refl r⟩
  · exact h.elim
theorem rgs_cons {g : TG} {gs : TGs} {a : C → Ro → M Ro} {as : List PyData → Ro → M Ro} {s1 s2 : List Nat} (h1 : RG K g a s1) (h2 : RGs K gs as s2) : RGs K (gCons g gs) (aCons a as) (s1 ++ s2) := by
  intro tp He Hq ρ σ H vs ds Q r hd f h
  unfold aCons at h
  split at h
  · rename_i d ds
    simp only [lfAll, Bool.and_eq_true] at f
    cases hd with
    | cons q1 q2 =>
      refine ⟨_, _, rfl, h1 tp He Hq ρ σ H H _ (.val d) _ r .refl r.tok ⟨q1, rfl⟩ (wp0_mono (fun ρ' hρ => ?_) (wp0_bind.mp h))⟩
      intro σ' o' r'
      exact h2 tp He Hq ρ' σ' H _ ds Q r' q2 rfl (wp0_mono (fun ρ2 h2 σ2 o2 r2 => h2 σ2 (o'.trans o2) r2) hρ)
  · exact h.elim
theorem rg_tup {n : Nat} {gs : TGs} {as : List PyData → Ro → M Ro} {sl : List Nat} (h2 : RGs K gs as sl) : RG K (gTup K n gs) (aTup n as) sl := by
  intro tp He Hq ρ σ Hb H v c Q r g t rc h
  unfold aTup at h
  split at h
  · rename_i ds
    obtain ⟨a, vs, rfl, q1, q2, q3⟩ := rc.tup
    split at h
    · rename_i e
      exact ⟨a, vs, rfl, q1, by rw [q2.len]; exact e, h2 tp He Hq ρ σ H vs ds Q (r.go g t) q2 q3 h⟩
    · exact h.elim
  · exact h.elim
def mAsg (g : Ro → M C) (a : C → Ro → M Ro) (ρ : Ro) : M Res := (g ρ).bind fun c => (a c ρ).bind fun ρ' => .ret (.nx ρ')
theorem rs_asg {te : TE} {g : TG} {ge : Ro → M C} {a : C → Ro → M Ro} {sl : List Nat} (h1 : RE K te ge) (h2 : RG K g a sl) : RS K (tAsg te g) (mAsg ge a) := by
  intro tp He Hq ρ σ H D r h
  refine h1 tp He Hq ρ σ H _ r (wp0_mono (fun c hc => ?_) (wp0_bind.mp h))
  intro x H1 g1 t1 rx
  exact h2 tp He Hq ρ σ H H1 x c _ r g1 t1 rx (wp0_mono (fun ρ' hρ σ' _ r' => hρ σ' H1 Hq .refl r') (wp0_bind.mp hc))
/-- a, b = x, y -/
def mPar (i j : Nat) (gs : Ro → M (List C)) (ρ : Ro) : M Res := (gs ρ).bind fun cs => match cs with
  | [c, d] => (asgR i c ρ).bind fun ρ1 => (match d with
    | .own _ => (.fail : M Res)
    | d => (asgR j d ρ1).bind fun ρ2 => .ret (.nx ρ2))
  | _ => .fail
theorem rs_par {i j : Nat} {ta : TA} {gs : Ro → M (List C)} (h1 : RA K ta gs) : RS K (tPar2 i j ta) (mPar i j gs) := by
  intro tp He Hq ρ σ H D r h
  refine h1 tp He Hq ρ σ H _ r (wp0_mono (fun cs hc => ?_) (wp0_bind.mp h))
  intro vs H1 g1 t1 rx
  split at hc
  · rename_i c d
    obtain ⟨v, w, rfl, q1, q2⟩ := rx.two
    refine ⟨v, w, rfl, rg_name tp He Hq ρ σ H H1 v c _ r g1 t1 q1 (wp0_mono (fun ρ1 h2 σ1 _ r1 => ?_) (wp0_bind.mp hc))⟩
    split at h2
    · exact h2.elim
    · rename_i n
      have q3 : RC tp K H1 H1 w d := by
        cases d with
        | own o => exact absurd rfl (n o)
        | val d => exact q2
        | bor d => exact q2
        | tape => exact q2
      exact rg_name tp He Hq ρ1 σ1 H1 H1 w d _ r1 .refl t1 q3 (wp0_mono (fun ρ2 h3 σ2 _ r2 => h3 σ2 H1 Hq .refl r2) (wp0_bind.mp h2))
  · exact hc.elim
/-! ### a list of one's own is changed -/
def setOwn (i : Nat) (ds : List PyData) (ρ : Ro) : Ro := ρ.set i (some (.own (.lst ds)))
theorem Rel.own {i : Nat} {ds ds' : List PyData} {vs' : List V} (r : Rel tp K He Hq H σ ρ) (e : ρ[i]? = some (some (.own (.lst ds)))) : ∃ a vs, σ[i]? = some (some (.ref a)) ∧ H a = some (.lst vs) ∧ VlAll K H vs ds ∧ lfAll ds = true ∧
    (∀ vs' ds', VlAll K H vs' ds' → lfAll ds' = true → Rel tp K He Hq (upd H a (.lst vs')) σ (setOwn i ds' ρ)) := by
  obtain ⟨v, h1, a, e2, f, n, vs, h2, h3, h4⟩ := r.at_ i _ e
  subst e2
  refine ⟨a, vs, h1, h2, h3, h4, fun vs' ds' hd hf => ?_⟩
  have im : Im H (upd H a (.lst vs')) := Im.set h2
  have hl : i < ρ.length := (List.getElem?_eq_some_iff.mp e).1
  refine ⟨by unfold setOwn; rw [List.length_set, r.len], fun j c ej => ?_, fun j k b o o' e1 e2 e3 e4 => ?_, r.sub, fun b o eb nb => ?_, fun t l et => ?_, r.he⟩
  · unfold setOwn at ej
    by_cases hij : i = j
    · subst hij
      rw [List.getElem?_set_self hl] at ej
      cases ej
      exact ⟨_, h1, a, rfl, f, n, vs', upd_same, hd.imlf im ds' _ hf, hf⟩
    · rw [List.getElem?_set_ne hij] at ej
      obtain ⟨u, q1, q2⟩ := r.at_ j c ej
      refine ⟨u, q1, ?_⟩
      cases c with
      | val d => exact ⟨q2.1.imlf im d _ q2.2, q2.2⟩
      | own o =>
        obtain ⟨b, eb, fb, nb, q⟩ := q2
        have hne : b ≠ a := fun z => by
          subst z
          subst eb
          exact hij (r.dist i j b _ _ e ej h1 q1)
        refine ⟨b, eb, fb, nb, ?_⟩
        cases o with
        | lst es =>
          obtain ⟨us, p1, p2, p3⟩ := q
          exact ⟨us, by rw [upd_ne hne]; exact p1, p2.imlf im es _ p3, p3⟩
        | dT es =>
          obtain ⟨us, p1, p2, p3⟩ := q
          exact ⟨us, by rw [upd_ne hne]; exact p1, p2.imlf im es _ p3, p3⟩
        | dK es =>
          obtain ⟨us, p1, p2, p3⟩ := q
          exact ⟨us, by rw [upd_ne hne]; exact p1, p2.imlf im es _ p3, p3⟩
        | lT es =>
          exact q.elim
      | bor o => exact q2
      | tape => exact q2
  · have own_of : ∀ {m : Nat} {o : PO}, (setOwn i ds' ρ)[m]? = some (some (.own o)) → ∃ o, ρ[m]? = some (some (.own o)) := fun {m o} em => by
      unfold setOwn at em
      by_cases him : i = m
      · subst him; exact ⟨_, e⟩
      · rw [List.getElem?_set_ne him] at em; exact ⟨_, em⟩
    obtain ⟨o1, e1'⟩ := own_of e1
    obtain ⟨o2, e2'⟩ := own_of e2
    exact r.dist j k b o1 o2 e1' e2' e3 e4
  · have hne : b ≠ a := fun z => by subst z; rw [f] at eb; cases eb
    rw [upd_ne hne]
    exact r.gr b o eb nb
  · exact (r.tok t l et).upd (n t l et).1 (n t l et).2
end
end Cs

set_option maxRecDepth 100000
set_option maxHeartbeats 4000000
/-! what is walked; for, while, comprehensions -/
namespace Cs
open PySem PySem.Spec PyProof.Rows L2
/-- a list, a tuple or a text, walked -/
def iSeq (K : PySem.W.Frag) (tl : TE) : TI := fun σ H R => tl σ H fun x H1 => (∃ a, x = .ref a ∧ (∃ xs, SqL K H1 a xs) ∧ R (Itl K a) H1) ∨ (∃ a, x = .ref a ∧ (∃ xs, SqT K H1 a xs) ∧ R (Itt K a) H1) ∨ (∃ z, x = .str z ∧ R (Its z) H1)
theorem pi_seq (K : PySem.W.Frag) {X : Cx} {tg l : Expr} {tl : TE} (hl : PE X l tl) (h : X.K = K := by rfl) : PI X tg l (iSeq K tl) := by
  subst h
  refine ⟨fun pins s σ H R I h => ?_⟩
  refine thn (hl.run pins s σ H _ I h) fun v s1 ⟨x, H1, I1, r1, q1⟩ => ?_
  rcases q1 with ⟨a, e, ⟨xs, hq⟩, q⟩ | ⟨a, e, ⟨xs, hq⟩, q⟩ | ⟨z, e, q⟩
  · subst e
    cases r1
    obtain ⟨its, rv, p, hz⟩ := I1.list hq
    refine wpAny_pyIter_list p.isList ?_
    refine ⟨s1.heap.objs.size, [s1.heap.objs.size], _, _, H1, rfl, I1.kept (t' := s1.toks) fun b o e => Heap.get?_push_of_some _ e, turn_list a _, ⟨_, Heap.get?_push_size _ rfl, rfl, rfl⟩, fun b hb => ?_, q⟩
    have e : b = s1.heap.objs.size := by simpa using hb
    subst e
    exact I1.fpOk (Nat.le_refl _) (I1.hok.fresh (Nat.le_refl _))
  · subst e
    cases r1
    obtain ⟨its, rv, p, hz⟩ := I1.tuple hq
    refine wpAny_pyIter_tuple (show s1.heap.IsTuple a its.toArray from p) ?_
    refine ⟨s1.heap.objs.size, [s1.heap.objs.size], _, _, H1, rfl, I1.kept (t' := s1.toks) fun b o e => Heap.get?_push_of_some _ e, turn_tuple a _, ⟨_, Heap.get?_push_size _ rfl, rfl, rfl⟩, fun b hb => ?_, q⟩
    have e : b = s1.heap.objs.size := by simpa using hb
    subst e
    exact I1.fpOk (Nat.le_refl _) (I1.hok.fresh (Nat.le_refl _))
  · subst e
    obtain ⟨t, rfl⟩ := r1
    cases ha : z.cps.all (· < 128)
    · exact wpAny_pyIter_wide ha (pi_one (tk := s1.toks) I1 _ (turn_str _ z t "str_iterator" (.inr rfl)) ⟨_, Heap.get?_push_size _ rfl, rfl, rfl⟩ q)
    · exact wpAny_pyIter_ascii ha (pi_one (tk := s1.toks) I1 _ (turn_str _ z t "str_ascii_iterator" (.inl rfl)) ⟨_, Heap.get?_push_size _ rfl, rfl, rfl⟩ q)
section
variable {tp : Option (Addr × Addr)} {K : PySem.W.Frag} {H H' H'' H0 H1 He : Hp} {Hq : Hp} {σ : L2.St} {ρ : Ro}
/-- the walk J yields the data ds, while tuples stay and what stands at pa stays -/
def Wk (K : PySem.W.Frag) (H1 : Hp) (J : It) (pa : List Addr) (ds : List PyData) : Prop := ∀ H', Im H1 H' → (∀ p ∈ pa, ∀ o, H1 p = some o → H' p = some o) →
  J.stop ds.length H' ∧ ∀ (i : Nat) (d : PyData), ds[i]? = some d → J.go i H' ∧ ∀ x H'', J.yld i H' x H'' → Same H' H'' ∧ Vl K H'' x d
theorem wk_list {a : Addr} {vs : List V} {ds : List PyData} (h : Rd H1 a (.lst vs)) (hd : VlAll K H1 vs ds) (f : lfAll ds = true) : Wk K H1 (Itl K a) [a] ds := by
  intro H' im kp
  have hs : SqL K H' a vs := by
    rcases h with h | ⟨o, h⟩
    · exact .inl (.inl (kp a (by simp) _ h))
    · exact .inl (.inr ⟨o, im.frz _ _ _ h⟩)
  have hd' := hd.imlf im ds _ f
  refine ⟨⟨vs, hs, by rw [hd.len]; exact Nat.le_refl _⟩, fun i d e => ?_⟩
  obtain ⟨v, h1, h2⟩ := hd'.get e
  refine ⟨⟨vs, v, hs, h1⟩, fun x H'' y => ?_⟩
  obtain ⟨e1, y⟩ := y
  subst e1
  have := y vs hs
  rw [h1] at this
  cases this
  exact ⟨fun _ _ e => e, h2⟩
theorem wk_frz {a : Addr} {vs : List V} {ds : List PyData} (h : SqF K H1 a vs) (hd : VlAll K H1 vs ds) : Wk K H1 (Itl K a) [] ds := by
  intro H' im _
  have hs : SqL K H' a vs := (h.im im).sq
  have hd' := hd.imlf im ds _ rfl
  refine ⟨⟨vs, hs, by rw [hd.len]; exact Nat.le_refl _⟩, fun i d e => ?_⟩
  obtain ⟨v, h1, h2⟩ := hd'.get e
  refine ⟨⟨vs, v, hs, h1⟩, fun x H'' y => ?_⟩
  obtain ⟨e1, y⟩ := y
  subst e1
  have := y vs hs
  rw [h1] at this
  cases this
  exact ⟨fun _ _ e => e, h2⟩
theorem RC.frz {v : V} {ds : List PyData} (h : RC tp K H0 H v (.val (.list ds))) : ∃ a vs, v = .ref a ∧ SqF K H a vs ∧ VlAll K H vs ds := by
  obtain ⟨h, _⟩ := h
  cases h with
  | lst h1 h2 => exact ⟨_, _, rfl, h1, h2⟩
theorem wk_tup {a : Addr} {vs : List V} {ds : List PyData} (h : SqT K H1 a vs) (hd : VlAll K H1 vs ds) (f : lfAll ds = true) : Wk K H1 (Itt K a) [] ds := by
  intro H' im kp
  have hs : SqT K H' a vs := im.sqT h
  have hd' := hd.imlf im ds _ f
  refine ⟨⟨vs, hs, by rw [hd.len]; exact Nat.le_refl _⟩, fun i d e => ?_⟩
  obtain ⟨v, h1, h2⟩ := hd'.get e
  refine ⟨⟨vs, v, hs, h1⟩, fun x H'' y => ?_⟩
  obtain ⟨e1, y⟩ := y
  subst e1
  have := y vs hs
  rw [h1] at this
  cases this
  exact ⟨fun _ _ e => e, h2⟩
def signsD (z : Str) : List PyData := z.cps.toList.map fun c => .str ⟨#[c]⟩
theorem lf_signs (z : Str) : lfAll (signsD z) = true := lfAll_iff.mpr fun d m => by
  obtain ⟨c, _, rfl⟩ := List.mem_map.mp m
  rfl
theorem wk_str {z : Str} : Wk K H1 (Its z) [] (signsD z) := by
  intro H' im kp
  refine ⟨show z.cps.size ≤ (signsD z).length by simp [signsD], fun i d e => ?_⟩
  unfold signsD at e
  rw [List.getElem?_map] at e
  cases q : z.cps.toList[i]? with
  | none => rw [q] at e; cases e
  | some c =>
    rw [q] at e
    cases e
    have hi := (List.getElem?_eq_some_iff.mp q).1
    refine ⟨show i < z.cps.size by simpa using hi, fun x H'' y => ?_⟩
    obtain ⟨e1, c', hc, e2⟩ := y
    subst e1 e2
    have q' : z.cps[i]? = some c := by simpa using q
    rw [q'] at hc
    cases hc
    exact ⟨fun _ _ e => e, .str _⟩
def rngD (lo c : Int) (n : Nat) : List PyData := (List.range n).map fun i => .int (lo + (i : Nat) * c)
theorem lf_rng (lo c : Int) (n : Nat) : lfAll (rngD lo c n) = true := lfAll_iff.mpr fun d m => by
  obtain ⟨c, _, rfl⟩ := List.mem_map.mp m
  rfl
theorem rngD_get {lo c : Int} {n i : Nat} {d : PyData} (e : (rngD lo c n)[i]? = some d) : i < n ∧ d = .int (lo + (i : Nat) * c) := by
  unfold rngD at e
  rw [List.getElem?_map] at e
  cases q : (List.range n)[i]? with
  | none => rw [q] at e; cases e
  | some j =>
    rw [q] at e
    cases e
    have hi := (List.getElem?_eq_some_iff.mp q).1
    rw [List.getElem?_range (by simpa using hi)] at q
    cases q
    exact ⟨by simpa using hi, rfl⟩
theorem wk_rng {lo : Int} {n : Nat} : Wk K H1 (Itr lo n) [] (rngD lo 1 n) := by
  intro H' im kp
  refine ⟨show n ≤ (rngD lo 1 n).length by simp [rngD], fun i d e => ?_⟩
  obtain ⟨h1, rfl⟩ := rngD_get e
  refine ⟨h1, fun x H'' y => ?_⟩
  obtain ⟨e1, e2⟩ := y
  subst e1 e2
  rw [Int.mul_one]
  exact ⟨fun _ _ e => e, .int _⟩
theorem wk_rngC {lo c : Int} {n : Nat} : Wk K H1 (Itc lo c n) [] (rngD lo c n) := by
  intro H' im kp
  refine ⟨show n ≤ (rngD lo c n).length by simp [rngD], fun i d e => ?_⟩
  obtain ⟨h1, rfl⟩ := rngD_get e
  refine ⟨h1, fun x H'' y => ?_⟩
  obtain ⟨e1, e2⟩ := y
  subst e1 e2
  exact ⟨fun _ _ e => e, .int _⟩
theorem lf_rev {ds : List PyData} (f : lfAll ds = true) : lfAll ds.reverse = true := lfAll_iff.mpr fun d m => lfAll_iff.mp f d (List.mem_reverse.mp m)
theorem rev_get {ds : List PyData} {i : Nat} {d : PyData} (e : ds.reverse[i]? = some d) : i < ds.length ∧ ds[ds.length - 1 - i]? = some d := by
  have hi : i < ds.length := by have := (List.getElem?_eq_some_iff.mp e).1; simpa using this
  rw [List.getElem?_reverse hi] at e
  exact ⟨hi, e⟩
theorem wk_revT {a : Addr} {vs : List V} {ds : List PyData} (h : SqT K H1 a vs) (hd : VlAll K H1 vs ds) (f : lfAll ds = true) : Wk K H1 (RT.ItvT K a vs.length) [] ds.reverse := by
  intro H' im kp
  have hs : SqT K H' a vs := im.sqT h
  have hd' := hd.imlf im ds _ f
  refine ⟨show vs.length ≤ ds.reverse.length by rw [hd.len, List.length_reverse]; exact Nat.le_refl _, fun i d e => ?_⟩
  obtain ⟨hi, e⟩ := rev_get e
  obtain ⟨v, h1, h2⟩ := hd'.get e
  rw [← hd.len] at h1 hi
  refine ⟨⟨hi, vs, v, hs, h1⟩, fun x H'' y => ?_⟩
  obtain ⟨e1, y⟩ := y
  subst e1
  have := y vs hs
  rw [h1] at this
  cases this
  exact ⟨fun _ _ e => e, h2⟩
theorem wk_revL {a : Addr} {vs : List V} {ds : List PyData} (h : Rd H1 a (.lst vs)) (hd : VlAll K H1 vs ds) (f : lfAll ds = true) : Wk K H1 (Itv K a vs.length) [a] ds.reverse := by
  intro H' im kp
  have hs : SqL K H' a vs := by
    rcases h with h | ⟨o, h⟩
    · exact .inl (.inl (kp a (by simp) _ h))
    · exact .inl (.inr ⟨o, im.frz _ _ _ h⟩)
  have hd' := hd.imlf im ds _ f
  refine ⟨show vs.length ≤ ds.reverse.length by rw [hd.len, List.length_reverse]; exact Nat.le_refl _, fun i d e => ?_⟩
  obtain ⟨hi, e⟩ := rev_get e
  obtain ⟨v, h1, h2⟩ := hd'.get e
  rw [← hd.len] at h1 hi
  refine ⟨⟨hi, vs, v, hs, h1⟩, fun x H'' y => ?_⟩
  obtain ⟨e1, y⟩ := y
  subst e1
  have := y vs hs
  rw [h1] at this
  cases this
  exact ⟨fun _ _ e => e, h2⟩
/-! ### the sources -/
def OwnFree (σ : L2.St) (ρ : Ro) (pa : List Addr) : Prop := ∀ (p : Addr) (j : Nat) (o : PO), p ∈ pa → ρ[j]? = some (some (.own o)) → σ[j]? ≠ some (some (.ref p))
def RI (K : PySem.W.Frag) (s : Bool) (wi : TI) (its : Ro → M (List PyData)) : Prop := ∀ tp He Hq ρ σ H (Q : It → Hp → Prop), Rel tp K He Hq H σ ρ →
  wp0 (its ρ) (fun ds => ∀ J H1 pa, GrT tp H H1 → TOk tp H1 → lfAll ds = true → Wk K H1 J pa ds → (∀ p ∈ pa, tp.map (·.1) ≠ some p) → (s = true → OwnFree σ ρ pa) → Q J H1) → wi σ H Q
def itD : C → M (List PyData)
  | .val (.tuple ds) => .ret ds
  | .val (.str z) => .ret (signsD z)
  | .own (.lst ds) => .ret ds
  | .val (.list ds) => .ret ds
  | _ => .fail
/-- a thing made in place -/
def gIt (g : Ro → M C) (ρ : Ro) : M (List PyData) := (g ρ).bind itD
theorem Rel.nown (r : Rel tp K He Hq H σ ρ) {p : Addr} (h : H p = none) {j : Nat} {o : PO} (e : ρ[j]? = some (some (.own o))) : σ[j]? ≠ some (some (.ref p)) := fun hs => by
  obtain ⟨v, h1, a, e2, _, _, q⟩ := r.at_ j _ e
  rw [hs] at h1
  cases h1
  cases e2
  cases o with
  | lst ds =>
    obtain ⟨vs, h3, _⟩ := q
    rw [h] at h3
    cases h3
  | dT ds =>
    obtain ⟨vs, h3, _⟩ := q
    rw [h] at h3
    cases h3
  | dK ds =>
    obtain ⟨vs, h3, _⟩ := q
    rw [h] at h3
    cases h3
  | lT ds =>
    exact q.elim
theorem ri_seq {te : TE} {g : Ro → M C} {s : Bool} (h1 : RE K te g) : RI K s (iSeq K te) (gIt g) := by
  intro tp He Hq ρ σ H Q r h
  refine h1 tp He Hq ρ σ H _ r (wp0_mono (fun c hc => ?_) (wp0_bind.mp h))
  intro x H1 g1 t1 rx
  unfold itD at hc
  split at hc
  · rename_i ds
    obtain ⟨a, vs, rfl, q1, q2, q3⟩ := rx.tup
    exact .inr (.inl ⟨a, rfl, ⟨vs, q1⟩, hc _ H1 [] g1 t1 q3 (wk_tup q1 q2 q3) (fun _ m => by simp at m) (fun _ _ _ _ m => by simp at m)⟩)
  · rename_i z
    cases rx.str
    exact .inr (.inr ⟨z, rfl, hc _ H1 [] g1 t1 (lf_signs z) wk_str (fun _ m => by simp at m) (fun _ _ _ _ m => by simp at m)⟩)
  · rename_i ds
    obtain ⟨a, rfl, f, n, vs, q1, q2, q3⟩ := rx
    refine .inl ⟨a, rfl, ⟨vs, SqL.of q1⟩, hc _ H1 [a] g1 t1 q3 (wk_list (.inl q1) q2 q3) (fun p m => ?_) (fun _ p j o m e => ?_)⟩
    · have : p = a := by simpa using m
      subst this
      exact n.ne
    · have : p = a := by simpa using m
      subst this
      exact r.nown f e
  · rename_i ds
    obtain ⟨a, vs, rfl, q1, q2⟩ := rx.frz
    exact .inl ⟨a, rfl, ⟨vs, q1.sq⟩, hc _ H1 [] g1 t1 rfl (wk_frz q1 q2) (fun _ m => by simp at m) (fun _ _ _ _ m => by simp at m)⟩
  · exact hc.elim
/-- a name -/
def itV : C → M (List PyData)
  | .val (.tuple ds) => .ret ds
  | .val (.str z) => .ret (signsD z)
  | .bor (.lst ds) => .ret ds
  | .val (.list ds) => .ret ds
  | .own (.lst ds) => .ret ds
  | _ => .fail
def itVs : C → M (List PyData)
  | .val (.tuple ds) => .ret ds
  | .val (.str z) => .ret (signsD z)
  | .bor (.lst ds) => .ret ds
  | .val (.list ds) => .ret ds
  | _ => .fail
def gItV (s : Bool) (i : Nat) (ρ : Ro) : M (List PyData) := match ρ[i]? with
  | some (some c) => if s = true then itVs c else itV c
  | _ => .fail
theorem ri_var {i : Nat} {s : Bool} : RI K s (iSeq K (tVar i)) (gItV s i) := by
  intro tp He Hq ρ σ H Q r h
  unfold gItV at h
  split at h
  · rename_i c e
    obtain ⟨v, h1, h2⟩ := r.at_ i c e
    refine ⟨v, h1, ?_⟩
    have tup : ∀ {ds : List PyData}, SR tp K Hq H v (.val (.tuple ds)) → wp0 (.ret ds : M (List PyData)) (fun ds => ∀ J H1 pa, GrT tp H H1 → TOk tp H1 → lfAll ds = true → Wk K H1 J pa ds → (∀ p ∈ pa, tp.map (·.1) ≠ some p) → (s = true → OwnFree σ ρ pa) → Q J H1) → (∃ a, v = .ref a ∧ (∃ xs, SqL K H a xs) ∧ Q (Itl K a) H) ∨ (∃ a, v = .ref a ∧ (∃ xs, SqT K H a xs) ∧ Q (Itt K a) H) ∨ (∃ z, v = .str z ∧ Q (Its z) H) := fun {ds} h2 h => by
      have h2' : RC tp K H H v (.val (.tuple ds)) := h2
      obtain ⟨a, vs, rfl, q1, q2, q3⟩ := h2'.tup
      exact .inr (.inl ⟨a, rfl, ⟨vs, q1⟩, h _ H [] .refl r.tok q3 (wk_tup q1 q2 q3) (fun _ m => by simp at m) (fun _ _ _ _ m => by simp at m)⟩)
    have str : ∀ {z : Str}, SR tp K Hq H v (.val (.str z)) → wp0 (.ret (signsD z) : M (List PyData)) (fun ds => ∀ J H1 pa, GrT tp H H1 → TOk tp H1 → lfAll ds = true → Wk K H1 J pa ds → (∀ p ∈ pa, tp.map (·.1) ≠ some p) → (s = true → OwnFree σ ρ pa) → Q J H1) → (∃ a, v = .ref a ∧ (∃ xs, SqL K H a xs) ∧ Q (Itl K a) H) ∨ (∃ a, v = .ref a ∧ (∃ xs, SqT K H a xs) ∧ Q (Itt K a) H) ∨ (∃ z, v = .str z ∧ Q (Its z) H) := fun {z} h2 h => by
      have h2' : RC tp K H H v (.val (.str z)) := h2
      cases h2'.str
      exact .inr (.inr ⟨z, rfl, h _ H [] .refl r.tok (lf_signs z) wk_str (fun _ m => by simp at m) (fun _ _ _ _ m => by simp at m)⟩)
    have lst : ∀ {ds : List PyData}, SR tp K Hq H v (.val (.list ds)) → wp0 (.ret ds : M (List PyData)) (fun ds => ∀ J H1 pa, GrT tp H H1 → TOk tp H1 → lfAll ds = true → Wk K H1 J pa ds → (∀ p ∈ pa, tp.map (·.1) ≠ some p) → (s = true → OwnFree σ ρ pa) → Q J H1) → (∃ a, v = .ref a ∧ (∃ xs, SqL K H a xs) ∧ Q (Itl K a) H) ∨ (∃ a, v = .ref a ∧ (∃ xs, SqT K H a xs) ∧ Q (Itt K a) H) ∨ (∃ z, v = .str z ∧ Q (Its z) H) := fun {ds} h2 h => by
      have h2' : RC tp K H H v (.val (.list ds)) := h2
      obtain ⟨a, vs, rfl, q1, q2⟩ := h2'.frz
      exact .inl ⟨a, rfl, ⟨vs, q1.sq⟩, h _ H [] .refl r.tok rfl (wk_frz q1 q2) (fun _ m => by simp at m) (fun _ _ _ _ m => by simp at m)⟩
    have bor : ∀ {ds : List PyData}, SR tp K Hq H v (.bor (.lst ds)) → wp0 (.ret ds : M (List PyData)) (fun ds => ∀ J H1 pa, GrT tp H H1 → TOk tp H1 → lfAll ds = true → Wk K H1 J pa ds → (∀ p ∈ pa, tp.map (·.1) ≠ some p) → (s = true → OwnFree σ ρ pa) → Q J H1) → (∃ a, v = .ref a ∧ (∃ xs, SqL K H a xs) ∧ Q (Itl K a) H) ∨ (∃ a, v = .ref a ∧ (∃ xs, SqT K H a xs) ∧ Q (Itt K a) H) ∨ (∃ z, v = .str z ∧ Q (Its z) H) := fun {ds} h2 h => by
      obtain ⟨a, rfl, q⟩ := h2
      obtain ⟨vs, q1, q2, q3⟩ := r.bor q
      obtain ⟨ws, p1, _, _⟩ := q
      refine .inl ⟨a, rfl, ⟨vs, q1.sq⟩, h _ H [a] .refl r.tok q3 (wk_list q1.1 q2 q3) (fun p m => ?_) (fun _ p j o m e => ?_)⟩
      · have : p = a := by simpa using m
        subst this
        exact q1.2
      · have : p = a := by simpa using m
        subst this
        intro hs
        obtain ⟨v', h3, b, e3, f, _⟩ := r.at_ j _ e
        rw [hs] at h3
        cases h3
        cases e3
        rcases p1.1 with z | ⟨_, z⟩ <;> (rw [f] at z; cases z)
    split at h
    · unfold itVs at h
      split at h
      · exact tup h2 h
      · exact str h2 h
      · exact bor h2 h
      · exact lst h2 h
      · exact h.elim
    · rename_i ns
      unfold itV at h
      split at h
      · exact tup h2 h
      · exact str h2 h
      · exact bor h2 h
      · exact lst h2 h
      · rename_i ds
        obtain ⟨a, rfl, f, n, vs, q1, q2, q3⟩ := h2
        refine .inl ⟨a, rfl, ⟨vs, SqL.of q1⟩, h _ H [a] .refl r.tok q3 (wk_list (.inl q1) q2 q3) (fun p m => ?_) (fun z => absurd z ns)⟩
        have : p = a := by simpa using m
        subst this
        exact n.ne
      · exact h.elim
  · exact h.elim
/-! range -/
def rngOk (i : Int) : Bool := decide (-4611686018427387904 ≤ i) && decide (i < 4611686018427387904)
theorem rngOk_of {i : Int} (h : rngOk i = true) : -(2 ^ 62) ≤ i ∧ i < 2 ^ 62 := by
  simp only [rngOk, Bool.and_eq_true, decide_eq_true_eq] at h
  exact h
def itR1 : List C → M (List PyData)
  | [.val (.int j)] => if rngOk j = true then .ret (rngD 0 1 j.toNat) else .fail
  | _ => .fail
def itR2 : List C → M (List PyData)
  | [.val (.int i), .val (.int j)] => if (rngOk i && rngOk j) = true then .ret (rngD i 1 (j - i).toNat) else .fail
  | _ => .fail
def gItR1 (gs : Ro → M (List C)) (ρ : Ro) : M (List PyData) := (gs ρ).bind itR1
def gItR2 (gs : Ro → M (List C)) (ρ : Ro) : M (List PyData) := (gs ρ).bind itR2
theorem ri_rng1 {ta : TA} {gs : Ro → M (List C)} {s : Bool} (h1 : RA K ta gs) : RI K s (iRng1 ta) (gItR1 gs) := by
  intro tp He Hq ρ σ H Q r h
  refine h1 tp He Hq ρ σ H _ r (wp0_mono (fun cs hc => ?_) (wp0_bind.mp h))
  intro vs H1 g1 t1 rx
  unfold itR1 at hc
  split at hc
  · rename_i j
    obtain ⟨v, rfl, q⟩ := rx.one
    cases q.int
    split at hc
    · rename_i l
      obtain ⟨l1, l2⟩ := rngOk_of l
      exact ⟨j, rfl, l1, l2, hc _ H1 [] g1 t1 (lf_rng _ _ _) wk_rng (fun _ m => by simp at m) (fun _ _ _ _ m => by simp at m)⟩
    · exact hc.elim
  · exact hc.elim
theorem ri_rng2 {ta : TA} {gs : Ro → M (List C)} {s : Bool} (h1 : RA K ta gs) : RI K s (iRng2 ta) (gItR2 gs) := by
  intro tp He Hq ρ σ H Q r h
  refine h1 tp He Hq ρ σ H _ r (wp0_mono (fun cs hc => ?_) (wp0_bind.mp h))
  intro vs H1 g1 t1 rx
  unfold itR2 at hc
  split at hc
  · rename_i i j
    obtain ⟨v, w, rfl, q, q'⟩ := rx.two
    cases q.int; cases q'.int
    split at hc
    · rename_i l
      simp only [Bool.and_eq_true] at l
      obtain ⟨l1, l2⟩ := rngOk_of l.1
      obtain ⟨l3, l4⟩ := rngOk_of l.2
      exact ⟨i, j, rfl, ⟨l1, l2, l3, l4⟩, hc _ H1 [] g1 t1 (lf_rng _ _ _) wk_rng (fun _ m => by simp at m) (fun _ _ _ _ m => by simp at m)⟩
    · exact hc.elim
  · exact hc.elim
/-! ### for -/
theorem GrT.imH (g : GrT tp Hq H') (h : ∀ (t l : Addr), tp = some (t, l) → Hq t = none ∨ ∃ xs, Hq t = some (.lst xs)) : Im Hq H' := by
  have n : ∀ b o, Hq b = some o → (∀ xs, o ≠ .lst xs) → tp.map (·.1) ≠ some b := fun b o e k z => by
    cases tp with
    | none => simp at z
    | some w =>
      obtain ⟨t, l⟩ := w
      have : t = b := by simpa using z
      subst this
      rcases h t l rfl with q | ⟨xs, q⟩
      · rw [q] at e; cases e
      · rw [q] at e; cases e; exact k xs rfl
  exact ⟨fun b xs e => g b _ e (n b _ e fun _ z => by cases z), fun b o u e => g b _ e (n b _ e fun _ z => by cases z)⟩
def forL (a : C → Ro → M Ro) (b : Ro → M Res) : List PyData → Ro → M Res
  | [], ρ => .ret (.nx ρ)
  | d :: ds, ρ => (a (.val d) ρ).bind fun ρ1 => (b ρ1).bind fun r => match r with
    | .nx ρ' => forL a b ds ρ'
    | .ct ρ' => forL a b ds ρ'
    | .bk ρ' => .ret (.nx ρ')
    | .rt c => .ret (.rt c)
theorem for_go {J : It} {pa : List Addr} {ds : List PyData} {g : TG} {tb : TS} {D : Ends} {a : C → Ro → M Ro} {b : Ro → M Res} {sl : List Nat} (hg : RG K g a sl) (hb : RS K tb b) (r : Rel tp K He Hq H1 σ ρ) (f : lfAll ds = true) (w : Wk K Hq J pa ds)
    (np : ∀ p ∈ pa, tp.map (·.1) ≠ some p) (h : wp0 (forL a b ds ρ) (PostS tp K He Hq D)) :
    ∃ W : Nat → Nat → L2.St → Hp → Prop, (∃ m, W 0 m σ H1) ∧ ∀ i m σ H, W i m σ H →
      (J.stop i H ∧ D.nx σ H) ∨ (J.go i H ∧ ∃ N : L2.St → Hp → Prop, (∀ σ' H', N σ' H' → ∃ m', m' < m ∧ W (i + 1) m' σ' H') ∧ ∀ x H', J.yld i H x H' → g x σ H' fun σ2 H2 => tb { D with nx := N, ct := N, bk := D.nx } σ2 H2) := by
  refine ⟨fun i m σ H => m = ds.length - i ∧ i ≤ ds.length ∧ ∃ ρ' Hq', GrT tp Hq Hq' ∧ Rel tp K He Hq' H σ ρ' ∧ wp0 (forL a b (ds.drop i) ρ') (PostS tp K He Hq' D), ⟨ds.length, rfl, Nat.zero_le _, ρ, Hq, .refl, r, h⟩, ?_⟩
  rintro i m σ' H' ⟨rfl, hi, ρ', Hq', g', r', h'⟩
  have gr : GrT tp Hq H' := g'.trans r'.gr
  obtain ⟨st, go⟩ := w H' (gr.imH r.he) (fun p hp o e => gr p o e (np p hp))
  by_cases hlt : i < ds.length
  · obtain ⟨d, hd⟩ : ∃ d, ds[i]? = some d := ⟨ds[i], List.getElem?_eq_getElem hlt⟩
    obtain ⟨go1, yl⟩ := go i d hd
    have e : ds.drop i = d :: ds.drop (i + 1) := by
      rw [List.drop_eq_getElem_cons hlt]
      have : ds[i] = d := by rw [List.getElem?_eq_getElem hlt] at hd; exact Option.some.inj hd
      rw [this]
    rw [e] at h'
    refine .inr ⟨go1, fun σ2 H2 => ∃ ρ2 Hq2, GrT tp Hq Hq2 ∧ Rel tp K He Hq2 H2 σ2 ρ2 ∧ wp0 (forL a b (ds.drop (i + 1)) ρ2) (PostS tp K He Hq2 D), fun σ2 H2 n => ⟨ds.length - (i + 1), by omega, rfl, hlt, n⟩, fun x H'' y => ?_⟩
    obtain ⟨sm, dp⟩ := yl x H'' y
    refine hg tp He Hq' ρ' σ' H' H'' x (.val d) _ r' (.of sm) (r'.tok.same sm) ⟨dp, lfAll_get f hd⟩ (wp0_mono (fun ρ1 h1 => ?_) (wp0_bind.mp (show wp0 ((a (.val d) ρ').bind _) _ from h')))
    intro σ1 _ r1
    refine hb tp He Hq' ρ1 σ1 H'' _ r1 (wp0_mono (fun q hq => ?_) (wp0_bind.mp h1))
    cases q with
    | nx ρ2 => exact fun σ2 H2 Hq2 g2 r2 => ⟨ρ2, Hq2, g'.trans g2, r2, wp0_mono (fun _ hq => hq.mono g2) hq⟩
    | ct ρ2 => exact fun σ2 H2 Hq2 g2 r2 => ⟨ρ2, Hq2, g'.trans g2, r2, wp0_mono (fun _ hq => hq.mono g2) hq⟩
    | bk ρ2 => exact hq
    | rt c => exact hq
  · have e : i = ds.length := by omega
    subst e
    rw [List.drop_length] at h'
    exact .inl ⟨st, h' σ' H' Hq' .refl r'⟩
/-- the walked thing is laid under what the def leaves as it is -/
theorem Rel.more {J : It} {pa : List Addr} {ds : List PyData} (r : Rel tp K He Hq H σ ρ) (of : OwnFree σ ρ pa) (np : ∀ p ∈ pa, tp.map (·.1) ≠ some p) (w : Wk K H J pa ds) :
    ∃ Hq2, GrT tp Hq Hq2 ∧ Rel tp K He Hq2 H σ ρ ∧ Wk K Hq2 J pa ds ∧ Im H Hq2 ∧ ∀ b, tp.map (·.1) ≠ some b → (∀ (j : Nat) (o : PO), ρ[j]? = some (some (.own o)) → σ[j]? ≠ some (some (V.ref b))) → Hq2 b = H b := by
  classical
  let O : Addr → Prop := fun b => tp.map (·.1) = some b ∨ ∃ (j : Nat) (o : PO), ρ[j]? = some (some (.own o)) ∧ σ[j]? = some (some (V.ref b))
  have own_none : ∀ {b : Addr} {j : Nat} {o : PO}, ρ[j]? = some (some (C.own o)) → σ[j]? = some (some (V.ref b)) → Hq b = none ∧ ∃ u, H b = some u ∧ Mut (some u) := fun {b j o} e s => by
    obtain ⟨v, h1, a, e2, f, _, q⟩ := r.at_ j _ e
    rw [s] at h1
    cases h1
    cases e2
    cases o with
    | lst ds =>
      obtain ⟨vs, h3, _⟩ := q
      exact ⟨f, _, h3, trivial⟩
    | dT ds =>
      obtain ⟨vs, h3, _⟩ := q
      exact ⟨f, _, h3, trivial⟩
    | dK ds =>
      obtain ⟨vs, h3, _⟩ := q
      exact ⟨f, _, h3, trivial⟩
    | lT ds =>
      exact q.elim
  let G : Hp := fun b => if O b then Hq b else H b
  have gO : ∀ {b}, O b → G b = Hq b := fun {b} h => if_pos h
  have gN : ∀ {b}, ¬ O b → G b = H b := fun {b} h => if_neg h
  have g1 : GrT tp Hq G := fun b o e n => by
    by_cases hO : O b
    · rw [gO hO]; exact e
    · rw [gN hO]; exact r.gr b o e n
  have im1 : Im Hq G := g1.imH r.he
  have g2 : GrT tp G H := fun b o e n => by
    by_cases hO : O b
    · rw [gO hO] at e
      exact r.gr b o e n
    · rw [gN hO] at e; exact e
  have lst_of : ∀ {b}, O b → ∃ u, H b = some u ∧ Mut (some u) := fun {b} hO => by
    rcases hO with hO | ⟨j, o, e, s⟩
    · cases tp with
      | none => simp at hO
      | some w =>
        obtain ⟨t, l⟩ := w
        have : t = b := by simpa using hO
        subst this
        obtain ⟨_, z⟩ := (r.tok t l rfl).list
        exact ⟨_, z, trivial⟩
    · exact (own_none e s).2
  have tupN : ∀ {b xs}, H b = some (.tup xs) → ¬ O b := fun {b xs} e hO => by
    obtain ⟨u', z, mu⟩ := lst_of hO
    rw [e] at z
    cases z
    exact mu
  have frzN : ∀ {b o u}, H b = some (.frz o u) → ¬ O b := fun {b o u} e hO => by
    obtain ⟨u', z, mu⟩ := lst_of hO
    rw [e] at z
    cases z
    exact mu
  refine ⟨G, g1, ⟨r.len, fun i c e => ?_, r.dist, r.sub.trans g1, g2, r.tok, fun t l e => ?_⟩, fun H' im kp => ?_, ⟨fun b xs e => by rw [gN (tupN e)]; exact e, fun b o u e => by rw [gN (frzN e)]; exact e⟩, fun b n1 n2 => gN fun hO => by
    rcases hO with hO | ⟨j, o, e, s⟩
    · exact n1 hO
    · exact n2 j o e s⟩
  · obtain ⟨v, h1, h2⟩ := r.at_ i c e
    refine ⟨v, h1, ?_⟩
    cases c with
    | val d => exact h2
    | own o =>
      obtain ⟨a, e2, f, n, q⟩ := h2
      subst e2
      exact ⟨a, rfl, by rw [gO (Or.inr ⟨i, o, e, h1⟩)]; exact f, n, q⟩
    | bor o =>
      obtain ⟨a, e2, q⟩ := h2
      refine ⟨a, e2, ?_⟩
      cases o with
      | lst ds =>
        obtain ⟨vs, q1, q2, q3⟩ := q
        exact ⟨vs, q1.gr g1, q2.imlf im1 ds _ q3, q3⟩
      | dT ds =>
        obtain ⟨vs, q1, q2, q3⟩ := q
        exact ⟨vs, q1.gr g1, q2.imlf im1 ds _ q3, q3⟩
      | dK ds =>
        obtain ⟨vs, q1, q2, q3⟩ := q
        exact ⟨vs, q1.gr g1, q2.imlf im1 ds _ q3, q3⟩
      | lT ds =>
        obtain ⟨vs, q1, q2, q3⟩ := q
        exact ⟨vs, q1.gr g1, q2.imlf im1 ds _ q3, q3⟩
    | tape => exact h2
  · rw [gO (Or.inl (by rw [e]; rfl))]
    exact r.he t l e
  · refine w H' ⟨fun b xs e => im.tup b xs (by rw [gN (tupN e)]; exact e), fun b o u e => im.frz b o u (by rw [gN (frzN e)]; exact e)⟩ fun p hp o e => kp p hp o ?_
    by_cases hO : O p
    · rcases hO with hO | ⟨j, o', e', s⟩
      · exact absurd hO (np p hp)
      · exact absurd s (of p j o' hp e')
    · rw [gN hO]; exact e
def mFor (its : Ro → M (List PyData)) (a : C → Ro → M Ro) (b : Ro → M Res) (ρ : Ro) : M Res := (its ρ).bind fun ds => forL a b ds ρ
theorem rs_for {wi : TI} {g : TG} {tb : TS} {its : Ro → M (List PyData)} {a : C → Ro → M Ro} {b : Ro → M Res} {sl : List Nat} (hi : RI K true wi its) (hg : RG K g a sl) (hb : RS K tb b) : RS K (tFor wi g tb) (mFor its a b) := by
  intro tp He Hq ρ σ H D r h
  refine hi tp He Hq ρ σ H _ r (wp0_mono (fun ds hd => ?_) (wp0_bind.mp h))
  intro J H1 pa g1 t1 f w np of
  obtain ⟨Hq2, q1, r2, w2, _⟩ := (r.go g1 t1).more (of rfl) np w
  exact for_go hg hb r2 f w2 np (wp0_mono (fun _ q => q.mono q1) hd)
/-- over a name; a list of one's own is no longer changed from there on -/
def mForV (i : Nat) (a : C → Ro → M Ro) (b : Ro → M Res) (ρ : Ro) : M Res := match ρ[i]? with
  | some (some (.own (.lst ds))) => forL a b ds (ρ.set i (some (.bor (.lst ds))))
  | some (some c) => (itVs c).bind fun ds => forL a b ds ρ
  | _ => .fail
theorem Rel.forget {i : Nat} (r : Rel tp K He Hq H σ ρ) : Rel tp K He Hq H σ (ρ.set i none) := by
  have old : ∀ {j : Nat} {c : C}, (ρ.set i none)[j]? = some (some c) → i ≠ j ∧ ρ[j]? = some (some c) := fun {j c} e => by
    by_cases hij : i = j
    · subst hij
      have hl : i < ρ.length := by
        have := (List.getElem?_eq_some_iff.mp e).1
        rwa [List.length_set] at this
      rw [List.getElem?_set_self hl] at e
      cases e
    · rw [List.getElem?_set_ne hij] at e
      exact ⟨hij, e⟩
  exact ⟨by rw [List.length_set]; exact r.len, fun j c e => r.at_ j c (old e).2, fun j k a o o' e1 e2 => r.dist j k a o o' (old e1).2 (old e2).2, r.sub, r.gr, r.tok, r.he⟩
theorem Rel.forgot {i : Nat} {j : Nat} {c : C} (e : (ρ.set i none)[j]? = some (some c)) : i ≠ j ∧ ρ[j]? = some (some c) := by
  by_cases hij : i = j
  · subst hij
    have hl : i < ρ.length := by
      have := (List.getElem?_eq_some_iff.mp e).1
      rwa [List.length_set] at this
    rw [List.getElem?_set_self hl] at e
    cases e
  · rw [List.getElem?_set_ne hij] at e
    exact ⟨hij, e⟩
theorem Rel.freeze {i : Nat} {ds : List PyData} (r : Rel tp K He Hq H σ ρ) (e : ρ[i]? = some (some (.own (.lst ds)))) : ∃ Hq2 a, GrT tp Hq Hq2 ∧ Rel tp K He Hq2 H σ (ρ.set i (some (.bor (.lst ds)))) ∧ σ[i]? = some (some (.ref a)) ∧ Wk K Hq2 (Itl K a) [a] ds ∧ tp.map (·.1) ≠ some a ∧ lfAll ds = true ∧ ∃ vs, SqL K H a vs := by
  obtain ⟨v, h1, a, e2, f, n, vs, q1, q2, q3⟩ := r.at_ i _ e
  subst e2
  have nown : ∀ (j : Nat) (o : PO), (ρ.set i none)[j]? = some (some (.own o)) → σ[j]? ≠ some (some (.ref a)) := fun j o ej hs => by
    obtain ⟨n1, e'⟩ := Rel.forgot ej
    exact n1 (r.dist i j a _ _ e e' h1 hs)
  have w : Wk K H (Itl K a) [a] ds := wk_list (.inl q1) q2 q3
  have np : ∀ p ∈ [a], tp.map (·.1) ≠ some p := fun p m => by
    have : p = a := by simpa using m
    subst this
    exact n.ne
  obtain ⟨Hq2, g2, r2, w2, im, eqs⟩ := (r.forget (i := i)).more (pa := [a]) (fun p j o m ej => by
    have : p = a := by simpa using m
    subst this
    exact nown j o ej) np w
  have ea : Hq2 a = some (.lst vs) := (eqs a n.ne nown).trans q1
  have r3 := r2.put (i := i) (v := .ref a) (c := .bor (.lst ds)) ⟨a, rfl, vs, ⟨.inl ea, n.ne⟩, q2.imlf im ds _ q3, q3⟩ (fun _ _ z => by cases z)
  rw [List.set_set] at r3
  have es : σ.set i (some (.ref a)) = σ := by
    refine List.ext_getElem? fun j => ?_
    by_cases hij : i = j
    · subst hij
      rw [List.getElem?_set_self (List.getElem?_eq_some_iff.mp h1).1, h1]
    · rw [List.getElem?_set_ne hij]
  rw [es] at r3
  exact ⟨Hq2, a, g2, r3, h1, w2, n.ne, q3, vs, SqL.of q1⟩
theorem rs_forV {i : Nat} {g : TG} {tb : TS} {a : C → Ro → M Ro} {b : Ro → M Res} {sl : List Nat} (hg : RG K g a sl) (hb : RS K tb b) : RS K (tFor (iSeq K (tVar i)) g tb) (mForV i a b) := by
  intro tp He Hq ρ σ H D r h
  unfold mForV at h
  split at h
  · rename_i ds e
    obtain ⟨Hq2, p, g2, r2, hs, w, np, f, vs, sq⟩ := r.freeze e
    refine ⟨_, hs, .inl ⟨p, rfl, ⟨vs, sq⟩, for_go hg hb r2 f w (fun q m => ?_) (wp0_mono (fun _ q => q.mono g2) h)⟩⟩
    have : q = p := by simpa using m
    subst this
    exact np
  · rename_i c n e
    refine rs_for (ri_var (i := i)) hg hb tp He Hq ρ σ H D r ?_
    unfold mFor gItV
    rw [e]
    exact h
  · exact h.elim
/-! ### while -/
def whlL (gc : Ro → M Bool) (b : Ro → M Res) : Nat → Ro → M Res
  | 0, _ => .fail
  | n + 1, ρ => (gc ρ).bind fun c => if c = true then (b ρ).bind (fun r => match r with
    | .nx ρ' => whlL gc b n ρ'
    | .ct ρ' => whlL gc b n ρ'
    | .bk ρ' => .ret (.nx ρ')
    | .rt c => .ret (.rt c)) else .ret (.nx ρ)
/-- fuel: a bound of the turns and one more, by what the slots hold ahead of the loop -/
def mWhile (fuel : Ro → Nat) (gc : Ro → M Bool) (b : Ro → M Res) (ρ : Ro) : M Res := whlL gc b (fuel ρ) ρ
theorem rs_while {c : TT} {tb : TS} {gc : Ro → M Bool} {b : Ro → M Res} {fuel : Ro → Nat} (hc : RT K c gc) (hb : RS K tb b) : RS K (tWhile c tb) (mWhile fuel gc b) := by
  intro tp He Hq ρ σ H D r h
  refine ⟨fun m σ H => ∃ ρ' Hq', GrT tp Hq Hq' ∧ Rel tp K He Hq' H σ ρ' ∧ wp0 (whlL gc b m ρ') (PostS tp K He Hq' D), ⟨fuel ρ, ρ, Hq, .refl, r, h⟩, ?_⟩
  rintro m σ' H' ⟨ρ', Hq', g', r', h'⟩
  cases m with
  | zero => exact h'.elim
  | succ m =>
    refine hc tp He Hq' ρ' σ' H' _ r' (wp0_mono (fun k hk => ?_) (wp0_bind.mp (show wp0 ((gc ρ').bind _) _ from h')))
    intro H1 g1 t1
    cases k with
    | true =>
      rw [if_pos rfl] at hk ⊢
      refine ⟨fun σ2 H2 => ∃ ρ2 Hq2, GrT tp Hq Hq2 ∧ Rel tp K He Hq2 H2 σ2 ρ2 ∧ wp0 (whlL gc b m ρ2) (PostS tp K He Hq2 D), fun σ2 H2 n => ⟨m, Nat.lt_succ_self m, n⟩, ?_⟩
      refine hb tp He Hq' ρ' σ' H1 _ (r'.go g1 t1) (wp0_mono (fun q hq => ?_) (wp0_bind.mp hk))
      cases q with
      | nx ρ2 => exact fun σ2 H2 Hq2 g2 r2 => ⟨ρ2, Hq2, g'.trans g2, r2, wp0_mono (fun _ hq => hq.mono g2) hq⟩
      | ct ρ2 => exact fun σ2 H2 Hq2 g2 r2 => ⟨ρ2, Hq2, g'.trans g2, r2, wp0_mono (fun _ hq => hq.mono g2) hq⟩
      | bk ρ2 => exact hq
      | rt c => exact hq
    | false =>
      rw [if_neg Bool.false_ne_true] at hk ⊢
      exact hk σ' H1 Hq' .refl (r'.go g1 t1)
end
end Cs

set_option maxRecDepth 100000
set_option maxHeartbeats 4000000
/-! comprehensions, lists that change, defs -/
namespace Cs
open PySem PySem.Spec PyProof.Rows L2
section
variable {tp : Option (Addr × Addr)} {K : PySem.W.Frag} {H H' H'' H0 H1 He : Hp} {Hq : Hp} {σ : L2.St} {ρ : Ro}
/-! ### [e for x in xs if c] -/
def wipeR (ρ : Ro) : List Nat → Ro
  | [] => ρ
  | v :: vs => (wipeR ρ vs).set v none
theorem Rel.set_none {i : Nat} (r : Rel tp K He Hq H σ ρ) : Rel tp K He Hq H (σ.set i none) (ρ.set i none) := by
  refine ⟨by rw [List.length_set, List.length_set]; exact r.len, fun j c e => ?_, fun j k a o o' e1 e2 e3 e4 => ?_, r.sub, r.gr, r.tok, r.he⟩
  · obtain ⟨n, e'⟩ := Rel.forgot e
    obtain ⟨v, h1, h2⟩ := r.at_ j c e'
    exact ⟨v, by rw [List.getElem?_set_ne n]; exact h1, h2⟩
  · obtain ⟨n1, e1'⟩ := Rel.forgot e1
    obtain ⟨n2, e2'⟩ := Rel.forgot e2
    rw [List.getElem?_set_ne n1] at e3
    rw [List.getElem?_set_ne n2] at e4
    exact r.dist j k a o o' e1' e2' e3 e4
theorem Rel.wipe (r : Rel tp K He Hq H σ ρ) : ∀ vs : List Nat, Rel tp K He Hq H (L2.wipe σ vs) (wipeR ρ vs)
  | [] => r
  | v :: vs => by
    unfold L2.wipe wipeR
    exact (Rel.wipe r vs).set_none
theorem wipe_in {σ : L2.St} {i : Nat} : ∀ {vs : List Nat}, i ∈ vs → (L2.wipe σ vs)[i]? = if i < σ.length then some none else none
  | [], h => by simp at h
  | v :: vs, h => by
    unfold L2.wipe
    by_cases hv : v = i
    · subst hv
      by_cases hl : v < σ.length
      · rw [if_pos hl, List.getElem?_set_self (by rw [wipe_length]; exact hl)]
      · rw [if_neg hl]
        exact List.getElem?_eq_none_iff.mpr (by rw [List.length_set, wipe_length]; omega)
    · rw [List.getElem?_set_ne hv]
      exact wipe_in (by rcases List.mem_cons.mp h with z | z; exact absurd z.symm hv; exact z)
theorem wipe_off {σ σ' : L2.St} {sl vs : List Nat} (o : Off sl (L2.wipe σ vs) σ') (h : ∀ j ∈ sl, j ∈ vs) : L2.wipe σ' vs = L2.wipe σ vs := by
  have hl : σ'.length = σ.length := o.1.trans (wipe_length σ vs)
  refine List.ext_getElem? fun i => ?_
  by_cases hi : i ∈ vs
  · rw [wipe_in hi, wipe_in hi, hl]
  · rw [wipe_out hi, o.2 i (fun z => hi (h i z))]
def lcL (a : C → Ro → M Ro) (c : Ro → M Bool) (e : Ro → M C) : List PyData → Ro → List PyData → M C
  | [], _, acc => .ret (.own (.lst acc))
  | d :: ds, ρ, acc => (a (.val d) ρ).bind fun ρ1 => (c ρ1).bind fun b => if b = true then (e ρ1).bind (fun x => match x with
    | .val y => lcL a c e ds ρ (acc ++ [y])
    | _ => .fail) else lcL a c e ds ρ acc
def gLc (its : Ro → M (List PyData)) (a : C → Ro → M Ro) (c : Ro → M Bool) (e : Ro → M C) (vs : List Nat) (ρ : Ro) : M C := (its ρ).bind fun ds => if lenOk ds.length = true then lcL a c e ds (wipeR ρ vs) [] else .fail
def gYes (_ : Ro) : M Bool := .ret true
theorem rt_yes : RT K tYes gYes := fun tp He Hq ρ σ H Q r h => h H .refl r.tok
theorem re_lc {wi : TI} {g : TG} {tt : TT} {te : TE} {its : Ro → M (List PyData)} {a : C → Ro → M Ro} {c : Ro → M Bool} {e : Ro → M C} {sl vs : List Nat} {s : Bool} (hi : RI K s wi its) (hg : RG K g a sl) (hc : RT K tt c) (he : RE K te e)
    (hs : ∀ j ∈ sl, j ∈ vs) : RE K (tLc wi g tt te vs) (gLc its a c e vs) := by
  intro tp He Hq ρ σ H Q r h
  refine hi tp He Hq ρ σ H _ r (wp0_mono (fun ds hd => ?_) (wp0_bind.mp h))
  intro J H1 pa g1 t1 f w np _ D hD
  by_cases hz : lenOk ds.length = true
  case neg =>
    rw [if_neg hz] at hd
    exact hd.elim
  rw [if_pos hz] at hd
  have hz' : ds.length ≤ sizeLine := lenOk_le hz
  have r1 := r.go g1 t1
  have tD : TNe tp D := t1.tne hD
  have upG : ∀ {H2 : Hp} {o : HO}, GrT tp H1 H2 → GrT tp H1 (upd H2 D o) := fun {H2 o} g b u e n => by
    have hne : b ≠ D := fun z => by subst z; rw [hD] at e; cases e
    rw [upd_ne hne]
    exact g b u e n
  have upT : ∀ {H2 : Hp} {o : HO}, TOk tp H2 → TOk tp (upd H2 D o) := fun {H2 o} t a l e => (t a l e).upd (tD a l e).1 (tD a l e).2
  refine ⟨fun i m H' => m = ds.length - i ∧ i ≤ ds.length ∧ ∃ acc vsa, H' D = some (.lst vsa) ∧ VlAll K H' vsa acc ∧ lfAll acc = true ∧ acc.length ≤ i ∧ GrT tp H1 H' ∧ TOk tp H' ∧ wp0 (lcL a c e (ds.drop i) (wipeR ρ vs) acc) (Post tp K H Q),
    ⟨ds.length, rfl, Nat.zero_le _, [], [], upd_same, .nil, rfl, Nat.le_refl _, upG .refl, upT t1, hd⟩, ?_⟩
  rintro i m H' ⟨rfl, hi, acc, vsa, eD, hda, fa, hl, g', t', h'⟩
  obtain ⟨st, go⟩ := w H' (g'.im t1) (fun p hp o e => g' p o e (np p hp))
  by_cases hlt : i < ds.length
  · obtain ⟨d, hd'⟩ : ∃ d, ds[i]? = some d := ⟨ds[i], List.getElem?_eq_getElem hlt⟩
    obtain ⟨go1, yl⟩ := go i d hd'
    have ed : ds.drop i = d :: ds.drop (i + 1) := by
      rw [List.drop_eq_getElem_cons hlt]
      have : ds[i] = d := by rw [List.getElem?_eq_getElem hlt] at hd'; exact Option.some.inj hd'
      rw [this]
    rw [ed] at h'
    refine .inr ⟨go1, fun H2 => ∃ acc vsa, H2 D = some (.lst vsa) ∧ VlAll K H2 vsa acc ∧ lfAll acc = true ∧ acc.length ≤ i + 1 ∧ GrT tp H1 H2 ∧ TOk tp H2 ∧ wp0 (lcL a c e (ds.drop (i + 1)) (wipeR ρ vs) acc) (Post tp K H Q),
      fun H2 ⟨acc, vsa, q⟩ => ⟨ds.length - (i + 1), by omega, rfl, hlt, acc, vsa, q⟩, fun x H2 y => ?_⟩
    obtain ⟨sm, dp⟩ := yl x H2 y
    have rw' := ((r1.go g' t').wipe vs)
    refine hg tp He Hq _ _ H' H2 x (.val d) _ rw' (.of sm) (t'.same sm) ⟨dp, lfAll_get f hd'⟩ (wp0_mono (fun ρ1 h1 => ?_) (wp0_bind.mp (show wp0 ((a (.val d) (wipeR ρ vs)).bind _) _ from h')))
    intro σ2 off r2
    refine ⟨wipe_off off hs, ?_⟩
    refine hc tp He Hq ρ1 σ2 H2 _ r2 (wp0_mono (fun b hb => ?_) (wp0_bind.mp h1))
    intro H3 g3 t3
    have g13 : GrT tp H1 H3 := (g'.trans (.of sm)).trans g3
    have eD3 : H3 D = some (.lst vsa) := g3 D _ (sm D _ eD) tD.ne
    have im3 : Im H' H3 := (Im.same sm).trans (g3.im (t'.same sm))
    cases b with
    | true =>
      rw [if_pos rfl] at hb ⊢
      refine he tp He Hq ρ1 σ2 H3 _ (r2.go g3 t3) (wp0_mono (fun z hz => ?_) (wp0_bind.mp hb))
      intro v H4 g4 t4 rc
      have eD4 : H4 D = some (.lst vsa) := g4 D _ eD3 tD.ne
      have im4 : Im H' H4 := im3.trans (g4.im t3)
      cases z with
      | val y =>
        have hd4 := hda.imlf im4 acc _ fa
        refine ⟨vsa, eD4, ?_, acc ++ [y], vsa ++ [v], upd_same, ?_, lfAll_app fa (rfl), by rw [List.length_append]; simp; omega, upG (g13.trans g4), upT t4, hz⟩
        · rw [hd4.len]; omega
        · exact (hd4.app (.cons rc.1 .nil)).imlf (Im.set eD4) _ _ (lfAll_app fa (rfl))
      | own o => exact hz.elim
      | bor o => exact hz.elim
      | tape => exact hz.elim
    | false =>
      rw [if_neg Bool.false_ne_true] at hb ⊢
      exact ⟨acc, vsa, eD3, hda.imlf im3 acc _ fa, fa, by omega, g13, t3, hb⟩
  · have e1 : i = ds.length := by omega
    subst e1
    rw [List.drop_length] at h'
    exact .inl ⟨st, (show Post tp K H Q (.own (.lst acc)) from h') _ H' (g1.trans g') t' ⟨D, rfl, g1.free t1 hD, tD, vsa, eD, hda, fa⟩⟩
/-! ### a list of one's own, changed -/
def mApp (i : Nat) (g : Ro → M C) (ρ : Ro) : M Res := match ρ[i]? with
  | some (some (.own (.lst ds))) => (g ρ).bind fun c => (match c with
    | .val d => if lenOk (ds.length + 1) = true then .ret (.nx (setOwn i (ds ++ [d]) ρ)) else .fail
    | _ => .fail)
  | _ => .fail
theorem rs_app {i : Nat} {te : TE} {g : Ro → M C} (h1 : RE K te g) : RS K (tDrop (tBM K "list" rAppend (tVar i) (tCons te tNil))) (mApp i g) := by
  intro tp He Hq ρ σ H D r h
  unfold mApp at h
  split at h
  · rename_i ds e
    obtain ⟨a, vs, hs, hl, hd, hf, _⟩ := r.own (vs' := []) (ds' := []) e
    refine ⟨_, hs, .inl ⟨rfl, vs, SqL.of hl⟩, h1 tp He Hq ρ σ H _ r (wp0_mono (fun c hc => ?_) (wp0_bind.mp h))⟩
    intro x H1 g1 t1 rx
    split at hc
    · rename_i d
      obtain ⟨a', vs', hs', hl', hd', hf', up⟩ := (r.go g1 t1).own (vs' := []) (ds' := []) e
      split at hc
      · rename_i l
        refine ⟨a', vs', x, ?_, rfl, hl', by rw [hd'.len]; have := lenOk_le l; omega, ?_⟩
        · rw [hs] at hs'; cases hs'; rfl
        · exact hc σ _ Hq .refl (up _ _ (hd'.app (.cons rx.1 .nil)) (lfAll_app hf' (rfl)))
      · exact hc.elim
    · exact hc.elim
  · exact h.elim
/-- xs[i] = e -/
def mSetAt (i : Nat) (g gi : Ro → M C) (ρ : Ro) : M Res := match ρ[i]? with
  | some (some (.own (.lst ds))) => (g ρ).bind fun c => (gi ρ).bind fun k => (match c, k with
    | .val d, .val (.int j) => (match ixN ds.length j with
      | some n => .ret (.nx (setOwn i (ds.set n d) ρ))
      | none => .fail)
    | _, _ => .fail)
  | _ => .fail
theorem rs_setAt {i : Nat} {te ti : TE} {g gi : Ro → M C} (h1 : RE K te g) (h2 : RE K ti gi) : RS K (tAsg te (gSub (tVar i) ti rSetL)) (mSetAt i g gi) := by
  intro tp He Hq ρ σ H D r h
  unfold mSetAt at h
  split at h
  · rename_i ds e
    refine h1 tp He Hq ρ σ H _ r (wp0_mono (fun c hc => ?_) (wp0_bind.mp h))
    intro x H1 g1 t1 rx
    have r1 := r.go g1 t1
    obtain ⟨a, vs, hs, hl, hd, hf, _⟩ := r1.own (vs' := []) (ds' := []) e
    refine ⟨_, hs, h2 tp He Hq ρ σ H1 _ r1 (wp0_mono (fun k hk => ?_) (wp0_bind.mp hc))⟩
    intro y H2 g2 t2 ry
    split at hk
    · rename_i d j
      cases ry.int
      obtain ⟨a', vs', hs', hl', hd', hf', up⟩ := (r1.go g2 t2).own (vs' := []) (ds' := []) e
      have rx2 := rx.gr g2 t1
      split at hk
      · rename_i n en
        refine ⟨a', vs', j, n, ?_, rfl, hl', by rw [hd'.len]; exact en, ?_⟩
        · rw [hs] at hs'; cases hs'; rfl
        · exact hk σ _ Hq .refl (up _ _ (hd'.set n rx2.1) (lfAll_set n hf' rx2.2))
      · exact hk.elim
    · exact hk.elim
  · exact h.elim
/-- xs.insert(i, e), dropped -/
def rIns : V → List V → Hp → VK → Prop := fun x vs H Q => ∃ (l : Addr) (xs : List V) (i : Int) (y : V), x = .ref l ∧ vs = [.int i, y] ∧ H l = some (.lst xs) ∧ xs.length < sizeLine ∧ 0 ≤ i ∧ i < 2 ^ 63 ∧
    Q .non (upd H l (.lst (xs.take i.toNat ++ [y] ++ xs.drop i.toNat)))
theorem mt_ins {X : Cx} : MtR X "list.insert" rIns := mt_insert
def mIns (i : Nat) (gs : Ro → M (List C)) (ρ : Ro) : M Res := match ρ[i]? with
  | some (some (.own (.lst ds))) => (gs ρ).bind fun cs => (match cs with
    | [.val (.int j), .val d] => if (decide (0 ≤ j) && (decide (j < 9223372036854775808) && lenOk (ds.length + 1))) = true then .ret (.nx (setOwn i (ds.take j.toNat ++ [d] ++ ds.drop j.toNat) ρ)) else .fail
    | _ => .fail)
  | _ => .fail
theorem rs_ins {i : Nat} {ta : TA} {gs : Ro → M (List C)} (h1 : RA K ta gs) : RS K (tDrop (tBM K "list" rIns (tVar i) ta)) (mIns i gs) := by
  intro tp He Hq ρ σ H D r h
  unfold mIns at h
  split at h
  · rename_i ds e
    obtain ⟨a, vs, hs, hl, hd, hf, _⟩ := r.own (vs' := []) (ds' := []) e
    refine ⟨_, hs, .inl ⟨rfl, vs, SqL.of hl⟩, h1 tp He Hq ρ σ H _ r (wp0_mono (fun cs hc => ?_) (wp0_bind.mp h))⟩
    intro xs H1 g1 t1 rx
    split at hc
    · rename_i j d
      obtain ⟨v, y, rfl, q1, q2⟩ := rx.two
      cases q1.int
      obtain ⟨a', vs', hs', hl', hd', hf', up⟩ := (r.go g1 t1).own (vs' := []) (ds' := []) e
      split at hc
      · rename_i l
        simp only [Bool.and_eq_true, decide_eq_true_eq] at l
        refine ⟨a', vs', j, y, ?_, rfl, hl', by rw [hd'.len]; have := lenOk_le l.2.2; omega, l.1, l.2.1, ?_⟩
        · rw [hs] at hs'; cases hs'; rfl
        · exact hc σ _ Hq .refl (up _ _ (((hd'.take _).app (.cons q2.1 .nil)).app (hd'.drop _)) (lfAll_app (lfAll_app (lfAll_take _ hf') (rfl)) (lfAll_drop _ hf')))
      · exact hc.elim
    · exact hc.elim
  · exact h.elim
/-- xs.pop(i), dropped -/
def mPop (i : Nat) (g : Ro → M C) (ρ : Ro) : M Res := match ρ[i]? with
  | some (some (.own (.lst ds))) => (g ρ).bind fun c => (match c with
    | .val (.int j) => if (decide (-9223372036854775808 ≤ j) && decide (j < 9223372036854775808)) = true then (match seqIndex? j ds.length with
      | some k => if k < ds.length then .ret (.nx (setOwn i (ds.eraseIdx k) ρ)) else .fail
      | none => .fail) else .fail
    | _ => .fail)
  | _ => .fail
theorem dp_erase : ∀ {vs : List V} {ds : List PyData} (k : Nat), VlAll K H vs ds → VlAll K H (vs.eraseIdx k) (ds.eraseIdx k)
  | _, _, _, .nil => .nil
  | _, _, 0, .cons h1 h2 => h2
  | _, _, k + 1, .cons h1 h2 => .cons h1 (dp_erase k h2)
theorem lf_erase {ds : List PyData} (k : Nat) (f : lfAll ds = true) : lfAll (ds.eraseIdx k) = true := lfAll_iff.mpr fun d m => lfAll_iff.mp f d (List.mem_of_mem_eraseIdx m)
theorem rs_pop {i : Nat} {te : TE} {g : Ro → M C} (h1 : RE K te g) : RS K (tDrop (tBM K "list" rPopAt (tVar i) (tCons te tNil))) (mPop i g) := by
  intro tp He Hq ρ σ H D r h
  unfold mPop at h
  split at h
  · rename_i ds e
    obtain ⟨a, vs, hs, hl, hd, hf, _⟩ := r.own (vs' := []) (ds' := []) e
    refine ⟨_, hs, .inl ⟨rfl, vs, SqL.of hl⟩, h1 tp He Hq ρ σ H _ r (wp0_mono (fun c hc => ?_) (wp0_bind.mp h))⟩
    intro x H1 g1 t1 rx
    split at hc
    · rename_i j
      cases rx.int
      obtain ⟨a', vs', hs', hl', hd', hf', up⟩ := (r.go g1 t1).own (vs' := []) (ds' := []) e
      split at hc
      · rename_i l
        simp only [Bool.and_eq_true, decide_eq_true_eq] at l
        split at hc
        · rename_i k ek
          split at hc
          · rename_i lk
            obtain ⟨y, hy⟩ : ∃ y, vs'[k]? = some y := ⟨vs'[k]'(by rw [hd'.len]; exact lk), List.getElem?_eq_getElem _⟩
            refine ⟨a', vs', j, k, y, ?_, rfl, hl', l.1, l.2, by rw [hd'.len]; exact ek, hy, ?_⟩
            · rw [hs] at hs'; cases hs'; rfl
            · exact hc σ _ Hq .refl (up _ _ (dp_erase k hd') (lf_erase k hf'))
          · exact hc.elim
        · exact hc.elim
      · exact hc.elim
    · exact hc.elim
  · exact h.elim
/-! ### defs -/
def spU (K : PySem.W.Frag) (f : List C → M C) : Sp := fun vs H Q _ => ∃ tp cs, TOk tp H ∧ RCs tp K H H vs cs ∧ (∀ c ∈ cs, ∀ o, c ≠ .own o) ∧ wp0 (f cs) (Post tp K H Q)
theorem RCs.lend : ∀ {vs : List V} {cs : List C}, RCs tp K H0 H vs cs → RCs tp K H1 H vs (cs.map C.lend)
  | [], [], _ => trivial
  | v :: vs, c :: cs, h => ⟨h.1.lend, RCs.lend h.2⟩
  | [], _ :: _, h => h.elim
  | _ :: _, [], h => h.elim
theorem RCs.len : ∀ {vs : List V} {cs : List C}, RCs tp K H0 H vs cs → vs.length = cs.length
  | [], [], _ => rfl
  | v :: vs, c :: cs, h => by rw [List.length_cons, List.length_cons, RCs.len h.2]
  | [], _ :: _, h => h.elim
  | _ :: _, [], h => h.elim
theorem RCs.get : ∀ {vs : List V} {cs : List C} {i : Nat} {c : C}, RCs tp K H0 H vs cs → cs[i]? = some c → ∃ v, vs[i]? = some v ∧ RC tp K H0 H v c
  | [], [], _, _, _, e => by simp at e
  | v :: vs, c :: cs, 0, _, h, e => by simp at e; subst e; exact ⟨v, rfl, h.1⟩
  | v :: vs, c :: cs, i + 1, _, h, e => by
    obtain ⟨u, h1, h2⟩ := RCs.get (i := i) h.2 (by simpa using e)
    exact ⟨u, by simpa using h1, h2⟩
  | [], _ :: _, _, _, h, _ => h.elim
  | _ :: _, [], _, _, h, _ => h.elim
def gFn (f : List C → M C) (gs : Ro → M (List C)) (ρ : Ro) : M C := (gs ρ).bind fun cs => f (cs.map C.lend)
theorem re_fn {f : List C → M C} {t : TA} {gs : Ro → M (List C)} (h1 : RA K t gs) : RE K (tFn (spU K f) t) (gFn f gs) := by
  intro tp He Hq ρ σ H Q r h
  refine h1 tp He Hq ρ σ H _ r (wp0_mono (fun cs hc => ?_) (wp0_bind.mp h))
  intro vs H1 g1 t1 rx
  refine ⟨tp, cs.map C.lend, t1, rx.lend, fun c m o z => ?_, wp0_mono (fun c hc => hc.after g1 t1) hc⟩
  obtain ⟨c', _, e⟩ := List.mem_map.mp m
  subst z
  cases c' <;> cases e
/-- a drawn number -/
def drawC : List C → M C
  | [.tape, .val (.int m)] => if decide (m ≤ 1000000000) = true then .draw m fun v => .ret (.val (.int v)) else .fail
  | _ => .fail
theorem re_draw {t : TA} {gs : Ro → M (List C)} (h1 : RA K t gs) : RE K (tFn (sp_law_draw K) t) (gCall drawC gs) := by
  intro tp He Hq ρ σ H Q r h
  refine h1 tp He Hq ρ σ H _ r (wp0_mono (fun cs hc => ?_) (wp0_bind.mp h))
  intro vs H1 g1 t1 rx
  unfold drawC at hc
  split at hc
  · rename_i m
    obtain ⟨v, w, rfl, q1, q2⟩ := rx.two
    cases q2.int
    obtain ⟨t, l, rfl, rfl⟩ := q1
    split at hc
    · rename_i lm
      refine ⟨t, l, m, rfl, t1 t l rfl, of_decide_eq_true lm, fun v H' T al h0 h2 => hc v h0 h2 _ H' (g1.trans fun b o e n => ?_) (fun t' l' e => by cases e; exact T) ⟨.int v, rfl⟩⟩
      rw [al b (fun z => n (by simp [z]))]
      exact e
    · exact hc.elim
  · exact hc.elim
def Res.out : Res → M C
  | .rt c => .ret c
  | .nx _ => .ret (.val .none)
  | _ => .fail
/-- a def: n parameters, k further names -/
def fnU (n k : Nat) (m : Ro → M Res) (cs : List C) : M C := if cs.length = n then (m (cs.map some ++ List.replicate k none)).bind Res.out else .fail
theorem start_rel {vs : List V} {cs : List C} {N : List Str} {k : Nat} (t : TOk tp H) (rc : RCs tp K H H vs cs) (no : ∀ c ∈ cs, ∀ o, c ≠ .own o) (hN : N.length - vs.length = k) :
    Rel tp K H H H (L2.start N vs) (cs.map some ++ List.replicate k none) := by
  have hl := rc.len
  have at1 : ∀ {i : Nat} {c : C}, (cs.map some ++ List.replicate k none)[i]? = some (some c) → cs[i]? = some c := fun {i c} e => by
    by_cases hi : i < cs.length
    · rw [List.getElem?_append_left (by simpa using hi), List.getElem?_map] at e
      cases q : cs[i]? with
      | none => rw [q] at e; cases e
      | some c' => rw [q] at e; cases e; rfl
    · rw [List.getElem?_append_right (by simpa using hi), List.getElem?_replicate] at e
      split at e <;> cases e
  refine ⟨?_, fun i c e => ?_, fun i j a o o' e1 => ?_, .refl, .refl, t, fun a l e => ?_⟩
  · unfold L2.start
    simp only [List.length_append, List.length_map, List.length_replicate]
    omega
  · obtain ⟨v, h1, h2⟩ := rc.get (at1 e)
    refine ⟨v, ?_, ?_⟩
    · unfold L2.start
      rw [List.getElem?_append_left (by simpa using (List.getElem?_eq_some_iff.mp h1).1), List.getElem?_map, h1]
      rfl
    · cases c with
      | val d => exact h2
      | own o => exact absurd rfl (no _ (List.mem_of_getElem? (at1 e)) o)
      | bor o => exact h2
      | tape => exact h2
  · exact absurd rfl (no _ (List.mem_of_getElem? (at1 e1)) o)
  · obtain ⟨xs, h⟩ := (t a l e).list
    exact .inr ⟨xs, h⟩
theorem Df.uni {P : Program} {w : World} {mg : Str → Option Value} {base : Heap} {x : Str} {st : Stmt} {N ps : List Str} {k n : Nat} {m : Ro → M Res} (A : At K mg x st)
    (bd : ∀ (kV doc pm : Value) (an : Option Addr) (cdv ct : Value) (us : List Value), us.length = ps.length → bindArgs (PySem.W.fnOf x x (defArgs st) (defBody st) (defScope st) .none kV doc pm an cdv ct) ⟨us, []⟩ = pure (ps.zip us))
    (S : FnScope N ps (defScope st)) (hn : N.length - ps.length = n)
    (body : ∀ (cdv : Value) (A : Around) (out : List Env) (f : Addr) (s : Shared) (H : Hp) (E : XK), Room k (A.deeper (envOfC x (defScope st) s.heap.objs.size f cdv)) → A.guards = some [] →
      ∃ t, PSs (cxG P w K mg base N x (defScope st) f cdv A out s H E) (defBody st) t ∧ RS K t m) :
    Df P w K mg base (k + 1) x ps (spU K (fnU ps.length n m)) := by
  refine Df.of A bd S (fun vs H Q E h => ?_) (fun cdv A out f s H vs Q E hr hg h => ?_)
  · obtain ⟨tp, cs, t, rc, no, h⟩ := h
    unfold fnU at h
    split at h
    · rename_i e
      rw [rc.len, e]
    · exact h.elim
  · obtain ⟨tp, cs, t, rc, no, h⟩ := h
    obtain ⟨t', h1, h2⟩ := body cdv A out f s H E hr hg
    refine ⟨t', h1, ?_⟩
    unfold fnU at h
    split at h
    · rename_i e
      refine h2 tp H H _ _ H _ (start_rel t rc no (by rw [rc.len, e]; exact hn)) (wp0_mono (fun q hq => ?_) (wp0_bind.mp h))
      cases q with
      | nx ρ' => exact fun σ' H' Hq' g' r' => hq .non H' (r'.sub.trans r'.gr) r'.tok ⟨.non, rfl⟩
      | rt c => exact hq
      | bk _ => exact hq.elim
      | ct _ => exact hq.elim
    · exact h.elim
/-- the law's own def: the tape is made, then the rest runs from it -/
theorem law_rel {a t l : Addr} {ns : List Int} {k : Nat} (T : TapeAt H t l) (g : Same H0 H) (n : H0 t = none) : Rel (some (t, l)) K H0 H0 H ([some (.ref a), some (.ref t)] ++ List.replicate k none) ([none, some .tape] ++ List.replicate k none) := by
  have at1 : ∀ {i : Nat} {c : C}, (([none, some .tape] : Ro) ++ List.replicate k none)[i]? = some (some c) → i = 1 ∧ c = .tape := fun {i c} e => by
    match i, e with
    | 0, e => cases e
    | 1, e => cases e; exact ⟨rfl, rfl⟩
    | i + 2, e =>
      rw [List.getElem?_append_right (by simp), List.getElem?_replicate] at e
      split at e <;> cases e
  refine ⟨by simp, fun i c e => ?_, fun i j b o o' e1 => ?_, .refl, .of g, fun t' l' e => by cases e; exact T, fun t' l' e => by cases e; exact .inl n⟩
  · obtain ⟨rfl, rfl⟩ := at1 e
    exact ⟨.ref t, rfl, t, l, rfl, rfl⟩
  · obtain ⟨_, z⟩ := at1 e1
    cases z
theorem law_go {t : TS} {m : Ro → M Res} {H : Hp} {a : Addr} {k : Nat} {D : Ends} {ns : List Int} (h : RS K t m) (hS : SqL K H a (ns.map V.int)) (hl : ns.length ≤ 63)
    (pure_ : wp0 (m ([none, some .tape] ++ List.replicate k none)) fun r => r = .rt (.val (.bool true))) (q : ∀ H', D.rt (.bl true) H') :
    tSeq (tAsg (tFn (sp_law_tape K) (tCons (tVar 0) tNil)) (gName 1)) t D ([some (.ref a), none] ++ List.replicate k none) H := by
  refine ⟨_, rfl, a, ns, rfl, hS, hl, fun tt l H1 sm T nt nl => ?_⟩
  refine h (some (tt, l)) H H _ _ H1 D (law_rel (ns := ns) T sm nt) (wp0_mono (fun r e => ?_) pure_)
  subst e
  intro v H' _ _ rc
  cases rc.bl
  exact q H'
end
end Cs
namespace Cs
open PySem PySem.Spec PyProof.Rows L2
theorem u65 {k : Nat} {A : Around} (r : Room k A) : A.units + 65 < cLine := by have := r.un; omega
end Cs

set_option maxRecDepth 100000
set_option maxHeartbeats 4000000
/-! isinstance, is of bools, list(range ..), reversed -/
namespace Cs
open PySem PySem.Spec PyProof.Rows L2
section
variable {tp : Option (Addr × Addr)} {K : PySem.W.Frag} {H H' H'' H0 H1 He : Hp} {Hq : Hp} {σ : L2.St} {ρ : Ro}
theorem isiK (K : PySem.W.Frag) {X : Cx} (h : X.K = K := by rfl) : CallR X (.builtin "isinstance") (rIsi K) := h ▸ call_isi
def tyD : PyData → Option String
  | .none => some "NoneType"
  | .bool _ => some "bool"
  | .int _ => some "int"
  | .str _ => some "str"
  | _ => none
def isiT (T : String) : Option String → M C
  | some s => (match kitB s T with
    | some b => .ret (.val (.bool b))
    | none => .fail)
  | none => .fail
def oIsi (T : String) : C → M C
  | .val d => isiT T (tyD d)
  | _ => .fail
theorem kit_bool_int : kitB "bool" "int" = some true := by decide +kernel
theorem kit_int_int : kitB "int" "int" = some true := by decide +kernel
theorem kit_int_bool : kitB "int" "bool" = some false := by decide +kernel
theorem kit_bool_bool : kitB "bool" "bool" = some true := by decide +kernel
theorem kit_none_int : kitB "NoneType" "int" = some false := by decide +kernel
theorem kit_str_str : kitB "str" "str" = some true := by decide +kernel
theorem kit_none_bool : kitB "NoneType" "bool" = some false := by decide +kernel
theorem re_isi {T : String} {ta : TE} {g : Ro → M C} (h1 : RE K ta g) : RE K (tCB (rIsi K) (tCons ta (tCons (tC (.ty T)) tNil))) (gUn (oIsi T) g) := by
  intro tp He Hq ρ σ H Q r h
  refine h1 tp He Hq ρ σ H _ r (wp0_mono (fun c hc => ?_) (wp0_bind.mp h))
  intro x H1 g1 t1 rx
  cases c with
  | val d =>
    have key : ∀ {s : String}, TyOf K H1 x (.type s) → wp0 (isiT T (some s)) (Post tp K H Q) → rIsi K [x, .ty T] H1 Q := fun {s} ty h => by
      unfold isiT at h
      dsimp only at h
      split at h
      · rename_i b e
        exact ⟨x, .ty T, .type s, .type T, b, rfl, .ty T, .base ty, kit_ty e, Post.bl h g1 t1⟩
      · exact h.elim
    obtain ⟨hd, _⟩ := rx
    cases hd with
    | non => exact key .non hc
    | bl b => exact key (.bl b) hc
    | int i => exact key (.int i) hc
    | str s => exact key (.str s) hc
    | lst _ _ => exact hc.elim
    | tup _ _ => exact hc.elim
  | own o => exact hc.elim
  | bor o => exact hc.elim
  | tape => exact hc.elim
/-! is -/
def rIsU (n : Bool) : R2 := fun x y H Q => (y = .non ∧ Q (.bl (n ^^ decide (x = .non))) H) ∨ ∃ a b, x = .bl a ∧ y = .bl b ∧ Q (.bl (n ^^ decide (a = b))) H
theorem opIs {X : Cx} : OpR X (compareOp .Is) (rIsU false) := by
  intro pins s σ H x y v u Q I rx ry h
  rcases h with ⟨e, q⟩ | ⟨a, b, e1, e2, q⟩
  · rw [Bool.false_xor] at q
    exact op_isN pins s σ H x y v u Q I rx ry ⟨e, q⟩
  · rw [Bool.false_xor] at q
    exact op_is_bl pins s σ H x y v u Q I rx ry ⟨a, b, e1, e2, q⟩
theorem opIsNot {X : Cx} : OpR X (compareOp .IsNot) (rIsU true) := by
  intro pins s σ H x y v u Q I rx ry h
  rcases h with ⟨e, q⟩ | ⟨a, b, e1, e2, q⟩
  · rw [Bool.true_xor] at q
    exact op_notN pins s σ H x y v u Q I rx ry ⟨e, q⟩
  · rw [Bool.true_xor] at q
    exact op_isnot_bl pins s σ H x y v u Q I rx ry ⟨a, b, e1, e2, q⟩
def oIsX (n : Bool) : C → C → M C
  | a, .val .none => .ret (.val (.bool (n ^^ a.isN)))
  | .val (.bool a), .val (.bool b) => .ret (.val (.bool (n ^^ decide (a = b))))
  | _, _ => .fail
theorem os_isX {n : Bool} : OpS K (rIsU n) (oIsX n) := by
  intro tp H0 H x y cx cy Q g t rx ry h
  unfold oIsX at h
  split at h
  · cases ry.non
    exact .inl ⟨rfl, by rw [rx.isN]; exact Post.bl h g t⟩
  · rename_i a b
    cases rx.bl; cases ry.bl
    exact .inr ⟨a, b, rfl, rfl, Post.bl h g t⟩
  · exact h.elim
/-! list(range(..)), tuple(range(..)) -/
def RR (K : PySem.W.Frag) (t : L2.St → Hp → (Int → Int → Hp → Prop) → Prop) (g : Ro → M (Int × Int)) : Prop := ∀ tp He Hq ρ σ H (Q : Int → Int → Hp → Prop), Rel tp K He Hq H σ ρ → wp0 (g ρ) (fun p => ∀ H', GrT tp H H' → TOk tp H' → Q p.1 p.2 H') → t σ H Q
def gR1 (g : Ro → M C) (ρ : Ro) : M (Int × Int) := (g ρ).bind fun c => match c with
  | .val (.int j) => .ret (0, j)
  | _ => .fail
theorem rr_1 {ta : TE} {g : Ro → M C} (h1 : RE K ta g) : RR K (tRg1 ta) (gR1 g) := by
  intro tp He Hq ρ σ H Q r h
  refine h1 tp He Hq ρ σ H _ r (wp0_mono (fun c hc => ?_) (wp0_bind.mp h))
  intro x H1 g1 t1 rx
  split at hc
  · cases rx.int
    exact ⟨_, rfl, hc H1 g1 t1⟩
  · exact hc.elim
def gR2 (g1 g2 : Ro → M C) (ρ : Ro) : M (Int × Int) := (g1 ρ).bind fun c => (g2 ρ).bind fun d => match c, d with
  | .val (.int i), .val (.int j) => .ret (i, j)
  | _, _ => .fail
theorem rr_2 {ta tb : TE} {g1 g2 : Ro → M C} (h1 : RE K ta g1) (h2 : RE K tb g2) : RR K (tRg2 ta tb) (gR2 g1 g2) := by
  intro tp He Hq ρ σ H Q r h
  refine h1 tp He Hq ρ σ H _ r (wp0_mono (fun c hc => ?_) (wp0_bind.mp h))
  intro x H1 e1 t1 rx
  refine h2 tp He Hq ρ σ H1 _ (r.go e1 t1) (wp0_mono (fun d hd => ?_) (wp0_bind.mp hc))
  intro y H2 e2 t2 ry
  split at hd
  · cases rx.int; cases ry.int
    exact ⟨_, _, rfl, rfl, hd H2 (e1.trans e2) t2⟩
  · exact hd.elim
theorem dp_rgV (a b : Int) : VlAll K H (rgV a b) (rngD a 1 (b - a).toNat) := by
  unfold rgV rngD
  generalize List.range (b - a).toNat = l
  induction l with
  | nil => exact .nil
  | cons i l ih =>
    rw [List.map_cons, List.map_cons, Int.mul_one]
    exact .cons (.int _) ih
def rgOk (a b : Int) : Bool := rngOk a && (rngOk b && lenOk (b - a).toNat)
theorem rgOk_of {a b : Int} (h : rgOk a b = true) : RgOk a b := by
  simp only [rgOk, Bool.and_eq_true] at h
  obtain ⟨h1, h2⟩ := rngOk_of h.1
  obtain ⟨h3, h4⟩ := rngOk_of h.2.1
  exact ⟨h1, h2, h3, h4, by have := of_decide_eq_true h.2.2; omega⟩
def gLstRg (g : Ro → M (Int × Int)) (ρ : Ro) : M C := (g ρ).bind fun p => if rgOk p.1 p.2 = true then .ret (.own (.lst (rngD p.1 1 (p.2 - p.1).toNat))) else .fail
def gTupRg (g : Ro → M (Int × Int)) (ρ : Ro) : M C := (g ρ).bind fun p => if rgOk p.1 p.2 = true then .ret (.val (.tuple (rngD p.1 1 (p.2 - p.1).toNat))) else .fail
theorem re_lstRg {te : L2.St → Hp → (Int → Int → Hp → Prop) → Prop} {g : Ro → M (Int × Int)} (h1 : RR K te g) : RE K (tLstRg te) (gLstRg g) := by
  intro tp He Hq ρ σ H Q r h
  refine h1 tp He Hq ρ σ H _ r (wp0_mono (fun p hp => ?_) (wp0_bind.mp h))
  intro H1 g1 t1
  split at hp
  · rename_i l
    exact ⟨rgOk_of l, fun q hq => Post.lst hp g1 t1 hq (dp_rgV _ _) (lf_rng _ _ _)⟩
  · exact hp.elim
theorem re_tupRg {te : L2.St → Hp → (Int → Int → Hp → Prop) → Prop} {g : Ro → M (Int × Int)} (h1 : RR K te g) : RE K (tTupRg te) (gTupRg g) := by
  intro tp He Hq ρ σ H Q r h
  refine h1 tp He Hq ρ σ H _ r (wp0_mono (fun p hp => ?_) (wp0_bind.mp h))
  intro H1 g1 t1
  split at hp
  · rename_i l
    exact ⟨rgOk_of l, fun q hq => Post.tup hp g1 t1 hq (dp_rgV _ _) (lf_rng _ _ _)⟩
  · exact hp.elim
/-! range(a, b, c) -/
def rg3N (i j c : Int) : Nat := ((j - i + c - 1) / c).toNat
end
end Cs

set_option maxRecDepth 100000
set_option maxHeartbeats 4000000
/-! reckoning with plain programs -/
namespace Cs
open PySem PySem.Spec PyProof.Rows L2
variable {α β γ : Type}
@[irreducible] def wp (m : M α) (Q : α → Prop) : Prop := wp0 m Q
theorem wp_def {m : M α} {Q : α → Prop} : wp m Q = wp0 m Q := by unfold wp; rfl
theorem wp_out {m : M α} {Q : α → Prop} (h : wp m Q) : wp0 m Q := by rw [← wp_def]; exact h
theorem wp_mono {Q Q' : α → Prop} (h : ∀ a, Q a → Q' a) {m : M α} : wp m Q → wp m Q' := by rw [wp_def, wp_def]; exact wp0_mono h
theorem wp_bind {f : α → M β} {Q : β → Prop} {m : M α} : wp (m.bind f) Q ↔ wp m fun a => wp (f a) Q := by simp only [wp_def]; exact wp0_bind
theorem wp_failE {Q : α → Prop} : wp (.fail : M α) Q = False := by rw [wp_def]; rfl
theorem wp_retE {a : α} {Q : α → Prop} : wp (.ret a) Q = Q a := by rw [wp_def]; rfl
theorem wp_drawE {m : Int} {k : Int → M α} {Q : α → Prop} : wp (.draw m k) Q = ∀ v, 0 ≤ v → v < max m 1 → wp (k v) Q := by simp only [wp_def]; rfl
theorem wp_bindE {m : M α} {f : α → M β} {Q : β → Prop} : wp (m.bind f) Q = wp m fun a => wp (f a) Q := propext wp_bind
theorem wp_anyE {p : PyData → Prop} {k : PyData → M α} {Q : α → Prop} : wp (.any p k) Q = ∀ d, p d → wp (k d) Q := by simp only [wp_def]; rfl
theorem anyB (p : PyData → Prop) (k : PyData → M α) (f : α → M β) : (M.any p k).bind f = .any p fun v => (k v).bind f := (rfl)
theorem bind_bind (m : M α) (f : α → M β) (g : β → M γ) : (m.bind f).bind g = m.bind fun a => (f a).bind g := M.bind_assoc f g m
theorem retB (a : α) (f : α → M β) : (M.ret a).bind f = f a := (rfl)
theorem bindR (m : M α) : (m.bind fun a => .ret a) = m := by
  induction m with
  | ret a => rfl
  | fail => rfl
  | draw m k ih => exact congrArg (M.draw m) (funext ih)
  | any p k ih => exact congrArg (M.any p) (funext ih)
theorem failB (f : α → M β) : (M.fail : M α).bind f = .fail := (rfl)
theorem drawB (m : Int) (k : Int → M α) (f : α → M β) : (M.draw m k).bind f = .draw m fun v => (k v).bind f := (rfl)
/- only what is run next is looked at -/
theorem bind_cg {m m' : M α} {f : α → M β} (h : m = m') : m.bind f = m'.bind f := by rw [h]
theorem wp_cg {m m' : M α} {Q : α → Prop} (h : m = m') : wp m Q = wp m' Q := by rw [h]
theorem draw_cg {m m' : Int} {k : Int → M α} (h : m = m') : M.draw m k = M.draw m' k := by rw [h]
theorem ite_cg {c c' : Prop} [Decidable c] [Decidable c'] {x y : M α} (h : c = c') : (if c then x else y) = if c' then x else y := by
  by_cases hc : c
  · rw [if_pos hc, if_pos (h ▸ hc)]
  · rw [if_neg hc, if_neg (h ▸ hc)]
theorem wp_call {m : M α} {k : α → M β} {Q : β → Prop} (P : α → Prop) (h : wp m P) (q : ∀ a, P a → wp (k a) Q) : wp (m.bind k) Q := wp_bind.mpr (wp_mono q h)
theorem wp_eq {m : M α} {k : α → M β} {Q : β → Prop} {a : α} (h : wp m fun x => x = a) (q : wp (k a) Q) : wp (m.bind k) Q := wp_call _ h fun x e => e ▸ q
theorem wp_ite {c : Prop} [Decidable c] {a b : M α} {Q : α → Prop} (h1 : c → wp a Q) (h2 : ¬c → wp b Q) : wp (if c then a else b) Q := by
  by_cases hc : c
  · rw [if_pos hc]; exact h1 hc
  · rw [if_neg hc]; exact h2 hc
theorem iteB {c : Prop} [Decidable c] {a b : M α} {k : α → M β} : (if c then a else b).bind k = if c then a.bind k else b.bind k := by split <;> rfl
/-! ### the programs' parts, step by step -/
variable {ρ : Ro} {g ga gb gc : Ro → M C}
def kSeq (n : Ro → M Res) : Res → M Res
  | .nx ρ' => n ρ'
  | r => .ret r
theorem kSeq_nx {n : Ro → M Res} : kSeq n (.nx ρ) = n ρ := (rfl)
theorem kSeq_rt {n : Ro → M Res} {c : C} : kSeq n (.rt c) = .ret (.rt c) := (rfl)
theorem kSeq_bk {n : Ro → M Res} : kSeq n (.bk ρ) = .ret (.bk ρ) := (rfl)
theorem kSeq_ct {n : Ro → M Res} : kSeq n (.ct ρ) = .ret (.ct ρ) := (rfl)
theorem mSeq_eq {m n : Ro → M Res} : mSeq m n ρ = (m ρ).bind (kSeq n) := by
  unfold mSeq
  congr 1
theorem mNext_eq : mNext ρ = .ret (.nx ρ) := (rfl)
theorem mBreak_eq : mBreak ρ = .ret (.bk ρ) := (rfl)
theorem mCont_eq : mCont ρ = .ret (.ct ρ) := (rfl)
theorem mDrop_eq : mDrop g ρ = (g ρ).bind fun _ => .ret (.nx ρ) := (rfl)
theorem mRet_eq : mRet g ρ = (g ρ).bind fun c => .ret (.rt c) := (rfl)
theorem mRetN_eq : mRetN ρ = .ret (.rt (.val .none)) := (rfl)
theorem mAsg_eq {a : C → Ro → M Ro} : mAsg g a ρ = (g ρ).bind fun c => (a c ρ).bind fun ρ' => .ret (.nx ρ') := (rfl)
theorem mIf_eq {t : Ro → M Bool} {m n : Ro → M Res} : mIf t m n ρ = (t ρ).bind fun b => if b = true then m ρ else n ρ := (rfl)
/-! names -/
def gAt : Option (Option C) → M C
  | some (some (.own o)) => .ret (.bor o)
  | some (some c) => .ret c
  | _ => .fail
theorem gVar_eq {i : Nat} : gVar i ρ = gAt ρ[i]? := (rfl)
theorem gAt_v {d : PyData} : gAt (some (some (.val d))) = .ret (.val d) := (rfl)
theorem gAt_o {o : PO} : gAt (some (some (.own o))) = .ret (.bor o) := (rfl)
theorem gAt_b {o : PO} : gAt (some (some (.bor o))) = .ret (.bor o) := (rfl)
theorem gAt_t : gAt (some (some .tape)) = .ret .tape := (rfl)
def rAt : Option (Option C) → M Res
  | some (some c) => .ret (.rt c)
  | _ => .fail
theorem mRetV_eq {i : Nat} : mRetV i ρ = rAt ρ[i]? := (rfl)
theorem rAt_s {c : C} : rAt (some (some c)) = .ret (.rt c) := (rfl)
def aAt (ρ : Ro) (i : Nat) (c : C) : Option (Option C) → M Ro
  | some _ => (match c with
    | .val d => .ret (ρ.set i (some (.val d)))
    | .own o => .ret (ρ.set i (some (.own o)))
    | _ => .fail)
  | none => .fail
theorem asgR_eq {i : Nat} {c : C} : asgR i c ρ = aAt ρ i c ρ[i]? := (rfl)
theorem aAt_v {i : Nat} {d : PyData} {x : Option C} : aAt ρ i (.val d) (some x) = .ret (ρ.set i (some (.val d))) := (rfl)
theorem aAt_o {i : Nat} {d : PO} {x : Option C} : aAt ρ i (.own d) (some x) = .ret (ρ.set i (some (.own d))) := (rfl)
theorem get_0 {x : Option C} : (x :: ρ)[0]? = some x := (rfl)
theorem get_s {x : Option C} {i : Nat} : (x :: ρ)[i + 1]? = ρ[i]? := (rfl)
theorem set_0' {x y : Option C} : List.set (x :: ρ) 0 y = y :: ρ := (rfl)
theorem set_s' {x y : Option C} {i : Nat} : List.set (x :: ρ) (i + 1) y = x :: List.set ρ i y := (rfl)
/-! targets -/
theorem aNil_eq : aNil [] ρ = .ret ρ := (rfl)
theorem aCons_eq {a : C → Ro → M Ro} {as : List PyData → Ro → M Ro} {d : PyData} {ds : List PyData} : aCons a as (d :: ds) ρ = (a (.val d) ρ).bind fun ρ' => as ds ρ' := (rfl)
theorem aTup_eq {n : Nat} {as : List PyData → Ro → M Ro} {ds : List PyData} : aTup n as (.val (.tuple ds)) ρ = if ds.length = n then as ds ρ else .fail := (rfl)
def kPar (i j : Nat) (ρ : Ro) : List C → M Res
  | [c, d] => (asgR i c ρ).bind fun ρ1 => (match d with
    | .own _ => (.fail : M Res)
    | d => (asgR j d ρ1).bind fun ρ2 => .ret (.nx ρ2))
  | _ => .fail
theorem mPar_eq {i j : Nat} {gs : Ro → M (List C)} : mPar i j gs ρ = (gs ρ).bind (kPar i j ρ) := by
  unfold mPar
  congr 1
theorem kPar_v {i j : Nat} {c : C} {d : PyData} : kPar i j ρ [c, .val d] = (asgR i c ρ).bind fun ρ1 => (asgR j (.val d) ρ1).bind fun ρ2 => .ret (.nx ρ2) := (rfl)
/-! expressions -/
theorem gC_eq {d : PyData} : gC d ρ = .ret (.val d) := (rfl)
theorem gaNil_eq : gaNil ρ = .ret [] := (rfl)
theorem gaCons_eq {gs : Ro → M (List C)} : gaCons g gs ρ = (g ρ).bind fun c => (gs ρ).bind fun cs => .ret (c :: cs) := (rfl)
theorem gTupE_eq {gs : Ro → M (List C)} : gTupE gs ρ = (gs ρ).bind oTup := (rfl)
theorem gLst_eq {gs : Ro → M (List C)} : gLst gs ρ = (gs ρ).bind oLst := (rfl)
theorem gOp_eq {op : C → C → M C} : gOp op ga gb ρ = (ga ρ).bind fun a => (gb ρ).bind fun b => op a b := (rfl)
theorem gUn_eq {op : C → M C} : gUn op ga ρ = (ga ρ).bind op := (rfl)
theorem gCall_eq {op : List C → M C} {gs : Ro → M (List C)} : gCall op gs ρ = (gs ρ).bind op := (rfl)
theorem gFn_eq {f : List C → M C} {gs : Ro → M (List C)} : gFn f gs ρ = (gs ρ).bind fun cs => f (cs.map C.lend) := (rfl)
theorem map_nilC : List.map C.lend [] = [] := (rfl)
theorem map_consC {c : C} {cs : List C} : List.map C.lend (c :: cs) = c.lend :: List.map C.lend cs := (rfl)
theorem lend_v {d : PyData} : C.lend (.val d) = .val d := (rfl)
theorem lend_o {d : PO} : C.lend (.own d) = .bor d := (rfl)
theorem lend_b {d : PO} : C.lend (.bor d) = .bor d := (rfl)
theorem lend_t : C.lend .tape = .tape := (rfl)
theorem gTru_eq : gTru g ρ = (g ρ).bind oTru := (rfl)
theorem gTest_eq : gTest g ρ = (g ρ).bind oBl := (rfl)
theorem oBl_b {b : Bool} : oBl (.val (.bool b)) = .ret b := (rfl)
theorem oTru_v {d : PyData} : oTru (.val d) = truD d := (rfl)
theorem oTru_o {ds : List PyData} : oTru (.own (.lst ds)) = .ret (!ds.isEmpty) := (rfl)
theorem oTru_b {ds : List PyData} : oTru (.bor (.lst ds)) = .ret (!ds.isEmpty) := (rfl)
theorem truD_n : truD .none = .ret false := (rfl)
theorem truD_b {b : Bool} : truD (.bool b) = .ret b := (rfl)
theorem truD_i {i : Int} : truD (.int i) = .ret (i != 0) := (rfl)
theorem truD_t {ds : List PyData} : truD (.tuple ds) = .ret (!ds.isEmpty) := (rfl)
/-- b and m, a test; m is looked at -/
def mAnd (b : Bool) (m : M Bool) : M Bool := if b = true then m else .ret false
def mOr (b : Bool) (m : M Bool) : M Bool := if b = true then .ret true else m
theorem mAnd_r {b c : Bool} : mAnd b (.ret c) = .ret (b && c) := by cases b <;> rfl
theorem mOr_r {b c : Bool} : mOr b (.ret c) = .ret (b || c) := by cases b <;> rfl
theorem mAnd_t {m : M Bool} : mAnd true m = m := (rfl)
theorem mAnd_f {m : M Bool} : mAnd false m = .ret false := (rfl)
theorem mOr_t {m : M Bool} : mOr true m = .ret true := (rfl)
theorem mOr_f {m : M Bool} : mOr false m = m := (rfl)
theorem mAnd_ite {b : Bool} {m : M Bool} : mAnd b m = if b = true then m else .ret false := (rfl)
theorem mOr_ite {b : Bool} {m : M Bool} : mOr b m = if b = true then .ret true else m := (rfl)
theorem gAnd_eq {g1 g2 : Ro → M Bool} : gAnd g1 g2 ρ = (g1 ρ).bind fun b => mAnd b (g2 ρ) := (rfl)
theorem gOr_eq {g1 g2 : Ro → M Bool} : gOr g1 g2 ρ = (g1 ρ).bind fun b => mOr b (g2 ρ) := (rfl)
theorem gNot_eq {g1 : Ro → M Bool} : gNot g1 ρ = (g1 ρ).bind fun b => .ret (!b) := (rfl)
/-- as values -/
def mAndC (b : Bool) (m : M C) (c : C) : M C := if b = true then m else .ret c
def mOrC (b : Bool) (m : M C) (c : C) : M C := if b = true then .ret c else m
theorem mAndC_r {b q : Bool} : mAndC b (.ret (.val (.bool q))) (.val (.bool b)) = .ret (.val (.bool (b && q))) := by cases b <;> rfl
theorem mAndC_f {b q : Bool} : mAndC b (.ret (.val (.bool q))) (.val (.bool false)) = .ret (.val (.bool (b && q))) := by cases b <;> rfl
theorem mOrC_r {b q : Bool} : mOrC b (.ret (.val (.bool q))) (.val (.bool b)) = .ret (.val (.bool (b || q))) := by cases b <;> rfl
theorem mAndC_ite {b : Bool} {m : M C} {c : C} : mAndC b m c = if b = true then m else .ret c := (rfl)
theorem mOrC_ite {b : Bool} {m : M C} {c : C} : mOrC b m c = if b = true then .ret c else m := (rfl)
theorem gAndT_eq {g1 g2 : Ro → M C} : gAndT g1 g2 ρ = (g1 ρ).bind fun c => (oTru c).bind fun b => mAndC b (g2 ρ) c := (rfl)
theorem gOrT_eq {g1 g2 : Ro → M C} : gOrT g1 g2 ρ = (g1 ρ).bind fun c => (oTru c).bind fun b => mOrC b (g2 ρ) c := (rfl)
theorem gNotT_eq {g1 : Ro → M C} : gNotT g1 ρ = (g1 ρ).bind fun c => (oTru c).bind fun b => .ret (.val (.bool (!b))) := (rfl)
theorem gIfE_eq {t : Ro → M Bool} {g1 g2 : Ro → M C} : gIfE t g1 g2 ρ = (t ρ).bind fun b => if b = true then g1 ρ else g2 ρ := (rfl)
theorem gChain_eq {o1 o2 : C → C → M C} : gChain o1 o2 ga gb gc ρ = (ga ρ).bind fun a => (gb ρ).bind fun b => (o1 a.lend b.lend).bind fun r => (oBl r).bind fun k => mAndC k ((gc ρ).bind fun c => o2 b c) (.val (.bool false)) := (rfl)
theorem gNo_eq : gNo ρ = .ret none := (rfl)
theorem gSome_eq : gSome g ρ = (g ρ).bind oInt? := (rfl)
theorem oInt?_i {i : Int} : oInt? (.val (.int i)) = .ret (some i) := (rfl)
theorem gSl_eq {l u : Ro → M (Option Int)} : gSl g l u ρ = (g ρ).bind fun c => (l ρ).bind fun lo => (u ρ).bind fun hi => oSl c lo hi := (rfl)
theorem oSl_t {ds : List PyData} {lo hi : Option Int} : oSl (.val (.tuple ds)) lo hi = .ret (.val (.tuple (cutD ds lo hi))) := (rfl)
theorem oSl_b {ds : List PyData} {lo hi : Option Int} : oSl (.bor (.lst ds)) lo hi = .ret (.own (.lst (cutD ds lo hi))) := (rfl)
def kSl2 (lo : Option Int) : C → M C
  | .val (.tuple ds) => .ret (.val (.tuple (ev (ds.drop (HT.sIx ds.length 0 lo)))))
  | _ => .fail
theorem gSl2_eq {l : Ro → M (Option Int)} : gSl2 g l ρ = (g ρ).bind fun c => (l ρ).bind fun lo => kSl2 lo c := by
  unfold gSl2
  congr 1
theorem kSl2_t {lo : Option Int} {ds : List PyData} : kSl2 lo (.val (.tuple ds)) = .ret (.val (.tuple (ev (ds.drop (HT.sIx ds.length 0 lo))))) := (rfl)
theorem gIt_eq : gIt g ρ = (g ρ).bind itD := (rfl)
def kItV (s : Bool) : Option (Option C) → M (List PyData)
  | some (some c) => if s = true then itVs c else itV c
  | _ => .fail
theorem gItV_eq {s : Bool} {i : Nat} : gItV s i ρ = kItV s ρ[i]? := (rfl)
theorem kItV_v {s : Bool} {d : PyData} : kItV s (some (some (.val d))) = itV (.val d) := by cases s <;> cases d <;> rfl
theorem kItV_b {s : Bool} {d : PO} : kItV s (some (some (.bor d))) = itV (.bor d) := by cases s <;> cases d <;> rfl
theorem kItV_o {d : PO} : kItV false (some (some (.own d))) = itV (.own d) := (rfl)
theorem itV_t {ds : List PyData} : itV (.val (.tuple ds)) = .ret ds := (rfl)
theorem itV_s {z : Str} : itV (.val (.str z)) = .ret (signsD z) := (rfl)
theorem itV_b {ds : List PyData} : itV (.bor (.lst ds)) = .ret ds := (rfl)
theorem itV_o {ds : List PyData} : itV (.own (.lst ds)) = .ret ds := (rfl)
theorem itD_t {ds : List PyData} : itD (.val (.tuple ds)) = .ret ds := (rfl)
theorem itD_s {z : Str} : itD (.val (.str z)) = .ret (signsD z) := (rfl)
theorem itD_o {ds : List PyData} : itD (.own (.lst ds)) = .ret ds := (rfl)
theorem gItR1_eq {gs : Ro → M (List C)} : gItR1 gs ρ = (gs ρ).bind itR1 := (rfl)
theorem gItR2_eq {gs : Ro → M (List C)} : gItR2 gs ρ = (gs ρ).bind itR2 := (rfl)
theorem itR1_i {j : Int} : itR1 [.val (.int j)] = if rngOk j = true then .ret (rngD 0 1 j.toNat) else .fail := (rfl)
theorem itR2_i {i j : Int} : itR2 [.val (.int i), .val (.int j)] = if (rngOk i && rngOk j) = true then .ret (rngD i 1 (j - i).toNat) else .fail := (rfl)
theorem gLc_eq {its : Ro → M (List PyData)} {a : C → Ro → M Ro} {c : Ro → M Bool} {e : Ro → M C} {vs : List Nat} : gLc its a c e vs ρ = (its ρ).bind fun ds => if lenOk ds.length = true then lcL a c e ds (wipeR ρ vs) [] else .fail := (rfl)
theorem wipe_n : wipeR ρ [] = ρ := (rfl)
theorem wipe_c {i : Nat} {vs : List Nat} : wipeR ρ (i :: vs) = (wipeR ρ vs).set i none := (rfl)
theorem gYes_eq : gYes ρ = .ret true := (rfl)
def kR1 : C → M (Int × Int)
  | .val (.int j) => .ret (0, j)
  | _ => .fail
theorem gR1_eq : gR1 g ρ = (g ρ).bind kR1 := by
  unfold gR1
  congr 1
theorem kR1_i {j : Int} : kR1 (.val (.int j)) = .ret (0, j) := (rfl)
def kR2 : C → C → M (Int × Int)
  | .val (.int i), .val (.int j) => .ret (i, j)
  | _, _ => .fail
theorem gR2_eq : gR2 ga gb ρ = (ga ρ).bind fun c => (gb ρ).bind fun d => kR2 c d := by
  unfold gR2
  congr 1
theorem kR2_i {i j : Int} : kR2 (.val (.int i)) (.val (.int j)) = .ret (i, j) := (rfl)
theorem gLstRg_eq {q : Ro → M (Int × Int)} : gLstRg q ρ = (q ρ).bind fun p => if rgOk p.1 p.2 = true then .ret (.own (.lst (rngD p.1 1 (p.2 - p.1).toNat))) else .fail := (rfl)
theorem gTupRg_eq {q : Ro → M (Int × Int)} : gTupRg q ρ = (q ρ).bind fun p => if rgOk p.1 p.2 = true then .ret (.val (.tuple (rngD p.1 1 (p.2 - p.1).toNat))) else .fail := (rfl)
/-! loops -/
theorem mFor_eq {its : Ro → M (List PyData)} {a : C → Ro → M Ro} {b : Ro → M Res} : mFor its a b ρ = (its ρ).bind fun ds => forL a b ds ρ := (rfl)
def kForV (ρ : Ro) (i : Nat) (a : C → Ro → M Ro) (b : Ro → M Res) : Option (Option C) → M Res
  | some (some (.own (.lst ds))) => forL a b ds (ρ.set i (some (.bor (.lst ds))))
  | some (some c) => (itVs c).bind fun ds => forL a b ds ρ
  | _ => .fail
theorem mForV_eq {i : Nat} {a : C → Ro → M Ro} {b : Ro → M Res} : mForV i a b ρ = kForV ρ i a b ρ[i]? := (rfl)
theorem kForV_o {i : Nat} {a : C → Ro → M Ro} {b : Ro → M Res} {ds : List PyData} : kForV ρ i a b (some (some (.own (.lst ds)))) = forL a b ds (ρ.set i (some (.bor (.lst ds)))) := (rfl)
theorem kForV_b {i : Nat} {a : C → Ro → M Ro} {b : Ro → M Res} {ds : List PyData} : kForV ρ i a b (some (some (.bor (.lst ds)))) = forL a b ds ρ := (rfl)
theorem kForV_t {i : Nat} {a : C → Ro → M Ro} {b : Ro → M Res} {ds : List PyData} : kForV ρ i a b (some (some (.val (.tuple ds)))) = forL a b ds ρ := (rfl)
theorem kForV_s {i : Nat} {a : C → Ro → M Ro} {b : Ro → M Res} {z : Str} : kForV ρ i a b (some (some (.val (.str z)))) = forL a b (signsD z) ρ := (rfl)
def kFor (a : C → Ro → M Ro) (b : Ro → M Res) (ds : List PyData) : Res → M Res
  | .nx ρ' => forL a b ds ρ'
  | .ct ρ' => forL a b ds ρ'
  | .bk ρ' => .ret (.nx ρ')
  | .rt c => .ret (.rt c)
theorem kFor_nx {a : C → Ro → M Ro} {b : Ro → M Res} {ds : List PyData} : kFor a b ds (.nx ρ) = forL a b ds ρ := (rfl)
theorem kFor_ct {a : C → Ro → M Ro} {b : Ro → M Res} {ds : List PyData} : kFor a b ds (.ct ρ) = forL a b ds ρ := (rfl)
theorem kFor_bk {a : C → Ro → M Ro} {b : Ro → M Res} {ds : List PyData} : kFor a b ds (.bk ρ) = .ret (.nx ρ) := (rfl)
theorem kFor_rt {a : C → Ro → M Ro} {b : Ro → M Res} {ds : List PyData} {c : C} : kFor a b ds (.rt c) = .ret (.rt c) := (rfl)
theorem forL_nil {a : C → Ro → M Ro} {b : Ro → M Res} : forL a b [] ρ = .ret (.nx ρ) := (rfl)
theorem forL_cons {a : C → Ro → M Ro} {b : Ro → M Res} {d : PyData} {ds : List PyData} : forL a b (d :: ds) ρ = (a (.val d) ρ).bind fun ρ1 => (b ρ1).bind (kFor a b ds) := by
  show (a (.val d) ρ).bind _ = _
  congr 1
def ForPost (I : List PyData → Ro → Prop) (ds : List PyData) (Q : Res → Prop) : Res → Prop
  | .nx ρ' => I ds ρ'
  | .ct ρ' => I ds ρ'
  | .bk ρ' => Q (.nx ρ')
  | .rt c => Q (.rt c)
theorem ForPost_nx {I : List PyData → Ro → Prop} {ds : List PyData} {Q : Res → Prop} : ForPost I ds Q (.nx ρ) = I ds ρ := (rfl)
theorem ForPost_ct {I : List PyData → Ro → Prop} {ds : List PyData} {Q : Res → Prop} : ForPost I ds Q (.ct ρ) = I ds ρ := (rfl)
theorem ForPost_bk {I : List PyData → Ro → Prop} {ds : List PyData} {Q : Res → Prop} : ForPost I ds Q (.bk ρ) = Q (.nx ρ) := (rfl)
theorem ForPost_rt {I : List PyData → Ro → Prop} {ds : List PyData} {Q : Res → Prop} {c : C} : ForPost I ds Q (.rt c) = Q (.rt c) := (rfl)
theorem wp_for (I : List PyData → Ro → Prop) {a : C → Ro → M Ro} {b : Ro → M Res} {Q : Res → Prop} (hn : ∀ ρ, I [] ρ → Q (.nx ρ)) (hc : ∀ d ds ρ, I (d :: ds) ρ → wp ((a (.val d) ρ).bind b) (ForPost I ds Q)) : ∀ {ds : List PyData} {ρ : Ro}, I ds ρ → wp (forL a b ds ρ) Q
  | [], ρ, h => by rw [forL_nil, wp_retE]; exact hn ρ h
  | d :: ds, ρ, h => by
    rw [forL_cons, ← bind_bind]
    refine wp_call _ (hc d ds ρ h) fun r hr => ?_
    cases r with
    | nx ρ' => rw [kFor_nx]; exact wp_for I hn hc hr
    | ct ρ' => rw [kFor_ct]; exact wp_for I hn hc hr
    | bk ρ' => rw [kFor_bk, wp_retE]; exact hr
    | rt c => rw [kFor_rt, wp_retE]; exact hr
/-- a loop of n turns over a row of things -/
theorem wp_each {δ : Type} (enc : δ → PyData) (I : List δ → Ro → Prop) {a : C → Ro → M Ro} {b : Ro → M Res} {Q : Res → Prop} (hn : ∀ ρ, I [] ρ → Q (.nx ρ)) (hc : ∀ d ds ρ, I (d :: ds) ρ → wp ((a (.val (enc d)) ρ).bind b) (ForPost (fun es ρ => ∃ xs, es = xs.map enc ∧ I xs ρ) (ds.map enc) Q)) {ds : List δ} {ρ : Ro} (h : I ds ρ) : wp (forL a b (ds.map enc) ρ) Q := by
  apply wp_for (fun es ρ => ∃ xs, es = xs.map enc ∧ I xs ρ) ?A ?B ⟨ds, rfl, h⟩
  case A =>
    rintro ρ ⟨xs, e, h⟩
    cases xs with
    | nil => exact hn ρ h
    | cons _ _ => cases e
  case B =>
    rintro d es ρ ⟨xs, e, h⟩
    cases xs with
    | nil => cases e
    | cons x xs =>
      rw [List.map_cons] at e
      obtain ⟨e1, e2⟩ := List.cons.inj e
      subst e1; subst e2
      exact hc x xs ρ h
theorem wp_turns (I : Nat → Ro → Prop) {a : C → Ro → M Ro} {b : Ro → M Res} {Q : Res → Prop} {lo c : Int} {n : Nat} (hn : ∀ ρ, I n ρ → Q (.nx ρ)) (hc : ∀ (i : Nat) ds ρ, i < n → I i ρ → wp ((a (.val (.int (lo + (i : Nat) * c))) ρ).bind b) (ForPost (fun _ ρ => I (i + 1) ρ) ds Q)) {ρ : Ro} (h : I 0 ρ) : wp (forL a b (rngD lo c n) ρ) Q := by
  have key : ∀ (k i : Nat) (ρ : Ro), i + k = n → I i ρ → wp (forL a b ((List.range' i k).map fun i => .int (lo + (i : Nat) * c)) ρ) Q := by
    intro k
    induction k with
    | zero =>
      intro i ρ e h
      have e2 : i = n := by omega
      rw [List.range'_zero, List.map_nil, forL_nil, wp_retE]
      exact hn ρ (e2 ▸ h)
    | succ k ih =>
      intro i ρ e h
      rw [List.range'_succ, List.map_cons, forL_cons, ← bind_bind]
      refine wp_call _ (hc i [] ρ (by omega) h) fun r hr => ?_
      cases r with
      | nx ρ' => rw [kFor_nx]; exact ih (i + 1) ρ' (by omega) hr
      | ct ρ' => rw [kFor_ct]; exact ih (i + 1) ρ' (by omega) hr
      | bk ρ' => rw [kFor_bk, wp_retE]; exact hr
      | rt c => rw [kFor_rt, wp_retE]; exact hr
  unfold rngD
  rw [List.range_eq_range']
  exact key n 0 ρ (by omega) h
theorem forL_any {δ : Type} (enc : δ → PyData) (p : δ → Bool) (S : Ro → Prop) (c : C) {a : C → Ro → M Ro} {b : Ro → M Res} : ∀ (xs : List δ) (ρ : Ro), S ρ →
    (∀ x ∈ xs, ∀ ρ, S ρ → ∃ ρ1, a (.val (enc x)) ρ = .ret ρ1 ∧ (p x = true → b ρ1 = .ret (.rt c)) ∧ (p x = false → ∃ ρ2, S ρ2 ∧ b ρ1 = .ret (.nx ρ2))) →
    (xs.any p = true ∧ forL a b (xs.map enc) ρ = .ret (.rt c)) ∨ (xs.any p = false ∧ ∃ ρ', S ρ' ∧ forL a b (xs.map enc) ρ = .ret (.nx ρ'))
  | [], ρ, h, _ => .inr ⟨rfl, ρ, h, rfl⟩
  | x :: xs, ρ, h, st => by
    obtain ⟨ρ1, h1, h2, h3⟩ := st x List.mem_cons_self ρ h
    rw [List.map_cons, List.any_cons, forL_cons, h1, retB]
    cases hp : p x with
    | true => exact .inl ⟨rfl, by rw [h2 hp]; rfl⟩
    | false =>
      obtain ⟨ρ2, h4, h5⟩ := h3 hp
      rw [h5, retB, kFor_nx, Bool.false_or]
      exact forL_any enc p S c xs ρ2 h4 fun y hy => st y (List.mem_cons_of_mem _ hy)
/-! [e for x in xs if c] -/
def kLc (a : C → Ro → M Ro) (c : Ro → M Bool) (e : Ro → M C) (ds : List PyData) (ρ : Ro) (acc : List PyData) : C → M C
  | .val y => lcL a c e ds ρ (acc ++ [y])
  | _ => .fail
theorem kLc_v {a : C → Ro → M Ro} {c : Ro → M Bool} {e : Ro → M C} {ds acc : List PyData} {y : PyData} : kLc a c e ds ρ acc (.val y) = lcL a c e ds ρ (acc ++ [y]) := (rfl)
theorem lcL_nil {a : C → Ro → M Ro} {c : Ro → M Bool} {e : Ro → M C} {acc : List PyData} : lcL a c e [] ρ acc = .ret (.own (.lst acc)) := (rfl)
theorem lcL_cons {a : C → Ro → M Ro} {c : Ro → M Bool} {e : Ro → M C} {d : PyData} {ds acc : List PyData} : lcL a c e (d :: ds) ρ acc = (a (.val d) ρ).bind fun ρ1 => (c ρ1).bind fun b => if b = true then (e ρ1).bind (kLc a c e ds ρ acc) else lcL a c e ds ρ acc := by
  show (a (.val d) ρ).bind _ = _
  congr 1
/-- each thing x is kept if p x and gives f x -/
theorem lcL_fm {δ : Type} (enc : δ → PyData) (p : δ → Bool) (f : δ → PyData) {a : C → Ro → M Ro} {c : Ro → M Bool} {e : Ro → M C} : ∀ (xs : List δ) (acc : List PyData), (∀ x ∈ xs, ∃ ρ1, a (.val (enc x)) ρ = .ret ρ1 ∧ c ρ1 = .ret (p x) ∧ (p x = true → e ρ1 = .ret (.val (f x)))) →
    lcL a c e (xs.map enc) ρ acc = .ret (.own (.lst (acc ++ (xs.filter p).map f)))
  | [], acc, _ => by rw [List.map_nil, lcL_nil, List.filter_nil, List.map_nil, List.append_nil]
  | x :: xs, acc, h => by
    obtain ⟨ρ1, h1, h2, h3⟩ := h x List.mem_cons_self
    rw [List.map_cons, lcL_cons, h1, retB, h2, retB]
    by_cases hp : p x = true
    · rw [if_pos hp, h3 hp, retB, kLc_v, lcL_fm enc p f xs _ fun y hy => h y (List.mem_cons_of_mem _ hy), List.filter_cons_of_pos hp, List.map_cons, List.append_assoc]
      rfl
    · rw [if_neg hp, lcL_fm enc p f xs _ fun y hy => h y (List.mem_cons_of_mem _ hy), List.filter_cons_of_neg hp]
theorem lcL_map {δ : Type} (enc : δ → PyData) (f : δ → PyData) {a : C → Ro → M Ro} {c : Ro → M Bool} {e : Ro → M C} (xs : List δ) (acc : List PyData) (h : ∀ x ∈ xs, ∃ ρ1, a (.val (enc x)) ρ = .ret ρ1 ∧ c ρ1 = .ret true ∧ e ρ1 = .ret (.val (f x))) :
    lcL a c e (xs.map enc) ρ acc = .ret (.own (.lst (acc ++ xs.map f))) := by
  rw [lcL_fm enc (fun _ => true) f xs acc fun x hx => by
    obtain ⟨ρ1, h1, h2, h3⟩ := h x hx
    exact ⟨ρ1, h1, h2, fun _ => h3⟩]
  rw [List.filter_eq_self.mpr fun _ _ => rfl]
/-- the same, with draws -/
theorem wp_lc {δ : Type} (enc : δ → PyData) (P : List PyData → Prop) {a : C → Ro → M Ro} {c : Ro → M Bool} {e : Ro → M C} {Q : C → Prop} (hq : ∀ acc, P acc → Q (.own (.lst acc))) : ∀ (xs : List δ) (acc : List PyData), P acc →
    (∀ x ∈ xs, ∀ acc, P acc → wp ((a (.val (enc x)) ρ).bind fun ρ1 => (c ρ1).bind fun b => if b = true then (e ρ1).bind fun y => .ret (some y) else .ret none) fun o => (o = none ∧ P acc) ∨ ∃ y, o = some (.val y) ∧ P (acc ++ [y])) → wp (lcL a c e (xs.map enc) ρ acc) Q
  | [], acc, h, _ => by rw [List.map_nil, lcL_nil, wp_retE]; exact hq acc h
  | x :: xs, acc, h, st => by
    rw [List.map_cons, lcL_cons]
    have hx := st x List.mem_cons_self acc h
    rw [wp_bindE] at hx ⊢
    refine wp_mono (fun ρ1 h1 => ?_) hx
    rw [wp_bindE] at h1 ⊢
    refine wp_mono (fun b h2 => ?_) h1
    by_cases hb : b = true
    · rw [if_pos hb] at h2 ⊢
      rw [wp_bindE] at h2 ⊢
      refine wp_mono (fun y h3 => ?_) h2
      rw [wp_retE] at h3
      rcases h3 with ⟨z, _⟩ | ⟨y', e1, h4⟩
      · cases z
      · cases e1
        rw [kLc_v]
        exact wp_lc enc P hq xs _ h4 fun y hy => st y (List.mem_cons_of_mem _ hy)
    · rw [if_neg hb] at h2 ⊢
      rw [wp_retE] at h2
      rcases h2 with ⟨_, h4⟩ | ⟨y', e1, h4⟩
      · exact wp_lc enc P hq xs _ h4 fun y hy => st y (List.mem_cons_of_mem _ hy)
      · cases e1
/-! lists that change -/
def kApp (i : Nat) (ρ : Ro) (ds : List PyData) : C → M Res
  | .val d => if lenOk (ds.length + 1) = true then .ret (.nx (setOwn i (ds ++ [d]) ρ)) else .fail
  | _ => .fail
def appAt (i : Nat) (g : Ro → M C) (ρ : Ro) : Option (Option C) → M Res
  | some (some (.own (.lst ds))) => (g ρ).bind (kApp i ρ ds)
  | _ => .fail
theorem mApp_eq {i : Nat} : mApp i g ρ = appAt i g ρ ρ[i]? := by
  unfold mApp
  generalize ρ[i]? = o
  match o with
  | some (some (.own (.lst ds))) => congr 1
  | some (some (.own (.dT _))) => rfl
  | some (some (.own (.dK _))) => rfl
  | some (some (.own (.lT _))) => rfl
  | some (some (.val _)) => rfl
  | some (some (.bor _)) => rfl
  | some (some .tape) => rfl
  | some none => rfl
  | none => rfl
theorem appAt_o {i : Nat} {ds : List PyData} : appAt i g ρ (some (some (.own (.lst ds)))) = (g ρ).bind (kApp i ρ ds) := (rfl)
theorem kApp_v {i : Nat} {ds : List PyData} {d : PyData} : kApp i ρ ds (.val d) = if lenOk (ds.length + 1) = true then .ret (.nx (ρ.set i (some (.own (.lst (ds ++ [d])))))) else .fail := (rfl)
/-! defs -/
theorem fnU_eq {n k : Nat} {m : Ro → M Res} {cs : List C} : fnU n k m cs = if cs.length = n then (m (cs.map some ++ List.replicate k none)).bind Res.out else .fail := (rfl)
theorem fnU_0 {n k : Nat} {m : Ro → M Res} {cs : List C} (h : cs.length = n) : fnU n k m cs = (m (cs.map some ++ List.replicate k none)).bind Res.out := if_pos h
theorem rp_0 : (List.replicate 0 none : Ro) = [] := (rfl)
theorem rp_s {k : Nat} : (List.replicate (k + 1) none : Ro) = none :: List.replicate k none := (rfl)
theorem ap_n {r : Ro} : ([] : Ro) ++ r = r := (rfl)
theorem ap_c {x : Option C} {r s : Ro} : (x :: r) ++ s = x :: (r ++ s) := (rfl)
theorem ms_n : List.map some ([] : List C) = [] := (rfl)
theorem ms_c {c : C} {cs : List C} : List.map some (c :: cs) = some c :: List.map some cs := (rfl)
theorem out_rt {c : C} : Res.out (.rt c) = .ret c := (rfl)
theorem out_nx : Res.out (.nx ρ) = .ret (.val .none) := (rfl)
/-! ### operators at values -/
theorem oAdd_i {i j : Int} : oAdd (.val (.int i)) (.val (.int j)) = .ret (.val (.int (i + j))) := (rfl)
theorem oAdd_s {i j : Str} : oAdd (.val (.str i)) (.val (.str j)) = if lenOk (i.length + j.length) = true then .ret (.val (.str (i ++ j))) else .fail := (rfl)
theorem oAdd_t {i j : List PyData} : oAdd (.val (.tuple i)) (.val (.tuple j)) = if lenOk (i.length + j.length) = true then .ret (.val (.tuple (i ++ j))) else .fail := (rfl)
theorem oAdd_oo {i j : List PyData} : oAdd (.own (.lst i)) (.own (.lst j)) = if lenOk (i.length + j.length) = true then .ret (.own (.lst (i ++ j))) else .fail := (rfl)
theorem oAdd_bo {i j : List PyData} : oAdd (.bor (.lst i)) (.own (.lst j)) = if lenOk (i.length + j.length) = true then .ret (.own (.lst (i ++ j))) else .fail := (rfl)
theorem oAdd_bb {i j : List PyData} : oAdd (.bor (.lst i)) (.bor (.lst j)) = if lenOk (i.length + j.length) = true then .ret (.own (.lst (i ++ j))) else .fail := (rfl)
theorem oAdd_ob {i j : List PyData} : oAdd (.own (.lst i)) (.bor (.lst j)) = if lenOk (i.length + j.length) = true then .ret (.own (.lst (i ++ j))) else .fail := (rfl)
theorem oInt_v {f : Int → Int → PyData} {c : Int → Int → Bool} {i j : Int} : oInt f c (.val (.int i)) (.val (.int j)) = if c i j = true then .ret (.val (f i j)) else .fail := (rfl)
theorem oMul_i {i j : Int} : oMul (.val (.int i)) (.val (.int j)) = if cMul i j = true then .ret (.val (.int (i * j))) else .fail := (rfl)
theorem oNeg_i {i : Int} : oNeg (.val (.int i)) = .ret (.val (.int (-i))) := (rfl)
theorem oEqD_s {n : Bool} {i j : Str} : oEqD n (some (.str i)) (some (.str j)) = .ret (.val (.bool (n ^^ decide (i = j)))) := (rfl)
theorem oEqD_d {n : Bool} {d e : PyData} (h1 : SeqAt.shaped d = true) (h2 : SeqAt.shaped e = true) : oEqD n (some d) (some e) = .ret (.val (.bool (n ^^ PyData.eqv d e))) := by
  unfold oEqD
  split
  · rename_i i j e1 e2
    cases e1; cases e2
    simp only [PyData.eqv]
    rfl
  · rename_i d' e' _ e1 e2
    cases e1; cases e2
    rw [if_pos (by rw [h1, h2]; rfl)]
  · rename_i a b
    exact absurd rfl (b d e rfl)
theorem oEq_i {i j : Int} : oEq (.val (.int i)) (.val (.int j)) = .ret (.val (.bool (decide (i = j)))) := by
  show oEqD false (some (.int i)) (some (.int j)) = _
  rw [oEqD_d rfl rfl]
  simp only [PyData.eqv, Bool.false_xor]
  rfl
theorem oNe_i {i j : Int} : oNe (.val (.int i)) (.val (.int j)) = .ret (.val (.bool (!decide (i = j)))) := by
  show oEqD true (some (.int i)) (some (.int j)) = _
  rw [oEqD_d rfl rfl]
  simp only [PyData.eqv, Bool.true_xor]
  rfl
theorem oEq_b {i j : Bool} : oEq (.val (.bool i)) (.val (.bool j)) = .ret (.val (.bool (decide (i = j)))) := by
  show oEqD false (some (.bool i)) (some (.bool j)) = _
  rw [oEqD_d rfl rfl]
  cases i <;> cases j <;> rfl
theorem oNe_b {i j : Bool} : oNe (.val (.bool i)) (.val (.bool j)) = .ret (.val (.bool (!decide (i = j)))) := by
  show oEqD true (some (.bool i)) (some (.bool j)) = _
  rw [oEqD_d rfl rfl]
  cases i <;> cases j <;> rfl
theorem oEq_s {i j : Str} : oEq (.val (.str i)) (.val (.str j)) = .ret (.val (.bool (decide (i = j)))) := by
  show oEqD false (some (.str i)) (some (.str j)) = _
  rw [oEqD_s, Bool.false_xor]
theorem oNe_s {i j : Str} : oNe (.val (.str i)) (.val (.str j)) = .ret (.val (.bool (!decide (i = j)))) := by
  show oEqD true (some (.str i)) (some (.str j)) = _
  rw [oEqD_s, Bool.true_xor]
/-! subscripts -/
theorem oIx_t {ds : List PyData} {i : Int} : oIx (.val (.tuple ds)) (.val (.int i)) = atD ds i := (rfl)
theorem oIx_s {ds : Str} {i : Int} : oIx (.val (.str ds)) (.val (.int i)) = atS ds i := (rfl)
theorem oIx_o {ds : List PyData} {i : Int} : oIx (.own (.lst ds)) (.val (.int i)) = atD ds i := (rfl)
theorem oIx_b {ds : List PyData} {i : Int} : oIx (.bor (.lst ds)) (.val (.int i)) = atD ds i := (rfl)
theorem atD_get {ds : List PyData} {i : Nat} {d : PyData} (h : ds[i]? = some d) : atD ds (i : Int) = .ret (.val d) := by
  obtain ⟨hl, _⟩ := List.getElem?_eq_some_iff.mp h
  have : atI ds (i : Int) = some d := by
    unfold atI
    have e : ixN ds.length (i : Int) = some i := by
      unfold ixN
      simp only [Int.natCast_nonneg, Int.toNat_natCast, if_true]
      first
        | rfl
        | simp [hl]
        | (split <;> first | rfl | omega | simp_all)
    rw [e]
    exact h
  unfold atD
  rw [this]
theorem atD_int {ds : List PyData} {i : Int} {d : PyData} (h0 : 0 ≤ i) (h : ds[i.toNat]? = some d) : atD ds i = .ret (.val d) := by
  have := atD_get h
  rwa [Int.toNat_of_nonneg h0] at this
theorem atD_m1 {ds : List PyData} {d : PyData} (h : ds[ds.length - 1]? = some d) : atD ds (-1) = .ret (.val d) := by
  obtain ⟨hl, _⟩ := List.getElem?_eq_some_iff.mp h
  have : atI ds (-1) = some d := by
    unfold atI
    have e : ixN ds.length (-1) = some (ds.length - 1) := by
      unfold ixN
      have h1 : ¬ (0 : Int) ≤ -1 := by omega
      first
        | (rw [if_neg h1]; simp; omega)
        | (simp; omega)
        | (split <;> simp_all <;> omega)
    rw [e]
    exact h
  unfold atD
  rw [this]
section
variable {a0 a1 a2 a3 a4 a5 a6 a7 a8 a9 : PyData} {ds : List PyData}
theorem atD_0 : atD (a0 :: ds) 0 = .ret (.val a0) := atD_get (i := 0) rfl
theorem atD_1 : atD (a0 :: a1 :: ds) 1 = .ret (.val a1) := atD_get (i := 1) rfl
theorem atD_2 : atD (a0 :: a1 :: a2 :: ds) 2 = .ret (.val a2) := atD_get (i := 2) rfl
theorem atD_3 : atD (a0 :: a1 :: a2 :: a3 :: ds) 3 = .ret (.val a3) := atD_get (i := 3) rfl
theorem atD_4 : atD (a0 :: a1 :: a2 :: a3 :: a4 :: ds) 4 = .ret (.val a4) := atD_get (i := 4) rfl
theorem atD_5 : atD (a0 :: a1 :: a2 :: a3 :: a4 :: a5 :: ds) 5 = .ret (.val a5) := atD_get (i := 5) rfl
theorem atD_6 : atD (a0 :: a1 :: a2 :: a3 :: a4 :: a5 :: a6 :: ds) 6 = .ret (.val a6) := atD_get (i := 6) rfl
theorem atD_7 : atD (a0 :: a1 :: a2 :: a3 :: a4 :: a5 :: a6 :: a7 :: ds) 7 = .ret (.val a7) := atD_get (i := 7) rfl
theorem atD_8 : atD (a0 :: a1 :: a2 :: a3 :: a4 :: a5 :: a6 :: a7 :: a8 :: ds) 8 = .ret (.val a8) := atD_get (i := 8) rfl
end
/-! displays -/
theorem datas_n : datas [] = some [] := (rfl)
theorem datas_v {d : PyData} {cs : List C} : datas (.val d :: cs) = (datas cs).map (d :: ·) := (rfl)
theorem mp_some {δ ε : Type} {f : δ → ε} {x : δ} : Option.map f (some x) = some (f x) := (rfl)
def kTup : Option (List PyData) → M C
  | some ds => if lenOk ds.length = true then .ret (.val (.tuple ds)) else .fail
  | none => .fail
def kLst : Option (List PyData) → M C
  | some ds => if lenOk ds.length = true then .ret (.own (.lst ds)) else .fail
  | none => .fail
theorem oTup_eq {cs : List C} : oTup cs = kTup (datas cs) := (rfl)
theorem oLst_eq {cs : List C} : oLst cs = kLst (datas cs) := (rfl)
theorem kTup_s {ds : List PyData} : kTup (some ds) = if lenOk ds.length = true then .ret (.val (.tuple ds)) else .fail := (rfl)
theorem kLst_s {ds : List PyData} : kLst (some ds) = if lenOk ds.length = true then .ret (.own (.lst ds)) else .fail := (rfl)
theorem len_n : ([] : List PyData).length = 0 := (rfl)
theorem len_c {d : PyData} {ds : List PyData} : (d :: ds).length = ds.length + 1 := (rfl)
/-! built in -/
theorem o1_v {f : PyData → M C} {d : PyData} : o1 f [.val d] = f d := (rfl)
theorem o1_o {f : PyData → M C} {ds : List PyData} : o1 f [.own (.lst ds)] = f (.list ds) := (rfl)
theorem o1_b {f : PyData → M C} {ds : List PyData} : o1 f [.bor (.lst ds)] = f (.list ds) := (rfl)
theorem lenD_t {ds : List PyData} : lenD (.tuple ds) = .ret (.val (.int ds.length)) := (rfl)
theorem lenD_l {ds : List PyData} : lenD (.list ds) = .ret (.val (.int ds.length)) := (rfl)
theorem lenD_s {z : Str} : lenD (.str z) = if lenOk z.length = true then .ret (.val (.int z.length)) else .fail := (rfl)
theorem absD_i {i : Int} : absD (.int i) = .ret (.val (.int (i.natAbs : Int))) := by
  show M.ret (C.val (.int (if i < 0 then -i else i))) = _
  rw [show (if i < 0 then -i else i) = (i.natAbs : Int) by split <;> omega]
theorem intD_i {i : Int} : intD (.int i) = .ret (.val (.int i)) := (rfl)
theorem intD_b {b : Bool} : intD (.bool b) = .ret (.val (.int (if b then 1 else 0))) := (rfl)
theorem oMax2_i {i j : Int} : oMax2 [.val (.int i), .val (.int j)] = .ret (.val (.int (max i j))) := (rfl)
theorem oMin2_i {i j : Int} : oMin2 [.val (.int i), .val (.int j)] = .ret (.val (.int (min i j))) := (rfl)
theorem oGcd_i {i j : Int} : oGcd [.val (.int i), .val (.int j)] = .ret (.val (.int ((Nat.gcd i.natAbs j.natAbs : Nat) : Int))) := (rfl)
theorem oListC_t {ds : List PyData} : oListC [.val (.tuple ds)] = .ret (.own (.lst ds)) := (rfl)
theorem oListC_o {ds : List PyData} : oListC [.own (.lst ds)] = .ret (.own (.lst ds)) := (rfl)
theorem oListC_b {ds : List PyData} : oListC [.bor (.lst ds)] = .ret (.own (.lst ds)) := (rfl)
theorem oTupC_t {ds : List PyData} : oTupC [.val (.tuple ds)] = .ret (.val (.tuple ds)) := (rfl)
theorem oTupC_o {ds : List PyData} : oTupC [.own (.lst ds)] = .ret (.val (.tuple ds)) := (rfl)
theorem oTupC_b {ds : List PyData} : oTupC [.bor (.lst ds)] = .ret (.val (.tuple ds)) := (rfl)
theorem repr_ok {d : PyData} (h : RepOk d) : repD1 d = .ret (.val (.str d.shown)) := by
  refine if_pos ?_
  obtain ⟨h1, h2, h3⟩ := h
  unfold repOk
  rw [h1, decide_eq_true h2, decide_eq_true (by rw [show sizeLine = 16777216 by decide] at h3; exact h3)]
  rfl
theorem bigD_l {f : List Bool → Bool} {bs : List Bool} : bigD f (.list (bs.map .bool)) = .ret (.val (.bool (f bs))) := by
  unfold bigD
  dsimp only
  rw [blsOf_map]
theorem isi_bi : isiT "int" (some "bool") = .ret (.val (.bool true)) := by unfold isiT; dsimp only; rw [kit_bool_int]
theorem isi_ii : isiT "int" (some "int") = .ret (.val (.bool true)) := by unfold isiT; dsimp only; rw [kit_int_int]
theorem isi_ib : isiT "bool" (some "int") = .ret (.val (.bool false)) := by unfold isiT; dsimp only; rw [kit_int_bool]
theorem isi_bb : isiT "bool" (some "bool") = .ret (.val (.bool true)) := by unfold isiT; dsimp only; rw [kit_bool_bool]
theorem isi_ni : isiT "int" (some "NoneType") = .ret (.val (.bool false)) := by unfold isiT; dsimp only; rw [kit_none_int]
theorem isi_ss : isiT "str" (some "str") = .ret (.val (.bool true)) := by unfold isiT; dsimp only; rw [kit_str_str]
theorem isi_nb : isiT "bool" (some "NoneType") = .ret (.val (.bool false)) := by unfold isiT; dsimp only; rw [kit_none_bool]
theorem oIsi_v {T : String} {d : PyData} : oIsi T (.val d) = isiT T (tyD d) := (rfl)
theorem tyD_b {b : Bool} : tyD (.bool b) = some "bool" := (rfl)
theorem tyD_i {b : Int} : tyD (.int b) = some "int" := (rfl)
theorem tyD_s {b : Str} : tyD (.str b) = some "str" := (rfl)
theorem tyD_n : tyD .none = some "NoneType" := (rfl)
theorem oIsX_n {n : Bool} {a : C} : oIsX n a (.val .none) = .ret (.val (.bool (n ^^ a.isN))) := by
  cases a with
  | val d => cases d <;> rfl
  | own _ => rfl
  | bor _ => rfl
  | tape => rfl
theorem oIsX_b {n a b : Bool} : oIsX n (.val (.bool a)) (.val (.bool b)) = .ret (.val (.bool (n ^^ decide (a = b)))) := (rfl)
theorem isN_n : C.isN (.val .none) = true := (rfl)
theorem isN_i {i : Int} : C.isN (.val (.int i)) = false := (rfl)
theorem isN_b {i : Bool} : C.isN (.val (.bool i)) = false := (rfl)
theorem isN_s {i : Str} : C.isN (.val (.str i)) = false := (rfl)
theorem isN_t {i : List PyData} : C.isN (.val (.tuple i)) = false := (rfl)
/-! draws -/
theorem wp_drawn {m : Int} {k : C → M α} {Q : α → Prop} (hm : m ≤ 1000000000) (q : ∀ v, 0 ≤ v → v < max m 1 → wp (k (.val (.int v))) Q) : wp ((drawC [.tape, .val (.int m)]).bind k) Q := by
  have e : drawC [.tape, .val (.int m)] = .draw m fun v => .ret (.val (.int v)) := if_pos (decide_eq_true hm)
  rw [e, drawB, wp_drawE]
  exact q
/-- a drawn one out of a row -/
theorem wp_pick {ds : List PyData} {i : Int} {k : C → M α} {Q : α → Prop} (h0 : 0 ≤ i) (h1 : i < ds.length) (q : ∀ d, d ∈ ds → wp (k (.val d)) Q) : wp ((atD ds i).bind k) Q := by
  have hl : i.toNat < ds.length := by omega
  rw [atD_int h0 (List.getElem?_eq_getElem hl), retB]
  exact q _ (List.getElem_mem hl)
def rng (k : Int) (i : Int) : Bool := decide (-k ≤ i) && decide (i ≤ k)
def smB (k : Int) : PyData → Bool
  | .int i => rng k i
  | _ => false
theorem wp_pickI (m : Int) {ds : List PyData} {i : Int} {k : C → M α} {Q : α → Prop} (hs : ds.all (smB m) = true) (h0 : 0 ≤ i) (h1 : i < ds.length) (q : ∀ j : Int, -m ≤ j → j ≤ m → wp (k (.val (.int j))) Q) : wp ((atD ds i).bind k) Q :=
  wp_pick h0 h1 fun d hd => by
    have := List.all_eq_true.mp hs d hd
    cases d with
    | int j =>
      simp only [smB, rng, Bool.and_eq_true, decide_eq_true_eq] at this
      exact q j this.1 this.2
    | _ => cases this
/-! bounds -/
theorem small_log {i : Int} {k : Nat} (hk : k ≠ 0) (h : i.natAbs < 2 ^ k) : i.natAbs.log2 < k := by
  by_cases h0 : i.natAbs = 0
  · rw [h0]; simp; omega
  · exact (Nat.log2_lt h0).mpr h
theorem cMul_ok {i j : Int} (k l : Nat) (hk : k ≠ 0) (hl : l ≠ 0) (h : k + l ≤ 1000000) (hi : i.natAbs < 2 ^ k) (hj : j.natAbs < 2 ^ l) : cMul i j = true := by
  have h1 := small_log hk hi
  have h2 := small_log hl hj
  exact decide_eq_true (by omega)
theorem cDiv_ok {i j : Int} (k : Nat) (hk : k ≠ 0) (h : k ≤ 9000) (h0 : 0 < j) (hj : j.natAbs < 2 ^ k) : cDiv i j = true := by
  have h2 := small_log hk hj
  unfold cDiv
  rw [decide_eq_true h0, decide_eq_true (by omega)]
  rfl
theorem cMod_ok {i j : Int} (h0 : 0 < j) : cMod i j = true := decide_eq_true h0
theorem rngOk_ok {i : Int} (h1 : -4611686018427387904 ≤ i) (h2 : i < 4611686018427387904) : rngOk i = true := by
  unfold rngOk
  rw [decide_eq_true h1, decide_eq_true h2]
  rfl
theorem lenOk_ok {n : Nat} (h : n ≤ 16777216) : lenOk n = true := decide_eq_true h
theorem rngD_len {lo c : Int} {n : Nat} : (rngD lo c n).length = n := by unfold rngD; rw [List.length_map, List.length_range]
end Cs

set_option maxRecDepth 100000
set_option maxHeartbeats 4000000
/-! a word of one's own at a join -/
namespace Cs
open PySem PySem.Spec PyProof.Rows L2
def Jn (P : Ro → Prop) (Q : Res → Prop) : Res → Prop
  | .nx ρ => P ρ
  | .rt c => Q (.rt c)
  | .bk ρ => Q (.bk ρ)
  | .ct ρ => Q (.ct ρ)
theorem wp_seqJ (P : Ro → Prop) {m n : Ro → M Res} {ρ : Ro} {Q : Res → Prop} (h1 : wp (m ρ) (Jn P Q)) (h2 : ∀ ρ', P ρ' → wp (n ρ') Q) : wp (mSeq m n ρ) Q := by
  rw [mSeq_eq]
  refine wp_call _ h1 fun r hr => ?_
  cases r with
  | nx ρ' => rw [kSeq_nx]; exact h2 _ hr
  | rt c => rw [kSeq_rt, wp_retE]; exact hr
  | bk ρ' => rw [kSeq_bk, wp_retE]; exact hr
  | ct ρ' => rw [kSeq_ct, wp_retE]; exact hr
theorem out_ok {c : C} {Q : C → Prop} (h : Q c) : wp (Res.out (.rt c)) Q := by rw [out_rt, wp_retE]; exact h
/-- behind a turn of a loop -/
def Fp (P : Ro → Prop) (Q : Res → Prop) : Res → Prop
  | .nx ρ => P ρ
  | .ct ρ => P ρ
  | .bk ρ => Q (.nx ρ)
  | .rt c => Q (.rt c)
theorem wp_over {δ : Type} (enc : δ → PyData) (I : List δ → Ro → Prop) {a : C → Ro → M Ro} {b : Ro → M Res} {Q : Res → Prop} (hn : ∀ ρ, I [] ρ → Q (.nx ρ)) (hc : ∀ d ds ρ, I (d :: ds) ρ → wp ((a (.val (enc d)) ρ).bind b) (Fp (I ds) Q)) : ∀ {ds : List δ} {ρ : Ro}, I ds ρ → wp (forL a b (ds.map enc) ρ) Q
  | [], ρ, h => by rw [List.map_nil, forL_nil, wp_retE]; exact hn ρ h
  | d :: ds, ρ, h => by
    rw [List.map_cons, forL_cons, ← bind_bind]
    refine wp_call _ (hc d ds ρ h) fun r hr => ?_
    cases r with
    | nx ρ' => rw [kFor_nx]; exact wp_over enc I hn hc hr
    | ct ρ' => rw [kFor_ct]; exact wp_over enc I hn hc hr
    | bk ρ' => rw [kFor_bk, wp_retE]; exact hr
    | rt c => rw [kFor_rt, wp_retE]; exact hr
/-- a def's run, its result named -/
theorem wp_fn {n k : Nat} {m : Ro → M Res} {cs : List C} {Q : C → Prop} (h : cs.length = n) (q : wp (m (cs.map some ++ List.replicate k none)) (fun r => wp (Res.out r) Q)) : wp (fnU n k m cs) Q := by
  rw [fnU_0 h]
  exact wp_bind.mpr q
end Cs

set_option maxRecDepth 100000
set_option maxHeartbeats 1000000
/-! reversed(e), a global text, in -/
namespace Cs
open PySem PySem.Spec PyProof.Rows L2
section
variable {tp : Option (Addr × Addr)} {K : PySem.W.Frag} {H H' H'' H0 H1 He Hq : Hp} {σ : L2.St} {ρ : Ro}
def revD : C → M (List PyData)
  | .val (.tuple ds) => .ret ds.reverse
  | _ => .fail
def gRev (g : Ro → M C) (ρ : Ro) : M (List PyData) := (g ρ).bind revD
theorem ri_rev {te : TE} {g : Ro → M C} {s : Bool} (h1 : RE K te g) : RI K s (RT.iRevA K te) (gRev g) := by
  intro tp He Hq ρ σ H Q r h
  refine h1 tp He Hq ρ σ H _ r (wp0_mono (fun c hc => ?_) (wp0_bind.mp h))
  intro x H1 g1 t1 rx
  unfold revD at hc
  split at hc
  · rename_i ds
    obtain ⟨a, vs, rfl, q1, q2, q3⟩ := rx.tup
    exact ⟨a, vs, rfl, .inr ⟨q1, hc _ H1 [] g1 t1 (lf_rev q3) (wk_revT q1 q2 q3) (fun _ m => by simp at m) (fun _ _ _ _ m => by simp at m)⟩⟩
  · exact hc.elim
theorem gRev_eq {g : Ro → M C} : gRev g ρ = (g ρ).bind revD := (rfl)
theorem revD_t {ds : List PyData} : revD (.val (.tuple ds)) = .ret ds.reverse := (rfl)
end
theorem pe_globS {X : Cx} {x z : Str} {pos : Pos} (hg : Gl X x) (hm : ∃ t, X.mg x = some (.str z t)) (hd : (x == ("__debug__" : Str)) = false := by decide) : PE X (.Name x pos) (tC (.str z)) := by
  obtain ⟨t, hm⟩ := hm
  exact pe_glob hg hm ⟨t, rfl⟩ hd
/-! in, of data -/
theorem oIn_l {d : PyData} {ds : List PyData} (h1 : SeqAt.shaped d = true) (h2 : SeqAt.shaped (.list ds) = true) (hs : ∀ z, d ≠ .str z) : oIn (.val d) (.bor (.lst ds)) = .ret (.val (.bool (ds.any fun z => PyData.eqv z d))) := by
  have e : oIn (.val d) (.bor (.lst ds)) = oInD false d ds := by
    show oInX false (some d) (some (.list ds)) = _
    cases d <;> first | rfl | exact absurd rfl (hs _)
  rw [e]
  unfold oInD
  rw [if_pos (by rw [h1, h2]; rfl), Bool.false_xor]
end Cs

set_option maxRecDepth 100000
set_option maxHeartbeats 1000000
/-! what is never reached; isinstance of tuples and lists -/
namespace Cs
open PySem PySem.Spec PyProof.Rows L2
section
variable {tp : Option (Addr × Addr)} {K : PySem.W.Frag} {H H' H'' H0 H1 He Hq : Hp} {σ : L2.St} {ρ : Ro}
def tFe : TE := fun _ _ _ => False
def tFt : TT := fun _ _ _ => False
def tFs : TS := fun _ _ _ => False
def gF (_ : Ro) : M C := .fail
def gFt (_ : Ro) : M Bool := .fail
def mF (_ : Ro) : M Res := .fail
theorem pe_F {X : Cx} {e : Expr} : PE X e tFe := ⟨fun _ _ _ _ _ _ h => h.elim⟩
theorem pt_F {X : Cx} {e : Expr} : PT X e tFt := ⟨fun _ _ _ _ _ _ h => h.elim⟩
theorem ps_F {X : Cx} {e : Stmt} : PS X e tFs := ⟨fun _ _ _ _ _ _ h => h.elim⟩
theorem pss_F {X : Cx} {e : List Stmt} : PSs X e tFs := ⟨fun _ _ _ _ _ _ h => h.elim⟩
theorem re_F : RE K tFe gF := fun _ _ _ _ _ _ _ _ h => h.elim
theorem rt_F : RT K tFt gFt := fun _ _ _ _ _ _ _ _ h => h.elim
theorem rs_F : RS K tFs mF := fun _ _ _ _ _ _ _ _ h => h.elim
theorem gF_eq : gF ρ = .fail := (rfl)
theorem gFt_eq : gFt ρ = .fail := (rfl)
theorem mF_eq : mF ρ = .fail := (rfl)
theorem mOrCt {m : M C} {c : C} : mOrC true m c = .ret c := (rfl)
theorem mOrCf {m : M C} {c : C} : mOrC false m c = m := (rfl)
theorem mAndCt {m : M C} {c : C} : mAndC true m c = m := (rfl)
theorem mAndCf {m : M C} {c : C} : mAndC false m c = .ret c := (rfl)
/-! isinstance of anything -/
def tyX : PyData → Option String
  | .none => some "NoneType"
  | .bool _ => some "bool"
  | .int _ => some "int"
  | .str _ => some "str"
  | .tuple _ => some "tuple"
  | _ => none
def oIsiX (T : String) : C → M C
  | .val d => isiT T (tyX d)
  | _ => .fail
theorem re_isiX {T : String} {ta : TE} {g : Ro → M C} (h1 : RE K ta g) : RE K (tCB (rIsi K) (tCons ta (tCons (tC (.ty T)) tNil))) (gUn (oIsiX T) g) := by
  intro tp He Hq ρ σ H Q r h
  refine h1 tp He Hq ρ σ H _ r (wp0_mono (fun c hc => ?_) (wp0_bind.mp h))
  intro x H1 g1 t1 rx
  cases c with
  | val d =>
    have key : ∀ {s : String}, TyX K H1 x (.type s) → wp0 (isiT T (some s)) (Post tp K H Q) → rIsi K [x, .ty T] H1 Q := fun {s} ty h => by
      unfold isiT at h
      dsimp only at h
      split at h
      · rename_i b e
        exact ⟨x, .ty T, .type s, .type T, b, rfl, .ty T, ty, kit_ty e, Post.bl h g1 t1⟩
      · exact h.elim
    obtain ⟨hd, _⟩ := rx
    cases hd with
    | non => exact key (.base .non) hc
    | bl b => exact key (.base (.bl b)) hc
    | int i => exact key (.base (.int i)) hc
    | str s => exact key (.base (.str s)) hc
    | lst _ _ => exact hc.elim
    | tup hs _ => exact key (s := "tuple") (.base (.tup hs)) hc
  | own o => exact hc.elim
  | bor o => exact hc.elim
  | tape => exact hc.elim
theorem kitX_tuple_str : kitB "tuple" "str" = some false := by decide +kernel
theorem kitX_tuple_bool : kitB "tuple" "bool" = some false := by decide +kernel
theorem kitX_tuple_int : kitB "tuple" "int" = some false := by decide +kernel
theorem kitX_tuple_tuple : kitB "tuple" "tuple" = some true := by decide +kernel
theorem kitX_str_tuple : kitB "str" "tuple" = some false := by decide +kernel
theorem kitX_str_bool : kitB "str" "bool" = some false := by decide +kernel
theorem kitX_str_int : kitB "str" "int" = some false := by decide +kernel
theorem kitX_bool_str : kitB "bool" "str" = some false := by decide +kernel
theorem kitX_bool_tuple : kitB "bool" "tuple" = some false := by decide +kernel
theorem kitX_int_str : kitB "int" "str" = some false := by decide +kernel
theorem kitX_int_tuple : kitB "int" "tuple" = some false := by decide +kernel
theorem kitX_none_str : kitB "NoneType" "str" = some false := by decide +kernel
theorem kitX_none_tuple : kitB "NoneType" "tuple" = some false := by decide +kernel
theorem oIsiX_v {T : String} {d : PyData} : oIsiX T (.val d) = isiT T (tyX d) := (rfl)
theorem tyX_b {b : Bool} : tyX (.bool b) = some "bool" := (rfl)
theorem tyX_i {b : Int} : tyX (.int b) = some "int" := (rfl)
theorem tyX_s {b : Str} : tyX (.str b) = some "str" := (rfl)
theorem tyX_n : tyX .none = some "NoneType" := (rfl)
theorem tyX_t {b : List PyData} : tyX (.tuple b) = some "tuple" := (rfl)
theorem isiX_ts : isiT "str" (some "tuple") = .ret (.val (.bool false)) := by unfold isiT; dsimp only; rw [kitX_tuple_str]
theorem isiX_tb : isiT "bool" (some "tuple") = .ret (.val (.bool false)) := by unfold isiT; dsimp only; rw [kitX_tuple_bool]
theorem isiX_ti : isiT "int" (some "tuple") = .ret (.val (.bool false)) := by unfold isiT; dsimp only; rw [kitX_tuple_int]
theorem isiX_tt : isiT "tuple" (some "tuple") = .ret (.val (.bool true)) := by unfold isiT; dsimp only; rw [kitX_tuple_tuple]
theorem isiX_st : isiT "tuple" (some "str") = .ret (.val (.bool false)) := by unfold isiT; dsimp only; rw [kitX_str_tuple]
theorem isiX_sb : isiT "bool" (some "str") = .ret (.val (.bool false)) := by unfold isiT; dsimp only; rw [kitX_str_bool]
theorem isiX_si : isiT "int" (some "str") = .ret (.val (.bool false)) := by unfold isiT; dsimp only; rw [kitX_str_int]
theorem isiX_bs : isiT "str" (some "bool") = .ret (.val (.bool false)) := by unfold isiT; dsimp only; rw [kitX_bool_str]
theorem isiX_bt : isiT "tuple" (some "bool") = .ret (.val (.bool false)) := by unfold isiT; dsimp only; rw [kitX_bool_tuple]
theorem isiX_is : isiT "str" (some "int") = .ret (.val (.bool false)) := by unfold isiT; dsimp only; rw [kitX_int_str]
theorem isiX_it : isiT "tuple" (some "int") = .ret (.val (.bool false)) := by unfold isiT; dsimp only; rw [kitX_int_tuple]
theorem isiX_ns : isiT "str" (some "NoneType") = .ret (.val (.bool false)) := by unfold isiT; dsimp only; rw [kitX_none_str]
theorem isiX_nt : isiT "tuple" (some "NoneType") = .ret (.val (.bool false)) := by unfold isiT; dsimp only; rw [kitX_none_tuple]
end
end Cs

set_option maxRecDepth 100000
set_option maxHeartbeats 1000000
/-! sorted of a tuple of ints; lists unpacked -/
namespace Cs
open PySem PySem.Spec PyProof.Rows L2
section
variable {prog : Program} {w : World} {A : Around} {E : Value → Shared → Prop} {s : Shared}
theorem collect_tupl {l : Addr} {vs : List Value} {Q : List Value → Shared → Prop} (hl : s.heap.IsTuple l vs.toArray)
    (h : Q vs { s with heap := (s.heap.push (seqObj "list" #[] 0)).update s.heap.objs.size (Obj.mapSeq (· ++ vs.toArray)) }) (hsz : vs.length ≤ sizeLine := by size_fits) :
    wpAny (model prog w) A (collect (.ref l)) Q E s := by
  obtain ⟨o, ho, hc, n, hd⟩ := id hl
  unfold collect
  refine wpAny_bind (wpAny_runValue (codeAny_builtin entry_proto_collect' ?_))
  show wpAny _ _ (do again (.builtin "list.__iadd__" ⟨[← newList [], .ref l], []⟩)) _ _ s
  refine wpAny_bind (wpAny_newList (wpAny_pure ⟨Code.quiet_builtin _ (by decide +kernel), codeAny_builtin entry_list_iadd' ?_⟩))
  show wpAny _ _ (Builtin.List.listExtendWith (.ref s.heap.objs.size) (.ref l) (.ref s.heap.objs.size)) _ _ { s with heap := s.heap.push (seqObj "list" #[] 0) }
  unfold Builtin.List.listExtendWith
  have ho' : (s.heap.push (seqObj "list" #[] 0)).get? l = some o := Heap.get?_push_of_some _ ho
  refine wpAny_bind (wpAny_typeOf (T := "tuple") ⟨o, ho', hc⟩ ?_)
  have ht : (Value.type "tuple" == Value.type "tuple") = true := by rfl
  rw [if_pos (by rw [ht]; simp)]
  refine wpAny_bind (listItems_at ho' hd ?_)
  refine wpAny_bind (listItems_at (xs := #[]) (n := 0) (Heap.get?_push_size _ rfl) rfl ?_)
  rw [if_neg (by simp)]
  refine wpAny_bind (listUpdate_at (xs := #[]) (n := 0) (Heap.get?_push_size _ rfl) rfl ?_ (Nat.zero_le _) (by show (#[] ++ vs.toArray).size ≤ sizeLine + 1; simp only [Array.size_append, List.size_toArray, List.length_nil]; omega))
  refine wpAny_pure ?_
  show wpAny (model prog w) A (do
      let o ← load s.heap.objs.size
      match o.data with
      | .seq xs _ => pure xs.toList
      | _ => unsupported "internal:collect") Q E { s with heap := (s.heap.push (seqObj "list" #[] 0)).update s.heap.objs.size (Obj.mapSeq (· ++ vs.toArray)) }
  refine wpAny_bind (wpAny_load (get?_update_seq (Heap.get?_push_size _ rfl) _) ?_)
  show wpAny _ _ (pure ((#[] : Array Value) ++ vs.toArray).toList) Q E _
  rw [show ((#[] : Array Value) ++ vs.toArray).toList = vs by simp]
  exact wpAny_pure h
theorem sorted_tupl {l : Addr} {vs : List Value} {ns : List Int} {Q : Value → Shared → Prop} (hl : s.heap.IsTuple l vs.toArray) (hI : IntsAre vs ns) (h64 : vs.length < 64)
    (h : ∀ (out : Array Value) (ns' : List Int), IntsAre out.toList ns' → ns'.Perm ns → ns'.Pairwise (· ≤ ·) → Q (.ref (s.heap.objs.size + 1)) { s with heap := sortedAll s.heap vs out }) :
    wpAny (model prog w) A (call (.builtin "sorted") [.ref l]) Q E s := by
  refine Calls.call_function_entry kind_sorted plain_sorted entry_sorted (args_sorted1 _) ?_
  unfold Builtin.«sorted»
  refine wpAny_bind (m := checkCount "sorted" 1 1 _) (wpAny_pure ?_)
  refine wpAny_bind (collect_tupl hl ?_ (small64 h64))
  refine wpAny_bind (wpAny_newList ?_)
  have hsz : ((s.heap.push (seqObj "list" #[] 0)).update s.heap.objs.size (Obj.mapSeq (· ++ vs.toArray))).objs.size = s.heap.objs.size + 1 := by
    rw [Heap.size_update, size_push']
  have hoL : (((s.heap.push (seqObj "list" #[] 0)).update s.heap.objs.size (Obj.mapSeq (· ++ vs.toArray))).push (seqObj "list" vs.toArray 0)).get? (s.heap.objs.size + 1) = some (seqObj "list" vs.toArray 0) := by
    rw [← hsz]; exact Heap.get?_push_size _ rfl
  show wpAny _ _ _ _ _ { s with heap := ((s.heap.push (seqObj "list" #[] 0)).update s.heap.objs.size (Obj.mapSeq (· ++ vs.toArray))).push (seqObj "list" vs.toArray 0) }
  rw [hsz]
  refine wpAny_bind (wpAny_holding (wpAny_call_entry slot_list_sort ⟨_, hoL, rfl⟩ entry_list_sort (list_sort_tree hoL hI h64 fun out ns' a1 a2 a3 => ⟨_, rfl, ?_⟩) (args_list_sort _)))
  exact wpAny_pure ⟨_, rfl, h out ns' a1 a2 a3⟩
end
def rSortU (K : PySem.W.Frag) : List V → Hp → VK → Prop := fun vs H Q => ∃ (a : Addr) (ns : List Int), vs = [V.ref a] ∧ (SqL K H a (ns.map V.int) ∨ SqT K H a (ns.map V.int)) ∧ ns.length < 64 ∧
  ∀ (ns' : List Int) (p : Addr), ns'.Perm ns → ns'.Pairwise (· ≤ ·) → H p = none → Q (.ref p) (upd H p (.lst (ns'.map V.int)))
theorem sortU (K : PySem.W.Frag) {X : Cx} (h : X.K = K := by rfl) : CallR X (.builtin "sorted") (rSortU K) := by
  subst h
  intro pins s σ H vs us Q I r h
  obtain ⟨a, ns, rfl, hs, h64, q⟩ := h
  rcases hs with hs | hs
  · exact cr_sorted pins s σ H _ us Q I r ⟨a, ns, rfl, hs, h64, q⟩
  · obtain ⟨its, rv, hl, _⟩ := I.tuple hs
    rw [Vals.ref1 r]
    have hi := rv.ints
    refine sorted_tupl (show s.heap.IsTuple a its.toArray from hl) hi (by rw [hi.length]; exact h64) fun out ns' h1 h2 h3 => ?_
    obtain ⟨ep, he'⟩ := PyProof.Rows.sortedAll_at s.heap its out
    have hlen : (ns'.map V.int).length ≤ sizeLine := by rw [List.length_map, h2.length_eq]; exact small64 h64
    exact ⟨.ref _, upd H (s.heap.objs.size + 1) (.lst (ns'.map V.int)), I.laid (t' := s.toks) (fun _ _ => PyProof.Rows.sortedAll_old) (Nat.le_succ _) ⟨hlen, out.toList, ep, vals_of_ints h1, he'⟩, rfl, q ns' _ h2 h3 (I.hok.fresh (Nat.le_succ _))⟩
section
variable {tp : Option (Addr × Addr)} {K : PySem.W.Frag} {H H' H'' H0 H1 He Hq : Hp} {σ : L2.St} {ρ : Ro}
def srtK : PyData → M C
  | .list ds => .ret (.own (.lst ds))
  | _ => .fail
def srtI (ns : List Int) : M C := if ns.length < 64 then .any (fun d => ∃ ns' : List Int, ns'.Perm ns ∧ ns'.Pairwise (· ≤ ·) ∧ d = .list (ns'.map .int)) srtK else .fail
def srtD : PyData → M C
  | .list ds => match intsOf ds with
    | some ns => srtI ns
    | none => .fail
  | .tuple ds => match intsOf ds with
    | some ns => srtI ns
    | none => .fail
  | _ => .fail
abbrev oSort := o1 srtD
theorem cs_sort : CallS K (rSortU K) oSort := by
  intro tp H0 H vs cs Q g t r h
  obtain ⟨v, d, rfl, hd, h⟩ := o1_ok r h
  have fin : ∀ {ns : List Int} {vs : List V} {a : Addr}, vs = ns.map V.int → (SqL K H a vs ∨ SqT K H a vs) → wp0 (srtI ns) (Post tp K H0 Q) → rSortU K [.ref a] H Q := by
    intro ns vs a e hs h
    subst e
    unfold srtI at h
    split at h
    · rename_i h64
      exact ⟨a, ns, rfl, hs, h64, fun ns' p hp hw hn => Post.lst (h _ ⟨ns', hp, hw, rfl⟩) g t hn (.ofInts ns') (lfAll_iff.mpr fun d m => by obtain ⟨i, _, rfl⟩ := List.mem_map.mp m; rfl)⟩
    · exact h.elim
  unfold srtD at h
  split at h
  · split at h
    · rename_i ns e
      cases hd with
      | lst hs ha => exact fin (intsOf_dp ha e) (.inl hs) h
    · exact h.elim
  · split at h
    · rename_i ns e
      cases hd with
      | tup hs ha => exact fin (intsOf_dp ha e) (.inr hs) h
    · exact h.elim
  · exact h.elim
theorem srtD_l {ns : List Int} : srtD (.list (ns.map .int)) = srtI ns := by unfold srtD; dsimp only; rw [intsOf_map]
theorem srtD_t {ns : List Int} : srtD (.tuple (ns.map .int)) = srtI ns := by unfold srtD; dsimp only; rw [intsOf_map]
/-! a list unpacked -/
def aUnl (n : Nat) (as : List PyData → Ro → M Ro) : C → Ro → M Ro
  | .own (.lst ds), ρ => if ds.length = n then as ds ρ else .fail
  | .bor (.lst ds), ρ => if ds.length = n then as ds ρ else .fail
  | _, _ => .fail
theorem rg_unl {n : Nat} {gs : TGs} {as : List PyData → Ro → M Ro} {sl : List Nat} (h2 : RGs K gs as sl) : RG K (gUnl K n gs) (aUnl n as) sl := by
  intro tp He Hq ρ σ Hb H v c Q r g t rc h
  unfold aUnl at h
  split at h
  · rename_i ds
    obtain ⟨a, e, _, _, vs, q1, q2, q3⟩ := rc
    split at h
    · rename_i l
      exact ⟨a, vs, e, SqL.of q1, by rw [q2.len]; exact l, h2 tp He Hq ρ σ H vs ds Q (r.go g t) q2 q3 h⟩
    · exact h.elim
  · rename_i ds
    obtain ⟨a, e, vs, q1, q2, q3⟩ := rc
    split at h
    · rename_i l
      exact ⟨a, vs, e, q1.sq, by rw [q2.len]; exact l, h2 tp He Hq ρ σ H vs ds Q (r.go g t) q2 q3 h⟩
    · exact h.elim
  · exact h.elim
theorem aUnl_o {n : Nat} {as : List PyData → Ro → M Ro} {ds : List PyData} : aUnl n as (.own (.lst ds)) ρ = if ds.length = n then as ds ρ else .fail := (rfl)
theorem aUnl_b {n : Nat} {as : List PyData → Ro → M Ro} {ds : List PyData} : aUnl n as (.bor (.lst ds)) ρ = if ds.length = n then as ds ρ else .fail := (rfl)
/-! zip of two tuples -/
def zipT (xs ys : List PyData) : List PyData := (xs.zip ys).map fun p => .tuple [p.1, p.2]
def zipD : List C → M (List PyData)
  | [.val (.tuple xs), .val (.tuple ys)] => .ret (zipT xs ys)
  | _ => .fail
def gZip (gs : Ro → M (List C)) (ρ : Ro) : M (List PyData) := (gs ρ).bind zipD
theorem gZip_eq {gs : Ro → M (List C)} : gZip gs ρ = (gs ρ).bind zipD := (rfl)
theorem zipD_t {xs ys : List PyData} : zipD [.val (.tuple xs), .val (.tuple ys)] = .ret (zipT xs ys) := (rfl)
theorem lf_zip {xs ys : List PyData} (f : lfAll xs = true) (g : lfAll ys = true) : lfAll (zipT xs ys) = true := rfl
theorem wk_zipT {a b : Addr} {vs us : List V} {xs ys : List PyData} (h : SqT K H1 a vs) (h' : SqT K H1 b us) (hd : VlAll K H1 vs xs) (hd' : VlAll K H1 us ys) (f : lfAll xs = true) (f' : lfAll ys = true) : Wk K H1 (RZ.ItzT K a b) [] (zipT xs ys) := by
  intro H' im kp
  have hs := im.sqT h
  have hs' := im.sqT h'
  have e1 := hd.imlf im xs _ f
  have e2 := hd'.imlf im ys _ f'
  refine ⟨⟨vs, us, hs, hs', ?_⟩, fun i d e => ?_⟩
  · rw [hd.len, hd'.len]
    unfold zipT
    rw [List.length_map, List.length_zip]
    omega
  · unfold zipT at e
    rw [List.getElem?_map] at e
    cases q : (xs.zip ys)[i]? with
    | none => rw [q] at e; cases e
    | some p =>
      rw [q] at e
      obtain ⟨x, y⟩ := p
      cases e
      obtain ⟨q1, q2⟩ := List.getElem?_zip_eq_some.mp q
      obtain ⟨v, v1, v2⟩ := e1.get q1
      obtain ⟨u, u1, u2⟩ := e2.get q2
      refine ⟨⟨vs, us, v, u, hs, hs', v1, u1⟩, fun z H'' yl => ?_⟩
      obtain ⟨T, x', y', rfl, hT, rfl, g1, g2⟩ := yl
      have := g1 vs hs
      rw [v1] at this
      cases this
      have := g2 us hs'
      rw [u1] at this
      cases this
      have fx := lfAll_get f q1
      have fy := lfAll_get f' q2
      have im2 : Im H' (upd H' T (.tup [v, u])) := Im.new hT
      exact ⟨Same.new hT, .tup upd_same (.cons (v2.imlf im2 x _ fx) (.cons (u2.imlf im2 y _ fy) .nil))⟩
theorem ri_zip {ta : TA} {gs : Ro → M (List C)} {s : Bool} (h1 : RA K ta gs) : RI K s (RZ.iZipA K ta) (gZip gs) := by
  intro tp He Hq ρ σ H Q r h
  refine h1 tp He Hq ρ σ H _ r (wp0_mono (fun c hc => ?_) (wp0_bind.mp h))
  intro vs H1 g1 t1 rx
  unfold zipD at hc
  split at hc
  · rename_i xs ys
    obtain ⟨v, u, rfl, r1, r2⟩ := rx.two
    obtain ⟨a, vs, rfl, q1, q2, q3⟩ := r1.tup
    obtain ⟨b, us, rfl, p1, p2, p3⟩ := r2.tup
    exact ⟨a, b, vs, us, rfl, .inr ⟨q1, p1, hc _ H1 [] g1 t1 (lf_zip q3 p3) (wk_zipT q1 p1 q2 p2 q3 p3) (fun _ m => by simp at m) (fun _ _ _ _ m => by simp at m)⟩⟩
  · exact hc.elim
/-! < of ints, bools, texts -/
def rLtU : R2 := fun x y H Q => rI0 (fun i j => .bl (decide (i < j))) x y H Q ∨ (∃ i j, x = .str i ∧ y = .str j ∧ Q (.bl (decide (i.cps.toList < j.cps.toList))) H) ∨ ∃ p q, x = .bl p ∧ y = .bl q ∧ Q (.bl (!p && q)) H
theorem opLtU {X : Cx} : OpR X (compareOp .Lt) rLtU := by
  intro pins s σ H x y v u Q I rx ry h
  rcases h with h | ⟨i, j, rfl, rfl, q⟩ | ⟨p, r, rfl, rfl, q⟩
  · exact op_lt pins s σ H x y v u Q I rx ry h
  · exact op_lt_str pins s σ H _ _ v u Q I rx ry ⟨i, j, rfl, rfl, q⟩
  · cases rx
    cases ry
    refine PyProof.Rows.lt_bool ?_
    have e : decide (b2i p < b2i r) = (!p && r) := by cases p <;> cases r <;> decide
    rw [e]
    exact ⟨.bl (!p && r), H, I, rfl, q⟩
def oLtU : C → C → M C
  | .val (.int i), .val (.int j) => .ret (.val (.bool (decide (i < j))))
  | .val (.str i), .val (.str j) => .ret (.val (.bool (decide (i.cps.toList < j.cps.toList))))
  | .val (.bool p), .val (.bool q) => .ret (.val (.bool (!p && q)))
  | _, _ => .fail
theorem os_ltU : OpS K rLtU oLtU := by
  intro tp H0 H x y cx cy Q g t rx ry h
  unfold oLtU at h
  split at h
  · rename_i i j
    cases rx.int; cases ry.int
    exact .inl ⟨i, j, rfl, rfl, Post.bl h g t⟩
  · rename_i i j
    cases rx.str; cases ry.str
    exact .inr (.inl ⟨i, j, rfl, rfl, Post.bl h g t⟩)
  · rename_i i j
    cases rx.bl; cases ry.bl
    exact .inr (.inr ⟨i, j, rfl, rfl, Post.bl h g t⟩)
  · exact h.elim
theorem oLtU_i {i j : Int} : oLtU (.val (.int i)) (.val (.int j)) = .ret (.val (.bool (decide (i < j)))) := (rfl)
theorem oLtU_s {i j : Str} : oLtU (.val (.str i)) (.val (.str j)) = .ret (.val (.bool (decide (i.cps.toList < j.cps.toList)))) := (rfl)
theorem oLtU_b {i j : Bool} : oLtU (.val (.bool i)) (.val (.bool j)) = .ret (.val (.bool (!i && j))) := (rfl)
end
/-! index -/
def rIndexT (K : PySem.W.Frag) : V → List V → Hp → VK → Prop := fun x xs H Q => ∃ (a : Addr) (y : V) (d : PyData) (ds : List PyData) (j : Nat) (z : PyData), x = V.ref a ∧ xs = [y] ∧ Dp K H (V.ref a) (.tuple ds) ∧ Dp K H y d ∧
  SeqAt.shaped (.list ds) = true ∧ SeqAt.shaped d = true ∧ ds[j]? = some z ∧ PyData.eqv z d = true ∧ (∀ (m : Nat) (z' : PyData), m < j → ds[m]? = some z' → PyData.eqv z' d = false) ∧ Q (.int (j : Nat)) H
theorem mt_indexT {X : Cx} (hu : X.A.units + 65 < cLine) : MtR X "tuple.index" (rIndexT X.K) := by
  intro pins s σ H x xs v us Q I rx rxs h
  obtain ⟨a, y, d, ds, j, z, rfl, rfl, hl, hy, sl, sd, hz, hzj, hno, q⟩ := h
  cases rx
  cases rxs with
  | cons ry rt =>
    rename_i uy ut
    cases rt
    obtain ⟨bs, r1⟩ := Dp.reads I d y uy hy ry
    have hxs : PyData.canLayAll0 ds = true := SeqAt.canLay_of_shaped sl
    have hroom : X.A.units + 1 + min (PyData.depthAll ds) d.depth < cLine := room_in_shaped sd hu
    cases hl with
    | tup hs ha =>
      obtain ⟨its, rv, ⟨⟨cls, dd, data, sls⟩, ho, hc, n, hdt⟩, hlen⟩ := I.tuple hs
      simp only at hc hdt
      subst hc hdt
      obtain ⟨as, h4⟩ := Dp.readsAll I ds _ its ha rv
      have hn : its.length = ds.length := SeqAt.ReadsAll.length ds its as h4
      have hmap : its.map (SeqAt.readOf s.heap) = ds := SeqAt.readsAll_map ds its as hxs h4
      have hvl := rv.length
      have hsl := sizeLine_eq
      obtain ⟨hjd, _⟩ := List.getElem?_eq_some_iff.mp hz
      have hjl : j < its.length := by omega
      have hj : j < its.toArray.size := by simpa using hjl
      have at_ : ∀ (m : Nat) (hm : m < its.toArray.size) (z' : PyData), ds[m]? = some z' → SeqAt.readOf s.heap its.toArray[m] = z' := by
        intro m hm z' hz'
        have hml : m < its.length := by simpa using hm
        rw [← hmap, List.getElem?_map, List.getElem?_eq_getElem hml] at hz'
        have e1 : SeqAt.readOf s.heap its[m] = z' := Option.some.inj (show some (SeqAt.readOf s.heap its[m]) = some z' from hz')
        simpa using e1
      refine call_meets PySem.F.slot_tuple_index ⟨_, ho, rfl⟩ PySem.F.entry_tuple_index (PySem.F.args_tuple_index_2 _ _)
        (TI.tuple_indexAt a its.toArray n dd sls uy (fun u => PyData.eqv (SeqAt.readOf s.heap u) d) j hj ?_ ?_) ⟨ho, SeqAt.items_eqAt (vs := its.toArray) (show ReadsAll s.heap its.toArray.toList ds as from h4) r1 hxs (SeqAt.canLay_of_shaped sd) hroom, ?_⟩
      · show PyData.eqv (SeqAt.readOf s.heap its.toArray[j]) d = true
        rw [at_ j hj z hz]
        exact hzj
      · intro m hm hmj
        have hmd : m < ds.length := by omega
        have hz' : ds[m]? = some ds[m] := List.getElem?_eq_getElem hmd
        show PyData.eqv (SeqAt.readOf s.heap its.toArray[m]) d = false
        rw [at_ m hm _ hz']
        exact hno m _ hmj hz'
      · exact ⟨.int (j : Nat), H, I.tok _, ⟨_, rfl⟩, q⟩
theorem mtIxT (K : PySem.W.Frag) {X : Cx} (hu : X.A.units + 65 < cLine) (h : X.K = K := by rfl) : MtR X "tuple.index" (rIndexT K) := h ▸ mt_indexT hu
theorem mtIxL (K : PySem.W.Frag) {X : Cx} (hu : X.A.units + 65 < cLine) (h : X.K = K := by rfl) : MtR X "list.index" (rIndexD K) := h ▸ mt_indexD hu
section
variable {tp : Option (Addr × Addr)} {K : PySem.W.Frag} {H H' H'' H0 H1 He Hq : Hp} {σ : L2.St} {ρ : Ro}
/-- the first place of an equal one -/
def idx (d : PyData) (ds : List PyData) : Option Nat := ds.findIdx? fun z => PyData.eqv z d
theorem idx_some {d : PyData} {ds : List PyData} {j : Nat} (h : idx d ds = some j) : ∃ z, ds[j]? = some z ∧ PyData.eqv z d = true ∧ ∀ (m : Nat) (z' : PyData), m < j → ds[m]? = some z' → PyData.eqv z' d = false := by
  unfold idx at h
  obtain ⟨hj, h1, h2⟩ := List.findIdx?_eq_some_iff_getElem.mp h
  refine ⟨ds[j], List.getElem?_eq_getElem hj, h1, fun m z' hm hz => ?_⟩
  obtain ⟨hm', e⟩ := List.getElem?_eq_some_iff.mp hz
  have := h2 m hm
  rw [e] at this
  simpa using this
def idxD (d : PyData) (ds : List PyData) : M C := if (SeqAt.shaped d && SeqAt.shaped (.list ds)) = true then (match idx d ds with
  | some j => .ret (.val (.int (j : Nat)))
  | none => .fail) else .fail
def idxA (ds : List PyData) : List C → M C
  | [.val d] => idxD d ds
  | _ => .fail
def kIdxL (gs : Ro → M (List C)) (ρ : Ro) : C → M C
  | .bor (.lst ds) => (gs ρ).bind (idxA ds)
  | .own (.lst ds) => (gs ρ).bind (idxA ds)
  | .val (.list ds) => (gs ρ).bind (idxA ds)
  | _ => .fail
theorem RC.lbor {v : V} {ds : List PyData} (h : RC tp K H0 H v (.val (.list ds))) (t : TOk tp H) : RC tp K H0 H v (.bor (.lst ds)) := by
  obtain ⟨a, vs, rfl, ⟨o, q1⟩, q2⟩ := h.frz
  refine ⟨a, rfl, vs, ⟨.inr ⟨o, q1⟩, fun e => ?_⟩, q2, rfl⟩
  cases tp with
  | none => cases e
  | some w =>
    obtain ⟨b, l⟩ := w
    have : b = a := by simpa using e
    subst this
    obtain ⟨xs, z⟩ := (t b l rfl).list
    rw [q1] at z
    cases z
def gIdxL (go : Ro → M C) (gs : Ro → M (List C)) (ρ : Ro) : M C := (go ρ).bind (kIdxL gs ρ)
theorem gIdxL_eq {go : Ro → M C} {gs : Ro → M (List C)} : gIdxL go gs ρ = (go ρ).bind (kIdxL gs ρ) := (rfl)
theorem kIdxL_b {gs : Ro → M (List C)} {ds : List PyData} : kIdxL gs ρ (.bor (.lst ds)) = (gs ρ).bind (idxA ds) := (rfl)
theorem kIdxL_o {gs : Ro → M (List C)} {ds : List PyData} : kIdxL gs ρ (.own (.lst ds)) = (gs ρ).bind (idxA ds) := (rfl)
theorem idxA_v {ds : List PyData} {d : PyData} : idxA ds [.val d] = idxD d ds := (rfl)
theorem RCs.one' {vs : List V} {c : C} (h : RCs tp K H0 H vs [c]) : ∃ v, vs = [v] ∧ RC tp K H0 H v c := by
  cases vs with
  | nil => exact h.elim
  | cons v vs => cases vs with
    | nil => exact ⟨v, rfl, h.1⟩
    | cons _ _ => exact h.2.elim
theorem idxD_ok {d : PyData} {ds : List PyData} {Q : VK} (g : GrT tp H0 H) (t : TOk tp H) (h : wp0 (idxD d ds) (Post tp K H0 Q)) : SeqAt.shaped (.list ds) = true ∧ SeqAt.shaped d = true ∧ ∃ (j : Nat) (z : PyData), ds[j]? = some z ∧ PyData.eqv z d = true ∧ (∀ (m : Nat) (z' : PyData), m < j → ds[m]? = some z' → PyData.eqv z' d = false) ∧ Q (.int (j : Nat)) H := by
  unfold idxD at h
  split at h
  · rename_i e
    simp only [Bool.and_eq_true] at e
    split at h
    · rename_i j e2
      obtain ⟨z, z1, z2, z3⟩ := idx_some e2
      exact ⟨e.2, e.1, j, z, z1, z2, z3, Post.int h g t⟩
    · exact h.elim
  · exact h.elim
theorem re_idxL {to : TE} {t : TA} {go : Ro → M C} {gs : Ro → M (List C)} (h1 : RE K to go) (h2 : RA K t gs) : RE K (tBM K "list" (rIndexD K) to t) (gIdxL go gs) := by
  intro tp He Hq ρ σ H Q r h
  refine h1 tp He Hq ρ σ H _ r (wp0_mono (fun c hc => ?_) (wp0_bind.mp h))
  intro x H1 g1 t1 rx
  have key : ∀ {ds : List PyData}, RC tp K H H1 x (.bor (.lst ds)) → wp0 ((gs ρ).bind (idxA ds)) (Post tp K H Q) → tyV K "list" x H1 ∧ t σ H1 fun xs H2 => rIndexD K x xs H2 Q := fun {ds} rx hc => by
    obtain ⟨a, rfl, vs, q1, q2, q3⟩ := rx
    refine ⟨.inl ⟨rfl, vs, q1.sq⟩, ?_⟩
    refine h2 tp He Hq ρ σ H1 _ (r.go g1 t1) (wp0_mono (fun cs hcs => ?_) (wp0_bind.mp hc))
    intro xs H2 g2 t2 rcs
    unfold idxA at hcs
    split at hcs
    · rename_i d
      obtain ⟨y, rfl, ry⟩ := rcs.one'
      have rx2 : RC tp K H H2 (V.ref a) (.bor (.lst ds)) := RC.gr (⟨a, rfl, vs, q1, q2, q3⟩ : RC tp K H H1 (V.ref a) (.bor (.lst ds))) g2 t1
      obtain ⟨s1, s2, j, z, z1, z2, z3, q⟩ := idxD_ok (g1.trans g2) t2 hcs
      exact ⟨a, y, d, ds, j, z, rfl, rfl, rx2.dp rfl, ry.1.dp _ _, s1, s2, z1, z2, z3, q⟩
    · exact hcs.elim
  cases c with
  | own o =>
    cases o with
    | lst ds => exact key rx.lend hc
    | dT _ => exact hc.elim
    | dK _ => exact hc.elim
    | lT _ => exact hc.elim
  | bor o =>
    cases o with
    | lst ds => exact key rx hc
    | dT _ => exact hc.elim
    | dK _ => exact hc.elim
    | lT _ => exact hc.elim
  | val d =>
    cases d with
    | list ds => exact key (rx.lbor t1) hc
    | _ => exact hc.elim
  | tape => exact hc.elim
/-! a tuple of the module's top -/
def KTup (K : PySem.W.Frag) (a : Addr) (ds : List PyData) : Prop := ∃ (o : Obj) (its : Array Value) (n : Nat) (vs : List V), K.lookup a = some o ∧ o.cls = .type "tuple" ∧ o.dict = none ∧ o.data = .seq its n ∧ its.size ≤ sizeLine ∧ Vals vs its.toList ∧ (∀ H, VlAll K H vs ds) ∧ lfAll ds = true
theorem KTup.dp {a : Addr} {ds : List PyData} (h : KTup K a ds) (H : Hp) : Dp K H (.ref a) (.tuple ds) := by
  obtain ⟨o, its, n, vs, h1, h2, h3, h4, h5, h6, h7, h8⟩ := h
  exact .tup (.inr ⟨o, its, n, h1, h2, h4, h5, h6⟩) ((h7 H).dp _ _)
theorem pe_ktup {X : Cx} {x : Str} {a : Addr} {pos : Pos} (hg : Gl X x) (hm : X.mg x = some (.ref a)) (hd : (x == ("__debug__" : Str)) = false := by decide) : PE X (.Name x pos) (tC (.ref a)) := pe_glob hg hm rfl hd
def gIdxK (ds : List PyData) (gs : Ro → M (List C)) (ρ : Ro) : M C := (gs ρ).bind (idxA ds)
theorem gIdxK_eq {ds : List PyData} {gs : Ro → M (List C)} : gIdxK ds gs ρ = (gs ρ).bind (idxA ds) := (rfl)
theorem re_idxK {a : Addr} {ds : List PyData} {t : TA} {gs : Ro → M (List C)} (hk : KTup K a ds) (h2 : RA K t gs) : RE K (tBM K "tuple" (rIndexT K) (tC (.ref a)) t) (gIdxK ds gs) := by
  intro tp He Hq ρ σ H Q r h
  refine ⟨?_, ?_⟩
  · obtain ⟨o, its, n, vs, h1, h2, h3, _⟩ := hk
    exact .inr (.inl ⟨rfl, o, h1, h2, h3⟩)
  · refine h2 tp He Hq ρ σ H _ r (wp0_mono (fun cs hcs => ?_) (wp0_bind.mp h))
    intro xs H2 g2 t2 rcs
    unfold idxA at hcs
    split at hcs
    · rename_i d
      obtain ⟨y, rfl, ry⟩ := rcs.one'
      obtain ⟨s1, s2, j, z, z1, z2, z3, q⟩ := idxD_ok g2 t2 hcs
      exact ⟨a, y, d, ds, j, z, rfl, rfl, hk.dp H2, ry.1.dp _ _, s1, s2, z1, z2, z3, q⟩
    · exact hcs.elim
/-! index of a sign in a text -/
def sixD (z : Str) : List C → M C
  | [.val (.str b)] => match Builtin.Str.occurrences z b 0 z.length 1 with
    | i :: _ => .ret (.val (.int (i : Nat)))
    | [] => .fail
  | _ => .fail
def kSix (gs : Ro → M (List C)) (ρ : Ro) : C → M C
  | .val (.str z) => (gs ρ).bind (sixD z)
  | _ => .fail
def gSix (go : Ro → M C) (gs : Ro → M (List C)) (ρ : Ro) : M C := (go ρ).bind (kSix gs ρ)
theorem gSix_eq {go : Ro → M C} {gs : Ro → M (List C)} : gSix go gs ρ = (go ρ).bind (kSix gs ρ) := (rfl)
theorem kSix_s {gs : Ro → M (List C)} {z : Str} : kSix gs ρ (.val (.str z)) = (gs ρ).bind (sixD z) := (rfl)
def rSix : V → List V → Hp → VK → Prop := fun x xs H Q => ∃ a b i rest, x = .str a ∧ xs = [.str b] ∧ Builtin.Str.occurrences a b 0 a.length 1 = i :: rest ∧ Q (.int (i : Nat)) H
theorem mtSix {X : Cx} : MtR X "str.index" rSix := mt_sindex
theorem re_six {to : TE} {t : TA} {go : Ro → M C} {gs : Ro → M (List C)} (h1 : RE K to go) (h2 : RA K t gs) : RE K (tBM K "str" rSix to t) (gSix go gs) := by
  intro tp He Hq ρ σ H Q r h
  refine h1 tp He Hq ρ σ H _ r (wp0_mono (fun c hc => ?_) (wp0_bind.mp h))
  intro x H1 g1 t1 rx
  unfold kSix at hc
  split at hc
  · rename_i z
    cases rx.str
    refine ⟨rfl, ?_⟩
    refine h2 tp He Hq ρ σ H1 _ (r.go g1 t1) (wp0_mono (fun cs hcs => ?_) (wp0_bind.mp hc))
    intro xs H2 g2 t2 rcs
    unfold sixD at hcs
    split at hcs
    · rename_i b
      obtain ⟨y, rfl, ry⟩ := rcs.one'
      cases ry.str
      split at hcs
      · rename_i i rest e
        exact ⟨z, b, i, rest, rfl, rfl, e, Post.int hcs (g1.trans g2) t2⟩
      · exact hcs.elim
    · exact hcs.elim
  · exact hc.elim
/-! x += e of ints -/
def kAug (i : Nat) (f : Int → Int → Int) (a : Int) (ρ : Ro) : C → M Res
  | .val (.int b) => (asgR i (.val (.int (f a b))) ρ).bind fun ρ' => .ret (.nx ρ')
  | _ => .fail
def augAt (i : Nat) (f : Int → Int → Int) (g : Ro → M C) (ρ : Ro) : Option (Option C) → M Res
  | some (some (.val (.int a))) => (g ρ).bind (kAug i f a ρ)
  | _ => .fail
def mAugI (i : Nat) (f : Int → Int → Int) (g : Ro → M C) (ρ : Ro) : M Res := augAt i f g ρ ρ[i]?
theorem mAugI_eq {i : Nat} {f : Int → Int → Int} {g : Ro → M C} : mAugI i f g ρ = augAt i f g ρ ρ[i]? := (rfl)
theorem augAt_i {i : Nat} {f : Int → Int → Int} {g : Ro → M C} {a : Int} : augAt i f g ρ (some (some (.val (.int a)))) = (g ρ).bind (kAug i f a ρ) := (rfl)
theorem kAug_i {i : Nat} {f : Int → Int → Int} {a b : Int} : kAug i f a ρ (.val (.int b)) = (asgR i (.val (.int (f a b))) ρ).bind fun ρ' => .ret (.nx ρ') := (rfl)
theorem rs_augI {i : Nat} {f : Int → Int → Int} {te : TE} {g : Ro → M C} (h1 : RE K te g) : RS K (tAug i te (ipI f)) (mAugI i f g) := by
  intro tp He Hq ρ σ H D r h
  unfold mAugI augAt at h
  split at h
  · rename_i a e
    obtain ⟨v, h2, h3⟩ := r.at_ i _ e
    have h3' : RC tp K H H v (.val (.int a)) := h3
    cases h3'.int
    refine ⟨_, h2, ?_⟩
    refine h1 tp He Hq ρ σ H _ r (wp0_mono (fun c hc => ?_) (wp0_bind.mp h))
    intro y H1 g1 t1 ry
    unfold kAug at hc
    split at hc
    · rename_i b
      cases ry.int
      refine ⟨a, b, rfl, rfl, ?_⟩
      exact rg_name tp He Hq ρ σ H H1 (.int (f a b)) (.val (.int (f a b))) D.nx r g1 t1 ⟨.int _, rfl⟩ (wp0_mono (fun ρ' hρ σ' _ rel => hρ σ' H1 Hq .refl rel) (wp0_bind.mp hc))
    · exact hc.elim
  · exact h.elim
end
/-- a def that calls itself, at no depth -/
theorem Df.rec0 {K : PySem.W.Frag} {P : Program} {w : World} {mg : Str → Option Value} {base : Heap} {x : Str} {st : Stmt} {N ps : List Str} {k : Nat} (A : At K mg x st)
    (bd : ∀ (kV doc pm : Value) (an : Option Addr) (cdv ct : Value) (us : List Value), us.length = ps.length → bindArgs (PySem.W.fnOf x x (defArgs st) (defBody st) (defScope st) .none kV doc pm an cdv ct) ⟨us, []⟩ = pure (ps.zip us))
    (S : FnScope N ps (defScope st)) : Df P w K mg base (k + 1) x ps (spU K (fun _ => .fail)) := by
  refine Df.of A bd S (fun vs H Q E h => ?_) (fun cdv A out f s H vs Q E hr hg h => ?_)
  · obtain ⟨tp, cs, t, rc, no, h⟩ := h
    exact h.elim
  · obtain ⟨tp, cs, t, rc, no, h⟩ := h
    exact h.elim
end Cs

set_option maxRecDepth 100000
set_option maxHeartbeats 1000000
/-! defs with keyword-only parameters -/
namespace Cs
open PySem PySem.Spec PyProof.Rows L2
def AtK (K : PySem.W.Frag) (mg : Str → Option Value) (x : Str) (st : Stmt) (kws : List (Str × V)) : Prop := ∃ (f : Addr) (fd : FuncData), mg x = some (.ref f) ∧ Fun K x x st f fd ∧ FunD K x x (defArgs st) (defBody st) (defScope st) [] kws f fd
def DfK (P : Program) (w : World) (K : PySem.W.Frag) (mg : Str → Option Value) (base : Heap) (k : Nat) (x : Str) (ps : List Str) (n : Nat) (kws : List (Str × V)) (sp : Sp) : Prop :=
  ∃ (f : Addr) (fd : FuncData) (ds : List Value), mg x = some (.ref f) ∧ PySem.W.keepIn K (.ref f) = true ∧ Vals (kws.map (·.2)) ds ∧ Binds K fd ps ds ∧ KBn K fd ps n (kws.map (·.1)) (fun us ws => us ++ ws) (fun vs zs => vs ++ zs) ∧ FnG P w K mg base k f fd ps sp
section
variable {P : Program} {w : World} {K : PySem.W.Frag} {mg : Str → Option Value} {base : Heap}
theorem DfK.uni {x : Str} {st : Stmt} {N ps : List Str} {kws : List (Str × V)} {k n m : Nat} {mm : Ro → M Res} (A : AtK K mg x st kws) (hk : kws ≠ []) (hn : n + kws.length = ps.length)
    (h0 : ∀ (D : Addr) (doc pm : Value) (an : Option Addr) (cdv ct : Value) (us ks : List Value), us.length = n → ks.length = kws.length →
      KwChain D ((kws.map (·.1)).zip ks) (bindArgs (PySem.W.fnOf x x (defArgs st) (defBody st) (defScope st) .none (.ref D) doc pm an cdv ct) ⟨us, []⟩) (ps.zip (us ++ ks)))
    (h1 : ∀ (kV doc pm : Value) (an : Option Addr) (cdv ct : Value) (us ws : List Value), us.length = n → ws.length = kws.length → bindArgs (PySem.W.fnOf x x (defArgs st) (defBody st) (defScope st) .none kV doc pm an cdv ct) ⟨us, (kws.map (·.1)).zip ws⟩ = pure (ps.zip (us ++ ws)))
    (S : FnScope N ps (defScope st)) (hm : N.length - ps.length = m)
    (body : ∀ (cdv : Value) (A : Around) (out : List Env) (f : Addr) (s : Shared) (H : Hp) (E : XK), Room k (A.deeper (envOfC x (defScope st) s.heap.objs.size f cdv)) → A.guards = some [] →
      ∃ t, PSs (cxG P w K mg base N x (defScope st) f cdv A out s H E) (defBody st) t ∧ RS K t mm) :
    DfK P w K mg base (k + 1) x ps n kws (spU K (fnU ps.length m mm)) := by
  obtain ⟨f, fd, hmg, F, FD⟩ := A
  obtain ⟨ds, vd, bd⟩ := FD.binds0 n hk hn h0
  have G : FnG P w K mg base (k + 1) f fd ps (spU K (fnU ps.length m mm)) := by
    refine FnG.of F S (fun vs H Q E h => ?_) (fun cdv A out s H vs Q E hr hg h => ?_)
    · obtain ⟨tp, cs, t, rc, no, h⟩ := h
      unfold fnU at h
      split at h
      · rename_i e
        rw [rc.len, e]
      · exact h.elim
    · obtain ⟨tp, cs, t, rc, no, h⟩ := h
      obtain ⟨t', q1, q2⟩ := body cdv A out f s H E hr hg
      refine ⟨t', q1, ?_⟩
      unfold fnU at h
      split at h
      · rename_i e
        refine q2 tp H H _ _ H _ (start_rel t rc no (by rw [rc.len, e]; exact hm)) (wp0_mono (fun q hq => ?_) (wp0_bind.mp h))
        cases q with
        | nx ρ' => exact fun σ' H' Hq' g' r' => hq .non H' (r'.sub.trans r'.gr) r'.tok ⟨.non, rfl⟩
        | rt c => exact hq
        | bk _ => exact hq.elim
        | ct _ => exact hq.elim
      · exact h.elim
  refine ⟨f, fd, ds, hmg, F.kp, vd, bd, ⟨fun s us ws X l1 l2 => ?_, fun r1 r2 => r1.append r2⟩, G⟩
  obtain ⟨oc, od, kV, doc, pm, an, cdv, ct, osl, rfl, _⟩ := F.ex
  rw [List.length_map] at l2
  exact .of_eq (h1 kV doc pm an cdv ct us ws l1 l2)
end
section
variable {X : Cx} {k n : Nat} {ps : List Str} {sp : Sp} {x : Str} {p pos : Pos} {e : Expr} {es : List Expr} {kw : List Keyword} {kws : List (Str × V)} {t tk : TA}
def tFnD (sp : Sp) (ds : List V) (t : TA) : TE := fun σ H Q => t σ H fun vs H1 => sp (vs ++ ds) H1 Q E0
theorem pe_dfD (D : DfK X.prog X.w X.K X.mg X.base k x ps n kws sp) (hr : Room k X.A) (hgd : X.A.guards = some []) (hg : Gl X x)
    (ha : PA X (e :: es) t) (hdb : (x == ("__debug__" : Str)) = false := by decide) (he : starEach (e :: es) X.env = (false, eval e X.env) :: starEach es X.env := by rfl) (hpl : (backTo pos (starEach es X.env)).any (·.1) = false := by rfl) :
    PE X (.Call (.Name x p) (e :: es) [] pos) (tFnD sp (kws.map (·.2)) t) := by
  obtain ⟨f, fd, ds, hm, hk, vd, hb, _, F⟩ := D
  refine ⟨fun pins s σ H Q I h => wpAny_Call_Name_kw (ld_glob I hg hm ?_ hdb)⟩
  refine PySem.W.callWith_K (h₀ := X.base) I.ok.mod.kin hk (thn (ha.run pos pins s σ H _ I h) fun us s1 ⟨vs, H1, I1, r, q⟩ => ⟨I1.kIn, ?_⟩) he hpl
  have r2 : Vals (vs ++ kws.map (·.2)) (us ++ ds) := r.append vd
  have hl : (us ++ ds).length = ps.length := by rw [← r2.length]; exact F.len _ _ _ _ q
  refine wpAny_call (codeAny_mono (F.go X.A X.stack s1 H1 ⟨us, []⟩ (us ++ ds) (vs ++ kws.map (·.2)) Q E0 hr hgd I1.env0 (hb s1 us I1.kIn hl) r2 q) fun r s' hq => ?_)
  match r, hq with
  | .ok (.ret u), hq => exact I1.after hq
  | .error e, hq => exact False.elim hq
  | .ok .next, hq => exact False.elim hq
  | .ok .brk, hq => exact False.elim hq
  | .ok .cont, hq => exact False.elim hq
def tFnK (sp : Sp) (n m : Nat) (t tk : TA) : TE := fun σ H Q => t σ H fun vs H1 => tk σ H1 fun zs H2 => vs.length = n ∧ zs.length = m ∧ sp (vs ++ zs) H2 Q E0
theorem pe_dfK (D : DfK X.prog X.w X.K X.mg X.base k x ps n kws sp) (hr : Room k X.A) (hgd : X.A.guards = some []) (hg : Gl X x)
    (ha : PA X (e :: es) t) (hkw : PK X kw tk) (hks : (backToKw pos (keywordEach kw X.env)).filterMap (·.1) = kws.map (·.1) := by rfl) (hall : (backToKw pos (keywordEach kw X.env)).all (·.1.isSome) = true := by rfl)
    (hdb : (x == ("__debug__" : Str)) = false := by decide) (he : starEach (e :: es) X.env = (false, eval e X.env) :: starEach es X.env := by rfl)
    (hpl : ((backTo pos (starEach (e :: es) X.env)).any (·.1) || (backToKw pos (keywordEach kw X.env)).any (·.1.isNone)) = false := by rfl) :
    PE X (.Call (.Name x p) (e :: es) kw pos) (tFnK sp n kws.length t tk) := by
  obtain ⟨f, fd, ds, hm, hk, vd, _, hb, F⟩ := D
  refine ⟨fun pins s σ H Q I h => wpAny_Call_Name_kw (ld_glob I hg hm ?_ hdb)⟩
  refine PySem.W.callWith_KW (h₀ := X.base) I.ok.mod.kin hk hall (thn (ha.run pos pins s σ H _ I h) fun us s1 ⟨vs, H1, I1, r, q⟩ => ?_) hpl he
  refine thn (hkw.run pos pins s1 σ H1 _ I1 q) fun ws s2 ⟨zs, H2, I2, rz, l1, l2, q2⟩ => ⟨I2.kIn, ?_⟩
  rw [hks]
  have r2 : Vals (vs ++ zs) (us ++ ws) := r.append rz
  refine wpAny_call (codeAny_mono (F.go X.A X.stack s2 H2 ⟨us, (kws.map (·.1)).zip ws⟩ (us ++ ws) (vs ++ zs) Q E0 hr hgd I2.env0 (hb.to s2 us ws I2.kIn (r.length.symm.trans l1) (rz.length.symm.trans (by rw [List.length_map]; exact l2))) r2 q2) fun r s' hq => ?_)
  match r, hq with
  | .ok (.ret u), hq => exact I2.after hq
  | .error e, hq => exact False.elim hq
  | .ok .next, hq => exact False.elim hq
  | .ok .brk, hq => exact False.elim hq
  | .ok .cont, hq => exact False.elim hq
end
section
variable {tp : Option (Addr × Addr)} {K : PySem.W.Frag} {H H' H'' H0 H1 He Hq : Hp} {σ : L2.St} {ρ : Ro}
theorem RCs.app : ∀ {vs us : List V} {cs es : List C}, RCs tp K H0 H vs cs → RCs tp K H0 H us es → RCs tp K H0 H (vs ++ us) (cs ++ es)
  | [], _, [], _, _, q => q
  | v :: vs, _, c :: cs, _, h, q => ⟨h.1, RCs.app h.2 q⟩
  | [], _, _ :: _, _, h, _ => h.elim
  | _ :: _, _, [], _, h, _ => h.elim
theorem RCs.vals : ∀ {vs : List V} {ds : List PyData}, VlAll K H vs ds → lfAll ds = true → RCs tp K H0 H vs (ds.map .val)
  | _, [], h, _ => by cases h; trivial
  | _, d :: ds, h, f => by
    simp only [lfAll, Bool.and_eq_true] at f
    cases h with
    | cons h1 h2 => exact ⟨⟨h1, rfl⟩, RCs.vals h2 rfl⟩
theorem no_lend {cs : List C} : ∀ c ∈ cs.map C.lend, ∀ o, c ≠ .own o := fun c m o z => by
  obtain ⟨c', _, e⟩ := List.mem_map.mp m
  subst z
  cases c' <;> cases e
def gFnD (f : List C → M C) (dds : List PyData) (gs : Ro → M (List C)) (ρ : Ro) : M C := (gs ρ).bind fun cs => f (cs.map C.lend ++ dds.map .val)
theorem gFnD_eq {f : List C → M C} {dds : List PyData} {gs : Ro → M (List C)} : gFnD f dds gs ρ = (gs ρ).bind fun cs => f (cs.map C.lend ++ dds.map .val) := (rfl)
theorem re_fnD {f : List C → M C} {ds : List V} {dds : List PyData} {t : TA} {gs : Ro → M (List C)} (hd : ∀ H, VlAll K H ds dds) (hf : lfAll dds = true) (h1 : RA K t gs) : RE K (tFnD (spU K f) ds t) (gFnD f dds gs) := by
  intro tp He Hq ρ σ H Q r h
  refine h1 tp He Hq ρ σ H _ r (wp0_mono (fun cs hc => ?_) (wp0_bind.mp h))
  intro vs H1 g1 t1 rx
  refine ⟨tp, cs.map C.lend ++ dds.map .val, t1, (rx.lend (H1 := H1)).app (.vals (hd H1) hf), fun c m o z => ?_, wp0_mono (fun c hc => hc.after g1 t1) hc⟩
  rcases List.mem_append.mp m with m | m
  · exact no_lend c m o z
  · obtain ⟨d, _, e⟩ := List.mem_map.mp m
    rw [z] at e
    cases e
def kFnK (n m : Nat) (f : List C → M C) (cs es : List C) : M C := if cs.length = n ∧ es.length = m then f (cs.map C.lend ++ es.map C.lend) else .fail
def gFnK (n m : Nat) (f : List C → M C) (gs ks : Ro → M (List C)) (ρ : Ro) : M C := (gs ρ).bind fun cs => (ks ρ).bind fun es => kFnK n m f cs es
theorem gFnK_eq {n m : Nat} {f : List C → M C} {gs ks : Ro → M (List C)} : gFnK n m f gs ks ρ = (gs ρ).bind fun cs => (ks ρ).bind fun es => kFnK n m f cs es := (rfl)
theorem kFnK_21 {f : List C → M C} {a b c : C} : kFnK 2 1 f [a, b] [c] = f [a.lend, b.lend, c.lend] := by unfold kFnK; rw [if_pos ⟨rfl, rfl⟩]; rfl
theorem re_fnK {n m : Nat} {f : List C → M C} {t tk : TA} {gs ks : Ro → M (List C)} (h1 : RA K t gs) (h2 : RA K tk ks) : RE K (tFnK (spU K f) n m t tk) (gFnK n m f gs ks) := by
  intro tp He Hq ρ σ H Q r h
  refine h1 tp He Hq ρ σ H _ r (wp0_mono (fun cs hc => ?_) (wp0_bind.mp h))
  intro vs H1 g1 t1 rx
  refine h2 tp He Hq ρ σ H1 _ (r.go g1 t1) (wp0_mono (fun es he => ?_) (wp0_bind.mp hc))
  intro zs H2 g2 t2 rz
  unfold kFnK at he
  split at he
  · rename_i l
    refine ⟨by rw [rx.len]; exact l.1, by rw [rz.len]; exact l.2, tp, cs.map C.lend ++ es.map C.lend, t2, ((rx.gr g2 t1).lend (H1 := H2)).app rz.lend, fun c m o z => ?_, wp0_mono (fun c hc => hc.after (g1.trans g2) t2) he⟩
    rcases List.mem_append.mp m with m | m
    · exact no_lend c m o z
    · exact no_lend c m o z
  · exact he.elim
end
end Cs

set_option maxRecDepth 100000
set_option maxHeartbeats 4000000
/-! Errors of one's own: made without an argument; isinstance of one that has a dict. -/
namespace L2
open PySem PySem.Spec PyProof.Rows
/-- the exception's dict: none, or one that is told -/
def DcOk (d : Option Addr) (H : Hp) : Prop := d = none ∨ ∃ dd fs, d = some dd ∧ H dd = some (.xd fs)
def rIsA (K : PySem.W.Frag) (a : Addr) (cls : Value) (d : Option Addr) : List V → Hp → VK → Prop := fun xs H Q => ∃ (D : Addr) (c : V) (cv : Value) (b : Bool), cls = .ref D ∧ ExcC K D ∧ xs = [.ref a, c] ∧ (∀ u, RelV c u → u = cv) ∧ PySem.W.kitOne K (.ref D) cv = some b ∧ DcOk d H ∧ Q (.bl b) H
theorem inst_of {X : Cx} {pins : List (Addr × Obj)} {σ : St} {H : Hp} {s : Shared} {a D : Addr} {oe : Obj} {d : Option Addr} (I : Inv X pins σ H s) (hget : s.heap.get? a = some oe) (hz : Zc (.ref D) d oe) (hf : ∃ vs, oe.data = .fields vs) (dc : DcOk d H) : ∃ od, PySem.W.InstAt s.heap a oe D od := by
  obtain ⟨vs, hv⟩ := hf
  rcases dc with rfl | ⟨dd, fs, rfl, ed⟩
  · refine ⟨none, ?_⟩
    obtain ⟨oc, od, oda, osl⟩ := oe
    obtain ⟨h1, h2⟩ := hz
    dsimp only at h1 h2 hv
    subst h1 h2 hv
    exact ⟨hget, rfl, rfl, trivial⟩
  · have hx : ObjOk X.prog X.w H s.heap dd (.xd fs) := I.hok dd _ ed
    obtain ⟨mA, hns, hr⟩ := hx
    obtain ⟨od, ho, hl⟩ := lookIn_ns hns
    exact ⟨some od, hget, hz.1, by unfold PySem.W.notCls; rw [hv] <;> rfl, by rw [hz.2]; exact ho⟩
theorem call_isA {X : Cx} {a : Addr} {oe : Obj} {cls : Value} {d : Option Addr} {pn : List (Addr × Obj)} (hz : Zc cls d oe) (hf : ∃ vs, oe.data = .fields vs) : CallR (X.suite a ((a, oe) :: pn)) (.builtin "isinstance") (rIsA X.K a cls d) := by
  intro pins s σ H xs us Q I r h
  obtain ⟨D, c, cv, b, rfl, C, rfl, hcv, e, dc, q⟩ := h
  cases r with
  | cons rx rr =>
    cases rr with
    | cons rt rr =>
      cases rr
      cases rx
      have ec := hcv _ rt
      subst ec
      obtain ⟨hget, _⟩ := I.pin (a, oe) (List.mem_append.mpr (.inl List.mem_cons_self))
      obtain ⟨od, J⟩ := inst_of I hget hz hf dc
      have hcl : (PySem.W.clsIn X.K D).isSome = true := by
        obtain ⟨cd, hc, _⟩ := PySem.W.any_some C.hd
        rw [hc]
        rfl
      exact PySem.W.kia_one (PySem.W.kitx_exc hcl C.hg C.hk C.hs C.ha C.hn C.ht C.hm) I.kIn J e (fun z => nomatch z) fun tk => ⟨.bl b, H, I.kept (t' := tk) fun _ _ z => z, rfl, q⟩
/-- e.f of the caught exception, of whatever class: the library's rule for the class that it turns out to have -/
def tXa (K : PySem.W.Frag) (a : Addr) (cls : Value) (d : Option Addr) (f : Str) (i : Nat) : TE := fun σ H Q => σ[i]? = some (some (.ref a)) ∧ ∃ (C dd : Addr) (fs : List (Str × V)) (v : V), cls = .ref C ∧ XfC K C ∧ PySem.W.findIn K (.ref C) f = some none ∧ d = some dd ∧ H dd = some (.xd fs) ∧ fs.lookup f = some v ∧ Q v H
theorem pe_xa {X : Cx} {a : Addr} {oe : Obj} {cls : Value} {d : Option Addr} {pn : List (Addr × Obj)} {e : Expr} {i : Nat} {pos : Pos} {n : Str}
    (hz : Zc cls d oe) (hf : ∃ vs, oe.data = .fields vs) (he : PE (X.suite a ((a, oe) :: pn)) e (tVar i)) (hb : attributeBase e n X.env (eval e X.env) = eval e X.env := by rfl) :
    PE (X.suite a ((a, oe) :: pn)) (.Attribute e n pos) (tXa X.K a cls d n i) :=
  ⟨fun pins s σ H Q I ⟨hσ, C, dd, fs, v, ec, T, hno, ed, ea, l, q⟩ => (pe_xf T hno hz hf he hb).run pins s σ H Q I ⟨.ref a, hσ, rfl, ec, dd, fs, v, ed, ea, l, q⟩⟩
section
variable {X : Cx} {pos : Pos}
/-- X(), X an own exception class without own __init__ -/
theorem pmk_own0 {C : Addr} {bmB : List Value} {B newId initId : String} {x : Str} {p : Pos} (F : ExcBaseFacts B newId initId bmB) (q : PySem.W.excIn X.K C bmB newId = true) (gC : X.mg x = some (.ref C))
    (kC : PySem.W.keepIn X.K (.ref C) = true) (r : Raises X (.ref C)) (hg : Gl X x) (hdb : (x == ("__debug__" : Str)) = false := by decide) :
    PMk X (.Call (.Name x p) [] [] pos) (fun _ H Q => Q (.ref C) none H) := by
  intro pins s σ H Q I h
  refine wpAny_Call_Name_kw (ld_glob I hg gC ?_ hdb)
  refine PySem.W.callWith_K0 I.kIn kC ?_
  obtain ⟨bm, N, nm, qn, bs, hdct, sn, sub, ab, col, dd, k0, k1, k2, k3, k5, mN, hC, hN, hni, T⟩ := exc_obj I.kIn q
  refine wpAny_call_exc_subT F T hC hN hni (fun h' e hm => ?_) (by show 0 ≤ sizeLine; omega)
  exact mk_of I hm r h (I.hok.gone hm.new)
end
/-- __init__ of a class with one field -/
def sp_init (K : PySem.W.Frag) (C : Addr) (f : Str) : Sp := fun vs H Q _ => ∃ (a : Addr) (v : V), vs = [.ref a, v] ∧ OexC K C ∧ PySem.W.findIn K (.ref C) f = some none ∧ H a = some (exo a C none) ∧
  ∀ dx, H dx = none → dx ≠ a → Q .non (upd (upd H dx (exd dx [(f, v)])) a (exo a C (some dx)))
theorem put_del {H : Hp} {a d : Addr} {u v w z : HO} (ha : H a = none) (n : d ≠ a) : upd (del (upd (upd (upd H a u) d v) a w) a) d z = upd H d z := by
  funext b
  by_cases hd : b = d
  · subst hd; rw [upd_same, upd_same]
  · rw [upd_ne hd, upd_ne hd]
    by_cases hb : b = a
    · subst hb; rw [del_same, ha]
    · rw [del_ne hb, upd_ne hb, upd_ne hd, upd_ne hb]
end L2

set_option maxRecDepth 100000
set_option maxHeartbeats 1000000
/-! tuples of whole numbers at the module's top -/
namespace Cs
open PySem PySem.Spec PyProof.Rows L2
def chkI : List Value → List Int → Bool
  | [], [] => true
  | .int i _ :: vs, n :: ns => (i == n) && chkI vs ns
  | _, _ => false
def ktupI (ns : List Int) (o : Obj) : Bool := match o with
  | ⟨.type c, none, .seq its _, _⟩ => (c == "tuple") && ((chkI its.toList ns) && decide (ns.length ≤ 1000))
  | _ => false
theorem chkI_vals : ∀ (vs : List Value) (ns : List Int), chkI vs ns = true → Vals (ns.map V.int) vs
  | vs, ns, h => by
    unfold chkI at h
    split at h
    · exact .nil
    · rename_i i t us n ms
      simp only [Bool.and_eq_true, beq_iff_eq] at h
      obtain ⟨rfl, h⟩ := h
      exact .cons ⟨t, rfl⟩ (chkI_vals us ms h)
    · cases h
theorem lf_intsK (ns : List Int) : lfAll (ns.map PyData.int) = true := lfAll_iff.mpr fun d m => by
  obtain ⟨i, _, rfl⟩ := List.mem_map.mp m
  rfl
theorem ktupI_of {K : PySem.W.Frag} {a : Addr} {o : Obj} {ns : List Int} (h : K.lookup a = some o) (b : ktupI ns o = true) : KTup K a (ns.map PyData.int) := by
  unfold ktupI at b
  split at b
  · rename_i c its n sl
    simp only [Bool.and_eq_true, beq_iff_eq, decide_eq_true_eq] at b
    obtain ⟨rfl, b1, b2⟩ := b
    have v := chkI_vals _ _ b1
    refine ⟨_, its, n, ns.map V.int, h, rfl, rfl, rfl, ?_, v, fun H => VlAll.ofInts ns, lf_intsK ns⟩
    have hl := v.length
    rw [List.length_map] at hl
    have : its.size = its.toList.length := by simp
    rw [this, ← hl, show sizeLine = 16777216 by decide]
    omega
  · cases b
end Cs
/-! reversed(xs), xs a name -/
namespace Cs
open PySem PySem.Spec PyProof.Rows L2
section
variable {tp : Option (Addr × Addr)} {K : PySem.W.Frag} {H H' H'' H0 H1 He Hq : Hp} {σ : L2.St} {ρ : Ro}
def mForRev (i : Nat) (a : C → Ro → M Ro) (b : Ro → M Res) (ρ : Ro) : M Res := match ρ[i]? with
  | some (some (.own (.lst ds))) => forL a b ds.reverse (ρ.set i (some (.bor (.lst ds))))
  | some (some (.val (.tuple ds))) => forL a b ds.reverse ρ
  | _ => .fail
theorem rs_forRev {i : Nat} {g : TG} {tb : TS} {a : C → Ro → M Ro} {b : Ro → M Res} {sl : List Nat} (hg : RG K g a sl) (hb : RS K tb b) : RS K (tFor (RT.iRevA K (tVar i)) g tb) (mForRev i a b) := by
  intro tp He Hq ρ σ H D r h
  unfold mForRev at h
  split at h
  · rename_i ds e
    obtain ⟨Hq2, p, g2, r2, hs, w, np, f, vs0, sq⟩ := r.freeze e
    have hl : i < ρ.length := (List.getElem?_eq_some_iff.mp e).1
    obtain ⟨v, h1, p', e2, vs, q1, q2, q3⟩ := r2.at_ i (.bor (.lst ds)) (List.getElem?_set_self hl)
    rw [hs] at h1
    cases h1
    cases e2
    have q1' := q1.gr r2.gr
    refine ⟨_, hs, p, vs, rfl, .inl ⟨q1'.sq, for_go hg hb r2 (lf_rev q3) (wk_revL q1.1 q2 q3) (fun q m => ?_) (wp0_mono (fun _ q => q.mono g2) h)⟩⟩
    have : q = p := by simpa using m
    subst this
    exact np
  · rename_i ds e
    refine rs_for (ri_rev (s := true) (re_var (i := i))) hg hb tp He Hq ρ σ H D r ?_
    unfold mFor gRev gVar
    rw [e]
    exact h
  · exact h.elim
theorem mForRev_own {i : Nat} {a : C → Ro → M Ro} {b : Ro → M Res} {ds : List PyData} (h : ρ[i]? = some (some (.own (.lst ds)))) : mForRev i a b ρ = forL a b ds.reverse (ρ.set i (some (.bor (.lst ds)))) := by unfold mForRev; rw [h]
theorem mForRev_tup {i : Nat} {a : C → Ro → M Ro} {b : Ro → M Res} {ds : List PyData} (h : ρ[i]? = some (some (.val (.tuple ds)))) : mForRev i a b ρ = forL a b ds.reverse ρ := by unfold mForRev; rw [h]
def kForRev (ρ : Ro) (i : Nat) (a : C → Ro → M Ro) (b : Ro → M Res) : Option (Option C) → M Res
  | some (some (.own (.lst ds))) => forL a b ds.reverse (ρ.set i (some (.bor (.lst ds))))
  | some (some (.val (.tuple ds))) => forL a b ds.reverse ρ
  | _ => .fail
theorem mForRev_eq {i : Nat} {a : C → Ro → M Ro} {b : Ro → M Res} : mForRev i a b ρ = kForRev ρ i a b ρ[i]? := (rfl)
theorem kForRev_o {i : Nat} {a : C → Ro → M Ro} {b : Ro → M Res} {ds : List PyData} : kForRev ρ i a b (some (some (.own (.lst ds)))) = forL a b ds.reverse (ρ.set i (some (.bor (.lst ds)))) := (rfl)
theorem kForRev_t {i : Nat} {a : C → Ro → M Ro} {b : Ro → M Res} {ds : List PyData} : kForRev ρ i a b (some (some (.val (.tuple ds)))) = forL a b ds.reverse ρ := (rfl)
end
end Cs

/-! range(i, j, c), c above 0 -/
namespace Cs
open PySem PySem.Spec PyProof.Rows L2
section
variable {tp : Option (Addr × Addr)} {K : PySem.W.Frag} {H H' H'' H0 H1 He Hq : Hp} {σ : L2.St} {ρ : Ro}
def stepN (i j c : Int) : Nat := if i < j then ((j - i - 1) / c + 1).toNat else 0
def r3Ok (i j c : Int) : Bool := decide (-1000000 ≤ i) && (decide (i ≤ 1000000) && (decide (-1000000 ≤ j) && (decide (j ≤ 1000000) && (decide (0 < c) && decide (c ≤ 1000)))))
theorem r3_rg {i j c : Int} (h : r3Ok i j c = true) : RgC i j c (stepN i j c) := by
  unfold r3Ok at h
  simp only [Bool.and_eq_true, decide_eq_true_eq] at h
  obtain ⟨h1, h2, h3, h4, h5, h6⟩ := h
  have q0 : i < j → 0 ≤ (j - i - 1) / c ∧ (j - i - 1) / c ≤ j - i - 1 := fun z => ⟨Int.ediv_nonneg (by omega) (by omega), Int.ediv_le_self _ (by omega)⟩
  have hs : Builtin.Range.rangeSize i j c = stepN i j c := by
    unfold Builtin.Range.rangeSize stepN
    rw [if_pos h5]
    split
    · rename_i z
      have := q0 z
      omega
    · rfl
  have hb : stepN i j c ≤ 2000001 := by
    unfold stepN
    split
    · rename_i z
      have := q0 z
      omega
    · omega
  have hr : i < j → (stepN i j c : Int) = (j - i - 1) / c + 1 := fun z => by
    unfold stepN
    rw [if_pos z]
    have := q0 z
    omega
  refine ⟨by omega, by omega, ?_, hs⟩
  unfold Builtin.Range.small
  rw [hs]
  have m1 : (0 : Int) ≤ (stepN i j c : Int) := by omega
  have m2 : (stepN i j c : Int) ≤ 2000001 := by omega
  generalize (stepN i j c : Int) = k at *
  simp only [Builtin.Range.rangeFitsLong, Bool.and_eq_true, Bool.or_eq_true, decide_eq_true_eq, beq_iff_eq, h5, if_true]
  omega
def itR3 : List C → M (List PyData)
  | [.val (.int i), .val (.int j), .val (.int c)] => if r3Ok i j c = true then .ret (rngD i c (stepN i j c)) else .fail
  | _ => .fail
def gItR3 (gs : Ro → M (List C)) (ρ : Ro) : M (List PyData) := (gs ρ).bind itR3
theorem RCs.three' {vs : List V} {c d e : C} (h : RCs tp K H0 H vs [c, d, e]) : ∃ u v w, vs = [u, v, w] ∧ RC tp K H0 H u c ∧ RC tp K H0 H v d ∧ RC tp K H0 H w e := by
  match vs, h with
  | [u, v, w], h => exact ⟨u, v, w, rfl, h.1, h.2.1, h.2.2.1⟩
theorem ri_rng3 {ta : TA} {gs : Ro → M (List C)} {s : Bool} (h1 : RA K ta gs) : RI K s (iRng3 ta) (gItR3 gs) := by
  intro tp He Hq ρ σ H Q r h
  refine h1 tp He Hq ρ σ H _ r (wp0_mono (fun cs hc => ?_) (wp0_bind.mp h))
  intro vs H1 g1 t1 rx
  unfold itR3 at hc
  split at hc
  · rename_i i j c
    obtain ⟨u, v, w, rfl, q, q', q''⟩ := rx.three'
    cases q.int; cases q'.int; cases q''.int
    split at hc
    · rename_i l
      exact ⟨i, j, c, stepN i j c, rfl, r3_rg l, hc _ H1 [] g1 t1 (lf_rng _ _ _) wk_rngC (fun _ m => by simp at m) (fun _ _ _ _ m => by simp at m)⟩
    · exact hc.elim
  · exact hc.elim
theorem gItR3_eq {gs : Ro → M (List C)} : gItR3 gs ρ = (gs ρ).bind itR3 := (rfl)
theorem itR3_i {i j c : Int} : itR3 [.val (.int i), .val (.int j), .val (.int c)] = if r3Ok i j c = true then .ret (rngD i c (stepN i j c)) else .fail := (rfl)
end
end Cs

set_option maxRecDepth 100000
set_option maxHeartbeats 4000000
/-! lists as data: freezing, reading; comprehensions with two clauses -/
namespace Cs
open PySem PySem.Spec PyProof.Rows L2
section
variable {tp : Option (Addr × Addr)} {K : PySem.W.Frag} {H H' H'' H0 H1 He : Hp} {Hq : Hp} {σ : L2.St} {ρ : Ro}
/-! ### from here on the list is data -/
def tFrzS (i : Nat) (t : TS) : TS := fun D σ H => t D σ H ∨ ∃ a u, σ[i]? = some (some (.ref a)) ∧ H a = some u ∧ Mut (some u) ∧ ∀ od, t D σ (upd H a (.frz od u))
theorem ps_frz {X : Cx} {i : Nat} {st : Stmt} {t : TS} (h : PS X st t) : PS X st (tFrzS i t) := by
  refine ⟨fun pins s σ H D I hw => ?_⟩
  rcases hw with hw | ⟨a, u, _, hd, mu, hw⟩
  · exact h.run pins s σ H D I hw
  · obtain ⟨od, I1⟩ := I.lock hd mu
    exact h.run pins s σ _ D I1 (hw od)
def tFrzE (t : TE) : TE := fun σ H Q => t σ H fun v H' => Q v H' ∨ ∃ a u, v = .ref a ∧ H' a = some u ∧ Mut (some u) ∧ ∀ od, Q v (upd H' a (.frz od u))
theorem pe_frz {X : Cx} {e : Expr} {t : TE} (h : PE X e t) : PE X e (tFrzE t) := by
  refine ⟨fun pins s σ H Q I hw => ?_⟩
  refine thn (h.run pins s σ H _ I hw) fun v s1 ⟨x, H1, I1, r, q⟩ => ?_
  rcases q with q | ⟨a, u, _, hd, mu, q⟩
  · exact ⟨x, H1, I1, r, q⟩
  · obtain ⟨od, I2⟩ := I1.lock hd mu
    exact ⟨x, _, I2, r, q od⟩
theorem TOk.frz {a : Addr} {o : HO} (t : TOk tp H) (n : TNe tp a) : TOk tp (upd H a o) := fun b l e => (t b l e).upd (n b l e).1 (n b l e).2
theorem Rel.frz {i : Nat} {ds : List PyData} (r : Rel tp K He Hq H σ ρ) (e : ρ[i]? = some (some (.own (.lst ds)))) : ∃ a vs, σ[i]? = some (some (.ref a)) ∧ H a = some (.lst vs) ∧
    ∀ od, Rel tp K He Hq (upd H a (.frz od (.lst vs))) σ (ρ.set i (some (.val (.list ds)))) := by
  obtain ⟨v, h1, a, e2, f, n, vs, h2, h3, h4⟩ := r.at_ i _ e
  subst e2
  refine ⟨a, vs, h1, h2, fun od => ?_⟩
  have im : Im H (upd H a (.frz od (.lst vs))) := Im.set h2
  have hl : i < ρ.length := (List.getElem?_eq_some_iff.mp e).1
  have back : ∀ {m : Nat} {o : PO}, (ρ.set i (some (.val (.list ds))))[m]? = some (some (.own o)) → i ≠ m ∧ ρ[m]? = some (some (.own o)) := fun {m o} em => by
    by_cases him : i = m
    · subst him; rw [List.getElem?_set_self hl] at em; cases em
    · rw [List.getElem?_set_ne him] at em; exact ⟨him, em⟩
  refine ⟨by rw [List.length_set, r.len], fun j c ej => ?_, fun j k b o o' e1 e2 e3 e4 => ?_, r.sub, fun b o eb nb => ?_, r.tok.frz n, r.he⟩
  · by_cases hij : i = j
    · subst hij
      rw [List.getElem?_set_self hl] at ej
      cases ej
      exact ⟨_, h1, .lst ⟨od, upd_same⟩ (h3.imlf im ds _ rfl), rfl⟩
    · rw [List.getElem?_set_ne hij] at ej
      obtain ⟨u, q1, q2⟩ := r.at_ j c ej
      refine ⟨u, q1, ?_⟩
      cases c with
      | val d => exact ⟨q2.1.imlf im d _ q2.2, q2.2⟩
      | own o =>
        obtain ⟨b, eb, fb, nb, q⟩ := q2
        have hne : b ≠ a := fun z => by
          subst z
          subst eb
          exact hij (r.dist i j b _ _ e ej h1 q1)
        refine ⟨b, eb, fb, nb, ?_⟩
        cases o with
        | lst es =>
          obtain ⟨us, p1, p2, p3⟩ := q
          exact ⟨us, by rw [upd_ne hne]; exact p1, p2.imlf im es _ p3, p3⟩
        | dT es =>
          obtain ⟨us, p1, p2, p3⟩ := q
          exact ⟨us, by rw [upd_ne hne]; exact p1, p2.imlf im es _ p3, p3⟩
        | dK es =>
          obtain ⟨us, p1, p2, p3⟩ := q
          exact ⟨us, by rw [upd_ne hne]; exact p1, p2.imlf im es _ p3, p3⟩
        | lT es =>
          exact q.elim
      | bor o => exact q2
      | tape => exact q2
  · exact r.dist j k b o o' (back e1).2 (back e2).2 e3 e4
  · have hne : b ≠ a := fun z => by subst z; rw [f] at eb; cases eb
    rw [upd_ne hne]
    exact r.gr b o eb nb
def kFrz (i : Nat) (m : Ro → M Res) (ρ : Ro) : Option (Option C) → M Res
  | some (some (.own (.lst ds))) => m (ρ.set i (some (.val (.list ds))))
  | _ => m ρ
def mFrz (i : Nat) (m : Ro → M Res) (ρ : Ro) : M Res := kFrz i m ρ ρ[i]?
theorem rs_frz {i : Nat} {t : TS} {m : Ro → M Res} (h1 : RS K t m) : RS K (tFrzS i t) (mFrz i m) := by
  intro tp He Hq ρ σ H D r h
  unfold mFrz kFrz at h
  split at h
  · rename_i ds e
    obtain ⟨a, vs, q1, q2, q3⟩ := r.frz e
    exact .inr ⟨a, _, q1, q2, trivial, fun od => h1 tp He Hq _ σ _ D (q3 od) h⟩
  · exact .inl (h1 tp He Hq ρ σ H D r h)
theorem mFrz_eq {i : Nat} {m : Ro → M Res} : mFrz i m ρ = kFrz i m ρ ρ[i]? := (rfl)
theorem kFrz_o {i : Nat} {m : Ro → M Res} {ds : List PyData} : kFrz i m ρ (some (some (.own (.lst ds)))) = m (ρ.set i (some (.val (.list ds)))) := (rfl)
theorem kFrz_v {i : Nat} {m : Ro → M Res} {d : PyData} : kFrz i m ρ (some (some (.val d))) = m ρ := (rfl)
theorem kFrz_b {i : Nat} {m : Ro → M Res} {o : PO} : kFrz i m ρ (some (some (.bor o))) = m ρ := (rfl)
theorem kFrz_n {i : Nat} {m : Ro → M Res} : kFrz i m ρ (some none) = m ρ := (rfl)
def frzC : C → M C
  | .own (.lst ds) => .ret (.val (.list ds))
  | c => .ret c
def gFrz (g : Ro → M C) (ρ : Ro) : M C := (g ρ).bind frzC
theorem re_frz {t : TE} {g : Ro → M C} (h1 : RE K t g) : RE K (tFrzE t) (gFrz g) := by
  intro tp He Hq ρ σ H Q r h
  refine h1 tp He Hq ρ σ H _ r (wp0_mono (fun c hc => ?_) (wp0_bind.mp h))
  intro v H1 g1 t1 rc
  unfold frzC at hc
  split at hc
  · rename_i ds
    obtain ⟨a, rfl, f, n, vs, q1, q2, q3⟩ := rc
    refine .inr ⟨a, _, rfl, q1, trivial, fun od => hc _ _ (fun b o e nb => ?_) (t1.frz n) ⟨.lst ⟨od, upd_same⟩ (q2.imlf (Im.set q1) ds _ rfl), rfl⟩⟩
    have hne : b ≠ a := fun z => by subst z; rw [f] at e; cases e
    rw [upd_ne hne]
    exact g1 b o e nb
  · exact .inl (hc v H1 g1 t1 rc)
theorem gFrz_eq {g : Ro → M C} : gFrz g ρ = (g ρ).bind frzC := (rfl)
theorem frzC_o {ds : List PyData} : frzC (.own (.lst ds)) = .ret (.val (.list ds)) := (rfl)
theorem frzC_v {d : PyData} : frzC (.val d) = .ret (.val d) := (rfl)
/-! steps over lists as data -/
theorem oIx_l {ds : List PyData} {i : Int} : oIx (.val (.list ds)) (.val (.int i)) = atD ds i := (rfl)
theorem oSl_l {ds : List PyData} {lo hi : Option Int} : oSl (.val (.list ds)) lo hi = .ret (.own (.lst (cutD ds lo hi))) := (rfl)
theorem itD_l {ds : List PyData} : itD (.val (.list ds)) = .ret ds := (rfl)
theorem itV_l {ds : List PyData} : itV (.val (.list ds)) = .ret ds := (rfl)
theorem oListC_l {ds : List PyData} : oListC [.val (.list ds)] = .ret (.own (.lst ds)) := (rfl)
theorem oTupC_l {ds : List PyData} : oTupC [.val (.list ds)] = .ret (.val (.tuple ds)) := (rfl)
theorem kIdxL_l {gs : Ro → M (List C)} {ds : List PyData} : kIdxL gs ρ (.val (.list ds)) = (gs ρ).bind (idxA ds) := (rfl)
theorem oAdd_lo {ds es : List PyData} : oAdd (.val (.list ds)) (.own (.lst es)) = if lenOk (ds.length + es.length) = true then .ret (.own (.lst (ds ++ es))) else .fail := (rfl)
theorem oAdd_ol {ds es : List PyData} : oAdd (.own (.lst ds)) (.val (.list es)) = if lenOk (ds.length + es.length) = true then .ret (.own (.lst (ds ++ es))) else .fail := (rfl)
theorem oAdd_ll {ds es : List PyData} : oAdd (.val (.list ds)) (.val (.list es)) = if lenOk (ds.length + es.length) = true then .ret (.own (.lst (ds ++ es))) else .fail := (rfl)
theorem oAdd_lb {ds es : List PyData} : oAdd (.val (.list ds)) (.bor (.lst es)) = if lenOk (ds.length + es.length) = true then .ret (.own (.lst (ds ++ es))) else .fail := (rfl)
theorem oAdd_bl {ds es : List PyData} : oAdd (.bor (.lst ds)) (.val (.list es)) = if lenOk (ds.length + es.length) = true then .ret (.own (.lst (ds ++ es))) else .fail := (rfl)
/-! ### sources that nothing changes -/
def RII (K : PySem.W.Frag) (wi : TI) (its : Ro → M (List PyData)) : Prop := ∀ tp He Hq ρ σ H (Q : It → Hp → Prop), Rel tp K He Hq H σ ρ →
  wp0 (its ρ) (fun ds => ∀ J H1, GrT tp H H1 → TOk tp H1 → Wk K H1 J [] ds → Q J H1) → wi σ H Q
def itI : C → M (List PyData)
  | .val (.tuple ds) => .ret ds
  | .val (.str z) => .ret (signsD z)
  | .val (.list ds) => .ret ds
  | _ => .fail
def gItI (g : Ro → M C) (ρ : Ro) : M (List PyData) := (g ρ).bind itI
theorem rii_seq {te : TE} {g : Ro → M C} (h1 : RE K te g) : RII K (iSeq K te) (gItI g) := by
  intro tp He Hq ρ σ H Q r h
  refine h1 tp He Hq ρ σ H _ r (wp0_mono (fun c hc => ?_) (wp0_bind.mp h))
  intro x H1 g1 t1 rx
  unfold itI at hc
  split at hc
  · rename_i ds
    obtain ⟨a, vs, rfl, q1, q2, q3⟩ := rx.tup
    exact .inr (.inl ⟨a, rfl, ⟨vs, q1⟩, hc _ H1 g1 t1 (wk_tup q1 q2 q3)⟩)
  · rename_i z
    cases rx.str
    exact .inr (.inr ⟨z, rfl, hc _ H1 g1 t1 wk_str⟩)
  · rename_i ds
    obtain ⟨a, vs, rfl, q1, q2⟩ := rx.frz
    exact .inl ⟨a, rfl, ⟨vs, q1.sq⟩, hc _ H1 g1 t1 (wk_frz q1 q2)⟩
  · exact hc.elim
theorem rii_rng1 {ta : TA} {gs : Ro → M (List C)} (h1 : RA K ta gs) : RII K (iRng1 ta) (gItR1 gs) := by
  intro tp He Hq ρ σ H Q r h
  refine h1 tp He Hq ρ σ H _ r (wp0_mono (fun cs hc => ?_) (wp0_bind.mp h))
  intro vs H1 g1 t1 rx
  unfold itR1 at hc
  split at hc
  · rename_i j
    obtain ⟨v, rfl, q⟩ := rx.one
    cases q.int
    split at hc
    · rename_i l
      obtain ⟨l1, l2⟩ := rngOk_of l
      exact ⟨j, rfl, l1, l2, hc _ H1 g1 t1 wk_rng⟩
    · exact hc.elim
  · exact hc.elim
theorem gItI_eq {g : Ro → M C} : gItI g ρ = (g ρ).bind itI := (rfl)
theorem itI_t {ds : List PyData} : itI (.val (.tuple ds)) = .ret ds := (rfl)
theorem itI_l {ds : List PyData} : itI (.val (.list ds)) = .ret ds := (rfl)
theorem itI_s {z : Str} : itI (.val (.str z)) = .ret (signsD z) := (rfl)
/-! ### two clauses -/
theorem wipeR_in {j : Nat} : ∀ {vs : List Nat} {ρ : Ro}, j ∈ vs → (wipeR ρ vs)[j]? = some none ∨ (wipeR ρ vs)[j]? = none
  | [], _, h => by simp at h
  | v :: vs, ρ, h => by
    unfold wipeR
    by_cases hv : v = j
    · subst hv
      by_cases hl : v < (wipeR ρ vs).length
      · exact .inl (List.getElem?_set_self hl)
      · exact .inr (List.getElem?_eq_none_iff.mpr (by rw [List.length_set]; omega))
    · rw [List.getElem?_set_ne hv]
      exact wipeR_in (by rcases List.mem_cons.mp h with z | z; exact absurd z.symm hv; exact z)
def lcI (a : C → Ro → M Ro) (c : Ro → M Bool) (e : Ro → M C) : List PyData → Ro → List PyData → (List PyData → M C) → M C
  | [], _, acc, k => k acc
  | d :: ds, ρ, acc, k => (a (.val d) ρ).bind fun ρ1 => (c ρ1).bind fun b => if b = true then (e ρ1).bind (fun x => match x with
    | .val y => if lenOk (acc.length + 1) = true then lcI a c e ds ρ (acc ++ [y]) k else .fail
    | _ => .fail) else lcI a c e ds ρ acc k
def lcL2 (a : C → Ro → M Ro) (c : Ro → M Bool) (its1 : Ro → M (List PyData)) (a1 : C → Ro → M Ro) (c1 : Ro → M Bool) (e : Ro → M C) (vs1 : List Nat) : List PyData → Ro → List PyData → M C
  | [], _, acc => .ret (.own (.lst acc))
  | d :: ds, ρ, acc => (a (.val d) ρ).bind fun ρ1 => (c ρ1).bind fun b => if b = true then (its1 ρ1).bind (fun es => lcI a1 c1 e es (wipeR ρ1 vs1) acc fun acc => lcL2 a c its1 a1 c1 e vs1 ds ρ acc) else lcL2 a c its1 a1 c1 e vs1 ds ρ acc
def gLc2 (its : Ro → M (List PyData)) (a : C → Ro → M Ro) (c : Ro → M Bool) (its1 : Ro → M (List PyData)) (a1 : C → Ro → M Ro) (c1 : Ro → M Bool) (e : Ro → M C) (vs vs1 : List Nat) (ρ : Ro) : M C := (its ρ).bind fun ds => lcL2 a c its1 a1 c1 e vs1 ds (wipeR ρ vs) []
/-- a target that takes data makes no list its own -/
def OV (a : C → Ro → M Ro) : Prop := ∀ (d : PyData) (ρ : Ro) (Q : Ro → Prop), wp0 (a (.val d) ρ) Q → wp0 (a (.val d) ρ) fun ρ1 => Q ρ1 ∧ ∀ (j : Nat) (o : PO), ρ1[j]? = some (some (.own o)) → ρ[j]? = some (some (.own o))
def OVs (a : List PyData → Ro → M Ro) : Prop := ∀ (ds : List PyData) (ρ : Ro) (Q : Ro → Prop), wp0 (a ds ρ) Q → wp0 (a ds ρ) fun ρ1 => Q ρ1 ∧ ∀ (j : Nat) (o : PO), ρ1[j]? = some (some (.own o)) → ρ[j]? = some (some (.own o))
theorem ov_name {i : Nat} : OV (asgR i) := by
  intro d ρ Q h
  unfold asgR at h ⊢
  split at h
  · refine ⟨h, fun j o e => ?_⟩
    by_cases hij : i = j
    · subst hij
      rw [List.getElem?_set_self (by have := (List.getElem?_eq_some_iff.mp e).1; rwa [List.length_set] at this)] at e
      cases e
    · rwa [List.getElem?_set_ne hij] at e
  · exact h.elim
theorem ovs_nil : OVs aNil := by
  intro ds ρ Q h
  unfold aNil at h ⊢
  split at h
  · exact ⟨h, fun _ _ e => e⟩
  · exact h.elim
theorem ovs_cons {a : C → Ro → M Ro} {as : List PyData → Ro → M Ro} (h1 : OV a) (h2 : OVs as) : OVs (aCons a as) := by
  intro ds ρ Q h
  unfold aCons at h ⊢
  split at h
  · rename_i d ds
    refine wp0_bind.mpr (wp0_mono (fun ρ1 q => ?_) (h1 d ρ _ (wp0_bind.mp h)))
    exact wp0_mono (fun ρ2 p => ⟨p.1, fun j o e => q.2 j o (p.2 j o e)⟩) (h2 ds ρ1 Q q.1)
  · exact h.elim
theorem ov_tup {n : Nat} {as : List PyData → Ro → M Ro} (h1 : OVs as) : OV (aTup n as) := by
  intro d ρ Q h
  cases d with
  | tuple ds =>
    by_cases l : ds.length = n
    · have e : aTup n as (.val (.tuple ds)) ρ = as ds ρ := by unfold aTup; exact if_pos l
      rw [e] at h ⊢
      exact h1 _ ρ Q h
    · have e : aTup n as (.val (.tuple ds)) ρ = .fail := by unfold aTup; exact if_neg l
      rw [e] at h
      exact h.elim
  | _ => exact (show wp0 (M.fail : M Ro) Q from h).elim
theorem re_lc2 {wi wi1 : TI} {g g1 : TG} {tt tt1 : TT} {te : TE} {its its1 : Ro → M (List PyData)} {a a1 : C → Ro → M Ro} {c c1 : Ro → M Bool} {e : Ro → M C} {sl sl1 vs vs1 : List Nat} {s : Bool} (hi : RI K s wi its) (hg : RG K g a sl) (hc : RT K tt c)
    (hov : OV a) (hi1 : RII K wi1 its1) (hg1 : RG K g1 a1 sl1) (hc1 : RT K tt1 c1) (he : RE K te e) (hs : ∀ j ∈ sl, j ∈ vs) (hs1 : ∀ j ∈ sl1, j ∈ vs1) : RE K (tLc2 wi g tt wi1 g1 tt1 te vs vs1) (gLc2 its a c its1 a1 c1 e vs vs1) := by
  intro tp He Hq ρ σ H Q r h
  refine hi tp He Hq ρ σ H _ r (wp0_mono (fun ds hd => ?_) (wp0_bind.mp h))
  intro J H1 pa gg1 t1 f w np _ D hD
  have r1 := r.go gg1 t1
  have tD : TNe tp D := t1.tne hD
  have upG : ∀ {H2 : Hp} {o : HO}, GrT tp H1 H2 → GrT tp H1 (upd H2 D o) := fun {H2 o} g b u e n => by
    have hne : b ≠ D := fun z => by subst z; rw [hD] at e; cases e
    rw [upd_ne hne]
    exact g b u e n
  have upT : ∀ {H2 : Hp} {o : HO}, TOk tp H2 → TOk tp (upd H2 D o) := fun {H2 o} t a l e => (t a l e).upd (tD a l e).1 (tD a l e).2
  have hs1' := hs
  refine ⟨fun i m H' => m = ds.length - i ∧ i ≤ ds.length ∧ ∃ acc vsa, H' D = some (.lst vsa) ∧ VlAll K H' vsa acc ∧ GrT tp H1 H' ∧ TOk tp H' ∧ wp0 (lcL2 a c its1 a1 c1 e vs1 (ds.drop i) (wipeR ρ vs) acc) (Post tp K H Q),
    ⟨ds.length, rfl, Nat.zero_le _, [], [], upd_same, .nil, upG .refl, upT t1, hd⟩, ?_⟩
  rintro i m H' ⟨rfl, hi', acc, vsa, eD, hda, g', t', h'⟩
  obtain ⟨st, go⟩ := w H' (g'.im t1) (fun p hp o e => g' p o e (np p hp))
  by_cases hlt : i < ds.length
  · obtain ⟨d, hd'⟩ : ∃ d, ds[i]? = some d := ⟨ds[i], List.getElem?_eq_getElem hlt⟩
    obtain ⟨go1, yl⟩ := go i d hd'
    have ed : ds.drop i = d :: ds.drop (i + 1) := by
      rw [List.drop_eq_getElem_cons hlt]
      have : ds[i] = d := by rw [List.getElem?_eq_getElem hlt] at hd'; exact Option.some.inj hd'
      rw [this]
    rw [ed] at h'
    refine .inr ⟨go1, fun H2 => ∃ acc vsa, H2 D = some (.lst vsa) ∧ VlAll K H2 vsa acc ∧ GrT tp H1 H2 ∧ TOk tp H2 ∧ wp0 (lcL2 a c its1 a1 c1 e vs1 (ds.drop (i + 1)) (wipeR ρ vs) acc) (Post tp K H Q),
      fun H2 ⟨acc, vsa, q⟩ => ⟨ds.length - (i + 1), by omega, rfl, hlt, acc, vsa, q⟩, fun x H2 y => ?_⟩
    obtain ⟨sm, dp⟩ := yl x H2 y
    have rw' := ((r1.go g' t').wipe vs)
    refine hg tp He Hq _ _ H' H2 x (.val d) _ rw' (.of sm) (t'.same sm) ⟨dp, rfl⟩ (wp0_mono (fun ρ1 h1 => ?_) (hov d _ _ (wp0_bind.mp (show wp0 ((a (.val d) (wipeR ρ vs)).bind _) _ from h'))))
    obtain ⟨h1, ownd⟩ := h1
    intro σ2 off r2
    have noD : ∀ (j : Nat) (o : PO), ρ1[j]? = some (some (.own o)) → σ2[j]? ≠ some (some (.ref D)) := fun j o ej hs => by
      have ej' := ownd j o ej
      have hjv : j ∉ vs := fun z => by
        have : (wipeR ρ vs)[j]? = some none ∨ (wipeR ρ vs)[j]? = none := wipeR_in z
        rcases this with q | q <;> (rw [q] at ej'; cases ej')
      rw [off.2 j (fun z => hjv (hs1' j z))] at hs
      obtain ⟨v, q1, b, eb, _, _, q⟩ := (r1.wipe vs).at_ j _ ej'
      rw [hs] at q1
      cases q1
      cases eb
      cases o with
      | lst es =>
        obtain ⟨us, p1, _⟩ := q
        rw [hD] at p1
        cases p1
      | dT es =>
        obtain ⟨us, p1, _⟩ := q
        rw [hD] at p1
        cases p1
      | dK es =>
        obtain ⟨us, p1, _⟩ := q
        rw [hD] at p1
        cases p1
      | lT es =>
        exact q.elim
    refine ⟨wipe_off off hs, ?_⟩
    refine hc tp He Hq ρ1 σ2 H2 _ r2 (wp0_mono (fun b hb => ?_) (wp0_bind.mp h1))
    intro H3 g3 t3
    have g13 : GrT tp H1 H3 := (g'.trans (.of sm)).trans g3
    have eD3 : H3 D = some (.lst vsa) := g3 D _ (sm D _ eD) tD.ne
    have im3 : Im H' H3 := (Im.same sm).trans (g3.im (t'.same sm))
    have hda3 := hda.imlf im3 acc _ rfl
    have r3 := r2.go g3 t3
    cases b with
    | false =>
      rw [if_neg Bool.false_ne_true] at hb ⊢
      exact ⟨acc, vsa, eD3, hda3, g13, t3, hb⟩
    | true =>
      rw [if_pos rfl] at hb ⊢
      refine hi1 tp He Hq ρ1 σ2 H3 _ r3 (wp0_mono (fun es hes => ?_) (wp0_bind.mp hb))
      intro J1 H4 g4 t4 w1
      have r4 := r3.go g4 t4
      have eD4 : H4 D = some (.lst vsa) := g4 D _ eD3 tD.ne
      have hda4 := hda3.imlf (g4.im t3) acc _ rfl
      refine ⟨fun j k H' => k = es.length - j ∧ j ≤ es.length ∧ ∃ acc vsa, H' D = some (.lst vsa) ∧ VlAll K H' vsa acc ∧ GrT tp H1 H' ∧ TOk tp H' ∧ Im H4 H' ∧ Rel tp K He Hq H' σ2 ρ1 ∧ wp0 (lcI a1 c1 e (es.drop j) (wipeR ρ1 vs1) acc fun acc => lcL2 a c its1 a1 c1 e vs1 (ds.drop (i + 1)) (wipeR ρ vs) acc) (Post tp K H Q),
        ⟨es.length, rfl, Nat.zero_le _, acc, vsa, eD4, hda4, g13.trans g4, t4, Im.refl _, r4, hes⟩, ?_⟩
      rintro j k H5 ⟨rfl, hj, acc, vsa, eD5, hda5, g5, t5, im5, r5, h5⟩
      obtain ⟨st1, go1'⟩ := w1 H5 im5 (fun p hp => by simp at hp)
      by_cases hlj : j < es.length
      · obtain ⟨d1, hd1⟩ : ∃ d, es[j]? = some d := ⟨es[j], List.getElem?_eq_getElem hlj⟩
        obtain ⟨goj, yl1⟩ := go1' j d1 hd1
        have ed1 : es.drop j = d1 :: es.drop (j + 1) := by
          rw [List.drop_eq_getElem_cons hlj]
          have : es[j] = d1 := by rw [List.getElem?_eq_getElem hlj] at hd1; exact Option.some.inj hd1
          rw [this]
        rw [ed1] at h5
        refine .inr ⟨goj, fun H2 => ∃ acc vsa, H2 D = some (.lst vsa) ∧ VlAll K H2 vsa acc ∧ GrT tp H1 H2 ∧ TOk tp H2 ∧ Im H4 H2 ∧ Rel tp K He Hq H2 σ2 ρ1 ∧ wp0 (lcI a1 c1 e (es.drop (j + 1)) (wipeR ρ1 vs1) acc fun acc => lcL2 a c its1 a1 c1 e vs1 (ds.drop (i + 1)) (wipeR ρ vs) acc) (Post tp K H Q),
          fun H2 ⟨acc, vsa, q⟩ => ⟨es.length - (j + 1), by omega, rfl, hlj, acc, vsa, q⟩, fun x1 H6 y1 => ?_⟩
        obtain ⟨sm1, dp1⟩ := yl1 x1 H6 y1
        refine hg1 tp He Hq _ _ H5 H6 x1 (.val d1) _ (r5.wipe vs1) (.of sm1) (t5.same sm1) ⟨dp1, rfl⟩ (wp0_mono (fun ρ6 h6 => ?_) (wp0_bind.mp (show wp0 ((a1 (.val d1) (wipeR ρ1 vs1)).bind _) _ from h5)))
        intro σ6 off6 r6
        refine ⟨wipe_off off6 hs1, ?_⟩
        refine hc1 tp He Hq ρ6 σ6 H6 _ r6 (wp0_mono (fun b hb => ?_) (wp0_bind.mp h6))
        intro H7 g7 t7
        have g57 : GrT tp H5 H7 := (GrT.of sm1).trans g7
        have im57 : Im H5 H7 := g57.im t5
        have eD7 : H7 D = some (.lst vsa) := g57 D _ eD5 tD.ne
        have hda7 := hda5.imlf im57 acc _ rfl
        cases b with
        | false =>
          rw [if_neg Bool.false_ne_true] at hb ⊢
          exact ⟨acc, vsa, eD7, hda7, g5.trans g57, t7, im5.trans im57, r5.go g57 t7, hb⟩
        | true =>
          rw [if_pos rfl] at hb ⊢
          refine he tp He Hq ρ6 σ6 H7 _ (r6.go g7 t7) (wp0_mono (fun z hz => ?_) (wp0_bind.mp hb))
          intro v H8 g8 t8 rc
          have g58 : GrT tp H5 H8 := g57.trans g8
          have im58 : Im H5 H8 := g58.im t5
          have eD8 : H8 D = some (.lst vsa) := g8 D _ eD7 tD.ne
          cases z with
          | val y =>
            have hda8 := hda5.imlf im58 acc _ rfl
            by_cases lo : lenOk (acc.length + 1) = true
            case neg => exact (show wp0 (M.fail : M C) _ by have hz' := hz; dsimp only at hz'; rwa [if_neg lo] at hz').elim
            · have hz : wp0 (lcI a1 c1 e (es.drop (j + 1)) (wipeR ρ1 vs1) (acc ++ [y]) fun acc => lcL2 a c its1 a1 c1 e vs1 (ds.drop (i + 1)) (wipeR ρ vs) acc) (Post tp K H Q) := by
                have hz' := hz
                dsimp only at hz'
                rwa [if_pos lo] at hz'
              have lo' := lenOk_le lo
              have r8 := r5.go g58 t8
              have DHq : Hq D = none := by
                cases q : Hq D with
                | none => rfl
                | some o => have := r1.gr D o q tD.ne; rw [hD] at this; cases this
              refine ⟨vsa, eD8, by rw [hda8.len]; omega, acc ++ [y], vsa ++ [v], upd_same, (hda8.app (.cons rc.1 .nil)).imlf (Im.set eD8) _ _ rfl, upG (g5.trans g58), upT t8, (im5.trans im58).trans (Im.set eD8), ?_, hz⟩
              refine ⟨r8.len, fun j c ej => ?_, r8.dist, r8.sub, fun b o eb nb => ?_, upT t8, r8.he⟩
              · obtain ⟨u, q1, q2⟩ := r8.at_ j c ej
                refine ⟨u, q1, ?_⟩
                have im : Im H8 (upd H8 D (.lst (vsa ++ [v]))) := Im.set eD8
                cases c with
                | val d => exact ⟨q2.1.imlf im d _ q2.2, q2.2⟩
                | own o =>
                  obtain ⟨b, eb, fb, nb, q⟩ := q2
                  have hne : b ≠ D := fun z => by
                    subst z
                    subst eb
                    exact noD j o ej q1
                  refine ⟨b, eb, fb, nb, ?_⟩
                  cases o with
                  | lst es =>
                    obtain ⟨us, p1, p2, p3⟩ := q
                    exact ⟨us, by rw [upd_ne hne]; exact p1, p2.imlf im es _ p3, p3⟩
                  | dT es =>
                    obtain ⟨us, p1, p2, p3⟩ := q
                    exact ⟨us, by rw [upd_ne hne]; exact p1, p2.imlf im es _ p3, p3⟩
                  | dK es =>
                    obtain ⟨us, p1, p2, p3⟩ := q
                    exact ⟨us, by rw [upd_ne hne]; exact p1, p2.imlf im es _ p3, p3⟩
                  | lT es =>
                    exact q.elim
                | bor o => exact q2
                | tape => exact q2
              · have hne : b ≠ D := fun z => by subst z; rw [DHq] at eb; cases eb
                rw [upd_ne hne]
                exact r8.gr b o eb nb
          | own o => exact hz.elim
          | bor o => exact hz.elim
          | tape => exact hz.elim
      · have e1 : j = es.length := by omega
        subst e1
        rw [List.drop_length] at h5
        exact .inl ⟨st1, acc, vsa, eD5, hda5, g5, t5, h5⟩
  · have e1 : i = ds.length := by omega
    subst e1
    rw [List.drop_length] at h'
    exact .inl ⟨st, (show Post tp K H Q (.own (.lst acc)) from h') _ H' (gg1.trans g') t' ⟨D, rfl, gg1.free t1 hD, tD, vsa, eD, hda, rfl⟩⟩
end
end Cs

set_option maxRecDepth 100000
set_option maxHeartbeats 4000000
/-! dicts: by keys that are ints and texts, by keys that are tuples of these -/
namespace Cs
open PySem PySem.Spec PyProof.Rows L2
def key1 : PyData → Option Key
  | .int i => some (.inl i)
  | .str x => some (.inr x)
  | _ => none
def keys1 : List PyData → Option (List Key)
  | [] => some []
  | d :: ds => match key1 d, keys1 ds with
    | some k, some ks => some (k :: ks)
    | _, _ => none
def keyT : PyData → Option (List Key)
  | .tuple ds => keys1 ds
  | _ => none
section
variable {κ : Type} [DecidableEq κ]
def valD (kvs : List (κ × PyData)) (k : κ) : Option PyData := (kvs.find? fun kv => decide (kv.1 = k)).map (·.2)
def putD (kvs : List (κ × PyData)) (k : κ) (v : PyData) : List (κ × PyData) :=
  if (kvs.any fun kv => decide (kv.1 = k)) = true then kvs.map (fun kv => if kv.1 = k then (kv.1, v) else kv) else kvs ++ [(k, v)]
end
section
variable {tp : Option (Addr × Addr)} {K : PySem.W.Frag} {H H' H'' H0 H1 He : Hp} {Hq : Hp} {σ : L2.St} {ρ : Ro}
theorem key1_vl {y : V} {d : PyData} {k : Key} (h : Vl K H y d) (e : key1 d = some k) : y = kV k := by
  cases h <;> cases e <;> rfl
theorem keys1_vl : ∀ {ds : List PyData} {ys : List V} {ks : List Key}, VlAll K H ys ds → keys1 ds = some ks → ys = ks.map kV
  | [], _, _, h, e => by cases h; cases e; rfl
  | d :: ds, _, ks, h, e => by
    cases h with
    | cons h1 h2 =>
      unfold keys1 at e
      split at e
      · rename_i k ks' e1 e2
        cases e
        rw [key1_vl h1 e1, keys1_vl h2 e2]
        rfl
      · cases e
theorem keyT_vl {y : V} {d : PyData} {ks : List Key} (h : Vl K H y d) (e : keyT d = some ks) : ∃ b, y = .ref b ∧ H b = some (.tup (ks.map kV)) := by
  cases h with
  | tup h1 h2 => exact ⟨_, rfl, by rw [← keys1_vl h2 e]; exact h1⟩
  | _ => cases e
section
variable {κ : Type} [DecidableEq κ]
theorem _root_.L2.KvR.get {vs : List (κ × V)} {ds : List (κ × PyData)} (k : κ) (h : KvR K H vs ds) : (valV vs k = none ∧ valD ds k = none) ∨ ∃ v d, valV vs k = some v ∧ valD ds k = some d ∧ Vl K H v d := by
  obtain ⟨h1, h2⟩ := h
  induction vs generalizing ds with
  | nil =>
    cases ds with
    | nil => exact .inl ⟨rfl, rfl⟩
    | cons _ _ => cases h1
  | cons p vs ih =>
    cases ds with
    | nil => cases h1
    | cons q ds =>
      rw [List.map_cons, List.map_cons] at h1 h2
      injection h1 with e1 e2
      cases h2 with
      | cons g1 g2 =>
        by_cases e : p.1 = k
        · refine .inr ⟨p.2, q.2, valV_pos e, ?_, g1⟩
          simp [valD, List.find?_cons, e1.symm.trans e]
        · have e' : ¬ q.1 = k := fun z => e (e1.trans z)
          have r1 : valV (p :: vs) k = valV vs k := valV_neg e
          have r2 : valD (q :: ds) k = valD ds k := by simp [valD, List.find?_cons, e']
          rw [r1, r2]
          exact ih e2 g2
theorem _root_.L2.KvR.any {vs : List (κ × V)} {ds : List (κ × PyData)} (h : KvR K H vs ds) (k : κ) : (vs.any fun kv => decide (kv.1 = k)) = ds.any fun kv => decide (kv.1 = k) := by
  have a : (vs.any fun kv => decide (kv.1 = k)) = (vs.map Prod.fst).any fun x => decide (x = k) := by rw [List.any_map]; rfl
  have b : (ds.any fun kv => decide (kv.1 = k)) = (ds.map Prod.fst).any fun x => decide (x = k) := by rw [List.any_map]; rfl
  rw [a, b, h.1]
theorem kv_repl {k : κ} {v : V} {d : PyData} (hv : Vl K H v d) : ∀ {vs : List (κ × V)} {ds : List (κ × PyData)}, KvR K H vs ds → KvR K H (vs.map fun kv => if kv.1 = k then (kv.1, v) else kv) (ds.map fun kv => if kv.1 = k then (kv.1, d) else kv)
  | [], [], h => h
  | [], _ :: _, h => by cases h.1
  | _ :: _, [], h => by cases h.1
  | p :: vs, q :: ds, ⟨h1, h2⟩ => by
    rw [List.map_cons, List.map_cons] at h1 h2
    injection h1 with e1 e2
    cases h2 with
    | cons g1 g2 =>
      obtain ⟨i1, i2⟩ := kv_repl (k := k) hv (vs := vs) (ds := ds) ⟨e2, g2⟩
      rw [List.map_cons, List.map_cons]
      by_cases e : p.1 = k
      · rw [if_pos e, if_pos (e1.symm.trans e)]
        exact ⟨by rw [List.map_cons, List.map_cons, i1, e1], .cons hv i2⟩
      · rw [if_neg e, if_neg fun z => e (e1.trans z)]
        exact ⟨by rw [List.map_cons, List.map_cons, i1, e1], .cons g1 i2⟩
theorem _root_.L2.KvR.put {vs : List (κ × V)} {ds : List (κ × PyData)} {k : κ} {v : V} {d : PyData} (h : KvR K H vs ds) (hv : Vl K H v d) : KvR K H (putK vs k v) (putD ds k d) := by
  unfold putK putD
  rw [h.any k]
  split
  · exact kv_repl hv h
  · exact ⟨by rw [List.map_append, List.map_append, h.1]; rfl, by rw [List.map_append, List.map_append]; exact h.2.app (.cons hv .nil)⟩
theorem _root_.L2.KvR.len {vs : List (κ × V)} {ds : List (κ × PyData)} (h : KvR K H vs ds) : vs.length = ds.length := by
  have := congrArg List.length h.1
  rwa [List.length_map, List.length_map] at this
end
/-! a dict, read -/
def C.kvT : C → Option (List (List Key × PyData))
  | .own (.dT ds) => some ds
  | .bor (.dT ds) => some ds
  | .bor (.lT ds) => some ds
  | _ => none
def C.kvK : C → Option (List (Key × PyData))
  | .own (.dK ds) => some ds
  | .bor (.dK ds) => some ds
  | _ => none
theorem RC.dT {v : V} {c : C} {ds : List (List Key × PyData)} (h : RC tp K H0 H v c) (e : c.kvT = some ds) : ∃ a vs, v = .ref a ∧ Rd H a (.dT vs) ∧ KvR K H vs ds := by
  cases c with
  | val d => cases e
  | tape => cases e
  | own o =>
    cases o with
    | lst _ => cases e
    | dK _ => cases e
    | lT _ => cases e
    | dT _ =>
      cases e
      obtain ⟨a, rfl, _, _, vs, h1, h2, _⟩ := h
      exact ⟨a, vs, rfl, .inl h1, h2⟩
  | bor o =>
    cases o with
    | lst _ => cases e
    | dK _ => cases e
    | lT _ =>
      cases e
      obtain ⟨a, rfl, vs, h1, h2, _⟩ := h
      exact ⟨a, vs, rfl, .inr h1.1, h2⟩
    | dT _ =>
      cases e
      obtain ⟨a, rfl, vs, h1, h2, _⟩ := h
      exact ⟨a, vs, rfl, h1.1, h2⟩
theorem RC.dK {v : V} {c : C} {ds : List (Key × PyData)} (h : RC tp K H0 H v c) (e : c.kvK = some ds) : ∃ a vs, v = .ref a ∧ Rd H a (.dK vs) ∧ KvR K H vs ds := by
  cases c with
  | val d => cases e
  | tape => cases e
  | own o =>
    cases o with
    | lst _ => cases e
    | dT _ => cases e
    | lT _ => cases e
    | dK _ =>
      cases e
      obtain ⟨a, rfl, _, _, vs, h1, h2, _⟩ := h
      exact ⟨a, vs, rfl, .inl h1, h2⟩
  | bor o =>
    cases o with
    | lst _ => cases e
    | dT _ => cases e
    | lT _ => cases e
    | dK _ =>
      cases e
      obtain ⟨a, rfl, vs, h1, h2, _⟩ := h
      exact ⟨a, vs, rfl, h1.1, h2⟩
/-- what the dict c holds at the key d; none: no dict, or no key that may be asked -/
def lkD (c : C) (d : PyData) : Option (Option PyData) := match c.kvT, c.kvK with
  | some ds, _ => (match keyT d with
    | some k => some (valD ds k)
    | none => none)
  | none, some ds => (match key1 d with
    | some k => some (valD ds k)
    | none => none)
  | none, none => none
theorem lkD_ok {x y : V} {c : C} {d : PyData} {o : Option PyData} (rx : RC tp K H0 H x c) (hy : Vl K H y d) (e : lkD c d = some o) :
    ∃ a o', x = .ref a ∧ DGet H a y o' ∧ ((o' = none ∧ o = none) ∨ ∃ v z, o' = some v ∧ o = some z ∧ Vl K H v z) := by
  unfold lkD at e
  split at e
  · rename_i ds _ e1
    split at e
    · rename_i k ek
      cases e
      obtain ⟨a, vs, rfl, r, h⟩ := rx.dT e1
      obtain ⟨b, rfl, hb⟩ := keyT_vl hy ek
      refine ⟨a, valV vs k, rfl, .inr ⟨vs, k, b, r, rfl, hb, rfl⟩, ?_⟩
      exact h.get k
    · cases e
  · rename_i ds _ e1
    split at e
    · rename_i k ek
      cases e
      obtain ⟨a, vs, rfl, r, h⟩ := rx.dK e1
      refine ⟨a, valV vs k, rfl, .inl ⟨vs, k, r, key1_vl hy ek, rfl⟩, ?_⟩
      exact h.get k
    · cases e
  · cases e
/-! d[k] -/
def oDGet : C → C → M C
  | c, .val d => (match lkD c d with
    | some (some z) => .ret (.val z)
    | _ => .fail)
  | _, _ => .fail
theorem re_dget {td ty : TE} {gd gy : Ro → M C} (h1 : RE K td gd) (h2 : RE K ty gy) : RE K (tDGet td ty) (gOp oDGet gd gy) := by
  intro tp He Hq ρ σ H Q r h
  refine h1 tp He Hq ρ σ H _ r (wp0_mono (fun c hc => ?_) (wp0_bind.mp h))
  intro x H1 g1 t1 rx
  refine h2 tp He Hq ρ σ H1 _ (r.go g1 t1) (wp0_mono (fun c' hc' => ?_) (wp0_bind.mp hc))
  intro y H2 g2 t2 ry
  have rx2 := rx.gr g2 t1
  unfold oDGet at hc'
  split at hc'
  · rename_i d
    split at hc'
    · rename_i z e
      obtain ⟨a, o', ex, dg, q⟩ := lkD_ok rx2 ry.1 e
      rcases q with ⟨_, z⟩ | ⟨v, z', e1, e2, hv⟩
      · cases z
      · cases e2
        subst e1
        exact ⟨a, v, ex, dg, hc' v H2 (g1.trans g2) t2 ⟨hv, rfl⟩⟩
    · exact hc'.elim
  · exact hc'.elim
/-! k in d -/
def oDIn (n : Bool) : C → C → M C
  | .val d, c => (match lkD c d with
    | some o => .ret (.val (.bool (n ^^ o.isSome)))
    | _ => .fail)
  | _, _ => .fail
theorem re_din {td ty : TE} {gd gy : Ro → M C} (h1 : RE K ty gy) (h2 : RE K td gd) : RE K (tDIn ty td) (gOp (oDIn false) gy gd) := by
  intro tp He Hq ρ σ H Q r h
  refine h1 tp He Hq ρ σ H _ r (wp0_mono (fun c hc => ?_) (wp0_bind.mp h))
  intro y H1 g1 t1 ry
  refine h2 tp He Hq ρ σ H1 _ (r.go g1 t1) (wp0_mono (fun c' hc' => ?_) (wp0_bind.mp hc))
  intro x H2 g2 t2 rx
  have ry2 := ry.gr g2 t1
  unfold oDIn at hc'
  split at hc'
  · rename_i d
    split at hc'
    · rename_i o e
      obtain ⟨a, o', ex, dg, q⟩ := lkD_ok rx ry2.1 e
      refine ⟨a, o', ex, dg, ?_⟩
      have : o'.isSome = o.isSome := by
        rcases q with ⟨e1, e2⟩ | ⟨v, z', e1, e2, _⟩ <;> (rw [e1, e2]; try rfl)
      rw [this]
      rw [Bool.false_xor] at hc'
      exact Post.bl hc' (g1.trans g2) t2
    · exact hc'.elim
  · exact hc'.elim
theorem re_dnotin {td ty : TE} {gd gy : Ro → M C} (h1 : RE K ty gy) (h2 : RE K td gd) : RE K (tDNotIn ty td) (gOp (oDIn true) gy gd) := by
  intro tp He Hq ρ σ H Q r h
  refine h1 tp He Hq ρ σ H _ r (wp0_mono (fun c hc => ?_) (wp0_bind.mp h))
  intro y H1 g1 t1 ry
  refine h2 tp He Hq ρ σ H1 _ (r.go g1 t1) (wp0_mono (fun c' hc' => ?_) (wp0_bind.mp hc))
  intro x H2 g2 t2 rx
  have ry2 := ry.gr g2 t1
  unfold oDIn at hc'
  split at hc'
  · rename_i d
    split at hc'
    · rename_i o e
      obtain ⟨a, o', ex, dg, q⟩ := lkD_ok rx ry2.1 e
      refine ⟨a, o', ex, dg, ?_⟩
      have : o'.isSome = o.isSome := by
        rcases q with ⟨e1, e2⟩ | ⟨v, z', e1, e2, _⟩ <;> (rw [e1, e2]; try rfl)
      rw [this]
      rw [Bool.true_xor] at hc'
      exact Post.bl hc' (g1.trans g2) t2
    · exact hc'.elim
  · exact hc'.elim
/-! d.get(k) -/
theorem RC.isD {x : V} {c : C} (rx : RC tp K H0 H x c) {d : PyData} {o : Option PyData} (e : lkD c d = some o) : ∃ a, x = .ref a ∧ IsD H a := by
  unfold lkD at e
  split at e
  · rename_i ds _ e1
    obtain ⟨a, vs, rfl, r, h⟩ := rx.dT e1
    exact ⟨a, rfl, .inr ⟨vs, r⟩⟩
  · rename_i ds _ e1
    obtain ⟨a, vs, rfl, r, h⟩ := rx.dK e1
    exact ⟨a, rfl, .inl ⟨vs, r⟩⟩
  · cases e
def C.isDict (c : C) : Bool := c.kvT.isSome || c.kvK.isSome
theorem RC.isDict {x : V} {c : C} (rx : RC tp K H0 H x c) (e : c.isDict = true) : ∃ a, x = .ref a ∧ IsD H a := by
  unfold C.isDict at e
  cases q : c.kvT with
  | some ds =>
    obtain ⟨a, vs, rfl, r, h⟩ := rx.dT q
    exact ⟨a, rfl, .inr ⟨vs, r⟩⟩
  | none =>
    cases q2 : c.kvK with
    | some ds =>
      obtain ⟨a, vs, rfl, r, h⟩ := rx.dK q2
      exact ⟨a, rfl, .inl ⟨vs, r⟩⟩
    | none => rw [q, q2] at e; cases e
def oDGet1 (c : C) : C → M C
  | .val d => (match lkD c d with
    | some o => .ret (.val (o.getD .none))
    | _ => .fail)
  | _ => .fail
def gDGet1 (gd gy : Ro → M C) (ρ : Ro) : M C := (gd ρ).bind fun c => if c.isDict = true then (gy ρ).bind (oDGet1 c) else .fail
theorem re_dget1 {td ty : TE} {gd gy : Ro → M C} (h1 : RE K td gd) (h2 : RE K ty gy) : RE K (tDGet1 td ty) (gDGet1 gd gy) := by
  intro tp He Hq ρ σ H Q r h
  refine h1 tp He Hq ρ σ H _ r (wp0_mono (fun c hc => ?_) (wp0_bind.mp h))
  intro x H1 g1 t1 rx
  split at hc
  · rename_i isd
    obtain ⟨a, rfl, ia⟩ := rx.isDict isd
    refine ⟨a, rfl, ia, ?_⟩
    refine h2 tp He Hq ρ σ H1 _ (r.go g1 t1) (wp0_mono (fun c' hc' => ?_) (wp0_bind.mp hc))
    intro y H2 g2 t2 ry
    have rx2 := rx.gr g2 t1
    unfold oDGet1 at hc'
    split at hc'
    · rename_i d
      split at hc'
      · rename_i o e
        obtain ⟨b, o', ex, dg, q⟩ := lkD_ok rx2 ry.1 e
        cases ex
        refine ⟨o', dg, ?_⟩
        rcases q with ⟨e1, e2⟩ | ⟨v, z', e1, e2, hv⟩
        · subst e1 e2
          exact hc' _ H2 (g1.trans g2) t2 ⟨.non, rfl⟩
        · subst e1 e2
          exact hc' _ H2 (g1.trans g2) t2 ⟨hv, rfl⟩
      · exact hc'.elim
    · exact hc'.elim
  · exact hc.elim
/-! {} -/
def gNewT (_ : Ro) : M C := .ret (.own (.dT []))
def gNewK (_ : Ro) : M C := .ret (.own (.dK []))
theorem re_newT : RE K tDNewT gNewT := by
  intro tp He Hq ρ σ H Q r h
  intro p hp
  exact (show Post tp K H Q (.own (.dT [])) from h) _ _ (.of (Same.new hp)) (r.tok.same (Same.new hp)) ⟨p, rfl, hp, r.tok.tne hp, [], upd_same, ⟨rfl, .nil⟩, trivial⟩
theorem re_newK : RE K tDNewK gNewK := by
  intro tp He Hq ρ σ H Q r h
  intro p hp
  exact (show Post tp K H Q (.own (.dK [])) from h) _ _ (.of (Same.new hp)) (r.tok.same (Same.new hp)) ⟨p, rfl, hp, r.tok.tne hp, [], upd_same, ⟨rfl, .nil⟩, trivial⟩
/-! d[k] = v -/
theorem Im.mut {t : Addr} {H : Hp} {u o : HO} (h : H t = some u) (m : Mut (some u)) : Im H (upd H t o) :=
  ⟨fun b xs e => by
    have hne : b ≠ t := fun z => by subst z; rw [h] at e; cases e; exact m
    rw [upd_ne hne]; exact e,
   fun b o u' e => by
    have hne : b ≠ t := fun z => by subst z; rw [h] at e; cases e; exact m
    rw [upd_ne hne]; exact e⟩
theorem OwnO.mut {a : Addr} {o : PO} (h : OwnO K H a o) : ∃ u, H a = some u ∧ Mut (some u) := by
  cases o with
  | lst ds => obtain ⟨vs, h1, _⟩ := h; exact ⟨_, h1, trivial⟩
  | dT ds => obtain ⟨vs, h1, _⟩ := h; exact ⟨_, h1, trivial⟩
  | dK ds => obtain ⟨vs, h1, _⟩ := h; exact ⟨_, h1, trivial⟩
  | lT _ => exact h.elim
theorem OwnO.upd {a b : Addr} {o : PO} {u w : HO} (h : OwnO K H b o) (hne : b ≠ a) (e : H a = some w) (m : Mut (some w)) : OwnO K (upd H a u) b o := by
  have im : Im H (L2.upd H a u) := Im.mut e m
  cases o with
  | lst ds =>
    obtain ⟨vs, h1, h2, h3⟩ := h
    exact ⟨vs, by rw [upd_ne hne]; exact h1, h2.imlf im ds _ h3, h3⟩
  | dT ds =>
    obtain ⟨vs, h1, h2, h3⟩ := h
    exact ⟨vs, by rw [upd_ne hne]; exact h1, h2.imlf im ds _ h3, h3⟩
  | dK ds =>
    obtain ⟨vs, h1, h2, h3⟩ := h
    exact ⟨vs, by rw [upd_ne hne]; exact h1, h2.imlf im ds _ h3, h3⟩
  | lT ds =>
    exact h.elim
/-- an object of one's own is replaced -/
theorem Rel.setO {i : Nat} {o : PO} (r : Rel tp K He Hq H σ ρ) (e : ρ[i]? = some (some (.own o))) : ∃ a, σ[i]? = some (some (.ref a)) ∧ OwnO K H a o ∧
    (∀ u o', OwnO K (upd H a u) a o' → Rel tp K He Hq (upd H a u) σ (ρ.set i (some (.own o')))) := by
  obtain ⟨v, h1, a, e2, f, n, q0⟩ := r.at_ i _ e
  subst e2
  refine ⟨a, h1, q0, fun u o' hn => ?_⟩
  obtain ⟨w, hw, mw⟩ := q0.mut
  have im : Im H (upd H a u) := Im.mut hw mw
  have hl : i < ρ.length := (List.getElem?_eq_some_iff.mp e).1
  refine ⟨by rw [List.length_set, r.len], fun j c ej => ?_, fun j k b oo oo' e1 e2 e3 e4 => ?_, r.sub, fun b o eb nb => ?_, fun t l et => (r.tok t l et).upd (n t l et).1 (n t l et).2, r.he⟩
  · by_cases hij : i = j
    · subst hij
      rw [List.getElem?_set_self hl] at ej
      cases ej
      exact ⟨_, h1, a, rfl, f, n, hn⟩
    · rw [List.getElem?_set_ne hij] at ej
      obtain ⟨u, q1, q2⟩ := r.at_ j c ej
      refine ⟨u, q1, ?_⟩
      cases c with
      | val d => exact ⟨q2.1.imlf im d _ q2.2, q2.2⟩
      | own o =>
        obtain ⟨b, eb, fb, nb, q⟩ := q2
        have hne : b ≠ a := fun z => by
          subst z
          subst eb
          exact hij (r.dist i j b _ _ e ej h1 q1)
        exact ⟨b, eb, fb, nb, q.upd hne hw mw⟩
      | bor o => exact q2
      | tape => exact q2
  · have own_of : ∀ {m : Nat} {o : PO}, (ρ.set i (some (.own o')))[m]? = some (some (.own o)) → ∃ o, ρ[m]? = some (some (.own o)) := fun {m o} em => by
      by_cases him : i = m
      · subst him; exact ⟨_, e⟩
      · rw [List.getElem?_set_ne him] at em; exact ⟨_, em⟩
    obtain ⟨o1, e1'⟩ := own_of e1
    obtain ⟨o2, e2'⟩ := own_of e2
    exact r.dist j k b o1 o2 e1' e2' e3 e4
  · have hne : b ≠ a := fun z => by subst z; rw [f] at eb; cases eb
    rw [upd_ne hne]
    exact r.gr b o eb nb
end
end Cs

set_option maxRecDepth 100000
set_option maxHeartbeats 4000000
/-! dicts: stored into, walked while they are locked -/
namespace Cs
open PySem PySem.Spec PyProof.Rows L2
section
variable {tp : Option (Addr × Addr)} {K : PySem.W.Frag} {H H' H'' H0 H1 H2 He : Hp} {Hq : Hp} {σ : L2.St} {ρ : Ro}
/-! d[k] = v -/
def kPutT (i : Nat) (ρ : Ro) (ds : List (List Key × PyData)) : C → C → M Res
  | .val d, .val kd => (match keyT kd with
    | some k => if lenOk (ds.length + 1) = true then .ret (.nx (ρ.set i (some (.own (.dT (putD ds k d)))))) else .fail
    | none => .fail)
  | _, _ => .fail
def kPutK (i : Nat) (ρ : Ro) (ds : List (Key × PyData)) : C → C → M Res
  | .val d, .val kd => (match key1 kd with
    | some k => if lenOk (ds.length + 1) = true then .ret (.nx (ρ.set i (some (.own (.dK (putD ds k d)))))) else .fail
    | none => .fail)
  | _, _ => .fail
def dputAt (i : Nat) (gv gk : Ro → M C) (ρ : Ro) : Option (Option C) → M Res
  | some (some (.own (.dT ds))) => (gv ρ).bind fun cv => (gk ρ).bind fun ck => kPutT i ρ ds cv ck
  | some (some (.own (.dK ds))) => (gv ρ).bind fun cv => (gk ρ).bind fun ck => kPutK i ρ ds cv ck
  | _ => .fail
def mDPut (i : Nat) (gv gk : Ro → M C) (ρ : Ro) : M Res := dputAt i gv gk ρ ρ[i]?
theorem rs_dput {i : Nat} {ty tv : TE} {gk gv : Ro → M C} (h1 : RE K tv gv) (h2 : RE K ty gk) : RS K (sDPut (tVar i) ty tv) (mDPut i gv gk) := by
  intro tp He Hq ρ σ H D r h
  have zl : sizeLine = 16777216 := by decide
  unfold mDPut dputAt at h
  split at h
  · rename_i ds e
    refine h1 tp He Hq ρ σ H _ r (wp0_mono (fun cv hcv => ?_) (wp0_bind.mp h))
    intro v H1 g1 t1 rv
    have r1 := r.go g1 t1
    obtain ⟨a, hs, _⟩ := r1.setO e
    refine ⟨.ref a, hs, ?_⟩
    refine h2 tp He Hq ρ σ H1 _ r1 (wp0_mono (fun ck hck => ?_) (wp0_bind.mp hcv))
    intro y H3 g3 t3 ry
    have r3 := r1.go g3 t3
    have rv3 := rv.gr g3 t1
    obtain ⟨a', hs', ⟨vs, q1, q2, _⟩, put⟩ := r3.setO e
    have : a' = a := by rw [hs] at hs'; cases hs'; rfl
    subst this
    unfold kPutT at hck
    split at hck
    · rename_i d kd
      split at hck
      · rename_i k ek
        split at hck
        · rename_i lo
          have lo' := lenOk_le lo
          obtain ⟨b, rfl, hb⟩ := keyT_vl ry.1 ek
          refine ⟨a', _, rfl, DPut.t q1 hb (by rw [q2.len]; omega), ?_⟩
          exact (show NxOk tp K He Hq D.nx _ from hck) σ _ Hq .refl (put _ _ ⟨_, upd_same, (q2.put rv3.1).imlf (Im.mut q1 trivial) _ _ trivial, trivial⟩)
        · exact hck.elim
      · exact hck.elim
    · exact hck.elim
  · rename_i ds e
    refine h1 tp He Hq ρ σ H _ r (wp0_mono (fun cv hcv => ?_) (wp0_bind.mp h))
    intro v H1 g1 t1 rv
    have r1 := r.go g1 t1
    obtain ⟨a, hs, _⟩ := r1.setO e
    refine ⟨.ref a, hs, ?_⟩
    refine h2 tp He Hq ρ σ H1 _ r1 (wp0_mono (fun ck hck => ?_) (wp0_bind.mp hcv))
    intro y H3 g3 t3 ry
    have r3 := r1.go g3 t3
    have rv3 := rv.gr g3 t1
    obtain ⟨a', hs', ⟨vs, q1, q2, _⟩, put⟩ := r3.setO e
    have : a' = a := by rw [hs] at hs'; cases hs'; rfl
    subst this
    unfold kPutK at hck
    split at hck
    · rename_i d kd
      split at hck
      · rename_i k ek
        split at hck
        · rename_i lo
          have lo' := lenOk_le lo
          have ey := key1_vl ry.1 ek
          subst ey
          refine ⟨a', _, rfl, DPut.k q1 (by rw [q2.len]; omega), ?_⟩
          exact (show NxOk tp K He Hq D.nx _ from hck) σ _ Hq .refl (put _ _ ⟨_, upd_same, (q2.put rv3.1).imlf (Im.mut q1 trivial) _ _ trivial, trivial⟩)
        · exact hck.elim
      · exact hck.elim
    · exact hck.elim
  · exact h.elim
/-! ### locked -/
mutual
theorem Vl.unl {a : Addr} {od : Obj} {w u : HO} (hw : H a = some (.frz od w)) (nl : ∀ xs, w ≠ .lst xs) : ∀ (d : PyData) (v : V), Vl K H v d → Vl K (upd H a u) v d
  | .none, _, h => by cases h; exact .non
  | .bool _, _, h => by cases h; exact .bl _
  | .int _, _, h => by cases h; exact .int _
  | .str _, _, h => by cases h; exact .str _
  | .list ds, _, h => by
    cases h with
    | lst hs ha =>
      obtain ⟨o, hs⟩ := hs
      refine .lst ⟨o, ?_⟩ (VlAll.unl hw nl ds _ ha)
      rw [upd_ne (fun z => by rw [z, hw] at hs; cases hs; exact nl _ rfl)]
      exact hs
  | .dict _, _, h => by cases h
  | .tuple ds, _, h => by
    cases h with
    | tup hs ha =>
      refine .tup ?_ (VlAll.unl hw nl ds _ ha)
      rw [upd_ne (fun z => by rw [z, hw] at hs; cases hs)]
      exact hs
theorem VlAll.unl {a : Addr} {od : Obj} {w u : HO} (hw : H a = some (.frz od w)) (nl : ∀ xs, w ≠ .lst xs) : ∀ (ds : List PyData) (vs : List V), VlAll K H vs ds → VlAll K (upd H a u) vs ds
  | [], _, h => by cases h; exact .nil
  | d :: ds, _, h => by
    cases h with
    | cons h1 h2 => exact .cons (Vl.unl hw nl d _ h1) (VlAll.unl hw nl ds _ h2)
end
theorem Rel.lockT {i : Nat} {ds : List (List Key × PyData)} (r : Rel tp K He Hq H σ ρ) (e : ρ[i]? = some (some (.own (.dT ds)))) : ∃ a vs, σ[i]? = some (some (.ref a)) ∧ H a = some (.dT vs) ∧ TNe tp a ∧
    ∀ od, ∃ Hq3, Rel tp K He Hq3 (upd H a (.frz od (.dT vs))) σ (ρ.set i (some (.bor (.lT ds)))) := by
  obtain ⟨v, h1, a, e2, f, n, vs, q1, q2, q3⟩ := r.at_ i _ e
  subst e2
  refine ⟨a, vs, h1, q1, n, fun od => ?_⟩
  have nown : ∀ (j : Nat) (o : PO), (ρ.set i none)[j]? = some (some (.own o)) → σ[j]? ≠ some (some (.ref a)) := fun j o ej hs => by
    obtain ⟨n1, e'⟩ := Rel.forgot ej
    exact n1 (r.dist i j a _ _ e e' h1 hs)
  have np : ∀ p ∈ [a], tp.map (·.1) ≠ some p := fun p m => by
    have : p = a := by simpa using m
    subst this
    exact n.ne
  have w : Wk K H ⟨fun _ _ => False, fun _ _ _ _ => False, fun _ _ => True⟩ [a] [] := fun H' _ _ => ⟨trivial, fun i d z => by simp at z⟩
  obtain ⟨Hq2, g2, r2, _, im, eqs⟩ := (r.forget (i := i)).more (pa := [a]) (fun p j o m ej => by
    have : p = a := by simpa using m
    subst this
    exact nown j o ej) np w
  have ea : Hq2 a = some (.dT vs) := (eqs a n.ne nown).trans q1
  have imH : Im H (upd H a (.frz od (.dT vs))) := Im.mut q1 trivial
  have imQ : Im Hq2 (upd Hq2 a (.frz od (.dT vs))) := Im.mut ea trivial
  have rdq : ∀ {b : Addr} {u : HO}, Rd Hq2 b u → Rd (upd Hq2 a (.frz od (.dT vs))) b u := fun {b u} h => by
    by_cases hb : b = a
    · subst hb
      rcases h with h | ⟨o, h⟩
      · rw [ea] at h; cases h; exact .inr ⟨od, upd_same⟩
      · rw [ea] at h; cases h
    · rcases h with h | ⟨o, h⟩
      · exact .inl (by rw [upd_ne hb]; exact h)
      · exact .inr ⟨o, by rw [upd_ne hb]; exact h⟩
  have borq : ∀ {b : Addr} {o : PO}, BorO tp K Hq2 b o → BorO tp K (upd Hq2 a (.frz od (.dT vs))) b o := fun {b o} h => by
    cases o with
    | lst es => obtain ⟨us, p1, p2, p3⟩ := h; exact ⟨us, ⟨rdq p1.1, p1.2⟩, p2.imlf imQ _ _ p3, p3⟩
    | dT es => obtain ⟨us, p1, p2, p3⟩ := h; exact ⟨us, ⟨rdq p1.1, p1.2⟩, p2.imlf imQ _ _ p3, p3⟩
    | dK es => obtain ⟨us, p1, p2, p3⟩ := h; exact ⟨us, ⟨rdq p1.1, p1.2⟩, p2.imlf imQ _ _ p3, p3⟩
    | lT es =>
      obtain ⟨us, ⟨⟨o, p1⟩, p4⟩, p2, p3⟩ := h
      exact ⟨us, ⟨⟨o, imQ.frz _ _ _ p1⟩, p4⟩, p2.imlf imQ _ _ p3, p3⟩
  have r3 : Rel tp K He (upd Hq2 a (.frz od (.dT vs))) (upd H a (.frz od (.dT vs))) σ (ρ.set i none) := by
    refine ⟨r2.len, fun j c ej => ?_, r2.dist, fun b o eb nb => ?_, fun b o eb nb => ?_, fun t l et => (r2.tok t l et).upd (n t l et).1 (n t l et).2, fun t l et => ?_⟩
    · obtain ⟨u, p1, p2⟩ := r2.at_ j c ej
      refine ⟨u, p1, ?_⟩
      cases c with
      | val d => exact ⟨p2.1.imlf imH d _ p2.2, p2.2⟩
      | own o =>
        obtain ⟨b, eb, fb, nb, q⟩ := p2
        have hne : b ≠ a := fun z => by subst z; rw [ea] at fb; cases fb
        exact ⟨b, eb, by rw [upd_ne hne]; exact fb, nb, q.upd hne q1 trivial⟩
      | bor o =>
        obtain ⟨b, eb, q⟩ := p2
        exact ⟨b, eb, borq q⟩
      | tape => exact p2
    · have hne : b ≠ a := fun z => by subst z; have := r.sub b o eb nb; rw [f] at this; cases this
      rw [upd_ne hne]
      exact r2.sub b o eb nb
    · by_cases hb : b = a
      · subst hb; rw [upd_same] at eb; rw [upd_same]; exact eb
      · rw [upd_ne hb] at eb; rw [upd_ne hb]; exact r2.gr b o eb nb
    · have hne : t ≠ a := fun z => (n t l et).1 z.symm
      rw [upd_ne hne]
      exact r2.he t l et
  have r4 := r3.put (i := i) (v := .ref a) (c := .bor (.lT ds)) ⟨a, rfl, vs, ⟨⟨od, upd_same⟩, n.ne⟩, (q2.imlf im _ _ trivial).imlf imQ _ _ trivial, trivial⟩ (fun _ _ z => by cases z)
  rw [List.set_set] at r4
  have es : σ.set i (some (.ref a)) = σ := by
    refine List.ext_getElem? fun j => ?_
    by_cases hij : i = j
    · subst hij
      rw [List.getElem?_set_self (List.getElem?_eq_some_iff.mp h1).1, h1]
    · rw [List.getElem?_set_ne hij]
  rw [es] at r4
  exact ⟨_, r4⟩
def lockC : C → M C
  | .val d => .ret (.val d)
  | .own o => .ret (.own o)
  | _ => .fail
def lockAt (i : Nat) (g : Ro → M C) (ρ : Ro) : Option (Option C) → M C
  | some (some (.own (.dT ds))) => (g (ρ.set i (some (.bor (.lT ds))))).bind lockC
  | _ => .fail
def gLock (i : Nat) (g : Ro → M C) (ρ : Ro) : M C := lockAt i g ρ ρ[i]?
theorem re_lock {i : Nat} {t : TE} {g : Ro → M C} (h1 : RE K t g) : RE K (tLockE t) (gLock i g) := by
  intro tp He Hq ρ σ H Q r h
  unfold gLock lockAt at h
  split at h
  · rename_i ds e
    obtain ⟨a, vs, hs, hH, na, q⟩ := r.lockT e
    refine ⟨a, _, hH, trivial, fun od => ?_⟩
    obtain ⟨Hq3, r3⟩ := q od
    refine h1 tp He Hq3 _ σ _ _ r3 (wp0_mono (fun c hc => ?_) (wp0_bind.mp h))
    intro v H2 g2 t2 rc
    have hf : H2 a = some (.frz od (.dT vs)) := g2 a _ upd_same na.ne
    refine ⟨hf, ?_⟩
    have gg : GrT tp H (upd H2 a (.dT vs)) := fun b o eb nb => by
      by_cases hb : b = a
      · subst hb; rw [upd_same, ← eb, hH]
      · rw [upd_ne hb]
        exact g2 b o (by rw [upd_ne hb]; exact eb) nb
    have tt : TOk tp (upd H2 a (.dT vs)) := fun t l et => by
      exact (t2 t l et).upd (na t l et).1 (na t l et).2
    unfold lockC at hc
    split at hc
    · rename_i d
      exact hc v _ gg tt ⟨Vl.unl hf (fun _ z => by cases z) d v rc.1, rfl⟩
    · rename_i o
      obtain ⟨b, rfl, fb, nb, q⟩ := rc
      have hne : b ≠ a := fun z => by subst z; rw [upd_same] at fb; cases fb
      refine hc _ _ gg tt ⟨b, rfl, by rwa [upd_ne hne] at fb, nb, ?_⟩
      cases o with
      | lst es => obtain ⟨us, p1, p2, p3⟩ := q; exact ⟨us, by rw [upd_ne hne]; exact p1, VlAll.unl hf (fun _ z => by cases z) _ _ p2, p3⟩
      | dT es => obtain ⟨us, p1, p2, p3⟩ := q; exact ⟨us, by rw [upd_ne hne]; exact p1, ⟨p2.1, VlAll.unl hf (fun _ z => by cases z) _ _ p2.2⟩, p3⟩
      | dK es => obtain ⟨us, p1, p2, p3⟩ := q; exact ⟨us, by rw [upd_ne hne]; exact p1, ⟨p2.1, VlAll.unl hf (fun _ z => by cases z) _ _ p2.2⟩, p3⟩
      | lT _ => exact q.elim
    · exact hc.elim
  · exact h.elim
/-! the keys of a locked dict -/
def kD : Key → PyData
  | .inl i => .int i
  | .inr x => .str x
def keyD (ks : List Key) : PyData := .tuple (ks.map kD)
theorem vl_kD : ∀ ks : List Key, VlAll K H (ks.map kV) (ks.map kD)
  | [] => .nil
  | .inl i :: ks => .cons (.int i) (vl_kD ks)
  | .inr x :: ks => .cons (.str x) (vl_kD ks)
def keysAt : Option (Option C) → M (List PyData)
  | some (some (.bor (.lT ds))) => .ret (ds.map fun kv => keyD kv.1)
  | _ => .fail
def gKeys (i : Nat) (ρ : Ro) : M (List PyData) := keysAt ρ[i]?
theorem ri_keys {i : Nat} {s : Bool} : RI K s (iKeys (tVar i)) (gKeys i) := by
  intro tp He Hq ρ σ H Q r h
  unfold gKeys keysAt at h
  split at h
  · rename_i ds e
    obtain ⟨v, h1, a, ev, h2⟩ := r.at_ i _ e
    subst ev
    obtain ⟨vs, ⟨⟨o, q1⟩, q4⟩, q2, q3⟩ := r.bor h2
    refine ⟨.ref a, h1, a, o, rfl, .inr ⟨vs, q1, (show ∀ J H1 pa, _ from h) _ H [] .refl r.tok rfl ?_ (fun _ m => by simp at m) (fun _ _ _ _ m => by simp at m)⟩⟩
    intro H' im _
    have hf := im.frz _ _ _ q1
    have hl := q2.len
    refine ⟨⟨hf, by rw [List.length_map, ← hl]; exact Nat.le_refl _⟩, fun j d ej => ?_⟩
    rw [List.getElem?_map] at ej
    cases ed : ds[j]? with
    | none => rw [ed] at ej; cases ej
    | some kv =>
      rw [ed] at ej
      cases ej
      have hj : j < ds.length := (List.getElem?_eq_some_iff.mp ed).1
      refine ⟨⟨hf, by omega⟩, fun x H'' y => ?_⟩
      obtain ⟨rfl, k, v, q, ek, rfl, hq⟩ := y
      have : k = kv.1 := by
        have := congrArg (fun l : List (List Key) => l[j]?) q2.1
        simp only [List.getElem?_map, ek, ed, Option.map_some] at this
        exact Option.some.inj this
      subst this
      exact ⟨fun _ _ z => z, .tup hq (vl_kD _)⟩
  · exact h.elim
end
end Cs

set_option maxRecDepth 100000
set_option maxHeartbeats 4000000
/-! {k: v for ..} with keys that are tuples -/
namespace L2
open PySem PySem.Spec PyProof.Rows
/-- P holds of the block that a comprehension opens -/
def InBlk (X : Cx) (sc : Scope) (P : Cx → Prop) : Prop := ∀ (s : Shared) (H : Hp) (C : Addr) (cl : List (Str × Addr)) (fp : List Addr), P (X.blk s H sc (compEnvC sc cl C X.env) fp)
/-- one turn's end: the pair is laid into the new dict at D -/
def PutT (D : Addr) (Nx : Hp → Prop) (y z : V) (H : Hp) : Prop := ∃ (es : List (List Key × V)) (k : List Key) (q : Addr), y = .ref q ∧ H q = some (.tup (k.map kV)) ∧ H D = some (.dT es) ∧ es.length < sizeLine ∧ Nx (upd H D (.dT (putK es k z)))
def tDcT (wi : TI) (g : TG) (tt : TT) (tk tv : TE) (vs : List Nat) : TE := fun σ H Q => wi σ H fun J H1 => ∀ D, H1 D = none →
  ∃ W : Nat → Nat → Hp → Prop, (∃ m, W 0 m (upd H1 D (.dT []))) ∧ ∀ i m G, W i m G → (J.stop i G ∧ Q (.ref D) G) ∨
    (J.go i G ∧ ∃ Nx : Hp → Prop, (∀ G', Nx G' → ∃ m', m' < m ∧ W (i + 1) m' G') ∧
      ∀ x G', J.yld i G x G' → g x (wipe σ vs) G' fun σ2 H2 => wipe σ2 vs = wipe σ vs ∧ tt σ2 H2 fun b H3 => if b = true then tk σ2 H3 fun y H4 => tv σ2 H4 fun z H5 => PutT D Nx y z H5 else Nx H3)
section
variable {X : Cx}
theorem putT_ok {pins : List (Addr × Obj)} {σ : St} {H : Hp} {s : Shared} {E : Value → Shared → Prop} {D : Addr} {Nx : Hp → Prop} {y z : V} {u r : Value} {Q : Unit → Shared → Prop} (hu : X.A.units < cLine) (I : Inv X pins σ H s) (p : PutT D Nx y z H)
    (ry : RelV y u) (rz : RelV z r) (h : ∀ G t, Nx G → Inv X pins σ G t → Q () t) : wpAny (model X.prog X.w) X.A (dictSet D u r) Q E s := by
  obtain ⟨es, k, q, rfl, hq, hD, hz, nx⟩ := p
  cases (show u = Value.ref q from ry)
  obtain ⟨_, nm, xs, rel, dd⟩ := dt_of I.hok hD
  have len := Paired.length rel
  have more := length_putK es k z
  refine wpAny_dictSet_heap (hsz := by rw [← len]; omega) (show (tupleKind (mixKind X.prog X.w)).room X.A from hu) (key_of I.hok hq) dd fun h' dd' same => h _ _ nx ?_
  obtain ⟨o, a1, a2, b1, b2, b3, b4, _, b5⟩ := dd'
  have keep : ∀ c ys, H c = some (.tup ys) → upd H D (.dT (putK es k z)) c = some (.tup ys) := fun c ys ec => by
    have ne : c ≠ D := fun w => by rw [w, hD] at ec; cases ec
    rw [upd_ne ne, ec]
  exact d_write I (by rw [hD]; trivial) same ⟨o, b1⟩ ⟨by omega, nm, storedH xs k q r, (rel.put k hq rz).keeps keep, o, a1, a2, b1, b2, b3, b4, b5⟩
theorem newT_ok {pins : List (Addr × Obj)} {σ : St} {H : Hp} {s : Shared} (I : Inv X pins σ H s) : Inv X pins σ (upd H s.heap.objs.size (.dT [])) { s with heap := s.heap.push { cls := .type "dict", data := .dict #[] } } :=
  I.laid (t' := s.toks) (fun _ _ e => Heap.get?_push_of_some _ e) (Nat.le_refl _) (dt_empty s.heap I.big)
variable {kx vx tg iter : Expr} {ifs : List Expr} {sc : Scope} {own : List (Str × Nat)} {pos : Pos} {wi : TI} {g : TG} {tt : TT} {tk tv : TE}
theorem dcT_core {pins : List (Addr × Obj)} {s : Shared} {σ : St} {H : Hp} {Q : VK} {pos' : Pos} {use : Option (Value → Sem Unit)} {Qf : Value → Shared → Prop}
    (hu : X.A.units < cLine) (calm : X.calm = true) (nd : X.N.Nodup) (I : Inv X pins σ H s) (src : PI X tg iter wi) (ok : BlkOk X.N X.env.scope sc own)
    (ptg : InBlk X sc fun Y => PG Y tg g) (pif : InBlk X sc fun Y => PTs Y ifs tt) (pk : InBlk X sc fun Y => PE Y kx tk) (pv : InBlk X sc fun Y => PE Y vx tv) (fold : ∀ x, foldedSetIterable iter X.env x = pure x)
    (h : tDcT wi g tt tk tv (own.map (·.2)) σ H Q)
    (fin : ∀ D C t m G, Inv X pins σ G t → Q (.ref D) G → t.heap.Ns C m → FpOk X pins G C → compPost (model X.prog X.w) X.A X.xe use Qf (.ref D) C (.ok .next) t) :
    wpAny (model X.prog X.w) X.A (comprehension (.DictComp kx vx [⟨tg, iter, ifs, 0⟩] sc pos) sc X.env pos' newDict false (eval iter X.env) use) Qf X.xe s := by
  have clo : closureFor sc X.env = pure (cloFrom X.env.cells sc.names []) := closure_ok fun y hy e => (ok.free y hy e).elim (fun k => I.ok.has _ (.inl k)) fun k => I.ok.has _ (.inr k)
  refine wpAny_comprehension_free rfl fold clo ok.kind (fun y hy e => (ok.uniq y hy).trans (congrArg some e)) ?_
  refine thn (src.run pins s σ H _ I h) fun _ s1 w1 => thn w1 fun _ s2 w2 => ?_
  obtain ⟨it, fp, tn, J, G0, rfl, I2, T, at2, fp2, walk⟩ := w2
  refine wpAny_newObj_type (newEnv_comp ?_)
  have I3 := newT_ok I2
  obtain ⟨W, ⟨m0, w0⟩, turn⟩ := walk s2.heap.objs.size (I2.hok.fresh (Nat.le_refl _))
  generalize hD : s2.heap.objs.size = D at I3 w0 turn
  generalize h3 : ({ s2 with heap := s2.heap.push { cls := .type "dict", data := .dict #[] } } : Shared) = s3 at I3
  have e3 : s3.heap = s2.heap.push { cls := .type "dict", data := .dict #[] } := by rw [← h3]
  have small : ∀ b ∈ fp, b < D := fun b hb => by
    obtain ⟨o, e, _⟩ := T.obj _ _ at2 b hb
    rw [← hD]; exact Heap.lt_size e
  have fp3 : ∀ b ∈ fp, FpOk X pins (upd G0 D (.dT [])) b ∧ b < s3.heap.objs.size := fun b hb =>
    ⟨⟨by rw [upd_ne (Nat.ne_of_lt (small b hb))]; exact (fp2 b hb).1, (fp2 b hb).2⟩, by rw [e3, Heap.size_push, hD]; exact Nat.lt_succ_of_lt (small b hb)⟩
  have at3 : tn 0 s3.heap := T.keep _ _ _ at2 fun b _ o e => by rw [e3]; exact Heap.get?_push_of_some _ e
  have I4 := block_start I3 ok nd fp3
  generalize hG : upd G0 D (.dT []) = G3 at I3 I4 w0 fp3
  have p1 := ptg s3 G3 s3.heap.objs.size (cellsFrom (s3.heap.objs.size + 1) sc.names (cloFrom X.env.cells sc.names [])) fp
  have p2 := pif s3 G3 s3.heap.objs.size (cellsFrom (s3.heap.objs.size + 1) sc.names (cloFrom X.env.cells sc.names [])) fp
  have p3 := pk s3 G3 s3.heap.objs.size (cellsFrom (s3.heap.objs.size + 1) sc.names (cloFrom X.env.cells sc.names [])) fp
  have p4 := pv s3 G3 s3.heap.objs.size (cellsFrom (s3.heap.objs.size + 1) sc.names (cloFrom X.env.cells sc.names [])) fp
  have zero : ∀ b ∈ fp, G3 b = none := fun b hb => (fp3 b hb).1.1
  show codeAny _ _ (.compStart (.DictComp kx vx [⟨tg, iter, ifs, 0⟩] sc pos) 0 (.ref it) (.ref D) (compEnvC sc (cellsFrom (s3.heap.objs.size + 1) sc.names (cloFrom X.env.cells sc.names [])) s3.heap.objs.size X.env)) (compPost (model X.prog X.w) X.A X.xe use Qf (.ref D) s3.heap.objs.size) { s3 with heap := pushCells (s3.heap.push { cls := .type "dict", data := .dict #[] }) sc.names }
  generalize hY : compEnvC sc (cellsFrom (s3.heap.objs.size + 1) sc.names (cloFrom X.env.cells sc.names [])) s3.heap.objs.size X.env = ce at I4 p1 p2 p3 p4 ⊢
  have loc : ce.locals = s3.heap.objs.size := by rw [← hY]; rfl
  generalize h4 : ({ s3 with heap := pushCells (s3.heap.push { cls := .type "dict", data := .dict #[] }) sc.names } : Shared) = s4 at I4 ⊢
  have at4 : tn 0 s4.heap := T.keep _ _ _ at3 fun b _ o e => by rw [← h4]; exact pushCells_keeps _ _ _ _ (Heap.get?_push_of_some _ e)
  have fpY : ∀ {τ : St} {G : Hp} {t : Shared}, Inv (X.blk s3 G3 sc ce fp) [] τ G t → (∀ b ∈ fp, G b = none) → ∀ b ∈ fp, FpOk (X.blk s3 G3 sc ce fp) [] G b := fun {τ G t} J0 z b hb =>
    ⟨z b hb, (J0.ok.exf b hb).1, J0.ok.exfs b hb, .inl hb, (J0.ok.exf b hb).2, fun p hp => by cases hp⟩
  have loop : codeAny (model X.prog X.w) X.A (.compLoop (.DictComp kx vx [⟨tg, iter, ifs, 0⟩] sc pos) 0 (.ref it) (.ref D) ce) (compPost (model X.prog X.w) X.A X.xe use Qf (.ref D) s3.heap.objs.size) s4 := by
    refine compLoop_anyD (fun n t => ∃ i G, Inv (X.blk s3 G3 sc ce fp) [] (wipe σ (own.map (·.2))) G t ∧ tn i t.heap ∧ (∀ b ∈ fp, G b = none) ∧ W i n G) ?_ m0 ⟨0, G3, I4, at4, zero, w0⟩
    rintro n s5 ⟨i, G5, I5, at5, z5, w5⟩
    rcases turn i n G5 w5 with ⟨stop, over⟩ | ⟨go, Nx, less, step⟩
    · refine thnF (T.done (X.blk s3 G3 sc ce fp) rfl rfl rfl calm i [] s5 _ G5 (fun _ _ => False) I5 (fpY I5 z5) at5 stop) fun _ s6 ⟨ended, I6⟩ => ?_
      subst ended
      have I7 : Inv X pins σ G5 s6 := I3.call' (ch := fp) I6.os I6.base I6.hok I6.bare fun b hb =>
        have w := (fp3 b hb).1.2
        ⟨w.2.2.1, w.1, w.2.2.2.1, w.2.2.2.2⟩
      have free := I6.free
      obtain ⟨m, names, _⟩ := I6.loc
      rw [show (X.blk s3 G3 sc ce fp).env.locals = s3.heap.objs.size from loc] at free names
      exact fin D _ s6 m G5 I7 over names (I3.fpOk (Nat.le_refl _) free)
    · refine thnF (T.item (X.blk s3 G3 sc ce fp) rfl rfl rfl calm i [] s5 _ G5 (fun _ _ => False) I5 (fpY I5 z5) at5 go) fun _ s6 ⟨u, came, w6⟩ => ?_
      subst came
      refine thnF w6 fun _ s7 ⟨x, G7, I7, rx, yl, at7, z7⟩ => ?_
      have I8 := I7.pinned (fpY I7 z7) (T.obj _ _ at7)
      refine thnF (p1.run _ s7 _ G7 x u _ I8 rx (step x G7 yl)) fun _ s8 ⟨σ8, G8, I9, same, q8⟩ => ?_
      refine thnF (p2.run _ s8 σ8 G8 _ I9 q8) fun b s9 ⟨G9, I10, q9⟩ => ?_
      have next : ∀ {t : Shared} {G : Hp}, Inv (X.blk s3 G3 sc ce fp) ([] ++ pinsAt fp s7.heap) σ8 G t → Nx G → ∃ m, m < n ∧ ∃ i G, Inv (X.blk s3 G3 sc ce fp) [] (wipe σ (own.map (·.2))) G t ∧ tn i t.heap ∧ (∀ b ∈ fp, G b = none) ∧ W i m G := fun {t G} Jt nx => by
        obtain ⟨m', lt, w'⟩ := less G nx
        have pin := fun (c : Addr) (hc : c ∈ fp) (o : Obj) (e : s7.heap.get? c = some o) => Jt.pin (c, o) (List.mem_append_right _ (List.mem_append_right _ (mem_pinsAt hc e)))
        have old : Inv (X.blk s3 G3 sc ce fp) [] (wipe σ (own.map (·.2))) G t := (Jt.unpinned (pins := [])).weak (by rw [← same, wipe_length]) fun j v e => by
          rw [← same] at e
          exact (wipe_some e).1
        refine ⟨m', lt, i + 1, G, old, T.keep _ _ _ at7 fun c hc o e => (pin c hc o e).1, fun c hc => ?_, w'⟩
        obtain ⟨o, e, _⟩ := T.obj _ _ at7 c hc
        exact (pin c hc o e).2.1
      dsimp only at q9
      by_cases hb : b = true
      · rw [if_pos hb] at q9 ⊢
        refine thnF (p3.run _ s9 σ8 G9 _ I10 q9) fun kv s10 ⟨y, G10, I11, ry, q10⟩ => ?_
        refine thnF (p4.run _ s10 σ8 G10 _ I11 q10) fun vv s11 ⟨z, G11, I12, rz, p⟩ => ?_
        exact putT_ok (X := X.blk s3 G3 sc ce fp) hu I12 p ry rz fun G t nx It => next It nx
      · rw [if_neg hb] at q9 ⊢
        exact next I10 q9
  exact codeAny_compStart_dict loop (T.self X.A 0 _ _ _ at4 loop)
/-- as a value -/
theorem pe_dcT (hu : X.A.units < cLine) (calm : X.calm = true) (nd : X.N.Nodup) (src : PI X tg iter wi) (ok : BlkOk X.N X.env.scope sc own) (ptg : InBlk X sc fun Y => PG Y tg g) (pif : InBlk X sc fun Y => PTs Y ifs tt)
    (pk : InBlk X sc fun Y => PE Y kx tk) (pv : InBlk X sc fun Y => PE Y vx tv) (fold : ∀ x, foldedSetIterable iter X.env x = pure x := by intro _; rfl) : PE X (.DictComp kx vx [⟨tg, iter, ifs, 0⟩] sc pos) (tDcT wi g tt tk tv (own.map (·.2))) := by
  refine ⟨fun pins s σ H Q I h => ?_⟩
  rw [arm_eval_DictComp]
  refine dcT_core hu calm nd I src ok ptg pif pk pv fold h fun D C t m G It q names fr => ⟨m, names, fun h' same => ?_⟩
  obtain ⟨f0, f1, _, f3, f4, f5⟩ := fr
  exact ⟨.ref D, G, It.turned (t' := t.toks) (fun b o hb e => (same.2 b hb).trans e) f0 f1 f3 f4 f5, rfl, q⟩
/-- given to a name of the def's own -/
theorem ps_setDcT {i : Nat} {y : Str} {py spos : Pos} (hu : X.A.units < cLine) (calm : X.calm = true) (nd : X.N.Nodup) (hy : X.N[i]? = some y) (hyl : X.env.scope.names.lookup y = some .local)
    (hsw : swapsWith (.DictComp kx vx [⟨tg, iter, ifs, 0⟩] sc pos) (some (.Name y py)) spos.line X.env = pure true) (src : PI X tg iter wi) (ok : BlkOk X.N X.env.scope sc own) (ptg : InBlk X sc fun Y => PG Y tg g) (pif : InBlk X sc fun Y => PTs Y ifs tt)
    (pk : InBlk X sc fun Y => PE Y kx tk) (pv : InBlk X sc fun Y => PE Y vx tv) (fold : ∀ x, foldedSetIterable iter X.env x = pure x := by intro _; rfl) :
    PS X (.Assign [.Name y py] (.DictComp kx vx [⟨tg, iter, ifs, 0⟩] sc pos) spos) (tAsg (tDcT wi g tt tk tv (own.map (·.2))) (gName i)) := by
  refine ⟨fun pins s σ H D I h => ?_⟩
  rw [exec_Assign_Name_used _ _ _ _ hsw]
  refine wpAny_bind (wpAny_standAt (wpAny_bind ?_))
  show wpAny _ X.A (do let _ ← comprehension (.DictComp kx vx [⟨tg, iter, ifs, 0⟩] sc pos) sc X.env (firstIterPos [⟨tg, iter, ifs, 0⟩] pos) newDict false (eval iter X.env) (some (assign (.Name y py) X.env))) _ _ s
  have h' : tDcT wi g tt tk tv (own.map (·.2)) σ H (fun x G => gName i x σ G D.nx) := h
  refine wpAny_bind (thn (dcT_core (Qf := fun _ t => SP X pins D .next t) hu calm nd I src ok ptg pif pk pv fold h' fun L C t m G It q names fr => ?_) fun _ t hq => wpAny_pure (wpAny_pure hq))
  show wpAny _ _ (assign (.Name y py) X.env (.ref L)) _ _ _
  refine wpAny_assign_Name (store_ok2 (v := V.ref L) It nd hy (.inl hyl) rfl (fun s2 I2 ⟨a, sb, ha⟩ => ?_) (.inr hyl))
  obtain ⟨f0, f1, _, f3, f4, f5⟩ := fr
  have apart : C ≠ a := ha.elim (fun z => z ▸ f1) fun z e => f4 y a z e.symm
  exact ⟨m, names.sameBut sb apart, fun h3 same => ⟨_, G, I2.turned (t' := s2.toks) (fun b o hb e => (same.2 b hb).trans e) f0 f1 f3 f4 f5, q⟩⟩
theorem sw_dict {gs : List Comprehension} {py : Pos} {y : Str} {l : Nat} {env : Env} (hk : env.scope.kind = .function) (hy : env.scope.names.lookup y = some .local) (hl : (py.line == pos.line) = true)
    (ha : (sc.names.any fun (n, k) => n == y && (k == .local || k == .cell)) = false) : swapsWith (.DictComp kx vx gs sc pos) (some (.Name y py)) l env = pure true := by
  have k1 : env.kindOf y = some .local := hy
  have k2 : env.blockKind = .function := by unfold Env.blockKind; rw [hk]; rfl
  unfold swapsWith
  simp only [k2, k1, ha, Expr.pos, hl]
  rfl
end
end L2

set_option maxRecDepth 100000
set_option maxHeartbeats 4000000
/-! dict comprehensions, steps over dicts -/
namespace Cs
open PySem PySem.Spec PyProof.Rows L2
section
variable {tp : Option (Addr × Addr)} {K : PySem.W.Frag} {H H' H'' H0 H1 H2 He : Hp} {Hq : Hp} {σ : L2.St} {ρ : Ro}
def putC (acc : List (List Key × PyData)) : C → C → Option (List (List Key × PyData))
  | .val kd, .val vd => (match keyT kd with
    | some k => if lenOk (acc.length + 1) = true then some (putD acc k vd) else none
    | none => none)
  | _, _ => none
def dcL (a : C → Ro → M Ro) (c : Ro → M Bool) (gk gv : Ro → M C) : List PyData → Ro → List (List Key × PyData) → M C
  | [], _, acc => .ret (.own (.dT acc))
  | d :: ds, ρ, acc => (a (.val d) ρ).bind fun ρ1 => (c ρ1).bind fun b => if b = true then (gk ρ1).bind (fun ck => (gv ρ1).bind fun cv => match putC acc ck cv with
    | some acc' => dcL a c gk gv ds ρ acc'
    | none => .fail) else dcL a c gk gv ds ρ acc
def gDcT (its : Ro → M (List PyData)) (a : C → Ro → M Ro) (c : Ro → M Bool) (gk gv : Ro → M C) (vs : List Nat) (ρ : Ro) : M C := (its ρ).bind fun ds => dcL a c gk gv ds (wipeR ρ vs) []
theorem re_dcT {wi : TI} {g : TG} {tt : TT} {tk tv : TE} {its : Ro → M (List PyData)} {a : C → Ro → M Ro} {c : Ro → M Bool} {gk gv : Ro → M C} {sl vs : List Nat} {s : Bool} (hi : RI K s wi its) (hg : RG K g a sl) (hc : RT K tt c) (hk : RE K tk gk) (hv : RE K tv gv)
    (hs : ∀ j ∈ sl, j ∈ vs) : RE K (tDcT wi g tt tk tv vs) (gDcT its a c gk gv vs) := by
  intro tp He Hq ρ σ H Q r h
  refine hi tp He Hq ρ σ H _ r (wp0_mono (fun ds hd => ?_) (wp0_bind.mp h))
  intro J H1 pa g1 t1 f w np _ D hD
  have r1 := r.go g1 t1
  have tD : TNe tp D := t1.tne hD
  have zl : sizeLine = 16777216 := by decide
  have upG : ∀ {H2 : Hp} {o : HO}, GrT tp H1 H2 → GrT tp H1 (upd H2 D o) := fun {H2 o} g b u e n => by
    have hne : b ≠ D := fun z => by subst z; rw [hD] at e; cases e
    rw [upd_ne hne]
    exact g b u e n
  have upT : ∀ {H2 : Hp} {o : HO}, TOk tp H2 → TOk tp (upd H2 D o) := fun {H2 o} t a l e => (t a l e).upd (tD a l e).1 (tD a l e).2
  refine ⟨fun i m H' => m = ds.length - i ∧ i ≤ ds.length ∧ ∃ acc vsa, H' D = some (.dT vsa) ∧ KvR K H' vsa acc ∧ GrT tp H1 H' ∧ TOk tp H' ∧ wp0 (dcL a c gk gv (ds.drop i) (wipeR ρ vs) acc) (Post tp K H Q),
    ⟨ds.length, rfl, Nat.zero_le _, [], [], upd_same, ⟨rfl, .nil⟩, upG .refl, upT t1, hd⟩, ?_⟩
  rintro i m H' ⟨rfl, hi, acc, vsa, eD, hda, g', t', h'⟩
  obtain ⟨st, go⟩ := w H' (g'.im t1) (fun p hp o e => g' p o e (np p hp))
  by_cases hlt : i < ds.length
  · obtain ⟨d, hd'⟩ : ∃ d, ds[i]? = some d := ⟨ds[i], List.getElem?_eq_getElem hlt⟩
    obtain ⟨go1, yl⟩ := go i d hd'
    have ed : ds.drop i = d :: ds.drop (i + 1) := by
      rw [List.drop_eq_getElem_cons hlt]
      have : ds[i] = d := by rw [List.getElem?_eq_getElem hlt] at hd'; exact Option.some.inj hd'
      rw [this]
    rw [ed] at h'
    refine .inr ⟨go1, fun H2 => ∃ acc vsa, H2 D = some (.dT vsa) ∧ KvR K H2 vsa acc ∧ GrT tp H1 H2 ∧ TOk tp H2 ∧ wp0 (dcL a c gk gv (ds.drop (i + 1)) (wipeR ρ vs) acc) (Post tp K H Q),
      fun H2 ⟨acc, vsa, q⟩ => ⟨ds.length - (i + 1), by omega, rfl, hlt, acc, vsa, q⟩, fun x H2 y => ?_⟩
    obtain ⟨sm, dp⟩ := yl x H2 y
    have rw' := ((r1.go g' t').wipe vs)
    refine hg tp He Hq _ _ H' H2 x (.val d) _ rw' (.of sm) (t'.same sm) ⟨dp, rfl⟩ (wp0_mono (fun ρ1 h1 => ?_) (wp0_bind.mp (show wp0 ((a (.val d) (wipeR ρ vs)).bind _) _ from h')))
    intro σ2 off r2
    refine ⟨wipe_off off hs, ?_⟩
    refine hc tp He Hq ρ1 σ2 H2 _ r2 (wp0_mono (fun b hb => ?_) (wp0_bind.mp h1))
    intro H3 g3 t3
    have g13 : GrT tp H1 H3 := (g'.trans (.of sm)).trans g3
    have eD3 : H3 D = some (.dT vsa) := g3 D _ (sm D _ eD) tD.ne
    have im3 : Im H' H3 := (Im.same sm).trans (g3.im (t'.same sm))
    cases b with
    | true =>
      rw [if_pos rfl] at hb ⊢
      refine hk tp He Hq ρ1 σ2 H3 _ (r2.go g3 t3) (wp0_mono (fun ck hck => ?_) (wp0_bind.mp hb))
      intro y H4 g4 t4 ry
      refine hv tp He Hq ρ1 σ2 H4 _ ((r2.go g3 t3).go g4 t4) (wp0_mono (fun cv hcv => ?_) (wp0_bind.mp hck))
      intro v H5 g5 t5 rv
      have g35 := g4.trans g5
      have eD5 : H5 D = some (.dT vsa) := g35 D _ eD3 tD.ne
      have im5 : Im H' H5 := im3.trans (g35.im t3)
      have ry5 := ry.gr g5 t4
      cases ep : putC acc ck cv with
      | none => rw [ep] at hcv; exact hcv.elim
      | some acc' =>
        rw [ep] at hcv
        unfold putC at ep
        split at ep
        · rename_i kd vd
          split at ep
          · rename_i k ek
            split at ep
            · rename_i lo
              cases ep
              have lo' := lenOk_le lo
              obtain ⟨q, rfl, hq⟩ := keyT_vl ry5.1 ek
              have hda5 := hda.imlf im5 acc _ trivial
              exact ⟨vsa, k, q, rfl, hq, eD5, by rw [hda5.len]; omega, putD acc k vd, putK vsa k v, upd_same, (hda5.put rv.1).imlf (Im.mut eD5 trivial) _ _ trivial, upG (g13.trans g35), upT t5, hcv⟩
            · cases ep
          · cases ep
        · cases ep
    | false =>
      rw [if_neg Bool.false_ne_true] at hb ⊢
      exact ⟨acc, vsa, eD3, hda.imlf im3 acc _ trivial, g13, t3, hb⟩
  · have e1 : i = ds.length := by omega
    subst e1
    rw [List.drop_length] at h'
    exact .inl ⟨st, (show Post tp K H Q (.own (.dT acc)) from h') _ H' (g1.trans g') t' ⟨D, rfl, g1.free t1 hD, tD, vsa, eD, hda, trivial⟩⟩
theorem u1 {k : Nat} {A : Around} (r : Room k A) : A.units + 1 < cLine := by have := r.un; omega
theorem u0 {k : Nat} {A : Around} (r : Room k A) : A.units < cLine := by have := r.un; omega
/-! steps -/
theorem gDcT_eq {its : Ro → M (List PyData)} {a : C → Ro → M Ro} {c : Ro → M Bool} {gk gv : Ro → M C} {vs : List Nat} : gDcT its a c gk gv vs ρ = (its ρ).bind fun ds => dcL a c gk gv ds (wipeR ρ vs) [] := (rfl)
theorem gLc2_eq {its its1 : Ro → M (List PyData)} {a a1 : C → Ro → M Ro} {c c1 : Ro → M Bool} {e : Ro → M C} {vs vs1 : List Nat} : gLc2 its a c its1 a1 c1 e vs vs1 ρ = (its ρ).bind fun ds => lcL2 a c its1 a1 c1 e vs1 ds (wipeR ρ vs) [] := (rfl)
theorem gLock_eq {i : Nat} {g : Ro → M C} : gLock i g ρ = lockAt i g ρ ρ[i]? := (rfl)
theorem lockAt_o {i : Nat} {g : Ro → M C} {ds : List (List Key × PyData)} : lockAt i g ρ (some (some (.own (.dT ds)))) = (g (ρ.set i (some (.bor (.lT ds))))).bind lockC := (rfl)
theorem lockC_v {d : PyData} : lockC (.val d) = .ret (.val d) := (rfl)
theorem lockC_o {o : PO} : lockC (.own o) = .ret (.own o) := (rfl)
theorem gKeys_eq {i : Nat} : gKeys i ρ = keysAt ρ[i]? := (rfl)
theorem keysAt_b {ds : List (List Key × PyData)} : keysAt (some (some (.bor (.lT ds)))) = .ret (ds.map fun kv => keyD kv.1) := (rfl)
theorem mDPut_eq {i : Nat} {gv gk : Ro → M C} : mDPut i gv gk ρ = dputAt i gv gk ρ ρ[i]? := (rfl)
theorem dputAt_T {i : Nat} {gv gk : Ro → M C} {ds : List (List Key × PyData)} : dputAt i gv gk ρ (some (some (.own (.dT ds)))) = (gv ρ).bind fun cv => (gk ρ).bind fun ck => kPutT i ρ ds cv ck := (rfl)
theorem dputAt_K {i : Nat} {gv gk : Ro → M C} {ds : List (Key × PyData)} : dputAt i gv gk ρ (some (some (.own (.dK ds)))) = (gv ρ).bind fun cv => (gk ρ).bind fun ck => kPutK i ρ ds cv ck := (rfl)
theorem gNewT_eq : gNewT ρ = .ret (.own (.dT [])) := (rfl)
theorem gNewK_eq : gNewK ρ = .ret (.own (.dK [])) := (rfl)
theorem gDGet1_eq {gd gy : Ro → M C} : gDGet1 gd gy ρ = (gd ρ).bind fun c => if c.isDict = true then (gy ρ).bind (oDGet1 c) else .fail := (rfl)
theorem asgR_dT {i : Nat} {ds : List (List Key × PyData)} {x : Option C} : aAt ρ i (.own (.dT ds)) (some x) = .ret (ρ.set i (some (.own (.dT ds)))) := (rfl)
end
end Cs

set_option maxRecDepth 100000
set_option maxHeartbeats 1000000
/-! more steps over lists as data -/
namespace Cs
open PySem PySem.Spec PyProof.Rows L2
section
variable {K : PySem.W.Frag} {ρ : Ro}
theorem kForV_l {i : Nat} {a : C → Ro → M Ro} {b : Ro → M Res} {ds : List PyData} : kForV ρ i a b (some (some (.val (.list ds)))) = forL a b ds ρ := (rfl)
theorem truD_l {ds : List PyData} : truD (.list ds) = .ret (!ds.isEmpty) := (rfl)
theorem kItV_l {s : Bool} {ds : List PyData} : (if s = true then itVs (.val (.list ds)) else itV (.val (.list ds))) = .ret ds := by cases s <;> rfl
end
end Cs

set_option maxRecDepth 100000
set_option maxHeartbeats 1000000
/-! xs[k] = e, step by step -/
namespace Cs
open PySem PySem.Spec PyProof.Rows L2
section
variable {K : PySem.W.Frag} {ρ : Ro}
def kSet (i : Nat) (ρ : Ro) (ds : List PyData) : C → C → M Res
  | .val d, .val (.int j) => (match ixN ds.length j with
    | some n => .ret (.nx (setOwn i (ds.set n d) ρ))
    | none => .fail)
  | _, _ => .fail
def setAt (i : Nat) (g gi : Ro → M C) (ρ : Ro) : Option (Option C) → M Res
  | some (some (.own (.lst ds))) => (g ρ).bind fun c => (gi ρ).bind (kSet i ρ ds c)
  | _ => .fail
theorem mSetAt_eq {i : Nat} {g gi : Ro → M C} : mSetAt i g gi ρ = setAt i g gi ρ ρ[i]? := by
  unfold mSetAt
  generalize ρ[i]? = o
  match o with
  | some (some (.own (.lst ds))) =>
    show M.bind _ _ = M.bind _ _
    congr 1
  | some (some (.own (.dT _))) => rfl
  | some (some (.own (.dK _))) => rfl
  | some (some (.own (.lT _))) => rfl
  | some (some (.val _)) => rfl
  | some (some (.bor _)) => rfl
  | some (some .tape) => rfl
  | some none => rfl
  | none => rfl
theorem setAt_o {i : Nat} {g gi : Ro → M C} {ds : List PyData} : setAt i g gi ρ (some (some (.own (.lst ds)))) = (g ρ).bind fun c => (gi ρ).bind (kSet i ρ ds c) := (rfl)
theorem kSet_v {i : Nat} {ds : List PyData} {d : PyData} {j : Nat} (h : j < ds.length) : kSet i ρ ds (.val d) (.val (.int (j : Int))) = .ret (.nx (ρ.set i (some (.own (.lst (ds.set j d)))))) := by
  show (match ixN ds.length (j : Int) with | some n => (M.ret (.nx (setOwn i (ds.set n d) ρ)) : M Res) | none => .fail) = _
  have : ixN ds.length (j : Int) = some j := by
    unfold ixN
    simp
    omega
  rw [this]
  rfl
end
end Cs

set_option maxRecDepth 100000
set_option maxHeartbeats 4000000
/-! dict(zip(a tuple, a tuple)) -/
namespace Cs
open PySem PySem.W PyProof.Rows PyProof.V PySem.Spec PySem.Calls L2
section
variable {prog : Program} {w : World} {A : Around} {E : Value → Shared → Prop} {s : Shared}
/-- the next pair of a zip over two tuples whose last pair is still kept by somebody -/
theorem zt_item {z TI TO T i1 i2 l1 l2 : Addr} {f : Bool} {oT : Obj} {k1 k2 : Nat} {xs ys : Array Value} {x y : Value} {Q : Option Value → Shared → Prop} (D : ZipApart z TI TO i1 i2 l1 l2)
    (Z : IsZipHeld s.heap z TI TO T f) (kept : s.heap.get? T = some oT) (ins : IsPair s.heap TI (.ref i1) (.ref i2)) (I1 : s.heap.IsTupleIter i1 l1 k1) (I2 : s.heap.IsTupleIter i2 l2 k2)
    (L1 : s.heap.IsTuple l1 xs) (L2' : s.heap.IsTuple l2 ys) (ex : xs[k1]? = some x) (ey : ys[k2]? = some y)
    (q : ∀ g, IsZipHeld g z TI TO T true → g.IsTupleIter i1 l1 (k1 + 1) → g.IsTupleIter i2 l2 (k2 + 1) → IsPair g s.heap.objs.size x y → (∀ c o, c ≠ z → c ≠ i1 → c ≠ i2 → s.heap.get? c = some o → g.get? c = some o) → Q (some (.ref s.heap.objs.size)) { s with heap := g }) :
    wpAny (model prog w) A (pyNext (.ref z)) Q E s := by
  have ty : s.TypeIs (.ref z) "zip" := ⟨_, Z, rfl⟩
  unfold pyNext
  refine wpAny_bind (wpAny_attempt (wpAny_callSpecial?_slot (name := Str.ofString "__next__") ty F.slot_zip_next (wpAny_call_entry F.slot_zip_next ty F.entry_zip_next ?_ (F.args_zip_next_1 _))))
  show wpAny _ _ (field (.ref z) 2 >>= _) _ _ _; refine wpAny_bind (wpAny_field Z rfl (x := .bool false) rfl ?_)
  show wpAny _ _ (field (.ref z) 3 >>= _) _ _ _; refine wpAny_bind (wpAny_field Z rfl (x := .ref TI) rfl ?_)
  refine wpAny_bind (wpAny_seqItems ins rfl ?_); show wpAny _ _ (Builtin.SmallTypes.ownedTupleIsFree (.ref z) >>= _) _ _ _
  refine wpAny_bind (wpAny_tupleHeld_zip Z kept fun g1 Z1 b1 => ?_); simp only [Bool.false_eq_true, if_false]; refine wpAny_bind ?_
  rw [← Array.forIn_toList]; simp only [List.forIn_cons, List.forIn_nil]
  refine wpAny_bind (wpAny_bind (wpAny_holding ?_)); show wpAny _ _ (Builtin.SmallTypes.nextOf (.ref i1) >>= _) _ _ _
  refine wpAny_bind (RZ.nextOf_tuple_item (s := { s with heap := g1 }) (I1.extBut b1.extBut D.i1z) (L1.extBut b1.extBut D.l1z) ex fun g2 J1 b2 => wpAny_pure ?_); refine wpAny_pure ?_
  refine wpAny_bind (wpAny_bind (wpAny_holding ?_)); show wpAny _ _ (Builtin.SmallTypes.nextOf (.ref i2) >>= _) _ _ _
  refine wpAny_bind (RZ.nextOf_tuple_item (s := { s with heap := g2 }) ((I2.extBut b1.extBut D.i2z).extBut b2.extBut D.i12.symm) ((L2'.extBut b1.extBut D.l2z).extBut b2.extBut D.l2i1) ey fun g3 J2 b3 => wpAny_pure ?_); refine wpAny_pure (wpAny_pure ?_)
  show wpAny _ _ (newTuple [x, y] >>= _) _ _ _; refine wpAny_bind (wpAny_newTuple ?_); refine wpAny_pure ⟨_, rfl, wpAny_pure ?_⟩
  have e3 : g3.objs.size = s.heap.objs.size := by rw [b3.1, b2.1, b1.1]
  have up : ∀ c o, c ≠ z → c ≠ i1 → c ≠ i2 → s.heap.get? c = some o → g3.get? c = some o := fun c o c1 c2 c3 e => b3.extBut _ _ c3 (b2.extBut _ _ c2 (b1.extBut _ _ c1 e))
  have Z3 : IsZipHeld g3 z TI TO T true := b3.extBut _ _ D.i2z.symm (b2.extBut _ _ D.i1z.symm Z1)
  have J1' : g3.IsTupleIter i1 l1 (k1 + 1) := J1.extBut b3.extBut D.i12
  show Q (some (.ref g3.objs.size)) _
  rw [e3]
  refine q _ (Heap.get?_push_of_some _ Z3) (J1'.at fun o e => Heap.get?_push_of_some _ e) (J2.at fun o e => Heap.get?_push_of_some _ e) ?_ fun c o c1 c2 c3 e => Heap.get?_push_of_some _ (up c o c1 c2 c3 e)
  show (g3.push _).get? _ = _
  rw [← e3]; exact Heap.get?_push_size _ rfl
/-- and its end -/
theorem zt_end {z TI TO T i1 i2 l1 l2 : Addr} {f : Bool} {oT : Obj} {k1 k2 : Nat} {xs ys : Array Value} {Q : Option Value → Shared → Prop} (hh : A.handled = none) (D : ZipApart z TI TO i1 i2 l1 l2)
    (Z : IsZipHeld s.heap z TI TO T f) (kept : s.heap.get? T = some oT) (ins : IsPair s.heap TI (.ref i1) (.ref i2)) (I1 : s.heap.IsTupleIter i1 l1 k1) (I2 : s.heap.IsTupleIter i2 l2 k2)
    (L1 : s.heap.IsTuple l1 xs) (L2' : s.heap.IsTuple l2 ys) (fin : xs[k1]? = none ∨ ys[k2]? = none)
    (q : ∀ g, (∀ c o, c ≠ z → c ≠ i1 → c ≠ i2 → s.heap.get? c = some o → g.get? c = some o) → Q none { s with heap := g }) : wpAny (model prog w) A (pyNext (.ref z)) Q E s := by
  have ty : s.TypeIs (.ref z) "zip" := ⟨_, Z, rfl⟩
  unfold pyNext
  refine wpAny_bind (wpAny_attempt (wpAny_callSpecial?_slot (name := Str.ofString "__next__") ty F.slot_zip_next (wpAny_call_entry F.slot_zip_next ty F.entry_zip_next ?_ (F.args_zip_next_1 _))))
  show wpAny _ _ (field (.ref z) 2 >>= _) _ _ _; refine wpAny_bind (wpAny_field Z rfl (x := .bool false) rfl ?_)
  show wpAny _ _ (field (.ref z) 3 >>= _) _ _ _; refine wpAny_bind (wpAny_field Z rfl (x := .ref TI) rfl ?_)
  refine wpAny_bind (wpAny_seqItems ins rfl ?_); show wpAny _ _ (Builtin.SmallTypes.ownedTupleIsFree (.ref z) >>= _) _ _ _
  refine wpAny_bind (wpAny_tupleHeld_zip Z kept fun g1 Z1 b1 => ?_); simp only [Bool.false_eq_true, if_false]; refine wpAny_bind ?_
  rw [← Array.forIn_toList]; simp only [List.forIn_cons, List.forIn_nil]
  refine wpAny_bind (wpAny_bind (wpAny_holding ?_)); show wpAny _ _ (Builtin.SmallTypes.nextOf (.ref i1) >>= _) _ _ _
  cases ex : xs[k1]? with
  | none =>
    refine wpAny_bind (RZ.nextOf_tuple_end (s := { s with heap := g1 }) hh (I1.extBut b1.extBut D.i1z) (L1.extBut b1.extBut D.l1z) ex fun g2 e b2 he => ?_)
    obtain ⟨u, hu, cu⟩ := he; refine wpAny_bind (wpAny_isInstance (T := "StopIteration") (b := true) ⟨u, hu, cu⟩ isSubtype_stop ?_)
    exact wpAny_pure (q _ fun c o c1 c2 _ h => b2 _ _ c2 (b1.extBut _ _ c1 h))
  | some x =>
    have ey : ys[k2]? = none := by rcases fin with h | h; (rw [ex] at h; cases h); exact h
    refine wpAny_bind (RZ.nextOf_tuple_item (s := { s with heap := g1 }) (I1.extBut b1.extBut D.i1z) (L1.extBut b1.extBut D.l1z) ex fun g2 J1 b2 => wpAny_pure ?_); refine wpAny_pure ?_
    refine wpAny_bind (wpAny_bind (wpAny_holding ?_)); show wpAny _ _ (Builtin.SmallTypes.nextOf (.ref i2) >>= _) _ _ _
    refine wpAny_bind (RZ.nextOf_tuple_end (s := { s with heap := g2 }) hh ((I2.extBut b1.extBut D.i2z).extBut b2.extBut D.i12.symm) ((L2'.extBut b1.extBut D.l2z).extBut b2.extBut D.l2i1) ey fun g3 e b3 he => ?_)
    obtain ⟨u, hu, cu⟩ := he; refine wpAny_bind (wpAny_isInstance (T := "StopIteration") (b := true) ⟨u, hu, cu⟩ isSubtype_stop ?_)
    exact wpAny_pure (q _ fun c o c1 c2 c3 h => b3 _ _ c3 (b2.extBut _ _ c2 (b1.extBut _ _ c1 h)))
end
section
variable {prog : Program} {w : World}
def ZtOk (z TI TO i1 i2 l1 l2 : Addr) (xs ys : Array Value) (h : Heap) : Prop := IsZip h z TI TO .none ∧ IsPair h TI (.ref i1) (.ref i2) ∧ (∃ a b, IsPair h TO a b) ∧ h.IsTupleIter i1 l1 0 ∧ h.IsTupleIter i2 l2 0 ∧ h.IsTuple l1 xs ∧ h.IsTuple l2 ys
def ZtSt (z TI TO i1 i2 l1 l2 d : Addr) (xs ys : Array Value) (i : Nat) (h : Heap) : Prop := IsPair h TI (.ref i1) (.ref i2) ∧ h.IsTupleIter i1 l1 i ∧ h.IsTupleIter i2 l2 i ∧ h.IsTuple l1 xs ∧ h.IsTuple l2 ys ∧
  ((IsZip h z TI TO .none ∧ ∃ a b, IsPair h TO a b) ∨ ∃ T f oT, IsZipHeld h z TI TO T f ∧ h.get? T = some oT ∧ T ≠ z ∧ T ≠ i1 ∧ T ≠ i2 ∧ T ≠ d)
theorem zt_arg (z TI TO i1 i2 l1 l2 : Addr) (D : ZipApart z TI TO i1 i2 l1 l2) (xs ys : Array Value) :
    PairArg prog w "zip" z [z, TI, TO, i1, i2, l1, l2] [z, TO, i1, i2] (min xs.size ys.size) (fun i k v => xs[i]? = some k ∧ ys[i]? = some v) (ZtOk z TI TO i1 i2 l1 l2 xs ys) := by
  constructor
  case type => exact fun s ok => ⟨_, ok.1, rfl⟩
  case notDict => decide
  case keep => exact fun h h' ⟨a1, a2, ⟨a, b, a3⟩, a4, a5, a6, a7⟩ k => ⟨k _ _ a1, k _ _ a2, ⟨a, b, k _ _ a3⟩, a4.at fun o e => k _ o e, a5.at fun o e => k _ o e, a6.at fun o e => k _ o e, a7.at fun o e => k _ o e⟩
  case there =>
    rintro h ⟨a1, a2, ⟨a, b, a3⟩, ⟨_, a4, _⟩, ⟨_, a5, _⟩, ⟨_, a6, _⟩, ⟨_, a7, _⟩⟩ c hc
    simp only [List.mem_cons, List.not_mem_nil, or_false] at hc
    rcases hc with rfl | rfl | rfl | rfl | rfl | rfl | rfl
    all_goals first | exact ⟨_, a1⟩ | exact ⟨_, a2⟩ | exact ⟨_, a3⟩ | exact ⟨_, a4⟩ | exact ⟨_, a5⟩ | exact ⟨_, a6⟩ | exact ⟨_, a7⟩
  case sub => intro b hb; simp only [List.mem_cons, List.not_mem_nil, or_false] at hb ⊢; rcases hb with rfl | rfl | rfl | rfl <;> simp
  case noKeys => exact fun A s Q E hA ok h => getAttrOr_miss_zip ok.1 rfl rfl rfl zip_no_keys (by decide +kernel) hA h
  case iter =>
    rintro A s d Q E hA ⟨a1, a2, ⟨a, b, a3⟩, a4, a5, a6, a7⟩ hd hdf h
    simp only [List.mem_cons, List.not_mem_nil, or_false, not_or] at hdf
    obtain ⟨d1, d2, d3, d4, d5, d6, d7⟩ := hdf
    refine wpAny_pyIter_zip a1 (h z [z, TO, i1, i2] (ZtSt z TI TO i1 i2 l1 l2 d xs ys) s.heap s.toks ?_ ⟨a2, a4, a5, a6, a7, .inl ⟨a1, a, b, a3⟩⟩ (fun _ _ e => e) fun b hb => .inl hb)
    constructor
    case off => intro m; simp only [List.mem_cons, List.not_mem_nil, or_false] at m; rcases m with e | e | e | e; (exact d1 e); (exact d3 e); (exact d4 e); exact d5 e
    case frame =>
      rintro i g1 g2 ⟨b2, b4, b5, b6, b7, bz⟩ k
      refine ⟨k _ _ (Ne.symm d2) b2, b4.at fun o e => k _ o (Ne.symm d4) e, b5.at fun o e => k _ o (Ne.symm d5) e, b6.at fun o e => k _ o (Ne.symm d6) e, b7.at fun o e => k _ o (Ne.symm d7) e, ?_⟩
      rcases bz with ⟨z1, a, b, z2⟩ | ⟨T, f, oT, z1, z2, r1, r2, r3, r4⟩
      · exact .inl ⟨k _ _ (Ne.symm d1) z1, a, b, k _ _ (Ne.symm d3) z2⟩
      · exact .inr ⟨T, f, oT, k _ _ (Ne.symm d1) z1, k _ _ r4 z2, r1, r2, r3, r4⟩
    case item =>
      rintro i s1 Q1 E1 hi ⟨b2, b4, b5, b6, b7, bz⟩ hds q
      have ex := Array.getElem?_eq_getElem (Nat.lt_of_lt_of_le hi (Nat.min_le_left ..))
      have ey := Array.getElem?_eq_getElem (Nat.lt_of_lt_of_le hi (Nat.min_le_right ..))
      have lt : ∀ {c o}, s1.heap.get? c = some o → s1.heap.objs.size ≠ c := fun e => Nat.ne_of_gt (Heap.lt_size e)
      have n1 : s1.heap.objs.size ≠ i1 := let ⟨_, e, _⟩ := b4; lt e
      have n2 : s1.heap.objs.size ≠ i2 := let ⟨_, e, _⟩ := b5; lt e
      rcases bz with ⟨z1, a, b, z2⟩ | ⟨T, f, oT, z1, z2, r1, r2, r3, r4⟩
      · refine RZ.pyNext_zipT_item D z1 b2 z2 b4 b5 b6 b7 ex ey fun g c1 c2 c3 c4 c5 c6 k => ?_
        exact q s1.heap.objs.size _ _ g s1.toks ⟨ex, ey⟩ (.inl ⟨_, c5, rfl, _, rfl⟩) ⟨k _ _ D.TIz D.TITO D.TIi1 D.TIi2 b2, c3, c4, b6.at fun o e => k _ o D.l1z D.l1TO D.l1i1 D.l1i2 e, b7.at fun o e => k _ o D.l2z D.l2TO D.l2i1 D.l2i2 e, .inr ⟨s1.heap.objs.size, false, _, c1, c5, lt z1, n1, n2, Nat.ne_of_gt hds⟩⟩
          fun c o hc e => k c o (fun x => hc (by simp [x])) (fun x => hc (by simp [x])) (fun x => hc (by simp [x])) (fun x => hc (by simp [x])) e
      · refine zt_item D z1 z2 b2 b4 b5 b6 b7 ex ey fun g c1 c3 c4 c5 k => ?_
        exact q s1.heap.objs.size _ _ g s1.toks ⟨ex, ey⟩ (.inl ⟨_, c5, rfl, _, rfl⟩) ⟨k _ _ D.TIz D.TIi1 D.TIi2 b2, c3, c4, b6.at fun o e => k _ o D.l1z D.l1i1 D.l1i2 e, b7.at fun o e => k _ o D.l2z D.l2i1 D.l2i2 e, .inr ⟨T, true, oT, c1, k _ _ r1 r2 r3 z2, r1, r2, r3, r4⟩⟩
          fun c o hc e => k c o (fun x => hc (by simp [x])) (fun x => hc (by simp [x])) (fun x => hc (by simp [x])) e
    case done =>
      rintro s1 Q1 E1 ⟨b2, b4, b5, b6, b7, bz⟩ q
      have fin : xs[min xs.size ys.size]? = none ∨ ys[min xs.size ys.size]? = none := by
        rcases Nat.le_total xs.size ys.size with e | e
        · exact .inl (by rw [Nat.min_eq_left e]; exact Array.getElem?_eq_none (Nat.le_refl _))
        · exact .inr (by rw [Nat.min_eq_right e]; exact Array.getElem?_eq_none (Nat.le_refl _))
      rcases bz with ⟨z1, a, b, z2⟩ | ⟨T, f, oT, z1, z2, r1, r2, r3, r4⟩
      · exact RZ.pyNext_zipT_end hA D z1 b2 z2 b4 b5 b6 b7 fin fun g k => q g s1.toks fun c o hc e => k c o (fun x => hc (by simp [x])) (fun x => hc (by simp [x])) (fun x => hc (by simp [x])) (fun x => hc (by simp [x])) e
      · exact zt_end hA D z1 z2 b2 b4 b5 b6 b7 fin fun g k => q g s1.toks fun c o hc e => k c o (fun x => hc (by simp [x])) (fun x => hc (by simp [x])) (fun x => hc (by simp [x])) e
end
theorem key_is {k : Key} {u : Value} (h : RelV (kV k) u) : keyIs k u = true := by
  cases k with
  | inl i => obtain ⟨t, rfl⟩ := h; exact keyIs_int i t
  | inr x => obtain ⟨t, rfl⟩ := h; exact keyIs_str x t
theorem kv_zip : ∀ {ks : List Key} {ys : List V} {us : List Value}, Vals ys us → KV (ks.zip ys) (ks.zip us)
  | [], _, _, _ => .nil
  | _ :: _, [], _, h => by cases h; exact .nil
  | k :: ks, y :: ys, _, h => by
    cases h with
    | cons r rr => exact .cons ⟨rfl, r⟩ (kv_zip rr)
def tDZip (K : PySem.W.Frag) (ta : TA) : TE := fun σ H Q => ta σ H fun vs H1 => ∃ (a b : Addr) (ks : List Key) (ys : List V), vs = [.ref a, .ref b] ∧ SqT K H1 a (ks.map kV) ∧ SqT K H1 b ys ∧ ks.length = ys.length ∧ ks.Nodup ∧ ks.length ≤ 100000 ∧
  ∀ p, H1 p = none → Q (.ref p) (upd H1 p (.dK (ks.zip ys)))
theorem pe_dzip {X : Cx} {e e2 : Expr} {ta : TA} {p p2 q pos : Pos} (hc : X.calm = true) (hg : Gl X "dict") (hm : X.mg "dict" = none) (hg2 : Gl X "zip") (hm2 : X.mg "zip" = none) (ha : PA X [e, e2] ta)
    (hs : starEach [e, e2] X.env = (false, eval e X.env) :: starEach [e2] X.env := by rfl) (hpl : (backTo q (starEach [e2] X.env)).any (·.1) = false := by rfl)
    (na : starEach [.Call (.Name "zip" p2) [e, e2] [] q] X.env = (false, eval (.Call (.Name "zip" p2) [e, e2] [] q) X.env) :: starEach [] X.env := by rfl) : PE X (.Call (.Name "dict" p) [.Call (.Name "zip" p2) [e, e2] [] q] [] pos) (tDZip X.K ta) := by
  refine ⟨fun pins s σ H Q I h => ?_⟩
  refine Call_ (ld_blt I hg hm boot_dict ?_)
  refine callWith_type1 (args_cons (Call_ (ld_blt I hg2 hm2 boot_zip (callWith_type1 (thn (ha.run q pins s σ H _ I h) fun us s1 ⟨vs, H1, I1, r1, q1⟩ => ?_) hs hpl))) na) rfl rfl
  obtain ⟨a, b, ks, ys, rfl, ta, tb, hl, nd, sm, q1⟩ := q1
  cases r1 with
  | cons r rr =>
    cases rr with
    | cons r' rr =>
      cases rr; cases r; cases r'
      obtain ⟨its, ra, pa, _⟩ := I1.tuple ta
      obtain ⟨its2, rb, pb, _⟩ := I1.tuple tb
      have la : its.length = ks.length := by rw [← ra.length, List.length_map]
      have lb : its2.length = ks.length := by rw [← rb.length, hl]
      obtain ⟨o1, ho1, _⟩ := id pa
      obtain ⟨o2, ho2, _⟩ := id pb
      refine RZ.call_zipT (show s1.heap.IsTuple a its.toArray from pa) (show s1.heap.IsTuple b its2.toArray from pb) fun h' hz hTI hTO h1 h2 hsz hk => args_nil ?_
      have D := PySem.W.ktu_apart s1.heap.objs.size a b (Heap.lt_size ho1) (Heap.lt_size ho2)
      have ok : ZtOk (s1.heap.objs.size + 4) (s1.heap.objs.size + 2) (s1.heap.objs.size + 3) s1.heap.objs.size (s1.heap.objs.size + 1) a b its.toArray its2.toArray h' :=
        ⟨hz, hTI, ⟨_, _, hTO⟩, h1, h2, Heap.IsTuple.at (show s1.heap.IsTuple a its.toArray from pa) fun o e => hk _ o e, Heap.IsTuple.at (show s1.heap.IsTuple b its2.toArray from pb) fun o e => hk _ o e⟩
      have size : min its.toArray.size its2.toArray.size = ks.length := by rw [List.size_toArray, List.size_toArray, la, lb, Nat.min_self]
      have have_ : PairsHave (mixKind X.prog X.w) (min its.toArray.size its2.toArray.size) (fun i k v => its.toArray[i]? = some k ∧ its2.toArray[i]? = some v) (ks.zip its2) := by
        refine ⟨by rw [size, List.length_zip, lb, Nat.min_self], fun i key v ⟨e1, e2⟩ => ?_⟩
        rw [List.getElem?_toArray] at e1 e2
        have hi : i < ks.length := by rw [← la]; exact (List.getElem?_eq_some_iff.mp e1).1
        have ek : (ks.map kV)[i]? = some (kV ks[i]) := by rw [List.getElem?_map, List.getElem?_eq_getElem hi]; rfl
        obtain ⟨u, e3, r⟩ := Vals.get ra ek
        rw [e1] at e3
        cases e3
        exact ⟨ks[i], List.getElem?_zip_eq_some.mpr ⟨List.getElem?_eq_getElem hi, e2⟩, key_is r⟩
      refine call_dict_pairs (knd := mixKind X.prog X.w) (zt_arg _ _ _ _ _ _ _ D its.toArray its2.toArray) (I1.ok.hd hc) ok have_ (by rw [size, show sizeLine = 16777216 by decide]; omega) fun h2 tk hD hk2 => ?_
      have keys : ((ks.zip its2).map (·.1)).Nodup := by
        have : (ks.zip its2).map (·.1) = ks := List.map_fst_zip (by rw [lb]; exact Nat.le_refl _)
        rw [this]; exact nd
      rw [merged_nil_of_nodup _ keys] at hD
      have up : ∀ b u, s1.heap.get? b = some u → h2.get? b = some u := fun b u e => by
        have lt := Heap.lt_size e
        refine hk2 b u (fun m => ?_) (hk b u e)
        simp only [List.mem_cons, List.not_mem_nil, or_false] at m
        have no : ∀ n : Nat, ¬ (s1.heap.objs.size + n < s1.heap.objs.size) := fun n => by omega
        rcases m with z | z | z | z <;> rw [z] at lt
        · exact no 4 lt
        · exact no 3 lt
        · exact no 0 lt
        · exact no 1 lt
      have big : sysModules < s1.heap.objs.size := I1.big
      refine ⟨.ref h'.objs.size, _, I1.laid (a := h'.objs.size) (o := .dK (ks.zip ys)) (t' := tk) up (by rw [hsz]; omega) ⟨?_, ?_, ks.zip its2, kv_zip rb, hD⟩, rfl, q1 _ (I1.hok.fresh (by rw [hsz]; omega))⟩
      · rw [List.length_zip, show sizeLine = 16777216 by decide]; omega
      · exact beq_eq_false_iff_ne.mpr (by rw [hsz]; exact Ne.symm (Nat.ne_of_lt (Nat.lt_of_lt_of_le big (Nat.le_add_right _ 5))))
section
variable {tp : Option (Addr × Addr)} {K : PySem.W.Frag} {H H' H'' H0 H1 He Hq : Hp} {σ : L2.St} {ρ : Ro}
def dzD (xs ys : List PyData) : M C := match keys1 xs with
  | some ks => if xs.length = ys.length ∧ ks.Nodup ∧ xs.length ≤ 100000 then .ret (.own (.dK (ks.zip ys))) else .fail
  | none => .fail
def oDZip : List C → M C
  | [.val (.tuple xs), .val (.tuple ys)] => dzD xs ys
  | _ => .fail
def gDZip (gs : Ro → M (List C)) (ρ : Ro) : M C := (gs ρ).bind oDZip
theorem gDZip_eq {gs : Ro → M (List C)} : gDZip gs ρ = (gs ρ).bind oDZip := (rfl)
theorem oDZip_t {xs ys : List PyData} : oDZip [.val (.tuple xs), .val (.tuple ys)] = dzD xs ys := (rfl)
theorem keys1_len : ∀ {ds : List PyData} {ks : List Key}, keys1 ds = some ks → ks.length = ds.length
  | [], _, e => by cases e; rfl
  | d :: ds, ks, e => by
    unfold keys1 at e
    split at e
    · rename_i k ks' e1 e2
      cases e
      rw [List.length_cons, List.length_cons, keys1_len e2]
    · cases e
theorem kvr_zip : ∀ {ks : List Key} {vs : List V} {ds : List PyData}, VlAll K H vs ds → KvR K H (ks.zip vs) (ks.zip ds)
  | [], _, _, _ => ⟨rfl, .nil⟩
  | _ :: _, [], _, h => by cases h; exact ⟨rfl, .nil⟩
  | k :: ks, v :: vs, _, h => by
    cases h with
    | cons r rr =>
      obtain ⟨h1, h2⟩ := kvr_zip (ks := ks) rr
      exact ⟨by rw [List.zip_cons_cons, List.zip_cons_cons, List.map_cons, List.map_cons, h1], .cons r h2⟩
theorem re_dzip {ta : TA} {gs : Ro → M (List C)} (h1 : RA K ta gs) : RE K (tDZip K ta) (gDZip gs) := by
  intro tp He Hq ρ σ H Q r h
  refine h1 tp He Hq ρ σ H _ r (wp0_mono (fun c hc => ?_) (wp0_bind.mp h))
  intro vs H1 g1 t1 rx
  unfold oDZip at hc
  split at hc
  · rename_i xs ys
    obtain ⟨v, u, rfl, r1, r2⟩ := rx.two
    obtain ⟨a, vs, rfl, q1, q2, _⟩ := r1.tup
    obtain ⟨b, us, rfl, p1, p2, _⟩ := r2.tup
    unfold dzD at hc
    split at hc
    · rename_i ks ek
      split at hc
      · rename_i c
        obtain ⟨c1, c2, c3⟩ := c
        have e := keys1_vl q2 ek
        subst e
        have kl := keys1_len ek
        refine ⟨a, b, ks, us, rfl, q1, p1, by rw [kl, c1, p2.len], c2, by rw [kl]; exact c3, fun p hp => ?_⟩
        have hc : Post tp K H Q (.own (.dK (ks.zip ys))) := hc
        have sm : Same H1 (upd H1 p (.dK (ks.zip us))) := Same.new hp
        exact hc _ _ (g1.trans (.of sm)) (t1.same sm) ⟨p, rfl, g1.free t1 hp, t1.tne hp, _, upd_same, KvR.imlf (Im.new hp) _ _ (kvr_zip p2) trivial, trivial⟩
      · exact hc.elim
    · exact hc.elim
  · exact hc.elim
end
end Cs

set_option maxRecDepth 100000
set_option maxHeartbeats 4000000
/-! tuple(reversed(a tuple)) -/
namespace Cs
open PySem PySem.W PyProof.Rows PyProof.V PySem.Spec PySem.Calls L2
theorem rt_nolen : typeLookup (.type "reversed") "__len__" = pure none := by rw [typeLookup_type, builtinLookup_eq_fast]; kernel_rfl
theorem rt_hint : typeLookup (.type "reversed") "__length_hint__" = pure (some (.builtin "reversed.__length_hint__")) := by rw [typeLookup_type, builtinLookup_eq_fast]; kernel_rfl
theorem rt_hslot : Slot "reversed" "__length_hint__" "reversed.__length_hint__" :=
  .of (owner := "reversed") (n := "__length_hint__") (by rw [typeLookup_type, builtinLookup_eq_fast]; kernel_rfl) (by decide +kernel) (by decide +kernel) (by decide +kernel) (by first | exact .inl (by decide +kernel) | exact .inr (by decide +kernel)) (by rw [isSubtype_type]; kernel_rfl)
theorem rt_hentry : entryFor table "reversed.__length_hint__" = some Builtin.«reversed.__length_hint__» := entryFor_of_tree (by kernel_rfl)
theorem rt_hargs (a : Value) : argsOk "reversed.__length_hint__" ⟨[a], []⟩ := by
  unfold argsOk; rw [signature?_of (id := "reversed.__length_hint__") (n := ['_', '_', 't', 'n', 'i', 'h', '_', 'h', 't', 'g', 'n', 'e', 'l', '_', '_']) (o := ['d', 'e', 's', 'r', 'e', 'v', 'e', 'r']) (by kernel_rfl) RT.owner_rt]; kernel_rfl
theorem as_int (n : Int) (u : Tok) : asInt? (.int n u) = pure (some n) := rfl
theorem isTup_at {h h' : Heap} {t : Addr} {items : Array Value} (x : IsTup h t items) (e : ∀ o, h.get? t = some o → h'.get? t = some o) : IsTup h' t items := let ⟨o, ho, r⟩ := x; ⟨o, e _ ho, r⟩
section
variable {prog : Program} {w : World} {A : Around} {E : Value → Shared → Prop} {s : Shared}
/-- how many are to come -/
theorem rt_size {it t : Addr} {i : Int} {items : Array Value} {Q : Value → Shared → Prop} (Z : RT.IsRt s.heap it t i) (T : IsTup s.heap t items) (hn : items.size ≤ sizeLine) (hi : i + 1 ≤ (items.size : Int))
    (q : Q (.int (i + 1) (s.toks + 2)) { s with toks := s.toks + 3 }) : wpAny (model prog w) A (call (.builtin "reversed.__length_hint__") [.ref it]) Q E s := by
  obtain ⟨o, ho, hc, hd⟩ := id Z
  rw [sizeLine_eq] at hn
  refine wpAny_call_entry rt_hslot Z.typeIs rt_hentry ?_ (rt_hargs _)
  unfold Builtin.«reversed.__length_hint__»
  refine wpAny_bind (wpAny_of_eq (a := Value.ref it) rfl ?_)
  refine wpAny_bind (wpAny_field ho hd (x := .ref t) rfl ?_)
  rw [if_neg (show ¬ ((Value.ref t == Value.none) = true) from Bool.false_ne_true)]
  refine wpAny_bind (len_tuple T (by omega) ?_)
  refine wpAny_bind (wpAny_of_eq (a := some ((items.size : Nat) : Int)) rfl ?_)
  refine wpAny_bind (wpAny_field (s := { s with toks := s.toks + 1 + 1 }) ho hd (x := rawInt i) rfl ?_)
  show wpAny _ _ (if (items.size : Int) < i + 1 then _ else retInt (i + 1)) _ _ _
  rw [if_neg (by omega)]
  show wpAny _ _ (mkInt (i + 1) >>= fun v => ret v) _ _ _
  exact wpAny_bind (wpAny_mkInt (wpAny_pure ⟨_, rfl, q⟩))
theorem rt_lh {it t : Addr} {items : Array Value} {Q : Bool → Shared → Prop} (Z : RT.IsRt s.heap it t ((items.size : Int) - 1)) (T : IsTup s.heap t items) (hn : items.size ≤ sizeLine)
    (q : ∀ tk, Q (((items.size : Nat) : Int) != 0) { s with toks := tk }) : wpAny (model prog w) A (Builtin.List.listLengthHint (.ref it)) Q E s := by
  have ty : s.TypeIs (.ref it) "reversed" := Z.typeIs
  have fit : Builtin.List.listFitsIndex ((items.size : Nat) : Int) = true := by
    unfold Builtin.List.listFitsIndex; rw [sizeLine_eq] at hn; rw [Bool.and_eq_true]; exact ⟨decide_eq_true (by omega), decide_eq_true (by omega)⟩
  have few : Builtin.List.listTooLong ((items.size : Nat) : Int).toNat = false := by unfold Builtin.List.listTooLong; exact decide_eq_false (by rw [Int.toNat_natCast]; omega)
  unfold Builtin.List.listLengthHint
  refine wpAny_bind (wpAny_specialOf ty rt_nolen ?_); show wpAny _ A (specialOf (Value.ref it) (Str.ofString "__length_hint__") >>= _) _ _ _
  refine wpAny_bind (wpAny_specialOf ty rt_hint ?_); generalize hid : ("reversed.__length_hint__" : String) = id0
  wp_delta
  rw [show splitId id0 = some ("reversed", "__length_hint__") from by subst hid; decide +kernel]; subst hid
  refine wpAny_bind (wpAny_isInstance (b := true) ty (by rw [isSubtype_type]; kernel_rfl) ?_)
  show wpAny _ A (rule "list.length-hint.hint" >>= fun _ => _) _ _ _
  refine wpAny_bind (wpAny_rule ?_)
  refine wpAny_bind (wpAny_of_eq (rt_hslot.bind (.ref it)) ?_)
  refine wpAny_bind (wpAny_attempt (rt_size Z T hn (by omega) ?_))
  rw [show ((items.size : Int) - 1 + 1) = ((items.size : Nat) : Int) by omega]
  have pos : ¬ ((items.size : Nat) : Int) < 0 := by omega
  generalize ((items.size : Nat) : Int) = n at *
  refine wpAny_bind (wpAny_of_eq (as_int _ _) ?_)
  dsimp only
  rw [if_neg (by rw [fit]; decide)]
  rw [if_neg pos]
  rw [if_neg (by rw [few]; decide)]
  exact wpAny_pure (q _)
theorem rt_walks (hh : A.handled = none) (I t : Addr) (hne : t ≠ I) (items : Array Value) (hsz : items.size ≤ sizeLine) :
    Walks prog w A I [I, t] [I] items.size (fun i v => items[items.size - 1 - i]? = some v) (fun i h => i ≤ items.size ∧ RT.IsRt h I t ((items.size : Int) - 1 - (i : Int)) ∧ IsTup h t items) := by
  constructor
  case sub => intro b hb; rw [List.mem_singleton.mp hb]; exact List.mem_cons_self
  case frame => exact fun _ _ _ x k => ⟨x.1, x.2.1.at fun o e => k I (by simp) o e, isTup_at x.2.2 fun o e => k t (by simp) o e⟩
  case item =>
    rintro i s Q E hi ⟨h1, h2, h3⟩ hQ
    rw [show (items.size : Int) - 1 - (i : Int) = ((items.size - 1 - i : Nat) : Int) by omega] at h2
    have hx : items[items.size - 1 - i]? = some (items[items.size - 1 - i]'(by omega)) := Array.getElem?_eq_getElem (by omega)
    refine RT.next_rt_item h2 h3 hx hsz fun h' g1 g2 => ?_
    rw [show ((items.size - 1 - i : Nat) : Int) - 1 = (items.size : Int) - 1 - ((i + 1 : Nat) : Int) by omega] at g1
    exact hQ _ h' _ hx ⟨hi, g1, isTup_at h3 fun o eo => (g2.2 t hne).trans eo⟩ fun b o hb eo => g2.extBut b o (fun h => hb (by simp [h])) eo
  case done =>
    rintro s Q E ⟨_, h2, _⟩ hQ
    rw [show (items.size : Int) - 1 - (items.size : Int) = -1 by omega] at h2
    exact RT.next_rt_end hh h2 fun h' he => hQ h' s.toks fun b o hb eo => he b o (fun h => hb (by simp [h])) eo
  case self => exact fun _ _ _ _ x hQ => RT.iter_rt x.2.1 hQ
theorem rt_collect {it t : Addr} {items : Array Value} {Q : List Value → Shared → Prop} (hh : A.handled = none) (Z : RT.IsRt s.heap it t ((items.size : Int) - 1)) (T : IsTup s.heap t items) (hne : t ≠ it) (hn : items.size ≤ sizeLine)
    (hQ : ∀ (g : Heap) (tk : Nat) (acc : Array Value), (∀ b o, b ≠ it → s.heap.get? b = some o → g.get? b = some o) → ItemsOf (fun i v => items[items.size - 1 - i]? = some v) acc items.size → Q acc.toList { s with heap := g, toks := tk }) :
    wpAny (model prog w) A (collect (.ref it)) Q E s := by
  have W := (rt_walks (prog := prog) (w := w) (A := A.in1) hh it t hne items hn).toS
  obtain ⟨oi, hoi, _⟩ := id Z
  obtain ⟨ot, hot, _⟩ := id T
  have hSf : s.heap.objs.size ∉ [it, t] := fun m => by
    rcases List.mem_cons.mp m with z | z
    · exact Nat.ne_of_gt (Heap.lt_size hoi) z
    · exact Nat.ne_of_gt (Heap.lt_size hot) (List.mem_singleton.mp z)
  let g0 : Heap := s.heap.push { cls := .type "list", data := .seq ([] : List Value).toArray }
  have hS0 : g0.get? s.heap.objs.size = some { cls := .type "list", data := .seq ([] : List Value).toArray } := Heap.get?_push_size _ rfl
  have Z0 : RT.IsRt g0 it t ((items.size : Int) - 1) := Z.at fun o e => Heap.get?_push_of_some _ e
  have T0 : IsTup g0 t items := isTup_at T fun o e => Heap.get?_push_of_some _ e
  have ty : ({ s with heap := g0 } : Shared).TypeIs (.ref it) "reversed" := RT.IsRt.typeIs (s := { s with heap := g0 }) Z0
  have ns : Builtin.List.listSameRef (.ref s.heap.objs.size) (.ref it) = false := by simp [Builtin.List.listSameRef, Nat.ne_of_gt (Heap.lt_size hoi)]
  unfold collect
  refine wpAny_bind (wpAny_runValue (codeAny_builtin F.entry_proto_collect ?_)); rw [Around.under_plainId F.plain_proto_collect _]
  show wpAny _ A.in1 (newList [] >>= fun l' => again (.builtin "list.__iadd__" ⟨[l', .ref it], []⟩)) _ _ s; refine wpAny_bind (wpAny_newObj_type ?_)
  refine wpAny_pure ⟨plainId_quiet F.plain_list_iadd _, codeAny_builtin F.entry_list_iadd ?_⟩; rw [Around.under_plainId F.plain_list_iadd _]
  show wpAny _ A.in1 (Builtin.List.listExtendWith (.ref s.heap.objs.size) (.ref it) (.ref s.heap.objs.size)) _ _ _; unfold Builtin.List.listExtendWith
  refine wpAny_bind (wpAny_typeOf ty ?_); rw [if_neg (by rw [ns]; decide)]
  refine wpAny_bind (RT.iter_rt (s := { s with heap := g0 }) Z0 ?_); refine wpAny_bind (wpAny_holding ?_)
  refine rt_lh (s := { s with heap := g0 }) Z0 T0 hn fun tk => ?_
  have e0 : ((items.size : Nat) : Int) - 1 - ((0 : Nat) : Int) = (items.size : Int) - 1 := by omega
  by_cases hz : items.size = 0
  · rw [show ((((items.size : Nat) : Int)) != 0) = false by rw [hz]; rfl, if_neg (by decide)]
    have up : ∀ b o, b ≠ s.heap.objs.size → g0.get? b = some o → g0.get? b = some o := fun _ _ _ e => e
    have hS := hS0
    refine wpAny_pure ⟨plainId_quiet F.plain_extend_loop _, codeAny_extend_loopS W hn _ hSf _ items.size 0 _ _ _ rfl (Nat.zero_le _) ⟨Nat.zero_le _, by rw [e0]; exact Z0.at fun o e => up it o (Nat.ne_of_lt (Heap.lt_size hoi)) e, isTup_at T0 fun o e => up t o (Nat.ne_of_lt (Heap.lt_size hot)) e⟩ hS (ItemsOf.nil _) fun s2 acc c2 mv hS2 ha => ?_⟩
    show wpAny _ A (load s.heap.objs.size >>= _) _ _ s2; refine wpAny_bind (wpAny_load hS2 ?_); refine wpAny_pure ?_; rw [Moved.eq_with mv]
    refine hQ s2.heap s2.toks acc (fun b o hb e => mv.heap b o (fun m => ?_) (up b o (Nat.ne_of_lt (Heap.lt_size e)) (Heap.get?_push_of_some _ e))) ha
    rcases List.mem_cons.mp m with z | z
    · exact absurd (Heap.lt_size e) (by rw [z]; exact Nat.lt_irrefl _)
    · exact hb (List.mem_singleton.mp z)
  · rw [show ((((items.size : Nat) : Int)) != 0) = true from bne_iff_ne.mpr (by omega), if_pos (by rfl)]
    refine wpAny_bind (wpAny_rule ?_); refine wpAny_bind ?_
    show wpAny _ A.in1 (updateSeq s.heap.objs.size (·.push .none) >>= fun _ => updateSeq s.heap.objs.size (·.pop)) _ _ _
    refine wpAny_bind (wpAny_updateSeq hS0 rfl ?_)
    have hS1 := Heap.get?_update_self (Obj.mapSeq (·.push Value.none)) hS0 rfl
    refine wpAny_updateSeq hS1 rfl ?_
    have hS := Heap.get?_update_self (Obj.mapSeq (·.pop)) hS1 rfl
    have up : ∀ b o, b ≠ s.heap.objs.size → g0.get? b = some o → ((g0.update s.heap.objs.size (Obj.mapSeq (·.push Value.none))).update s.heap.objs.size (Obj.mapSeq (·.pop))).get? b = some o := fun b o hb e => (Heap.get?_update_other _ _ (Ne.symm hb)).trans ((Heap.get?_update_other _ _ (Ne.symm hb)).trans e)
    refine wpAny_pure ⟨plainId_quiet F.plain_extend_loop _, codeAny_extend_loopS W hn _ hSf _ items.size 0 _ _ _ rfl (Nat.zero_le _) ⟨Nat.zero_le _, by rw [e0]; exact Z0.at fun o e => up it o (Nat.ne_of_lt (Heap.lt_size hoi)) e, isTup_at T0 fun o e => up t o (Nat.ne_of_lt (Heap.lt_size hot)) e⟩ hS (ItemsOf.nil _) fun s2 acc c2 mv hS2 ha => ?_⟩
    show wpAny _ A (load s.heap.objs.size >>= _) _ _ s2; refine wpAny_bind (wpAny_load hS2 ?_); refine wpAny_pure ?_; rw [Moved.eq_with mv]
    refine hQ s2.heap s2.toks acc (fun b o hb e => mv.heap b o (fun m => ?_) (up b o (Nat.ne_of_lt (Heap.lt_size e)) (Heap.get?_push_of_some _ e))) ha
    rcases List.mem_cons.mp m with z | z
    · exact absurd (Heap.lt_size e) (by rw [z]; exact Nat.lt_irrefl _)
    · exact hb (List.mem_singleton.mp z)
theorem rt_tuple {it t : Addr} {items : Array Value} {Q : Value → Shared → Prop} (hh : A.handled = none) (Z : RT.IsRt s.heap it t ((items.size : Int) - 1)) (T : IsTup s.heap t items) (hne : t ≠ it) (hn : items.size ≤ sizeLine)
    (hQ : ∀ (g : Heap) (tk : Nat) (acc : Array Value), (∀ b o, b ≠ it → s.heap.get? b = some o → g.get? b = some o) → ItemsOf (fun i v => items[items.size - 1 - i]? = some v) acc items.size →
      Q (.ref g.objs.size) { s with heap := g.push { cls := .type "tuple", data := .seq acc }, toks := tk }) : wpAny (model prog w) A (call (.type "tuple") [.ref it]) Q E s := by
  have new : codeAny (model prog w) A.in1 (.call (.builtin "tuple.__new__") ⟨[.type "tuple", .ref it], []⟩) (wants (fun obj s₁ => s₁.TypeIs obj "tuple" ∧ Q obj s₁) E) s := by
    refine codeAny_of_tree ?_
    show wpAny _ A.in1.in1 (do checkBuiltinCall "tuple.__new__" ⟨[.type "tuple", .ref it], []⟩; again (.builtin "tuple.__new__" ⟨[.type "tuple", .ref it], []⟩)) _ _ s
    refine wpAny_bind (wpAny_of_eq (F.newCall_tuple_1 _) (wpAny_pure ⟨plainId_quiet F.plain_tuple_new _, codeAny_builtin F.entry_tuple_new ?_⟩)); rw [Around.under_plainId F.plain_tuple_new _]
    have f1 := sub_tuple_self
    have f2 := init_tuple_lookup
    have f3 := madeHere_tuple
    have ty : s.TypeIs (.ref it) "reversed" := Z.typeIs
    have h1 : A.in1.in1.handled = none := hh
    wp_walk using wpAny_typeOf ty, rt_collect (A := A.in1.in1) h1 Z T hne hn
    intro g tk acc k ha
    show wpAny _ _ (Builtin.Tuple.tupleExact acc.toList.toArray >>= fun v => ret v) _ _ _; unfold Builtin.Tuple.tupleExact
    refine wpAny_bind (wpAny_newObj_type ?_ (by show acc.toList.toArray.size ≤ sizeLine; simp only [Array.toArray_toList]; rw [ha.1]; exact hn)); refine wpAny_pure ?_
    rw [show acc.toList.toArray = acc by simp]
    exact ⟨⟨_, Heap.get?_push_size _ rfl, rfl⟩, hQ g tk acc k ha⟩
  refine callType_codes (Q₁ := fun obj s₁ => s₁.TypeIs obj "tuple" ∧ Q obj s₁) F.called_tuple (F.typeCall_tuple_1 _) F.entry_object_init new fun obj s₁ h₁ => ?_
  exact ⟨h₁.1, F.args_object_init_2 obj _, object_init_meets F.called_tuple.init.lookup F.called_tuple.made (by decide) prog w A.in1 _ s₁ ⟨h₁.1, rfl, h₁.2⟩⟩
end
def tTRev (K : PySem.W.Frag) (te : TE) : TE := fun σ H Q => te σ H fun v H1 => ∃ (a : Addr) (xs : List V), v = .ref a ∧ SqT K H1 a xs ∧ ∀ q, H1 q = none → Q (.ref q) (upd H1 q (.tup xs.reverse))
theorem pe_trev {X : Cx} {e : Expr} {te : TE} {p p2 pos pos2 : Pos} (hc : X.calm = true) (hg : Gl X "tuple") (hm : X.mg "tuple" = none) (hg2 : Gl X "reversed") (hm2 : X.mg "reversed" = none) (he : PE X e te)
    (hs : starEach [e] X.env = (false, eval e X.env) :: starEach [] X.env := by rfl)
    (na : starEach [.Call (.Name "reversed" p2) [e] [] pos2] X.env = (false, eval (.Call (.Name "reversed" p2) [e] [] pos2) X.env) :: starEach [] X.env := by rfl) : PE X (.Call (.Name "tuple" p) [.Call (.Name "reversed" p2) [e] [] pos2] [] pos) (tTRev X.K te) := by
  refine ⟨fun pins s σ H Q I h => ?_⟩
  refine Call_ (ld_blt I hg hm boot_tuple (callWith_type1 (args_cons (Call_ (ld_blt I hg2 hm2 boot_reversed (callWith_type1 (args_cons (thn (he.run pins s σ H _ I h) fun u s1 ⟨v, H1, I1, r1, q1⟩ => args_nil ?_) hs) hs rfl))) na) na rfl))
  obtain ⟨a, xs, rfl, hq, q⟩ := q1
  obtain rfl : u = Value.ref a := r1
  obtain ⟨its, rv, pt, hz⟩ := I1.tuple hq
  have sl := sizeLine_eq
  have hn : its.toArray.size ≤ sizeLine := by rw [List.size_toArray, ← rv.length]; exact hz
  refine RT.call_reversed_tup pt (fun A E Q k => len_tuple pt (by omega) k) (args_nil ?_)
  let g : Heap := s1.heap.push (RT.rtObj a ((its.toArray.size : Int) - 1))
  have I2 : Inv X pins σ H1 { s1 with heap := g, toks := s1.toks + 1 + 1 } := I1.kept (t' := s1.toks + 1 + 1) fun b o e => Heap.get?_push_of_some _ e
  obtain ⟨f0, f1, f2, f3, f4, f5⟩ := I1.fpOk (H' := H1) (b := s1.heap.objs.size) (Nat.le_refl _) (I1.hok.fresh (Nat.le_refl _))
  obtain ⟨ot, hot, _⟩ := id pt
  have hne : a ≠ s1.heap.objs.size := Nat.ne_of_lt (Heap.lt_size hot)
  refine rt_tuple (s := { s1 with heap := g, toks := s1.toks + 1 + 1 }) (I1.ok.hd hc) ⟨_, Heap.get?_push_size _ rfl, rfl, rfl⟩ (isTup_at pt fun o e => Heap.get?_push_of_some _ e) hne hn fun h' tk acc hk hi => ?_
  have I3 : Inv X pins σ H1 { s1 with heap := h', toks := tk } := I2.turned (t' := tk) (fun b o hb e => hk b o hb e) f0 f1 f3 f4 f5
  refine ⟨.ref h'.objs.size, upd H1 h'.objs.size (.tup xs.reverse), I3.laid (t' := tk) (fun c o e => Heap.get?_push_of_some _ e) (Nat.le_refl _) (show ObjOk X.prog X.w _ _ _ (.tup xs.reverse) from ⟨by rw [List.length_reverse]; exact hz, acc.toList, RT.vals_rev rv hi, ?_⟩), rfl, q _ (I3.hok.fresh (Nat.le_refl _))⟩
  rw [Array.toArray_toList]
  exact IsTup.new _ _
section
variable {tp : Option (Addr × Addr)} {K : PySem.W.Frag} {H H' H'' H0 H1 He Hq : Hp} {σ : L2.St} {ρ : Ro}
def oTRev : C → M C
  | .val (.tuple ds) => .ret (.val (.tuple ds.reverse))
  | _ => .fail
def gTRev (g : Ro → M C) (ρ : Ro) : M C := (g ρ).bind oTRev
theorem gTRev_eq {g : Ro → M C} : gTRev g ρ = (g ρ).bind oTRev := (rfl)
theorem oTRev_t {ds : List PyData} : oTRev (.val (.tuple ds)) = .ret (.val (.tuple ds.reverse)) := (rfl)
theorem vlAll_rev : ∀ {vs : List V} {ds : List PyData}, VlAll K H vs ds → VlAll K H vs.reverse ds.reverse
  | _, _, .nil => .nil
  | _, _, .cons h r => by rw [List.reverse_cons, List.reverse_cons]; exact (vlAll_rev r).app (.cons h .nil)
theorem re_trev {te : TE} {g : Ro → M C} (h1 : RE K te g) : RE K (tTRev K te) (gTRev g) := by
  intro tp He Hq ρ σ H Q r h
  refine h1 tp He Hq ρ σ H _ r (wp0_mono (fun c hc => ?_) (wp0_bind.mp h))
  intro v H1 g1 t1 rx
  unfold oTRev at hc
  split at hc
  · rename_i ds
    obtain ⟨a, vs, rfl, q1, q2, _⟩ := rx.tup
    refine ⟨a, vs, rfl, q1, fun q hq => ?_⟩
    have hc : Post tp K H Q (.val (.tuple ds.reverse)) := hc
    have sm : Same H1 (upd H1 q (.tup vs.reverse)) := Same.new hq
    exact hc _ _ (g1.trans (.of sm)) (t1.same sm) ⟨.tup upd_same ((vlAll_rev q2).imlf (Im.new hq) _ _ rfl), rfl⟩
  · exact hc.elim
end
end Cs

set_option maxRecDepth 100000
set_option maxHeartbeats 4000000
/-! <= of two lists of ints -/
namespace Cs
open PySem PySem.W PyProof.Rows PyProof.V PySem.Spec PySem.Calls L2
def IntArr (items : Array Value) (ns : List Int) : Prop := items.size = ns.length ∧ ∀ j (h : j < items.size), ∃ t, items[j] = .int (ns.getD j 0) t
theorem lexLe_step {ns ms : List Int} {i : Nat} (h1 : i < ns.length) (h2 : i < ms.length) : lexLeI (ns.drop i) (ms.drop i) = if ns.getD i 0 = ms.getD i 0 then lexLeI (ns.drop (i + 1)) (ms.drop (i + 1)) else decide (ns.getD i 0 ≤ ms.getD i 0) := by
  rw [List.drop_eq_getElem_cons h1, List.drop_eq_getElem_cons h2, lexLeI]
  have a : ns.getD i 0 = ns[i] := by rw [List.getD_eq_getElem?_getD, List.getElem?_eq_getElem h1]; rfl
  have b : ms.getD i 0 = ms[i] := by rw [List.getD_eq_getElem?_getD, List.getElem?_eq_getElem h2]; rfl
  rw [a, b]
theorem lexLe_end {ns ms : List Int} {i : Nat} (hi : i ≤ min ns.length ms.length) (h : min ns.length ms.length ≤ i) : lexLeI (ns.drop i) (ms.drop i) = decide (ns.length ≤ ms.length) := by
  by_cases c : ns.length ≤ i
  · rw [List.drop_of_length_le c, lexLeI, decide_eq_true (by omega)]
  · rw [List.drop_of_length_le (l := ms) (by omega), List.drop_eq_getElem_cons (by omega), lexLeI, decide_eq_false (by omega)]
theorem le_loop (l b : Addr) (xs ys : Array Value) (n1 n2 : Nat) (d1 d2 : Option Addr) (s1 s2 : Array (Option Value)) {ns ms : List Int} (A1 : IntArr xs ns) (A2 : IntArr ys ms) (k : Nat) :
    ∀ i : Nat, i ≤ min ns.length ms.length → min ns.length ms.length - i = k → Meets (Builtin.«list.__eq__.loop» ⟨[.ref l, .ref b, rawInt i, rawInt 1], []⟩)
      (fun A R s => s.heap.get? l = some { cls := .type "list", dict := d1, data := .seq xs n1, slots := s1 } ∧ s.heap.get? b = some { cls := .type "list", dict := d2, data := .seq ys n2, slots := s2 } ∧ R (.ok (.ret (.bool (lexLeI (ns.drop i) (ms.drop i))))) s) := by
  induction k with
  | zero =>
    intro i hm hk prog w A R s ⟨hl, hb, h⟩
    obtain ⟨hp, g, d, tk, os⟩ := s
    rw [lexLe_end hm (by omega), ← A1.1, ← A2.1] at h
    have z := A1.1
    have z2 := A2.1
    wp_walk using wpAny_loadPart' hl, wpAny_loadPart' hb
    by_cases c : xs.size ≤ i
    · rw [show xs[((i : Nat) : Int).toNat]? = none by simp; omega]
      wp_walk using wpAny_loadPart' hl, wpAny_loadPart' hb
      exact h
    · rw [show xs[((i : Nat) : Int).toNat]? = some (xs[i]'(by omega)) by simp, show ys[((i : Nat) : Int).toNat]? = none by simp; omega]
      wp_walk using wpAny_loadPart' hl, wpAny_loadPart' hb
      exact h
  | succ k ih =>
    intro i hm hk prog w A R s ⟨hl, hb, h⟩
    obtain ⟨hp, g, d, tk, os⟩ := s
    have c1 : i < xs.size := by rw [A1.1]; omega
    have c2 : i < ys.size := by rw [A2.1]; omega
    obtain ⟨t, ex⟩ := A1.2 i c1
    obtain ⟨u, ey⟩ := A2.2 i c2
    have g1 : xs[((i : Nat) : Int).toNat]? = some (.int (ns.getD i 0) t) := by simp [c1, ex]
    have g2 : ys[((i : Nat) : Int).toNat]? = some (.int (ms.getD i 0) u) := by simp [c2, ey]
    rw [lexLe_step (by omega) (by omega)] at h
    wp_walk using wpAny_loadPart' hl, wpAny_loadPart' hb
    rw [g1, g2]
    refine wpAny_bind (SeqAt.EqAt.int_int _ _ _ _ prog w _ _ ?_)
    by_cases q : ns.getD i 0 = ms.getD i 0
    · rw [if_pos q] at h
      rw [show (ns.getD i 0 == ms.getD i 0) = true from beq_iff_eq.mpr q]
      wp_walk
      rw [show ((i : Int) + 1) = ((i + 1 : Nat) : Int) by omega]
      exact ⟨plainId_quiet MeetsSeq3.plain_eq_loop _, codeAny_builtin MeetsSeq3.entry_eq_loop (by rw [Around.under_plainId MeetsSeq3.plain_eq_loop _]; exact ih (i + 1) (by omega) (by omega) prog w A R _ ⟨hl, hb, h⟩)⟩
    · rw [if_neg q] at h
      rw [show (ns.getD i 0 == ms.getD i 0) = false from beq_eq_false_iff_ne.mpr q]
      have le := Ob.RcOp.le_int (A := A.in1) (s := ⟨hp, g, d, tk, os⟩) (ns.getD i 0) (ms.getD i 0) t u prog w
      wp_walk using wpAny_loadPart' hl, wpAny_loadPart' hb
      rw [g1, g2]
      wp_walk using le
      exact h
theorem le_list (l b : Addr) (xs ys : Array Value) (n1 n2 : Nat) (d1 d2 : Option Addr) (s1 s2 : Array (Option Value)) {ns ms : List Int} (A1 : IntArr xs ns) (A2 : IntArr ys ms) :
    Meets (Builtin.«list.__le__» ⟨[.ref l, .ref b], []⟩)
      (fun A R s => s.heap.get? l = some { cls := .type "list", dict := d1, data := .seq xs n1, slots := s1 } ∧ s.heap.get? b = some { cls := .type "list", dict := d2, data := .seq ys n2, slots := s2 } ∧ R (.ok (.ret (.bool (lexLeI ns ms)))) s) := by
  intro prog w A R s ⟨hl, hb, h⟩
  obtain ⟨hp, g, d, tk, os⟩ := s
  have f3 := AutoSeq1.sub_list_list
  wp_walk using wpAny_loadPart' hl, wpAny_loadPart' hb
  exact ⟨plainId_quiet MeetsSeq3.plain_eq_loop _, codeAny_builtin MeetsSeq3.entry_eq_loop (by rw [Around.under_plainId MeetsSeq3.plain_eq_loop _]; exact le_loop l b xs ys n1 n2 d1 d2 s1 s2 A1 A2 _ 0 (Nat.zero_le _) rfl prog w A R _ ⟨hl, hb, h⟩)⟩
def rLeL (K : PySem.W.Frag) : R2 := fun x y H Q => ∃ (a b : Addr) (ns ms : List Int), x = .ref a ∧ y = .ref b ∧ SqL K H a (ns.map V.int) ∧ SqL K H b (ms.map V.int) ∧ Q (.bl (lexLeI ns ms)) H
theorem intArr {its : List Value} {ns : List Int} (h : IntsAre its ns) : IntArr its.toArray ns := ⟨by rw [List.size_toArray]; exact h.length, fun j h1 => PyProof.Rows.IntsAre.int_at h _ _ (by simp at h1; simp [h1])⟩
theorem op_leL {X : Cx} (hu : X.A.units < cLine) : OpR X (compareOp .LtE) (rLeL X.K) := by
  intro pins s σ H x y v u Q I rx ry h
  obtain ⟨a, b, ns, ms, rfl, rfl, ha, hb, q⟩ := h
  cases rx
  cases ry
  obtain ⟨its, r1, p1, _⟩ := I.list ha
  obtain ⟨its2, r2, p2, _⟩ := I.list hb
  obtain ⟨⟨cls, dd, data, sl⟩, ho, hc, n, hd⟩ := id p1.isList
  obtain ⟨⟨cls2, dd2, data2, sl2⟩, ho2, hc2, n2, hd2⟩ := id p2.isList
  simp only at hc hd hc2 hd2
  subst hc hd hc2 hd2
  show wpAny (model X.prog X.w) X.A (richCompare .LtE (.ref a) (.ref b)) (EP X pins σ Q) X.xe s
  exact richCompare_meets_room (op := .LtE) ⟨_, ho, rfl⟩ ⟨_, ho2, rfl⟩ F.slot_list_le F.entry_list_le (F.args_list_le_2 _ _) (le_list a b its.toArray its2.toArray n n2 dd dd2 sl sl2 (intArr (Vals.ints r1)) (intArr (Vals.ints r2))) ⟨ho, ho2, ⟨(fun x => nomatch x), ⟨.bl _, H, I, rfl, q⟩⟩⟩ hu
theorem opLeL (K : PySem.W.Frag) {X : Cx} (hu : X.A.units < cLine) (h : X.K = K := by rfl) : OpR X (compareOp .LtE) (rLeL K) := h ▸ op_leL hu
section
variable {tp : Option (Addr × Addr)} {K : PySem.W.Frag} {H H' H'' H0 H1 He Hq : Hp} {σ : L2.St} {ρ : Ro}
def leLD (xs ys : List PyData) : M C := match intsOf xs, intsOf ys with
  | some ns, some ms => .ret (.val (.bool (lexLeI ns ms)))
  | _, _ => .fail
def oLeL (c d : C) : M C := match c.items, d.items with
  | some xs, some ys => leLD xs ys
  | _, _ => .fail
theorem os_leL : OpS K (rLeL K) oLeL := by
  intro tp H0 H x y cx cy Q g t rx ry h
  unfold oLeL at h
  split at h
  · rename_i xs ys e1 e2
    obtain ⟨a, vs, rfl, q1, q2, _⟩ := rx.rd e1
    obtain ⟨b, us, rfl, p1, p2, _⟩ := ry.rd e2
    unfold leLD at h
    split at h
    · rename_i ns ms f1 f2
      have g1 := intsOf_dp (K := K) q2.dp f1
      have g2 := intsOf_dp (K := K) p2.dp f2
      subst g1 g2
      exact ⟨a, b, ns, ms, rfl, rfl, .inl q1, .inl p1, Post.bl h g t⟩
    · exact h.elim
  · exact h.elim
theorem oLeL_ii {c d : C} {xs ys : List PyData} (h1 : c.items = some xs) (h2 : d.items = some ys) : oLeL c d = leLD xs ys := by unfold oLeL; rw [h1, h2]
theorem leLD_i {ns ms : List Int} : leLD (ns.map .int) (ms.map .int) = .ret (.val (.bool (lexLeI ns ms))) := by unfold leLD; rw [intsOf_map, intsOf_map]
end
end Cs

set_option maxRecDepth 100000
set_option maxHeartbeats 4000000
/-! enumerate(a tuple) -/
namespace Cs
open PySem PySem.W PyProof.Rows PyProof.V PySem.Spec PySem.Calls L2
set_option maxHeartbeats 4000000 in
theorem et_new (l : Addr) (xs : Array Value) :
    Meets (Builtin.«enumerate.__new__» ⟨[.type "enumerate", .ref l], []⟩) (fun _ R s => s.heap.IsTuple l xs ∧
      R (.ok (.ret (.ref (s.heap.objs.size + 1)))) { s with heap := (s.heap.push { cls := .type "tuple_iterator", data := .fields #[.ref l, .int 0 0] }).push { cls := .type "enumerate", data := .fields #[.none, .bool false, .ref s.heap.objs.size, rawInt 0, .none, .none] } }) :=
  .of_wp fun prog w A R s h => by
    obtain ⟨hp, g, d, tk, os⟩ := s
    obtain ⟨hL, h⟩ := h
    have hsub := sub_enumerate
    have hz : (hp.push { cls := .type "tuple_iterator", data := .fields #[.ref l, .int 0 0] }).objs.size = hp.objs.size + 1 := Heap.size_push ..
    have hL1 : Heap.IsTuple (Shared.heap ⟨hp, g, d, tk, os⟩) l xs := hL
    wp_walk
    refine wpAny_stack_any fun st => wpAny_pure ?_
    split
    · rename_i c _ _ _ _ _
      cases (c == Value.type "enumerate")
      · wp_walk using wpAny_pyIter_tuple hL1
        refine ⟨_, rfl, ?_⟩
        show R (.ok (.ret (.ref (Heap.push hp _).objs.size))) _
        rw [hz]; exact h
      · wp_walk using wpAny_pyIter_tuple hL1
        refine ⟨_, rfl, ?_⟩
        show R (.ok (.ret (.ref (Heap.push hp _).objs.size))) _
        rw [hz]; exact h
    · wp_walk using wpAny_pyIter_tuple hL1
      refine ⟨_, rfl, ?_⟩
      show R (.ok (.ret (.ref (Heap.push hp _).objs.size))) _
      rw [hz]; exact h
section
variable {prog : Program} {w : World} {A : Around} {E : Value → Shared → Prop} {s : Shared}
theorem et_call {l : Addr} {xs : Array Value} {Q : Value → Shared → Prop} (hL : s.heap.IsTuple l xs)
    (h : ∀ g, IsEnum g (s.heap.objs.size + 1) s.heap.objs.size 0 .none → g.IsTupleIter s.heap.objs.size l 0 → g.objs.size = s.heap.objs.size + 2 → (∀ b o, s.heap.get? b = some o → g.get? b = some o) → Q (.ref (s.heap.objs.size + 1)) { s with heap := g }) :
    wpAny (model prog w) A (call (.type "enumerate") [.ref l]) Q E s := by
  refine callType_new F.called_enumerate (by decide) (F.typeCall_enumerate_1 _) (F.newCall_enumerate_1 _) (fun obj => F.args_object_init_2 obj _) F.entry_enumerate_new (et_new l xs) ⟨hL, ?_⟩
  have hz : (s.heap.push { cls := .type "tuple_iterator", data := .fields #[.ref l, .int 0 0] }).objs.size = s.heap.objs.size + 1 := Heap.size_push ..
  have he : IsEnum ((s.heap.push { cls := .type "tuple_iterator", data := .fields #[.ref l, .int 0 0] }).push { cls := .type "enumerate", data := .fields #[.none, .bool false, .ref s.heap.objs.size, rawInt 0, .none, .none] }) (s.heap.objs.size + 1) s.heap.objs.size 0 .none := by
    have e := Heap.get?_push_size (s.heap.push { cls := .type "tuple_iterator", data := .fields #[.ref l, .int 0 0] }) (o := { cls := .type "enumerate", data := .fields #[.none, .bool false, .ref s.heap.objs.size, rawInt 0, .none, .none] }) rfl
    rw [hz] at e; exact e
  exact ⟨⟨_, he, rfl⟩, h _ he ⟨_, Heap.get?_push_of_some _ (Heap.get?_push_size _ rfl), rfl, rfl⟩ (by rw [Heap.size_push, hz]) fun b o x => Heap.get?_push_of_some _ (Heap.get?_push_of_some _ x)⟩
end
/-- the tuple at a, each item in a new pair -/
def IteT (K : PySem.W.Frag) (a : Addr) : It :=
  ⟨fun i H => ∃ (xs : List V) (x : V), SqT K H a xs ∧ xs[i]? = some x, fun i H v H' => ∃ T x, v = .ref T ∧ H T = none ∧ H' = upd H T (.tup [.int (i : Nat), x]) ∧ ∀ xs, SqT K H a xs → xs[i]? = some x, fun i H => ∃ xs : List V, SqT K H a xs ∧ xs.length ≤ i⟩
def EtSt (a e it : Addr) (i : Nat) (h : Heap) : Prop := (∃ old, IsEnum h e it ((i : Nat) : Int) old) ∧ h.IsTupleIter it a i ∧ e ≠ it ∧ a ≠ it ∧ e ≠ a
theorem et_last {prog : Program} {w : World} {A : Around} (hh : A.handled = none) (it t : Addr) (i : Nat) (items : Array Value) (hx : items[i]? = none) :
    Draws prog w A it [it, t] 0 (fun _ _ => True) (fun _ h => h.IsTupleIter it t i ∧ h.IsTuple t items) := by
  constructor
  case live => exact fun _ _ st => let ⟨o, ho, _⟩ := st.1; ⟨o, ho⟩
  case frame => exact fun _ _ _ st k => ⟨st.1.at fun o e => k it (by simp) o e, st.2.at fun o e => k t (by simp) o e⟩
  case item => exact fun i s Q E hi => absurd hi (Nat.not_lt_zero _)
  case done => exact fun s Q E st hE => RZ.nextOf_tuple_end hh st.1 st.2 hx fun h' e a b => hE h' e a b
theorem et_turn {P : Program} {w : World} {K : PySem.W.Frag} {elts : List Expr} {kk : Nat} {tpos : Pos} (a e it : Addr) : Turn P w K (.Tuple elts kk tpos) (IteT K a) [e, it] e (EtSt a e it) := by
  constructor
  case mem => exact List.mem_cons_self
  case obj =>
    rintro i h ⟨⟨old, he⟩, ⟨o, ho, hc, hd⟩, _⟩ b hb
    have hb : b = e ∨ b = it := by simpa using hb
    rcases hb with rfl | rfl
    · exact ⟨_, he, fun v q => nomatch q⟩
    · exact ⟨o, ho, fun v q => by rw [hd] at q; cases q⟩
  case keep => exact fun i h h' ⟨⟨old, he⟩, hi, r⟩ k => ⟨⟨old, k e (by simp) _ he⟩, hi.at fun o q => k it (by simp) o q, r⟩
  case item =>
    intro X hP hw hK hc i pins s σ H E I hf ⟨⟨old, he⟩, hit, n1, n2, n3⟩ ⟨xs, x, hq, hx⟩
    subst hP hw hK
    obtain ⟨its, rv, p, hz⟩ := I.tuple hq
    obtain ⟨u, hu, ru⟩ := rv.get hx
    have hel : e < s.heap.objs.size := Heap.lt_size he
    have hil : it < s.heap.objs.size := by obtain ⟨_, q, _⟩ := hit; exact Heap.lt_size q
    have hi : i < its.toArray.size := by rw [List.size_toArray]; exact (List.getElem?_eq_some_iff.mp hu).1
    have pT : s.heap.IsTuple a its.toArray := p
    have D := Draws.tuple (prog := X.prog) (w := X.w) (A := X.A.in1) (I.ok.hd hc) it a n2 its.toArray
    refine wpAny_pyNext_enum_itemD D he ⟨hit, pT⟩ hi n1 (by simp only [List.mem_cons, List.not_mem_nil, or_false, not_or]; exact ⟨n1, n3⟩) fun x' g tk hx' ho st' hT hsz hk => ?_
    obtain ⟨hit', _⟩ := st'
    have ex : x' = u := by
      rw [List.getElem?_toArray, hu] at hx'
      exact (Option.some.inj hx').symm
    subst ex
    refine ⟨_, rfl, wpAny_letOwnedTupleGo_enum (s := { s with heap := g, toks := tk + 1 }) ho fun g2 he' sb => ?_⟩
    have hT2 : g2.get? s.heap.objs.size = some { cls := .type "tuple", data := .seq #[.int i tk, x'] } := (sb.2 _ (Nat.ne_of_gt hel)).trans hT
    have new : ObjOk X.prog X.w (upd H s.heap.objs.size (.tup [.int (i : Nat), x])) g2 s.heap.objs.size (.tup [.int (i : Nat), x]) := ⟨by show 2 ≤ sizeLine; decide, [.int i tk, x'], .cons ⟨_, rfl⟩ (.cons ru .nil), ⟨_, hT2, rfl, _, rfl⟩⟩
    have I1 : Inv X pins σ (upd H s.heap.objs.size (.tup [.int (i : Nat), x])) { s with heap := g2, toks := tk + 1 } :=
      I.turnedNew (ch := [e, it]) (fun b ob hb q => (sb.2 b (fun z => hb (by simp [z]))).trans (hk b ob (fun z => hb (by simp [z])) (fun z => hb (by simp [z])) q)) hf (Nat.le_refl _) new
    refine ⟨.ref s.heap.objs.size, _, I1, rfl, ⟨_, x, rfl, I.hok.fresh (Nat.le_refl _), rfl, fun ys hy => by rw [I.tuple_inj hy hq]; exact hx⟩, ⟨⟨x', ?_⟩, hit'.at fun o q => (sb.2 it (Ne.symm n1)).trans q, n1, n2, n3⟩, fun b hb => ?_⟩
    · rw [show ((i + 1 : Nat) : Int) = (i : Int) + 1 by omega]; exact he'
    · have hb : b = e ∨ b = it := by simpa using hb
      rcases hb with rfl | rfl
      · rw [upd_ne (Nat.ne_of_lt hel)]; exact (hf _ (by simp)).1
      · rw [upd_ne (Nat.ne_of_lt hil)]; exact (hf _ (by simp)).1
  case done =>
    intro X hP hw hK hc i pins s σ H E I hf ⟨⟨old, he⟩, hit, n1, n2, n3⟩ ⟨xs, hq, hx⟩
    subst hP hw hK
    obtain ⟨its, rv, p, hz⟩ := I.tuple hq
    obtain ⟨f0, f1, f2, f3, f4, f5⟩ := hf it (by simp)
    have hl := rv.length
    have pT : s.heap.IsTuple a its.toArray := p
    exact wpAny_pyNext_enum_endD (et_last (prog := X.prog) (w := X.w) (A := X.A.in1) (I.ok.hd hc) it a i its.toArray (by simp; omega)) he ⟨hit, pT⟩ fun h' eb => ⟨rfl, I.turned (t' := s.toks) (fun b o hb q => eb b o hb q) f0 f1 f3 f4 f5⟩
  case self => exact fun A i s Q E st h => let ⟨⟨_, he⟩, _⟩ := st; wpAny_pyIter_enum he h
def iEnT (K : PySem.W.Frag) (ta : TA) : TI := fun σ H R => ta σ H fun vs H1 => ∃ (a : Addr) (xs : List V), vs = [.ref a] ∧ SqT K H1 a xs ∧ R (IteT K a) H1
theorem pi_enT {X : Cx} {e : Expr} {ta : TA} {p pos tpos : Pos} {elts : List Expr} {kk : Nat} (hg : Gl X "enumerate") (hm : X.mg "enumerate" = none) (ha : PA X [e] ta) (hs : starEach [e] X.env = [(false, eval e X.env)] := by rfl) :
    PI X (.Tuple elts kk tpos) (.Call (.Name "enumerate" p) [e] [] pos) (iEnT X.K ta) := by
  refine ⟨fun pins s σ H R I h => ?_⟩
  refine Call_ (ld_blt I hg hm boot_enumerate (PyProof.Rows.callWith_type1 (thn (ha.run pos pins s σ H _ I h) fun us s1 ⟨vs, H1, I1, r1, q1⟩ => ?_) hs rfl))
  obtain ⟨a, xs, rfl, hq, q⟩ := q1
  cases r1 with
  | cons r rr =>
    cases rr
    cases r
    obtain ⟨its, rv, pt, hz⟩ := I1.tuple hq
    obtain ⟨ot, hot, _⟩ := id pt
    refine et_call (show s1.heap.IsTuple a its.toArray from pt) fun g he hit hsz hk => wpAny_pyIter_enum he ?_
    have I2 : Inv X pins σ H1 { s1 with heap := g } := I1.kept (t' := s1.toks) hk
    have lt := Heap.lt_size hot
    refine ⟨s1.heap.objs.size + 1, [s1.heap.objs.size + 1, s1.heap.objs.size], _, _, H1, rfl, I2, et_turn a (s1.heap.objs.size + 1) s1.heap.objs.size, ⟨⟨.none, he⟩, hit, Nat.succ_ne_self _, Nat.ne_of_lt lt, Nat.ne_of_gt (Nat.lt_succ_of_lt lt)⟩, fun b hb => ?_, q⟩
    have hb : b = s1.heap.objs.size + 1 ∨ b = s1.heap.objs.size := by simpa using hb
    have le : s1.heap.objs.size ≤ b := by
      rcases hb with z | z
      · rw [z]; exact Nat.le_add_right _ _
      · rw [z]; exact Nat.le_refl _
    exact I1.fpOk le (I1.hok.fresh le)
section
variable {tp : Option (Addr × Addr)} {K : PySem.W.Frag} {H H' H'' H0 H1 He Hq : Hp} {σ : L2.St} {ρ : Ro}
def enD : List PyData → Nat → List PyData
  | [], _ => []
  | d :: ds, i => .tuple [.int (i : Nat), d] :: enD ds (i + 1)
theorem enD_len : ∀ (ds : List PyData) (i : Nat), (enD ds i).length = ds.length
  | [], _ => rfl
  | d :: ds, i => by rw [enD, List.length_cons, enD_len ds, List.length_cons]
theorem enD_get : ∀ (ds : List PyData) (i j : Nat) (e : PyData), (enD ds i)[j]? = some e → ∃ d, ds[j]? = some d ∧ e = .tuple [.int ((i + j : Nat) : Int), d]
  | [], _, j, e, h => by simp [enD] at h
  | d :: ds, i, 0, e, h => by
    rw [enD] at h
    exact ⟨d, rfl, (Option.some.inj h).symm⟩
  | d :: ds, i, j + 1, e, h => by
    rw [enD] at h
    obtain ⟨x, h1, h2⟩ := enD_get ds (i + 1) j e (by simpa using h)
    exact ⟨x, by simpa using h1, by rw [h2, show i + 1 + j = i + (j + 1) by omega]⟩
def enC : List C → M (List PyData)
  | [.val (.tuple ds)] => .ret (enD ds 0)
  | _ => .fail
def gEnT (gs : Ro → M (List C)) (ρ : Ro) : M (List PyData) := (gs ρ).bind enC
theorem gEnT_eq {gs : Ro → M (List C)} : gEnT gs ρ = (gs ρ).bind enC := (rfl)
theorem enC_t {ds : List PyData} : enC [.val (.tuple ds)] = .ret (enD ds 0) := (rfl)
theorem wk_enT {a : Addr} {vs : List V} {ds : List PyData} (h : SqT K H1 a vs) (hd : VlAll K H1 vs ds) : Wk K H1 (IteT K a) [] (enD ds 0) := by
  intro H' im kp
  have hs := im.sqT h
  have e1 := hd.imlf im ds _ rfl
  refine ⟨⟨vs, hs, by rw [hd.len, enD_len]; exact Nat.le_refl _⟩, fun i d e => ?_⟩
  obtain ⟨x, q1, rfl⟩ := enD_get ds 0 i d e
  obtain ⟨v, v1, v2⟩ := e1.get q1
  refine ⟨⟨vs, v, hs, v1⟩, fun z H'' yl => ?_⟩
  obtain ⟨T, x', rfl, hT, rfl, g1⟩ := yl
  have := g1 vs hs
  rw [v1] at this
  cases this
  have im2 : Im H' (upd H' T (.tup [.int (i : Nat), v])) := Im.new hT
  refine ⟨Same.new hT, .tup upd_same (.cons ?_ (.cons (v2.imlf im2 x _ rfl) .nil))⟩
  rw [Nat.zero_add]
  exact .int _
theorem ri_enT {ta : TA} {gs : Ro → M (List C)} {s : Bool} (h1 : RA K ta gs) : RI K s (iEnT K ta) (gEnT gs) := by
  intro tp He Hq ρ σ H Q r h
  refine h1 tp He Hq ρ σ H _ r (wp0_mono (fun c hc => ?_) (wp0_bind.mp h))
  intro vs H1 g1 t1 rx
  unfold enC at hc
  split at hc
  · rename_i ds
    obtain ⟨v, rfl, r1⟩ := rx.one
    obtain ⟨a, vs, rfl, q1, q2, _⟩ := r1.tup
    exact ⟨a, vs, rfl, q1, hc _ H1 [] g1 t1 rfl (wk_enT q1 q2) (fun _ m => by simp at m) (fun _ _ _ _ m => by simp at m)⟩
  · exact hc.elim
end
end Cs

set_option maxRecDepth 100000
set_option maxHeartbeats 1000000
/-! sides of labels: following what is forced is enough -/
namespace Cs
abbrev Ch := Nat × Bool
def ng (c : Ch) : Ch := (c.1, !c.2)
section
variable (Fre : Ch → Bool) (Ov : Ch → Ch → Bool) (A : List Nat)
/-- c forces d -/
def Fo (c d : Ch) : Bool := if c.1 = d.1 then (c.2 != d.2) && !Fre c else Ov c (ng d)
/-- σ places the labels of A -/
def Val (σ : Nat → Bool) : Prop := ∀ c d : Ch, c.1 ∈ A → d.1 ∈ A → c.2 = σ c.1 → Fo Fre Ov c d = true → d.2 = σ d.1
inductive Rch (S : List Ch) : Ch → Prop
  | base {c : Ch} : c ∈ S → Rch S c
  | step {b c : Ch} : Rch S b → Fo Fre Ov b c = true → c.1 ∈ A → Rch S c
def Con (S : List Ch) : Prop := ∀ c : Ch, Rch Fre Ov A S c → ¬ Rch Fre Ov A S (ng c)
end
section
variable {Fre : Ch → Bool} {Ov : Ch → Ch → Bool} {A : List Nat} {S : List Ch} {σ : Nat → Bool}
theorem ng_ng (c : Ch) : ng (ng c) = c := by unfold ng; simp
theorem ng_1 (c : Ch) : (ng c).1 = c.1 := rfl
theorem ch_eq (c d : Ch) (h : c.1 = d.1) : c = d ∨ c = ng d := by
  obtain ⟨i, s⟩ := c
  obtain ⟨j, t⟩ := d
  have h : i = j := h
  subst h
  cases s <;> cases t <;> simp [ng]
theorem fo_back (sym : ∀ c d, Ov c d = Ov d c) {c d : Ch} (h : Fo Fre Ov c d = true) : Fo Fre Ov (ng d) (ng c) = true := by
  unfold Fo at h ⊢
  by_cases e : c.1 = d.1
  · rw [if_pos e] at h
    rw [if_pos (show (ng d).1 = (ng c).1 from e.symm)]
    rcases ch_eq c d e with rfl | rfl
    · simp at h
    · rw [ng_ng] at *
      simp only [ng] at h ⊢
      simpa using h
  · rw [if_neg e] at h
    rw [if_neg (show ¬ (ng d).1 = (ng c).1 from fun z => e z.symm), ng_ng, sym]
    exact h
theorem rch_in (hS : ∀ c ∈ S, c.1 ∈ A) {c : Ch} (h : Rch Fre Ov A S c) : c.1 ∈ A := by
  induction h with
  | base h => exact hS _ h
  | step _ _ h _ => exact h
theorem rch_val (v : Val Fre Ov A σ) (hS : ∀ c ∈ S, c.1 ∈ A ∧ c.2 = σ c.1) {c : Ch} (h : Rch Fre Ov A S c) : c.1 ∈ A ∧ c.2 = σ c.1 := by
  induction h with
  | base h => exact hS _ h
  | step _ f m ih => exact ⟨m, v _ _ ih.1 m ih.2 f⟩
theorem con_of_val (v : Val Fre Ov A σ) (hS : ∀ c ∈ S, c.1 ∈ A ∧ c.2 = σ c.1) : Con Fre Ov A S := fun c h k => by
  have h1 := (rch_val v hS h).2
  have h2 := (rch_val v hS k).2
  have h2 : (!c.2) = σ c.1 := h2
  rw [← h1] at h2
  generalize c.2 = s at h2
  cases s <;> cases h2
open Classical in
theorem ext_of_con (sym : ∀ c d, Ov c d = Ov d c) (v : Val Fre Ov A σ) (hc : Con Fre Ov A S) : ∃ τ, Val Fre Ov A τ ∧ ∀ c, Rch Fre Ov A S c → c.2 = τ c.1 := by
  refine ⟨fun i => if Rch Fre Ov A S (i, true) then true else if Rch Fre Ov A S (i, false) then false else σ i, ?_, ?_⟩
  · intro c d hcA hdA hcs f
    by_cases hcR : Rch Fre Ov A S c
    · have hdR : Rch Fre Ov A S d := .step hcR f hdA
      obtain ⟨i, s⟩ := d
      cases s with
      | true => simp only; rw [if_pos hdR]
      | false =>
        simp only
        rw [if_neg (fun z => hc (i, true) z hdR), if_pos hdR]
    · have hcn : ¬ Rch Fre Ov A S (ng c) := by
        intro z
        obtain ⟨i, s⟩ := c
        cases s with
        | true =>
          simp only at hcs
          rw [if_neg hcR, if_pos (show Rch Fre Ov A S (i, false) from z)] at hcs
          cases hcs
        | false =>
          simp only at hcs
          rw [if_pos (show Rch Fre Ov A S (i, true) from z)] at hcs
          cases hcs
      have hcσ : c.2 = σ c.1 := by
        obtain ⟨i, s⟩ := c
        cases s with
        | true => simp only at hcs; rw [if_neg hcR, if_neg (show ¬ Rch Fre Ov A S (i, false) from hcn)] at hcs; exact hcs
        | false => simp only at hcs; rw [if_neg (show ¬ Rch Fre Ov A S (i, true) from hcn), if_neg hcR] at hcs; exact hcs
      have hdσ := v c d hcA hdA hcσ f
      have hdn : ¬ Rch Fre Ov A S (ng d) := fun z => hcn (.step z (fo_back sym f) hcA)
      obtain ⟨i, s⟩ := d
      cases s with
      | true =>
        simp only
        by_cases h1 : Rch Fre Ov A S (i, true)
        · rw [if_pos h1]
        · rw [if_neg h1, if_neg (show ¬ Rch Fre Ov A S (i, false) from hdn)]; exact hdσ
      | false =>
        simp only
        rw [if_neg (show ¬ Rch Fre Ov A S (i, true) from hdn)]
        by_cases h1 : Rch Fre Ov A S (i, false)
        · rw [if_pos h1]
        · rw [if_neg h1]; exact hdσ
  · intro c h
    obtain ⟨i, s⟩ := c
    cases s with
    | true => simp only; rw [if_pos h]
    | false => simp only; rw [if_neg (fun z => hc (i, true) z h), if_pos h]
/-- what is agreed upon and tells a side of each label places them -/
theorem val_of_con (hc : Con Fre Ov A S) (hS : ∀ i ∈ A, (i, σ i) ∈ S) : Val Fre Ov A σ := fun c d hcA hdA hcs f => by
  have h1 : Rch Fre Ov A S c := .base (by have := hS _ hcA; rw [← hcs] at this; exact this)
  have h2 : Rch Fre Ov A S d := .step h1 f hdA
  have h3 : Rch Fre Ov A S (d.1, σ d.1) := .base (hS _ hdA)
  rcases ch_eq (d.1, σ d.1) d rfl with e | e
  · rw [← e]
  · rw [e] at h3
    exact absurd h3 (hc _ h2)
/-! one label after the other -/
def gr (ag : List Ch → Bool) : List Nat → List Ch → Option (List Ch)
  | [], S => some S
  | n :: L, S => if ag (S ++ [(n, false)]) = true then gr ag L (S ++ [(n, false)]) else if ag (S ++ [(n, true)]) = true then gr ag L (S ++ [(n, true)]) else none
/-- the sides of σ along a row of labels -/
def along (σ : Nat → Bool) (L : List Nat) : List Ch := L.map fun n => (n, σ n)
/-- σ is the first of those that place the labels -/
def First (Fre : Ch → Bool) (Ov : Ch → Ch → Bool) (A : List Nat) (σ : Nat → Bool) : Prop :=
  Val Fre Ov A σ ∧ ∀ pre n suf, A = pre ++ n :: suf → σ n = true → ∀ τ, Val Fre Ov A τ → (∀ m ∈ pre, τ m = σ m) → τ n = true
theorem along_snoc {pre : List Nat} {n : Nat} {σ : Nat → Bool} : along σ (pre ++ [n]) = along σ pre ++ [(n, σ n)] := by unfold along; rw [List.map_append]; rfl
theorem along_mem {L : List Nat} {σ : Nat → Bool} {c : Ch} : c ∈ along σ L ↔ c.1 ∈ L ∧ c.2 = σ c.1 := by
  unfold along
  rw [List.mem_map]
  constructor
  · rintro ⟨n, hn, rfl⟩; exact ⟨hn, rfl⟩
  · rintro ⟨h1, h2⟩; exact ⟨c.1, h1, by obtain ⟨i, s⟩ := c; simp only at h2 ⊢; rw [h2]⟩
theorem along_cong {L : List Nat} {σ τ : Nat → Bool} (h : ∀ n ∈ L, σ n = τ n) : along σ L = along τ L := by
  unfold along
  exact List.map_congr_left fun n hn => by rw [h n hn]
theorem gr_some (sym : ∀ c d, Ov c d = Ov d c) {ag : List Ch → Bool} (hag : ∀ S, ag S = true ↔ Con Fre Ov A S) (nd : A.Nodup) : ∀ (L pre : List Nat) (σ : Nat → Bool), A = pre ++ L → Val Fre Ov A σ →
    (∀ p n q, pre = p ++ n :: q → σ n = true → ∀ τ, Val Fre Ov A τ → (∀ m ∈ p, τ m = σ m) → τ n = true) →
    ∃ τ, First Fre Ov A τ ∧ gr ag L (along σ pre) = some (along τ A)
  | [], pre, σ, e, v, lo => by
    rw [List.append_nil] at e
    subst e
    exact ⟨σ, ⟨v, lo⟩, rfl⟩
  | n :: L, pre, σ, e, v, lo => by
    have hn : n ∉ pre := by
      rw [e] at nd
      intro h
      exact (List.nodup_append.mp nd).2.2 n h n List.mem_cons_self rfl
    have hpA : ∀ m ∈ pre, m ∈ A := fun m hm => by rw [e]; exact List.mem_append_left _ hm
    have hnA : n ∈ A := by rw [e]; simp
    have e2 : A = (pre ++ [n]) ++ L := by rw [e, List.append_assoc]; rfl
    have go : ∀ (s : Bool) (τ : Nat → Bool), Val Fre Ov A τ → (∀ m ∈ pre, τ m = σ m) → τ n = s → (s = true → ∀ ρ, Val Fre Ov A ρ → (∀ m ∈ pre, ρ m = σ m) → ρ n = true) →
        ∃ υ, First Fre Ov A υ ∧ gr ag L (along σ pre ++ [(n, s)]) = some (along υ A) := by
      intro s τ vτ hp hs hl
      have := gr_some sym hag nd L (pre ++ [n]) τ e2 vτ fun p k q ek hk ρ vρ hρ => by
        rcases List.append_eq_append_iff.mp ek with ⟨as, h1, h2⟩ | ⟨bs, h1, h2⟩
        · cases as with
          | nil =>
            rw [List.append_nil] at h1
            subst h1
            have h3 : n = k := by rw [List.nil_append] at h2; exact (List.cons.inj h2).1
            subst h3
            exact hl (hs ▸ hk) ρ vρ fun m hm => (hρ m hm).trans (hp m hm)
          | cons a as =>
            have := congrArg List.length h2
            simp only [List.length_cons, List.length_nil, List.length_append] at this
            omega
        · cases bs with
          | nil =>
            rw [List.append_nil] at h1
            subst h1
            have h3 : k = n := by rw [List.nil_append] at h2; exact (List.cons.inj h2).1
            subst h3
            exact hl (hs ▸ hk) ρ vρ fun m hm => (hρ m hm).trans (hp m hm)
          | cons b bs =>
            rw [List.cons_append] at h2
            obtain ⟨h3, h4⟩ := List.cons.inj h2
            subst h3
            have hkp : k ∈ pre := by rw [h1]; simp
            exact lo p k bs h1 (by rw [← hp k hkp]; exact hk) ρ vρ fun m hm => (hρ m hm).trans (hp m (by rw [h1]; exact List.mem_append_left _ hm))
      rw [along_snoc, hs, along_cong hp] at this
      exact this
    unfold gr
    by_cases h0 : ag (along σ pre ++ [(n, false)]) = true
    · rw [if_pos h0]
      obtain ⟨τ, vτ, hτ⟩ := ext_of_con sym v ((hag _).mp h0)
      refine go false τ vτ (fun m hm => ?_) ?_ (fun z => by cases z)
      · exact (hτ (m, σ m) (.base (List.mem_append_left _ (along_mem.mpr ⟨hm, rfl⟩)))).symm
      · exact (hτ (n, false) (.base (List.mem_append_right _ (by simp)))).symm
    · rw [if_neg h0]
      have no : ∀ ρ, Val Fre Ov A ρ → (∀ m ∈ pre, ρ m = σ m) → ρ n = true := fun ρ vρ hρ => by
        cases hr : ρ n with
        | true => rfl
        | false =>
          exfalso
          refine h0 ((hag _).mpr (con_of_val vρ fun c hc => ?_))
          rcases List.mem_append.mp hc with h | h
          · obtain ⟨a, b⟩ := along_mem.mp h
            exact ⟨hpA _ a, by rw [b, hρ _ a]⟩
          · rw [List.mem_singleton.mp h]
            exact ⟨hnA, hr.symm⟩
      have h1 : ag (along σ pre ++ [(n, true)]) = true := (hag _).mpr (con_of_val v fun c hc => by
        rcases List.mem_append.mp hc with h | h
        · obtain ⟨a, b⟩ := along_mem.mp h
          exact ⟨hpA _ a, b⟩
        · rw [List.mem_singleton.mp h]
          exact ⟨hnA, (no σ v fun _ _ => rfl).symm⟩)
      rw [if_pos h1]
      exact go true σ v (fun _ _ => rfl) (no σ v fun _ _ => rfl) fun _ => no
theorem gr_none {ag : List Ch → Bool} (hag : ∀ S, ag S = true ↔ Con Fre Ov A S) (no : ∀ σ, ¬ Val Fre Ov A σ) : ∀ (L : List Nat) (S : List Ch), Con Fre Ov A S → (∀ i ∈ A, i ∈ L ∨ ∃ s, (i, s) ∈ S) → gr ag L S = none
  | [], S, hc, cov => by
    exfalso
    have hs : ∀ i, ∃ s, i ∈ A → (i, s) ∈ S := fun i => by
      by_cases hi : i ∈ A
      · rcases cov i hi with h | ⟨s, h⟩
        · cases h
        · exact ⟨s, fun _ => h⟩
      · exact ⟨false, fun z => absurd z hi⟩
    obtain ⟨σ, hσ⟩ := Classical.axiomOfChoice hs
    exact no σ (val_of_con hc fun i hi => hσ i hi)
  | n :: L, S, hc, cov => by
    have next : ∀ s, (∀ i ∈ A, i ∈ L ∨ ∃ t, (i, t) ∈ S ++ [(n, s)]) := fun s i hi => by
      rcases cov i hi with h | ⟨t, h⟩
      · rcases List.mem_cons.mp h with rfl | h
        · exact .inr ⟨s, by simp⟩
        · exact .inl h
      · exact .inr ⟨t, List.mem_append_left _ h⟩
    unfold gr
    by_cases h0 : ag (S ++ [(n, false)]) = true
    · rw [if_pos h0]
      exact gr_none hag no L _ ((hag _).mp h0) (next false)
    · rw [if_neg h0]
      by_cases h1 : ag (S ++ [(n, true)]) = true
      · rw [if_pos h1]
        exact gr_none hag no L _ ((hag _).mp h1) (next true)
      · rw [if_neg h1]
end
end Cs

set_option maxRecDepth 100000
set_option maxHeartbeats 1000000
/-! the rows of sides, one label after the other, in order -/
namespace Cs
section
variable (Fre : Ch → Bool) (Ov : Ch → Ch → Bool)
def okS (kept : List Nat) (row : List Bool) (n : Nat) (s : Bool) : Bool := Fre (n, s) && (kept.zip row).all fun c => !Ov (n, s) c
def longer (kept : List Nat) (rows : List (List Bool)) (n : Nat) : List (List Bool) := rows.flatMap fun row => ([false, true].filter fun s => okS Fre Ov kept row n s).map fun s => row ++ [s]
def rowsF : List Nat → List (List Bool) → List Nat → List (List Bool)
  | _, rows, [] => rows
  | kept, rows, n :: L => rowsF (kept ++ [n]) (longer Fre Ov kept rows n) L
/-- no two overlap, each is free -/
def VP (A : List Nat) (σ : Nat → Bool) : Prop := (∀ i ∈ A, Fre (i, σ i) = true) ∧ ∀ i ∈ A, ∀ j ∈ A, i ≠ j → Ov (i, σ i) (j, σ j) = false
end
section
variable {Fre : Ch → Bool} {Ov : Ch → Ch → Bool} {A : List Nat} {σ τ : Nat → Bool}
theorem val_vp (hA : True) : Val Fre Ov A σ ↔ VP Fre Ov A σ := by
  constructor
  · intro v
    refine ⟨fun i hi => ?_, fun i hi j hj hij => ?_⟩
    · cases h : Fre (i, σ i) with
      | true => rfl
      | false =>
        have := v (i, σ i) (i, !σ i) hi hi rfl (by unfold Fo; rw [if_pos rfl, h]; cases σ i <;> rfl)
        simp at this
    · cases h : Ov (i, σ i) (j, σ j) with
      | false => rfl
      | true =>
        have := v (i, σ i) (j, !σ j) hi hj rfl (by unfold Fo; rw [if_neg hij]; simp only [ng, Bool.not_not]; exact h)
        simp at this
  · rintro ⟨h1, h2⟩ c d hc hd hs f
    unfold Fo at f
    by_cases e : c.1 = d.1
    · rw [if_pos e] at f
      have := h1 c.1 hc
      rw [← hs] at this
      have this : Fre c = true := this
      rw [this] at f
      simp at f
    · rw [if_neg e] at f
      have := h2 c.1 hc d.1 hd e
      rw [← hs] at this
      have this : Ov c (d.1, σ d.1) = false := this
      rcases ch_eq (d.1, σ d.1) d rfl with z | z
      · rw [← z]
      · rw [z, f] at this; cases this
def lx : List Bool → List Bool → Prop
  | a :: as, b :: bs => (a = false ∧ b = true) ∨ (a = b ∧ lx as bs)
  | _, _ => False
theorem lx_asymm : ∀ {r s : List Bool}, lx r s → lx s r → False
  | a :: as, b :: bs, h, k => by
    rcases h with ⟨rfl, rfl⟩ | ⟨rfl, h⟩
    · rcases k with ⟨h, _⟩ | ⟨h, _⟩ <;> cases h
    · rcases k with ⟨h1, h2⟩ | ⟨_, k⟩
      · rw [h1] at h2; cases h2
      · exact lx_asymm h k
  | [], _, h, _ => h
  | _ :: _, [], h, _ => h
theorem lx_irr : ∀ {r : List Bool}, ¬ lx r r := fun h => lx_asymm h h
theorem lx_app : ∀ {r s x y : List Bool}, lx r s → lx (r ++ x) (s ++ y)
  | a :: as, b :: bs, x, y, h => by
    rcases h with h | ⟨h1, h2⟩
    · exact .inl h
    · exact .inr ⟨h1, lx_app h2⟩
  | [], _, _, _, h => h.elim
  | _ :: _, [], _, _, h => h.elim
theorem lx_same : ∀ {r s t : List Bool}, lx s t → lx (r ++ s) (r ++ t)
  | [], _, _, h => h
  | _ :: r, _, _, h => .inr ⟨rfl, lx_same (r := r) h⟩
theorem mem_longer {kept : List Nat} {rows : List (List Bool)} {n : Nat} {x : List Bool} : x ∈ longer Fre Ov kept rows n ↔ ∃ row ∈ rows, ∃ s, okS Fre Ov kept row n s = true ∧ x = row ++ [s] := by
  unfold longer
  rw [List.mem_flatMap]
  constructor
  · rintro ⟨row, hr, hx⟩
    obtain ⟨s, hs, rfl⟩ := List.mem_map.mp hx
    exact ⟨row, hr, s, (List.mem_filter.mp hs).2, rfl⟩
  · rintro ⟨row, hr, s, hs, rfl⟩
    exact ⟨row, hr, List.mem_map.mpr ⟨s, List.mem_filter.mpr ⟨by cases s <;> simp, hs⟩, rfl⟩⟩
theorem longer_sorted {kept : List Nat} {n : Nat} : ∀ {rows : List (List Bool)}, rows.Pairwise lx → (longer Fre Ov kept rows n).Pairwise lx
  | [], _ => by unfold longer; exact List.Pairwise.nil
  | r :: rs, h => by
    obtain ⟨h1, h2⟩ := List.pairwise_cons.mp h
    have e : longer Fre Ov kept (r :: rs) n = (([false, true].filter fun s => okS Fre Ov kept r n s).map fun s => r ++ [s]) ++ longer Fre Ov kept rs n := by unfold longer; rw [List.flatMap_cons]
    rw [e, List.pairwise_append]
    refine ⟨?_, longer_sorted h2, fun a ha b hb => ?_⟩
    · have : lx (r ++ [false]) (r ++ [true]) := lx_same (.inl ⟨rfl, rfl⟩)
      rw [List.filter_cons, List.filter_cons, List.filter_nil]
      split <;> split <;> simp [this]
    · obtain ⟨s, _, rfl⟩ := List.mem_map.mp ha
      obtain ⟨r', hr', t, _, rfl⟩ := mem_longer.mp hb
      exact lx_app (h1 r' hr')
theorem zip_along : ∀ (L : List Nat) (σ : Nat → Bool), L.zip (L.map σ) = along σ L
  | [], _ => rfl
  | n :: L, σ => by
    rw [List.map_cons, List.zip_cons_cons, zip_along L σ]
    rfl
theorem ok_vp (sym : ∀ c d, Ov c d = Ov d c) {pre : List Nat} {n : Nat} (hn : n ∉ pre) : VP Fre Ov (pre ++ [n]) σ ↔ VP Fre Ov pre σ ∧ okS Fre Ov pre (pre.map σ) n (σ n) = true := by
  unfold okS
  rw [zip_along, Bool.and_eq_true, List.all_eq_true]
  constructor
  · rintro ⟨h1, h2⟩
    refine ⟨⟨fun i hi => h1 i (List.mem_append_left _ hi), fun i hi j hj => h2 i (List.mem_append_left _ hi) j (List.mem_append_left _ hj)⟩, h1 n (by simp), fun c hc => ?_⟩
    obtain ⟨a, b⟩ := along_mem.mp hc
    have := h2 n (by simp) c.1 (List.mem_append_left _ a) (fun z => hn (z ▸ a))
    rw [← b] at this
    rw [show Ov (n, σ n) c = false from this]
    rfl
  · rintro ⟨⟨h1, h2⟩, h3, h4⟩
    have k : ∀ j ∈ pre, Ov (n, σ n) (j, σ j) = false := fun j hj => by
      have := h4 (j, σ j) (along_mem.mpr ⟨hj, rfl⟩)
      simpa using this
    refine ⟨fun i hi => ?_, fun i hi j hj hij => ?_⟩
    · rcases List.mem_append.mp hi with h | h
      · exact h1 i h
      · rw [List.mem_singleton.mp h]; exact h3
    · rcases List.mem_append.mp hi with h | h <;> rcases List.mem_append.mp hj with g | g
      · exact h2 i h j g hij
      · rw [List.mem_singleton.mp g, sym]; exact k i h
      · rw [List.mem_singleton.mp h]; exact k j g
      · exact absurd ((List.mem_singleton.mp h).trans (List.mem_singleton.mp g).symm) hij
/-- all rows, in order -/
structure All (Fre : Ch → Bool) (Ov : Ch → Ch → Bool) (A : List Nat) (rows : List (List Bool)) : Prop where
  snd : ∀ r ∈ rows, ∃ σ, VP Fre Ov A σ ∧ r = A.map σ
  cpl : ∀ σ, VP Fre Ov A σ → A.map σ ∈ rows
  srt : rows.Pairwise lx
theorem all_nil : All Fre Ov [] [[]] := ⟨fun r hr => ⟨fun _ => false, ⟨fun _ h => absurd h List.not_mem_nil, fun _ h => absurd h List.not_mem_nil⟩, by simpa using hr⟩, fun σ _ => by simp, List.pairwise_singleton _ _⟩
theorem all_longer (sym : ∀ c d, Ov c d = Ov d c) {pre : List Nat} {rows : List (List Bool)} {n : Nat} (hn : n ∉ pre) (h : All Fre Ov pre rows) : All Fre Ov (pre ++ [n]) (longer Fre Ov pre rows n) := by
  refine ⟨fun r hr => ?_, fun σ v => ?_, longer_sorted h.srt⟩
  · obtain ⟨row, hrow, s, hs, rfl⟩ := mem_longer.mp hr
    obtain ⟨σ, v, rfl⟩ := h.snd row hrow
    have e : pre.map (fun i => if i = n then s else σ i) = pre.map σ := List.map_congr_left fun i hi => if_neg fun z : i = n => hn (z ▸ hi)
    refine ⟨fun i => if i = n then s else σ i, (ok_vp sym hn).mpr ⟨?_, ?_⟩, ?_⟩
    · have c : ∀ i ∈ pre, (if i = n then s else σ i) = σ i := fun i hi => if_neg fun z : i = n => hn (z ▸ hi)
      refine ⟨fun i hi => ?_, fun i hi j hj => ?_⟩
      · show Fre (i, if i = n then s else σ i) = true
        rw [c i hi]; exact v.1 i hi
      · show i ≠ j → Ov (i, if i = n then s else σ i) (j, if j = n then s else σ j) = false
        rw [c i hi, c j hj]; exact v.2 i hi j hj
    · rw [e, if_pos rfl]; exact hs
    · rw [List.map_append, e]; simp
  · obtain ⟨v1, v2⟩ := (ok_vp sym hn).mp v
    rw [List.map_append]
    exact mem_longer.mpr ⟨_, h.cpl σ v1, σ n, v2, rfl⟩
theorem all_rows (sym : ∀ c d, Ov c d = Ov d c) : ∀ (L pre : List Nat) (rows : List (List Bool)), (pre ++ L).Nodup → All Fre Ov pre rows → All Fre Ov (pre ++ L) (rowsF Fre Ov pre rows L)
  | [], pre, rows, _, h => by rw [List.append_nil]; exact h
  | n :: L, pre, rows, nd, h => by
    have hn : n ∉ pre := fun z => (List.nodup_append.mp nd).2.2 n z n List.mem_cons_self rfl
    have e : pre ++ n :: L = (pre ++ [n]) ++ L := by rw [List.append_assoc]; rfl
    rw [e] at nd ⊢
    exact all_rows sym L (pre ++ [n]) _ nd (all_longer sym hn h)
theorem lx_map {pre suf : List Nat} {n : Nat} (h : ∀ m ∈ pre, τ m = σ m) (h1 : τ n = false) (h2 : σ n = true) : lx ((pre ++ n :: suf).map τ) ((pre ++ n :: suf).map σ) := by
  rw [List.map_append, List.map_append, List.map_congr_left h]
  refine lx_same ?_
  rw [List.map_cons, List.map_cons, h1, h2]
  exact .inl ⟨rfl, rfl⟩
theorem first_head {rows : List (List Bool)} (h : All Fre Ov A rows) {r : List Bool} {rs : List (List Bool)} (e : rows = r :: rs) : ∃ σ, First Fre Ov A σ ∧ r = A.map σ := by
  obtain ⟨σ, v, er⟩ := h.snd r (by rw [e]; simp)
  refine ⟨σ, ⟨(val_vp trivial).mpr v, fun pre n suf eA hs τ vτ hτ => ?_⟩, er⟩
  cases ht : τ n with
  | true => rfl
  | false =>
    exfalso
    have hl : lx (A.map τ) (A.map σ) := by rw [eA]; exact lx_map hτ ht hs
    have hm := h.cpl τ ((val_vp trivial).mp vτ)
    have hp := h.srt
    rw [e] at hm hp
    rcases List.mem_cons.mp hm with z | z
    · rw [z, er] at hl; exact lx_irr hl
    · have := (List.pairwise_cons.mp hp).1 _ z
      rw [er] at this
      exact lx_asymm this hl
theorem first_one (h : First Fre Ov A σ) (k : First Fre Ov A τ) : A.map σ = A.map τ := by
  have key : ∀ (suf pre : List Nat), A = pre ++ suf → (∀ m ∈ pre, σ m = τ m) → ∀ m ∈ A, σ m = τ m := by
    intro suf
    induction suf with
    | nil => intro pre e hp m hm; rw [List.append_nil] at e; exact hp m (e ▸ hm)
    | cons n suf ih =>
      intro pre e hp
      refine ih (pre ++ [n]) (by rw [e, List.append_assoc]; rfl) fun m hm => ?_
      rcases List.mem_append.mp hm with g | g
      · exact hp m g
      · rw [List.mem_singleton.mp g]
        cases hs : σ n with
        | true => exact (h.2 pre n suf e hs τ k.1 fun m hm => (hp m hm).symm).symm
        | false =>
          cases ht : τ n with
          | false => rfl
          | true => have := k.2 pre n suf e ht σ h.1 hp; rw [hs] at this; cases this
  exact List.map_congr_left (key A [] rfl fun _ z => absurd z List.not_mem_nil)
/-- what is placed one after the other is the first row -/
theorem gr_rows (sym : ∀ c d, Ov c d = Ov d c) {ag : List Ch → Bool} (hag : ∀ S, ag S = true ↔ Con Fre Ov A S) (nd : A.Nodup) : (gr ag A []).map (fun S => S.map (·.2)) = (rowsF Fre Ov [] [[]] A).head? := by
  have hr := all_rows (Fre := Fre) sym A [] [[]] nd all_nil
  rw [List.nil_append] at hr
  generalize rowsF Fre Ov [] [[]] A = rows at *
  cases e : rows with
  | nil =>
    have no : ∀ σ, ¬ Val Fre Ov A σ := fun σ v => by
      have := hr.cpl σ ((val_vp trivial).mp v)
      rw [e] at this
      exact absurd this List.not_mem_nil
    have c0 : Con Fre Ov A [] := fun c h => by
      have hh : ∀ d, ¬ Rch Fre Ov A [] d := fun d z => by
        induction z with
        | base z => exact absurd z List.not_mem_nil
        | step _ _ _ ih => exact ih
      exact absurd h (hh c)
    rw [gr_none hag no A [] c0 fun i hi => .inl hi]
    rfl
  | cons r rs =>
    obtain ⟨σ, f, er⟩ := first_head hr e
    obtain ⟨τ, g, eg⟩ := gr_some sym hag nd A [] σ rfl f.1 (fun p n q z => by cases p <;> cases z)
    have eg : gr ag A [] = some (along τ A) := eg
    rw [eg, Option.map_some, List.head?_cons, er, first_one f g]
    unfold along
    rw [List.map_map]
    rfl
end
end Cs

set_option maxRecDepth 100000
set_option maxHeartbeats 1000000
/-! ways from choice to choice, the first of the shortest -/
namespace Cs
/-- c stands before d -/
def clt (c d : Ch) : Prop := c.1 < d.1 ∨ (c.1 = d.1 ∧ c.2 = false ∧ d.2 = true)
theorem clt_asymm {c d : Ch} (h : clt c d) (k : clt d c) : False := by
  rcases h with h | ⟨h1, h2, h3⟩ <;> rcases k with k | ⟨k1, k2, k3⟩
  · omega
  · omega
  · omega
  · rw [h2] at k3; cases k3
theorem clt_irr {c : Ch} (h : clt c c) : False := clt_asymm h h
theorem clt_tri (c d : Ch) : clt c d ∨ c = d ∨ clt d c := by
  obtain ⟨i, s⟩ := c
  obtain ⟨j, t⟩ := d
  rcases Nat.lt_trichotomy i j with h | rfl | h
  · exact .inl (.inl h)
  · cases s <;> cases t
    · exact .inr (.inl rfl)
    · exact .inl (.inr ⟨rfl, rfl, rfl⟩)
    · exact .inr (.inr (.inr ⟨rfl, rfl, rfl⟩))
    · exact .inr (.inl rfl)
  · exact .inr (.inr (.inl h))
/-- place by place -/
def lxc : List Ch → List Ch → Prop
  | a :: as, b :: bs => clt a b ∨ (a = b ∧ lxc as bs)
  | _, _ => False
theorem lxc_asymm : ∀ {v w : List Ch}, lxc v w → lxc w v → False
  | a :: v, b :: w, h, k => by
    rcases h with h | ⟨rfl, h⟩
    · rcases k with k | ⟨rfl, k⟩
      · exact clt_asymm h k
      · exact clt_irr h
    · rcases k with k | ⟨_, k⟩
      · exact clt_irr k
      · exact lxc_asymm h k
  | [], _, h, _ => h
  | _ :: _, [], h, _ => h
theorem clt_trans {c d e : Ch} (h : clt c d) (k : clt d e) : clt c e := by
  rcases h with h | ⟨h1, h2, h3⟩ <;> rcases k with k | ⟨k1, k2, k3⟩
  · exact .inl (by omega)
  · exact .inl (by omega)
  · exact .inl (by omega)
  · rw [h3] at k2; cases k2
theorem lxc_trans : ∀ {u v w : List Ch}, lxc u v → lxc v w → lxc u w
  | a :: u, b :: v, c :: w, h, k => by
    rcases h with h | ⟨rfl, h⟩
    · rcases k with k | ⟨rfl, k⟩
      · exact .inl (clt_trans h k)
      · exact .inl h
    · rcases k with k | ⟨rfl, k⟩
      · exact .inl k
      · exact .inr ⟨rfl, lxc_trans h k⟩
  | [], _, _, h, _ => h.elim
  | _ :: _, [], _, h, _ => h.elim
  | _ :: _, _ :: _, [], _, k => k.elim
theorem lxc_app : ∀ {v w x y : List Ch}, lxc v w → lxc (v ++ x) (w ++ y)
  | a :: v, b :: w, x, y, h => by
    rcases h with h | ⟨h1, h2⟩
    · exact .inl h
    · exact .inr ⟨h1, lxc_app h2⟩
  | [], _, _, _, h => h.elim
  | _ :: _, [], _, _, h => h.elim
theorem lxc_same : ∀ {v x y : List Ch}, lxc x y → lxc (v ++ x) (v ++ y)
  | [], _, _, h => h
  | _ :: v, _, _, h => .inr ⟨rfl, lxc_same (v := v) h⟩
section
variable (F : Ch → Ch → Bool) (cs : List Ch)
/-- w leads from c to d, each choice forcing the next -/
inductive Way : Ch → Ch → List Ch → Prop
  | one (c : Ch) : Way c c [c]
  | cons {c x d : Ch} {w : List Ch} : F c x = true → x ∈ cs → Way x d w → Way c d (c :: w)
/-- the first of the shortest -/
structure FirstWay (c d : Ch) (w : List Ch) : Prop where
  way : Way F cs c d w
  short : ∀ v, Way F cs c d v → w.length ≤ v.length
  first : ∀ v, Way F cs c d v → v.length = w.length → v = w ∨ lxc w v
/-- n steps lead from c to d, and no fewer -/
def Dist (c d : Ch) (n : Nat) : Prop := (∃ w, Way F cs c d w ∧ w.length = n + 1) ∧ ∀ w, Way F cs c d w → n + 1 ≤ w.length
/-- from c to g step by step, each time to the first choice that is one step nearer -/
inductive Stp (g : Ch) : Nat → Ch → List Ch → Prop
  | zero : Stp g 0 g [g]
  | succ {n : Nat} {c x : Ch} {w : List Ch} : F c x = true → x ∈ cs → Dist F cs x g n → (∀ y ∈ cs, F c y = true → Dist F cs y g n → y = x ∨ clt x y) → Stp g n x w → Stp g (n + 1) c (c :: w)
end
section
variable {F : Ch → Ch → Bool} {cs : List Ch}
theorem Way.pos {c d : Ch} {w : List Ch} (h : Way F cs c d w) : 1 ≤ w.length := by cases h <;> simp
theorem Way.head {c d : Ch} {w : List Ch} (h : Way F cs c d w) : ∃ t, w = c :: t := by
  cases h with
  | one => exact ⟨[], rfl⟩
  | cons _ _ _ => exact ⟨_, rfl⟩
theorem Way.snoc {c d e : Ch} {w : List Ch} (h : Way F cs c d w) (f : F d e = true) (he : e ∈ cs) : Way F cs c e (w ++ [e]) := by
  induction h with
  | one c => exact .cons f he (.one e)
  | cons h1 h2 _ ih => exact .cons h1 h2 (ih f)
theorem Way.last {c d : Ch} {w : List Ch} (h : Way F cs c d w) : (w = [c] ∧ c = d) ∨ ∃ p v, Way F cs c p v ∧ F p d = true ∧ d ∈ cs ∧ w = v ++ [d] := by
  induction h with
  | one c => exact .inl ⟨rfl, rfl⟩
  | @cons c x d w f hx h ih =>
    rcases ih with ⟨rfl, rfl⟩ | ⟨p, v, h1, h2, h3, rfl⟩
    · exact .inr ⟨c, [c], .one c, f, hx, rfl⟩
    · exact .inr ⟨p, c :: v, .cons f hx h1, h2, h3, rfl⟩
theorem FirstWay.uniq {c d : Ch} {v w : List Ch} (h : FirstWay F cs c d v) (k : FirstWay F cs c d w) : v = w := by
  have e : v.length = w.length := Nat.le_antisymm (h.short w k.way) (k.short v h.way)
  rcases k.first v h.way e with z | z
  · exact z
  · rcases h.first w k.way e.symm with y | y
    · exact y.symm
    · exact absurd z (fun z => lxc_asymm z y)
theorem FirstWay.dist {c d : Ch} {w : List Ch} (h : FirstWay F cs c d w) : Dist F cs c d (w.length - 1) := by
  have := h.way.pos
  exact ⟨⟨w, h.way, by omega⟩, fun v hv => by have := h.short v hv; omega⟩
theorem Dist.uniq {c d : Ch} {n m : Nat} (h : Dist F cs c d n) (k : Dist F cs c d m) : n = m := by
  obtain ⟨⟨w, h1, h2⟩, h3⟩ := h
  obtain ⟨⟨v, k1, k2⟩, k3⟩ := k
  have := h3 v k1
  have := k3 w h1
  omega
theorem Stp.first {g : Ch} {n : Nat} {c : Ch} {w : List Ch} (h : Stp F cs g n c w) (hd : Dist F cs c g n) : FirstWay F cs c g w ∧ w.length = n + 1 := by
  induction h with
  | zero =>
    refine ⟨⟨.one g, fun v hv => hv.pos, fun v hv e => ?_⟩, rfl⟩
    obtain ⟨t, rfl⟩ := hv.head
    cases t with
    | nil => exact .inl rfl
    | cons _ _ => simp at e
  | @succ n c x w f hx dx best gr ih =>
    obtain ⟨ih, wl⟩ := ih dx
    refine ⟨⟨.cons f hx ih.way, fun v hv => ?_, fun v hv e => ?_⟩, by rw [List.length_cons, wl]⟩
    · rw [List.length_cons, wl]
      exact hd.2 v hv
    · rw [List.length_cons, wl] at e
      cases hv with
      | one => simp at e
      | @cons _ y _ v f2 hy hv =>
        have e : v.length = n + 1 := by simpa using e
        have dy : Dist F cs y g n := ⟨⟨v, hv, e⟩, fun u hu => by have := hd.2 (c :: u) (.cons f2 hy hu); rw [List.length_cons] at this; omega⟩
        rcases best y hy f2 dy with rfl | z
        · rcases ih.first v hv (by rw [e, wl]) with rfl | z
          · exact .inl rfl
          · exact .inr (.inr ⟨rfl, z⟩)
        · obtain ⟨t1, rfl⟩ := ih.way.head
          obtain ⟨t2, rfl⟩ := hv.head
          exact .inr (.inr ⟨rfl, .inl z⟩)
/-- what follows a first way's end: the parent's way and the place -/
theorem FirstWay.step {s p d : Ch} {v : List Ch} (h : FirstWay F cs s p v) (f : F p d = true) (hd : d ∈ cs) (far : ∀ w, Way F cs s d w → v.length + 1 ≤ w.length)
    (best : ∀ q u, FirstWay F cs s q u → u.length = v.length → F q d = true → u = v ∨ lxc v u) (all : ∀ q w, Way F cs s q w → w.length = v.length → F q d = true → ∃ u, FirstWay F cs s q u ∧ u.length = w.length) : FirstWay F cs s d (v ++ [d]) := by
  refine ⟨h.way.snoc f hd, fun w hw => by rw [List.length_append]; exact far w hw, fun w hw e => ?_⟩
  rw [List.length_append, List.length_singleton] at e
  rcases hw.last with ⟨rfl, rfl⟩ | ⟨q, w', h1, h2, h3, rfl⟩
  · have := h.way.pos
    rw [List.length_singleton] at e
    omega
  · have e' : w'.length = v.length := by simpa using e
    obtain ⟨u, hu, lu⟩ := all q w' h1 e' h2
    have k := best q u hu (lu.trans e') h2
    rcases hu.first w' h1 lu.symm with rfl | z
    · rcases k with rfl | y
      · exact .inl rfl
      · exact .inr (lxc_app y)
    · refine .inr ?_
      rcases k with rfl | y
      · exact lxc_app z
      · exact lxc_app (lxc_trans y z)
end
end Cs

set_option maxRecDepth 100000
set_option maxHeartbeats 1000000
/-! one level after the other: each thing gets its first way -/
namespace Cs
section
variable (F : Ch → Ch → Bool) (cs : List Ch) (s : Ch)
/-- old: done with; dn, rs: this level's choices, done and to do; fo: the next level's so far -/
structure BInv (n : Nat) (m : List (Ch × List Ch)) (old dn rs fo : List Ch) : Prop where
  keys : ∀ c, c ∈ m.map (·.1) ↔ c ∈ old ∨ c ∈ dn ∨ c ∈ rs ∨ c ∈ fo
  nd : (m.map (·.1)).Nodup
  fw : ∀ e ∈ m, FirstWay F cs s e.1 e.2
  oldl : ∀ e ∈ m, e.1 ∈ old → e.2.length ≤ n
  lev : ∀ e ∈ m, e.1 ∈ dn ∨ e.1 ∈ rs → e.2.length = n + 1
  nxt : ∀ e ∈ m, e.1 ∈ fo → e.2.length = n + 2
  cpl : ∀ c w, Way F cs s c w → w.length ≤ n + 1 → c ∈ old ∨ c ∈ dn ∨ c ∈ rs
  cld : ∀ p, p ∈ old ∨ p ∈ dn → ∀ d ∈ cs, F p d = true → d ∈ m.map (·.1)
  srt : (dn ++ rs).Pairwise fun a b => ∀ u v, (a, u) ∈ m → (b, v) ∈ m → lxc u v
  srf : fo.Pairwise fun a b => ∀ u v, (a, u) ∈ m → (b, v) ∈ m → lxc u v
end
section
variable {F : Ch → Ch → Bool} {cs : List Ch} {s : Ch} {n : Nat} {m : List (Ch × List Ch)} {old dn rs fo : List Ch}
theorem mem_key {m : List (Ch × List Ch)} {e : Ch × List Ch} (h : e ∈ m) : e.1 ∈ m.map (·.1) := List.mem_map.mpr ⟨e, h, rfl⟩
theorem uniq_val (nd : (m.map (·.1)).Nodup) {c : Ch} {u v : List Ch} (h : (c, u) ∈ m) (k : (c, v) ∈ m) : u = v := by
  induction m with
  | nil => cases h
  | cons e m ih =>
    obtain ⟨h1, h2⟩ := List.nodup_cons.mp nd
    rcases List.mem_cons.mp h with z | h'
    · rcases List.mem_cons.mp k with y | k'
      · exact (Prod.mk.inj (z.trans y.symm)).2
      · exact absurd (mem_key (m := m) k') (by rw [← z] at h1; exact h1)
    · rcases List.mem_cons.mp k with y | k'
      · exact absurd (mem_key (m := m) h') (by rw [← y] at h1; exact h1)
      · exact ih h2 h' k'
/-- the turn of c, whose chain is v: ds is what it forces and is to be looked at -/
structure BTurn (F : Ch → Ch → Bool) (cs : List Ch) (s : Ch) (n : Nat) (m : List (Ch × List Ch)) (old dn : List Ch) (c : Ch) (v : List Ch) (rs fo ds : List Ch) : Prop where
  base : BInv F cs s n m old dn (c :: rs) fo
  cv : (c, v) ∈ m
  todo : ∀ d ∈ cs, F c d = true → d ∈ m.map (·.1) ∨ d ∈ ds
  okd : ∀ d ∈ ds, d ∈ cs ∧ F c d = true
  sds : ds.Pairwise clt
  par : ∀ e ∈ m, e.1 ∈ fo → ∃ u, e.2 = u ++ [e.1] ∧ (lxc u v ∨ (u = v ∧ ∀ d ∈ ds, clt e.1 d))
theorem BTurn.skip {c d : Ch} {v : List Ch} {ds : List Ch} (h : BTurn F cs s n m old dn c v rs fo (d :: ds)) (hd : d ∈ m.map (·.1)) : BTurn F cs s n m old dn c v rs fo ds :=
  ⟨h.base, h.cv, fun x hx f => by
    rcases h.todo x hx f with z | z
    · exact .inl z
    · rcases List.mem_cons.mp z with rfl | z
      · exact .inl hd
      · exact .inr z, fun x hx => h.okd x (List.mem_cons_of_mem _ hx), (List.pairwise_cons.mp h.sds).2, fun e he ef => by
    obtain ⟨u, e1, e2⟩ := h.par e he ef
    exact ⟨u, e1, e2.imp id fun z => ⟨z.1, fun x hx => z.2 x (List.mem_cons_of_mem _ hx)⟩⟩⟩
theorem BTurn.put {c d : Ch} {v : List Ch} {ds : List Ch} (h : BTurn F cs s n m old dn c v rs fo (d :: ds)) (hd : d ∉ m.map (·.1)) : BTurn F cs s n (m ++ [(d, v ++ [d])]) old dn c v rs (fo ++ [d]) ds := by
  obtain ⟨hcs, f⟩ := h.okd d List.mem_cons_self
  have hv : v.length = n + 1 := h.base.lev (c, v) h.cv (.inr List.mem_cons_self)
  have no : ∀ w, Way F cs s d w → n + 2 ≤ w.length := fun w hw => by
    refine Nat.lt_of_not_le fun z => hd ((h.base.keys d).mpr ?_)
    rcases h.base.cpl d w hw (by omega) with z | z | z
    · exact .inl z
    · exact .inr (.inl z)
    · exact .inr (.inr (.inl z))
  have keep : ∀ {x : Ch} {u : List Ch}, x ∈ m.map (·.1) → (x, u) ∈ m ++ [(d, v ++ [d])] → (x, u) ∈ m := fun {x u} hx hm => by
    rcases List.mem_append.mp hm with z | z
    · exact z
    · cases List.mem_singleton.mp z; exact absurd hx hd
  have fwd : FirstWay F cs s d (v ++ [d]) := by
    refine FirstWay.step (h.base.fw _ h.cv) f hcs (fun w hw => by rw [hv]; exact no w hw) (fun q u hu lu fq => ?_) (fun q w hw lw fq => ?_)
    · have hq := h.base.cpl q u hu.way (by omega)
      have hk : q ∈ m.map (·.1) := (h.base.keys q).mpr (by rcases hq with z | z | z; exact .inl z; exact .inr (.inl z); exact .inr (.inr (.inl z)))
      obtain ⟨e, he, eq⟩ := List.mem_map.mp hk
      obtain ⟨q', u'⟩ := e
      have eq : q' = q := eq
      subst eq
      have : u' = u := (h.base.fw _ he).uniq hu
      subst this
      rcases hq with z | z | z
      · exact absurd (h.base.cld q' (.inl z) d hcs fq) hd
      · exact absurd (h.base.cld q' (.inr z) d hcs fq) hd
      · rcases List.mem_cons.mp z with rfl | z
        · exact .inl (uniq_val h.base.nd he h.cv)
        · have := (List.pairwise_append.mp h.base.srt).2.1
          exact .inr ((List.pairwise_cons.mp this).1 q' z v u' h.cv he)
    · have hq := h.base.cpl q w hw (by omega)
      have hk : q ∈ m.map (·.1) := (h.base.keys q).mpr (by rcases hq with z | z | z; exact .inl z; exact .inr (.inl z); exact .inr (.inr (.inl z)))
      obtain ⟨e, he, eq⟩ := List.mem_map.mp hk
      obtain ⟨q', u⟩ := e
      have eq : q' = q := eq
      subst eq
      have hu := h.base.fw _ he
      have l1 := hu.short w hw
      have l2 := no _ (hu.way.snoc fq hcs)
      rw [List.length_append, List.length_singleton] at l2
      exact ⟨u, hu, by show u.length = w.length; have : u.length ≤ w.length := l1; have : n + 2 ≤ u.length + 1 := l2; omega⟩
  have keys : ∀ x, x ∈ (m ++ [(d, v ++ [d])]).map (·.1) ↔ x ∈ m.map (·.1) ∨ x = d := fun x => by rw [List.map_append, List.mem_append]; simp
  have notd : ∀ x, x ∈ m.map (·.1) → x ≠ d := fun x hx e => hd (e ▸ hx)
  have inm : ∀ x, (x ∈ old ∨ x ∈ dn ∨ x ∈ c :: rs ∨ x ∈ fo) → x ∈ m.map (·.1) := fun x hx => (h.base.keys x).mpr hx
  have low : ∀ e ∈ m ++ [(d, v ++ [d])], e.1 ∈ m.map (·.1) → e ∈ m := fun e he hk => keep (x := e.1) (u := e.2) hk he
  refine ⟨⟨fun x => ?_, ?_, fun e he => ?_, fun e he ho => ?_, fun e he ho => ?_, fun e he ho => ?_, h.base.cpl, fun p hp x hx fx => (keys x).mpr (.inl (h.base.cld p hp x hx fx)), ?_, ?_⟩, List.mem_append_left _ h.cv, fun x hx fx => ?_, fun x hx => h.okd x (List.mem_cons_of_mem _ hx), (List.pairwise_cons.mp h.sds).2, fun e he ef => ?_⟩
  · rw [keys, h.base.keys, List.mem_append, List.mem_singleton]
    constructor
    · rintro ((z | z | z | z) | z)
      · exact .inl z
      · exact .inr (.inl z)
      · exact .inr (.inr (.inl z))
      · exact .inr (.inr (.inr (.inl z)))
      · exact .inr (.inr (.inr (.inr z)))
    · rintro (z | z | z | z | z)
      · exact .inl (.inl z)
      · exact .inl (.inr (.inl z))
      · exact .inl (.inr (.inr (.inl z)))
      · exact .inl (.inr (.inr (.inr z)))
      · exact .inr z
  · rw [List.map_append]
    refine List.nodup_append.mpr ⟨h.base.nd, by simp, fun a ha b hb e => ?_⟩
    have hb : b = d := by simpa using hb
    rw [e, hb] at ha
    exact hd ha
  · rcases List.mem_append.mp he with z | z
    · exact h.base.fw e z
    · rw [List.mem_singleton.mp z]; exact fwd
  · exact h.base.oldl e (low e he (inm _ (.inl ho))) ho
  · exact h.base.lev e (low e he (inm _ (by rcases ho with z | z; exact .inr (.inl z); exact .inr (.inr (.inl z))))) ho
  · rcases List.mem_append.mp he with z | z
    · refine h.base.nxt e z ?_
      rcases List.mem_append.mp ho with y | y
      · exact y
      · exact absurd (mem_key z) (by rw [List.mem_singleton.mp y]; exact hd)
    · rw [List.mem_singleton.mp z, List.length_append, hv]; rfl
  · refine h.base.srt.imp_of_mem fun {a b} ha hb q u w hu hw => ?_
    have ma : ∀ x, x ∈ dn ++ c :: rs → x ∈ m.map (·.1) := fun x hx => inm x (by rcases List.mem_append.mp hx with z | z; exact .inr (.inl z); exact .inr (.inr (.inl z)))
    exact q u w (keep (ma a ha) hu) (keep (ma b hb) hw)
  · refine List.pairwise_append.mpr ⟨h.base.srf.imp_of_mem fun {a b} ha hb q u w hu hw => q u w (keep (inm a (.inr (.inr (.inr ha)))) hu) (keep (inm b (.inr (.inr (.inr hb)))) hw), List.pairwise_singleton _ _, fun a ha b hb u w hu hw => ?_⟩
    have hb : b = d := by simpa using hb
    subst hb
    have hw : w = v ++ [b] := by
      rcases List.mem_append.mp hw with z | z
      · exact absurd (mem_key z) hd
      · cases List.mem_singleton.mp z; rfl
    have hu := keep (inm a (.inr (.inr (.inr ha)))) hu
    obtain ⟨u', e1, e2⟩ := h.par (a, u) hu ha
    have e1 : u = u' ++ [a] := e1
    rw [hw, e1]
    rcases e2 with z | ⟨rfl, z⟩
    · exact lxc_app z
    · exact lxc_same (.inl (z b List.mem_cons_self))
  · rcases h.todo x hx fx with z | z
    · exact .inl ((keys x).mpr (.inl z))
    · rcases List.mem_cons.mp z with rfl | z
      · exact .inl ((keys _).mpr (.inr rfl))
      · exact .inr z
  · rcases List.mem_append.mp he with z | z
    · have ef : e.1 ∈ fo := by
        rcases List.mem_append.mp ef with y | y
        · exact y
        · exact absurd (mem_key z) (by rw [List.mem_singleton.mp y]; exact hd)
      obtain ⟨u, e1, e2⟩ := h.par e z ef
      exact ⟨u, e1, e2.imp id fun y => ⟨y.1, fun x hx => y.2 x (List.mem_cons_of_mem _ hx)⟩⟩
    · rw [List.mem_singleton.mp z]
      exact ⟨v, rfl, .inr ⟨rfl, (List.pairwise_cons.mp h.sds).1⟩⟩
/-- c is done with -/
theorem BTurn.done {c : Ch} {v : List Ch} (h : BTurn F cs s n m old dn c v rs fo []) : BInv F cs s n m old (dn ++ [c]) rs fo := by
  have perm : ∀ x, (x ∈ dn ++ [c] ∨ x ∈ rs) ↔ (x ∈ dn ∨ x ∈ c :: rs) := fun x => by
    simp only [List.mem_append, List.mem_cons, List.not_mem_nil, or_false, or_assoc]
  refine ⟨fun x => ?_, h.base.nd, h.base.fw, h.base.oldl, fun e he ho => h.base.lev e he ((perm _).mp ho), h.base.nxt, fun x w hw l => ?_, fun p hp d hd f => ?_, (by rw [List.append_assoc]; exact h.base.srt), h.base.srf⟩
  · rw [h.base.keys]
    constructor
    · rintro (z | z | z | z)
      · exact .inl z
      · exact .inr ((perm x).mpr (.inl z) |>.elim .inl fun y => .inr (.inl y))
      · exact .inr ((perm x).mpr (.inr z) |>.elim .inl fun y => .inr (.inl y))
      · exact .inr (.inr (.inr z))
    · rintro (z | z | z | z)
      · exact .inl z
      · exact .inr ((perm x).mp (.inl z) |>.elim .inl fun y => .inr (.inl y))
      · exact .inr ((perm x).mp (.inr z) |>.elim .inl fun y => .inr (.inl y))
      · exact .inr (.inr (.inr z))
  · rcases h.base.cpl x w hw l with z | z | z
    · exact .inl z
    · exact .inr ((perm x).mpr (.inl z))
    · exact .inr ((perm x).mpr (.inr z))
  · rcases hp with z | z
    · exact h.base.cld p (.inl z) d hd f
    · rcases List.mem_append.mp z with z | z
      · exact h.base.cld p (.inr z) d hd f
      · have := List.mem_singleton.mp z
        subst this
        rcases h.todo d hd f with y | y
        · exact y
        · cases y
/-- the next level -/
theorem BInv.level (h : BInv F cs s n m old dn [] fo) : BInv F cs s (n + 1) m (old ++ dn) [] fo [] := by
  refine ⟨fun x => ?_, h.nd, h.fw, fun e he ho => ?_, fun e he ho => ?_, fun e he ho => (by cases ho), fun x w hw l => ?_, fun p hp d hd f => ?_, (by rw [List.nil_append]; exact h.srf), List.Pairwise.nil⟩
  · rw [h.keys]
    simp only [List.mem_append, List.not_mem_nil, false_or, or_false, or_assoc]
  · rcases List.mem_append.mp ho with z | z
    · have := h.oldl e he z; omega
    · have := h.lev e he (.inl z); omega
  · rcases ho with z | z
    · cases z
    · exact h.nxt e he z
  · by_cases hl : w.length ≤ n + 1
    · rcases h.cpl x w hw hl with z | z | z
      · exact .inl (List.mem_append_left _ z)
      · exact .inl (List.mem_append_right _ z)
      · cases z
    · have keyd : x ∈ m.map (·.1) := by
        rcases hw.last with ⟨rfl, _⟩ | ⟨p, v, h1, h2, h3, rfl⟩
        · simp at hl
        · rw [List.length_append, List.length_singleton] at l
          rcases h.cpl p v h1 (by omega) with z | z | z
          · exact h.cld p (.inl z) x h3 h2
          · exact h.cld p (.inr z) x h3 h2
          · cases z
      rcases (h.keys x).mp keyd with z | z | z | z
      · exact .inl (List.mem_append_left _ z)
      · exact .inl (List.mem_append_right _ z)
      · cases z
      · exact .inr (.inr z)
  · rcases hp with z | z
    · rcases List.mem_append.mp z with z | z
      · exact h.cld p (.inl z) d hd f
      · exact h.cld p (.inr z) d hd f
    · cases z
/-- the start -/
theorem BInv.first : BInv F cs s 0 [(s, [s])] [] [] [s] [] := by
  refine ⟨fun c => (by simp), (by simp), fun e he => ?_, fun e he ho => (by cases ho), fun e he ho => (by rw [List.mem_singleton.mp he]; rfl), fun e he ho => (by cases ho), fun c w hw l => ?_, fun p hp => (by rcases hp with z | z <;> cases z), List.pairwise_singleton _ _, List.Pairwise.nil⟩
  · rw [List.mem_singleton.mp he]
    refine ⟨.one s, fun v hv => hv.pos, fun v hv e => ?_⟩
    obtain ⟨t, rfl⟩ := hv.head
    cases t with
    | nil => exact .inl rfl
    | cons _ _ => simp at e
  · rcases hw.last with ⟨_, rfl⟩ | ⟨p, v, h1, _, _, rfl⟩
    · exact .inr (.inr (by simp))
    · have := h1.pos
      rw [List.length_append, List.length_singleton] at l
      omega
/-- at the end: nothing is left to do -/
theorem BInv.whole (h : BInv F cs s n m old dn [] []) : (∀ e ∈ m, FirstWay F cs s e.1 e.2) ∧ ∀ c w, Way F cs s c w → c ∈ m.map (·.1) := by
  refine ⟨h.fw, fun c w hw => ?_⟩
  have all : ∀ k c w, w.length ≤ k → Way F cs s c w → c ∈ old ∨ c ∈ dn := by
    intro k
    induction k with
    | zero => intro c w hk hw; have := hw.pos; omega
    | succ k ih =>
      intro c w hk hw
      rcases hw.last with ⟨rfl, rfl⟩ | ⟨p, v, h1, h2, h3, rfl⟩
      · rcases h.cpl s [s] (.one s) (by simp) with z | z | z
        · exact .inl z
        · exact .inr z
        · cases z
      · rw [List.length_append, List.length_singleton] at hk
        have := h.cld p (ih p v (by omega) h1) c h3 h2
        rcases (h.keys c).mp this with z | z | z | z
        · exact .inl z
        · exact .inr z
        · cases z
        · cases z
  exact (h.keys c).mpr ((all _ c w (Nat.le_refl _) hw).elim .inl fun z => .inr (.inl z))
end
end Cs

set_option maxRecDepth 100000
set_option maxHeartbeats 1000000
/-! how many steps are left, turn by turn -/
namespace Cs
section
variable {F : Ch → Ch → Bool} {cs : List Ch} {g : Ch}
theorem Way.dist {c : Ch} : ∀ (k : Nat) {w : List Ch}, w.length ≤ k → Way F cs c g w → ∃ j, j + 1 ≤ w.length ∧ Dist F cs c g j
  | 0, w, hk, h => by have := h.pos; omega
  | k + 1, w, hk, h => by
    by_cases s : ∃ v, Way F cs c g v ∧ v.length < w.length
    · obtain ⟨v, hv, hl⟩ := s
      obtain ⟨j, h1, h2⟩ := Way.dist k (by omega) hv
      exact ⟨j, by omega, h2⟩
    · have := h.pos
      exact ⟨w.length - 1, by omega, ⟨w, h, by omega⟩, fun v hv => by
        have : ¬ v.length < w.length := fun z => s ⟨v, hv, z⟩
        omega⟩
theorem dist_zero {c : Ch} : Dist F cs c g 0 ↔ c = g := by
  constructor
  · rintro ⟨⟨w, h, hl⟩, _⟩
    rcases h.last with ⟨_, e⟩ | ⟨p, v, h1, _, _, rfl⟩
    · exact e
    · have := h1.pos
      rw [List.length_append, List.length_singleton] at hl
      omega
  · rintro rfl
    exact ⟨⟨[c], .one c, rfl⟩, fun w h => h.pos⟩
theorem dist_succ {c : Ch} {n : Nat} : Dist F cs c g (n + 1) ↔ (∀ j, j ≤ n → ¬ Dist F cs c g j) ∧ ∃ x ∈ cs, F c x = true ∧ Dist F cs x g n := by
  constructor
  · intro h
    refine ⟨fun j hj hd => by have := h.uniq hd; omega, ?_⟩
    obtain ⟨⟨w, hw, hl⟩, least⟩ := h
    cases hw with
    | one => simp at hl
    | @cons _ x _ w f hx hw =>
      refine ⟨x, hx, f, ⟨w, hw, by simpa using hl⟩, fun v hv => ?_⟩
      have := least (c :: v) (.cons f hx hv)
      rw [List.length_cons] at this
      omega
  · rintro ⟨h1, x, hx, f, ⟨w, hw, hl⟩, _⟩
    refine ⟨⟨c :: w, .cons f hx hw, by rw [List.length_cons, hl]⟩, fun v hv => ?_⟩
    obtain ⟨j, h2, h3⟩ := Way.dist _ (Nat.le_refl _) hv
    refine Nat.le_of_not_lt fun z => h1 j (by omega) h3
theorem dist_far {c : Ch} : ∀ {n : Nat}, c ∈ cs → Dist F cs c g n → ∃ w : List Ch, w.length = n + 1 ∧ w.Nodup ∧ (∀ x ∈ w, x ∈ cs) ∧ ∀ x ∈ w, ∃ j, j ≤ n ∧ Dist F cs x g j
  | 0, hc, h => ⟨[c], rfl, by simp, fun x hx => by rw [List.mem_singleton.mp hx]; exact hc, fun x hx => ⟨0, Nat.le_refl _, by rw [List.mem_singleton.mp hx]; exact h⟩⟩
  | n + 1, hc, h => by
    obtain ⟨_, x, hx, f, hd⟩ := dist_succ.mp h
    obtain ⟨w, h1, h2, h3, h4⟩ := dist_far hx hd
    refine ⟨c :: w, by rw [List.length_cons, h1], List.nodup_cons.mpr ⟨fun z => ?_, h2⟩, fun y hy => ?_, fun y hy => ?_⟩
    · obtain ⟨j, hj, hd'⟩ := h4 c z
      have := h.uniq hd'
      omega
    · rcases List.mem_cons.mp hy with rfl | hy
      · exact hc
      · exact h3 y hy
    · rcases List.mem_cons.mp hy with rfl | hy
      · exact ⟨n + 1, Nat.le_refl _, h⟩
      · obtain ⟨j, hj, hd'⟩ := h4 y hy
        exact ⟨j, by omega, hd'⟩
theorem nd_le {l : List Ch} : ∀ {k : List Ch}, k.Nodup → (∀ x ∈ k, x ∈ l) → k.length ≤ l.length := by
  intro k
  induction k generalizing l with
  | nil => intro _ _; exact Nat.zero_le _
  | cons x k ih =>
    intro nd h
    obtain ⟨h1, h2⟩ := List.nodup_cons.mp nd
    have hx := h x List.mem_cons_self
    have := ih (l := l.erase x) h2 fun y hy => (List.mem_erase_of_ne fun e : y = x => h1 (e ▸ hy)).mpr (h y (List.mem_cons_of_mem _ hy))
    rw [List.length_erase_of_mem hx] at this
    have p := List.length_pos_of_mem hx
    rw [List.length_cons]
    omega
theorem dist_lt {c : Ch} {n : Nat} (hc : c ∈ cs) (h : Dist F cs c g n) : n < cs.length := by
  obtain ⟨w, h1, h2, h3, _⟩ := dist_far hc h
  have := nd_le h2 h3
  omega
open Classical in
/-- the steps that are known at turn n; -1: none yet -/
noncomputable def stF (F : Ch → Ch → Bool) (cs : List Ch) (g : Ch) (n : Nat) (c : Ch) : Int := if h : ∃ j, j ≤ n ∧ Dist F cs c g j then (Classical.choose h : Nat) else -1
theorem stF_some {n j : Nat} {c : Ch} (h : Dist F cs c g j) (hj : j ≤ n) : stF F cs g n c = (j : Int) := by
  have ex : ∃ j, j ≤ n ∧ Dist F cs c g j := ⟨j, hj, h⟩
  unfold stF
  rw [dif_pos ex, (Classical.choose_spec ex).2.uniq h]
theorem stF_none {n : Nat} {c : Ch} (h : ∀ j, j ≤ n → ¬ Dist F cs c g j) : stF F cs g n c = -1 := by
  unfold stF
  rw [dif_neg fun ⟨j, h1, h2⟩ => h j h1 h2]
theorem stF_eq {n j : Nat} {c : Ch} : stF F cs g n c = (j : Int) ↔ j ≤ n ∧ Dist F cs c g j := by
  constructor
  · intro e
    by_cases h : ∃ i, i ≤ n ∧ Dist F cs c g i
    · obtain ⟨i, h1, h2⟩ := h
      rw [stF_some h2 h1] at e
      have : i = j := by omega
      exact this ▸ ⟨h1, h2⟩
    · rw [stF_none fun i h1 h2 => h ⟨i, h1, h2⟩] at e
      omega
  · rintro ⟨h1, h2⟩
    exact stF_some h2 h1
theorem stF_neg {n : Nat} {c : Ch} : stF F cs g n c = -1 ↔ ∀ j, j ≤ n → ¬ Dist F cs c g j := by
  constructor
  · intro e j h1 h2
    rw [stF_some h2 h1] at e
    omega
  · exact stF_none
open Classical in
/-- one turn -/
theorem stF_step {n : Nat} {c : Ch} : stF F cs g (n + 1) c = if stF F cs g n c = -1 ∧ ∃ x ∈ cs, stF F cs g n x = (n : Int) ∧ F c x = true then ((n + 1 : Nat) : Int) else stF F cs g n c := by
  by_cases h : stF F cs g n c = -1
  · by_cases k : ∃ x ∈ cs, stF F cs g n x = (n : Int) ∧ F c x = true
    · rw [if_pos ⟨h, k⟩]
      obtain ⟨x, hx, e, f⟩ := k
      exact stF_some (dist_succ.mpr ⟨stF_neg.mp h, x, hx, f, (stF_eq.mp e).2⟩) (Nat.le_refl _)
    · rw [if_neg fun z => k z.2, h]
      refine stF_none fun j hj hd => ?_
      by_cases e : j = n + 1
      · subst e
        obtain ⟨_, x, hx, f, dx⟩ := dist_succ.mp hd
        exact k ⟨x, hx, stF_some dx (Nat.le_refl _), f⟩
      · exact stF_neg.mp h j (by omega) hd
  · rw [if_neg fun z => h z.1]
    have : ∃ j, j ≤ n ∧ Dist F cs c g j := Classical.byContradiction fun z => h (stF_none fun j h1 h2 => z ⟨j, h1, h2⟩)
    obtain ⟨j, h1, h2⟩ := this
    rw [stF_some h2 h1, stF_some h2 (by omega)]
theorem stF_zero {c : Ch} : stF F cs g 0 c = if c = g then 0 else -1 := by
  by_cases h : c = g
  · rw [if_pos h]; exact stF_some (dist_zero.mpr h) (Nat.le_refl _)
  · rw [if_neg h]; exact stF_none fun j hj hd => h (by have : j = 0 := by omega
                                                       subst this; exact dist_zero.mp hd)
/-- at the end: no steps, no way -/
theorem stF_end {c : Ch} (hc : c ∈ cs) (h : stF F cs g cs.length c = -1) : ∀ w, ¬ Way F cs c g w := fun w hw => by
  obtain ⟨j, _, hd⟩ := Way.dist _ (Nat.le_refl _) hw
  exact stF_neg.mp h j (Nat.le_of_lt (dist_lt hc hd)) hd
end
end Cs

set_option maxRecDepth 100000
set_option maxHeartbeats 1000000
/-! a label that can't be added is led from each of its choices to the other one -/
namespace Cs
section
variable {Fre : Ch → Bool} {Ov : Ch → Ch → Bool} {A K : List Nat} {n : Nat} {s : Bool} {σ : Nat → Bool}
/-- following the other way round -/
theorem rch_back (sym : ∀ c d, Ov c d = Ov d c) {c d : Ch} (hc : c.1 ∈ A) (h : Rch Fre Ov A [c] d) : Rch Fre Ov A [ng d] (ng c) := by
  induction h with
  | base h => rw [List.mem_singleton.mp h]; exact .base (by simp)
  | @step b e hb f he ih =>
    have hb1 : b.1 ∈ A := rch_in (fun x hx => by rw [List.mem_singleton.mp hx]; exact hc) hb
    have one : Rch Fre Ov A [ng e] (ng b) := .step (.base (by simp)) (fo_back sym f) hb1
    have trans : ∀ {x y z : Ch}, Rch Fre Ov A [x] y → Rch Fre Ov A [y] z → Rch Fre Ov A [x] z := fun {x y z} h k => by
      induction k with
      | base k => rw [List.mem_singleton.mp k]; exact h
      | step _ f m ih => exact .step ih f m
    exact trans one ih
theorem rch_trans {x y z : Ch} (h : Rch Fre Ov A [x] y) (k : Rch Fre Ov A [y] z) : Rch Fre Ov A [x] z := by
  induction k with
  | base k => rw [List.mem_singleton.mp k]; exact h
  | step _ f m ih => exact .step ih f m
/-- what (n, s) leads to is agreed upon, unless it leads to its other side -/
theorem con_one (sym : ∀ c d, Ov c d = Ov d c) (hn : n ∈ A) (no : ¬ Rch Fre Ov A [(n, s)] (n, !s)) : Con Fre Ov A [(n, s)] := fun c h k => by
  have b := rch_back sym hn k
  rw [ng_ng] at b
  exact no (rch_trans h b)
open Classical in
theorem add_one (sym : ∀ c d, Ov c d = Ov d c) (hA : ∀ i, i ∈ A ↔ i ∈ K ∨ i = n) (v : Val Fre Ov K σ) (no : ¬ Rch Fre Ov A [(n, s)] (n, !s)) : ∃ τ, Val Fre Ov A τ := by
  have hn : n ∈ A := (hA n).mpr (.inr rfl)
  have hc := con_one sym hn no
  have base : Rch Fre Ov A [(n, s)] (n, s) := .base (by simp)
  let τ : Nat → Bool := fun i => if Rch Fre Ov A [(n, s)] (i, true) then true else if Rch Fre Ov A [(n, s)] (i, false) then false else σ i
  have τR : ∀ c : Ch, Rch Fre Ov A [(n, s)] c → c.2 = τ c.1 := fun c h => by
    obtain ⟨i, t⟩ := c
    cases t with
    | true => show true = τ i; simp only [τ]; rw [if_pos h]
    | false => show false = τ i; simp only [τ]; rw [if_neg (fun z => hc (i, true) z h), if_pos h]
  have τN : ∀ i, ¬ Rch Fre Ov A [(n, s)] (i, true) → ¬ Rch Fre Ov A [(n, s)] (i, false) → τ i = σ i := fun i h1 h2 => by simp only [τ]; rw [if_neg h1, if_neg h2]
  refine ⟨τ, fun c d hcA hdA hcs f => ?_⟩
  by_cases hcR : Rch Fre Ov A [(n, s)] c
  · exact τR d (.step hcR f hdA)
  · have hcn : ¬ Rch Fre Ov A [(n, s)] (ng c) := fun z => by
      have := τR (ng c) z
      have this : (!c.2) = τ c.1 := this
      rw [← hcs] at this
      cases h : c.2 <;> rw [h] at this <;> cases this
    have hdn : ¬ Rch Fre Ov A [(n, s)] (ng d) := fun z => hcn (.step z (fo_back sym f) hcA)
    by_cases hdR : Rch Fre Ov A [(n, s)] d
    · exact τR d hdR
    · have two : ∀ c : Ch, ¬ Rch Fre Ov A [(n, s)] c → ¬ Rch Fre Ov A [(n, s)] (ng c) → ¬ Rch Fre Ov A [(n, s)] (c.1, true) ∧ ¬ Rch Fre Ov A [(n, s)] (c.1, false) := fun c h1 h2 => by
        obtain ⟨i, t⟩ := c
        cases t
        · exact ⟨h2, h1⟩
        · exact ⟨h1, h2⟩
      have out : ∀ c : Ch, c.1 ∈ A → ¬ Rch Fre Ov A [(n, s)] c → ¬ Rch Fre Ov A [(n, s)] (ng c) → c.1 ∈ K := fun c hA' h1 h2 => by
        rcases (hA c.1).mp hA' with z | z
        · exact z
        · exfalso
          rcases ch_eq (n, s) c z.symm with e | e
          · exact h1 (e ▸ base)
          · have e2 : ng c = (n, s) := e.symm
            exact h2 (e2 ▸ base)
      obtain ⟨c1, c2⟩ := two c hcR hcn
      obtain ⟨d1, d2⟩ := two d hdR hdn
      rw [τN d.1 d1 d2]
      rw [τN c.1 c1 c2] at hcs
      exact v c d (out c hcA hcR hcn) (out d hdA hdR hdn) hcs f
/-- both ways: no placing -/
theorem no_both (hn : n ∈ A) (h1 : Rch Fre Ov A [(n, false)] (n, true)) (h2 : Rch Fre Ov A [(n, true)] (n, false)) (v : Val Fre Ov A σ) : False := by
  cases e : σ n with
  | false =>
    have := (rch_val v (fun c hc => by rw [List.mem_singleton.mp hc]; exact ⟨hn, e.symm⟩) h1).2
    rw [show σ (n, true).1 = σ n from rfl, e] at this
    cases this
  | true =>
    have := (rch_val v (fun c hc => by rw [List.mem_singleton.mp hc]; exact ⟨hn, e.symm⟩) h2).2
    rw [show σ (n, false).1 = σ n from rfl, e] at this
    cases this
end
end Cs

set_option maxRecDepth 100000
set_option maxHeartbeats 1000000

namespace Cs
open PySem PySem.Spec PyProof.Rows L2
local macro_rules | `(tactic| walk_at "sets") => `(tactic| (repeat (first | exact set_0 | apply set_s)))
local macro_rules | `(tactic| walk_at "sts") => `(tactic| (repeat (first | exact rep_0 | apply rep_s | apply app_cons | apply app_nil)))
local macro_rules | `(tactic| walk_at "sql") => `(tactic| first
  | exact SqL.of (by assumption)
  | exact SqL.of upd_same
  | assumption)
local macro_rules | `(tactic| walk_at "sqt") => `(tactic| first
  | exact SqT.of (by assumption)
  | exact SqT.of upd_same
  | assumption)
local macro_rules | `(tactic| walk_at "rd1") => `(tactic| first
  | ((with_reducible show gName _ _ _ _ _); refine gset (by walk_at "sets") ?_)
  | refine ⟨_, rfl, ?_⟩
  | refine ⟨rfl, ?_⟩
  | refine ⟨_, _, rfl, rfl, (show CMul _ _ from Or.inr ⟨by decide, by decide⟩), ?_⟩
  | refine ⟨_, _, rfl, rfl, (show CMul _ _ from Or.inl ⟨by decide, by decide⟩), ?_⟩
  | refine ⟨_, _, rfl, rfl, (show (0 : Int) < _ by first | decide | omega), ?_⟩
  | refine ⟨_, _, rfl, rfl, (show CDiv _ _ from ⟨by omega, by omega⟩), ?_⟩
  | refine ⟨_, _, rfl, rfl, (show CPow _ _ from ⟨by decide, by decide, by decide⟩), ?_⟩
  | refine ⟨_, _, rfl, rfl, ?_⟩
  | refine ⟨_, _, _, _, rfl, rfl, (show SqL _ _ _ _ by walk_at "sql"), rfl, ?_⟩
  | refine ⟨_, _, _, _, rfl, rfl, (show SqT _ _ _ _ by walk_at "sqt"), rfl, ?_⟩
  | refine ⟨_, _, _, _, rfl, rfl, (by assumption), rfl, ?_⟩
  | refine ⟨_, _, _, _, rfl, rfl, upd_same, rfl, ?_⟩
  | refine ⟨_, _, rfl, (show LenV _ _ _ _ from Or.inl ⟨_, (by walk_at "sql"), rfl⟩), ?_⟩
  | refine ⟨_, _, rfl, (show LenV _ _ _ _ from Or.inr ⟨_, (by walk_at "sqt"), rfl⟩), ?_⟩
  | refine ⟨_, (show TruV _ _ _ _ from Or.inl ⟨_, (by walk_at "sql"), rfl⟩), ?_⟩
  | refine ⟨_, (show TruV _ _ _ _ from Or.inr (Or.inl ⟨_, (by walk_at "sqt"), rfl⟩)), ?_⟩
  | refine Or.inl ⟨_, rfl, ?_⟩
  | refine ⟨_, _, rfl, ?_⟩)

local macro_rules | `(tactic| walk_at "pe") => `(tactic| simp (config := {maxSteps := 2000000}) only [bind_bind, bindR, retB, failB, anyB, iteB, wp_retE, wp_failE,
  ↓kSeq_nx, ↓kSeq_rt, ↓kSeq_bk, ↓kSeq_ct, ↓mNext_eq, ↓mBreak_eq, ↓mCont_eq, ↓mDrop_eq, ↓mRet_eq, ↓mRetN_eq, ↓mAsg_eq, ↓mIf_eq, ↓gVar_eq, gAt_v, gAt_o, gAt_b, gAt_t, ↓mRetV_eq, rAt_s, ↓asgR_eq, aAt_v, aAt_o,
  get_0, get_s, set_0', set_s', List.getElem?_cons_zero, List.getElem?_cons_succ, List.set_cons_zero, List.set_cons_succ, ↓aNil_eq, ↓aCons_eq, ↓aTup_eq, ↓mPar_eq, ↓kPar_v, ↓gC_eq, ↓gaNil_eq, ↓gaCons_eq, ↓gTupE_eq, ↓gLst_eq, ↓gOp_eq, ↓gUn_eq, ↓gCall_eq, ↓gFn_eq, map_nilC, map_consC, lend_v, lend_o, lend_b, lend_t,
  ↓gTru_eq, ↓gTest_eq, oBl_b, oTru_v, oTru_o, oTru_b, truD_n, truD_b, truD_i, truD_t, mAnd_r, mOr_r, mAnd_t, mAnd_f, mOr_t, mOr_f, ↓gAnd_eq, ↓gOr_eq, ↓gNot_eq, mAndC_r, mAndC_f, mOrC_r, ↓gAndT_eq, ↓gOrT_eq, ↓gNotT_eq, ↓gIfE_eq, ↓gChain_eq, ↓gNo_eq, ↓gSome_eq, oInt?_i, ↓gSl_eq, oSl_t, oSl_b, ↓gSl2_eq, kSl2_t,
  ↓gIt_eq, ↓gItV_eq, kItV_v, kItV_b, kItV_o, itV_t, itV_s, itV_b, itV_o, itD_t, itD_s, itD_o, ↓gItR1_eq, ↓gItR2_eq, ↓gItR3_eq, itR3_i, itR1_i, itR2_i, ↓gLc_eq, wipe_n, wipe_c, ↓gYes_eq, ↓gR1_eq, kR1_i, ↓gR2_eq, kR2_i, ↓gLstRg_eq, ↓gTupRg_eq, ↓mFor_eq, ↓mForV_eq, ↓mForRev_eq, kForRev_o, kForRev_t, kForV_o, kForV_b, kForV_t, kForV_s, ↓mApp_eq, appAt_o, kApp_v,
  ↓fnU_eq, rp_0, rp_s, ap_n, ap_c, ms_n, ms_c, out_rt, out_nx, oAdd_i, oAdd_s, oAdd_t, oAdd_oo, oAdd_bo, oAdd_bb, oAdd_ob, oInt_v, oMul_i, oNeg_i, oEq_i, oNe_i, oEq_b, oNe_b, oEq_s, oNe_s, oIx_t, oIx_s, oIx_o, oIx_b, atD_0, atD_1, atD_2, atD_3, atD_4, atD_5, atD_6, atD_7, atD_8, datas_n, datas_v, mp_some, oTup_eq, oLst_eq, kTup_s, kLst_s, len_n, len_c,
  o1_v, o1_o, o1_b, lenD_t, lenD_l, lenD_s, absD_i, intD_i, intD_b, oMax2_i, oMin2_i, oGcd_i, oListC_t, oListC_o, oListC_b, oTupC_t, oTupC_o, oTupC_b, isi_bi, isi_ii, isi_ib, isi_bb, isi_ni, isi_ss, isi_nb, oIsi_v, tyD_b, tyD_i, tyD_s, tyD_n, oIsX_n, oIsX_b, isN_n, isN_i, isN_b, isN_s, isN_t, aUnl_o, aUnl_b, oIx_l, kForV_l, truD_l, oSl_l, itD_l, itV_l, oListC_l, oTupC_l, kIdxL_l, oAdd_lo, oAdd_ol, oAdd_ll, oAdd_lb, oAdd_bl, ↓mFrz_eq, kFrz_o, kFrz_v, kFrz_b, kFrz_n, ↓gFrz_eq, frzC_o, frzC_v, ↓gItI_eq, itI_t, itI_l, itI_s, ↓gDcT_eq, ↓gLc2_eq, ↓gLock_eq, lockAt_o, lockC_v, lockC_o, ↓gKeys_eq, keysAt_b, ↓mDPut_eq, dputAt_T, dputAt_K, ↓gNewT_eq, ↓gNewK_eq, ↓gDGet1_eq, ↓mSetAt_eq, setAt_o, ↓mAugI_eq, augAt_i, kAug_i, ↓gZip_eq, zipD_t, ↓gIdxL_eq, kIdxL_b, kIdxL_o, idxA_v, ↓gIdxK_eq, ↓gSix_eq, kSix_s, oLtU_i, oLtU_s, oLtU_b, ↓gFnD_eq, ↓gFnK_eq, kFnK_21, mOrCt, mOrCf, mAndCt, mAndCf, ↓gF_eq, ↓gFt_eq, ↓mF_eq, oIsiX_v, tyX_b, tyX_i, tyX_s, tyX_n, tyX_t, isiX_ts, isiX_tb, isiX_ti, isiX_tt, isiX_st, isiX_sb, isiX_si, isiX_bs, isiX_bt, isiX_is, isiX_it, isiX_ns, isiX_nt, 
  lenOk, decide_eq_true_eq, Nat.reduceAdd, Nat.reduceLeDiff, Nat.reduceEqDiff, Bool.false_xor, Bool.true_xor, Bool.not_false, Bool.not_true, Bool.false_eq_true, if_true, if_false, reduceIte, ↓reduceIte, decide_true, decide_false, List.length_cons, List.length_nil])
local macro_rules | `(tactic| walk_at "pl") => `(tactic| simp (config := {maxSteps := 2000000}) only [bind_bind, bindR, retB, failB, anyB, iteB, wp_retE, wp_failE,
  ↓mSeq_eq, ↓kSeq_nx, ↓kSeq_rt, ↓kSeq_bk, ↓kSeq_ct, ↓mNext_eq, ↓mBreak_eq, ↓mCont_eq, ↓mDrop_eq, ↓mRet_eq, ↓mRetN_eq, ↓mAsg_eq, ↓mIf_eq, ↓gVar_eq, gAt_v, gAt_o, gAt_b, gAt_t, ↓mRetV_eq, rAt_s, ↓asgR_eq, aAt_v, aAt_o,
  get_0, get_s, set_0', set_s', List.getElem?_cons_zero, List.getElem?_cons_succ, List.set_cons_zero, List.set_cons_succ, ↓aNil_eq, ↓aCons_eq, ↓aTup_eq, ↓mPar_eq, ↓kPar_v, ↓gC_eq, ↓gaNil_eq, ↓gaCons_eq, ↓gTupE_eq, ↓gLst_eq, ↓gOp_eq, ↓gUn_eq, ↓gCall_eq, ↓gFn_eq, map_nilC, map_consC, lend_v, lend_o, lend_b, lend_t,
  ↓gTru_eq, ↓gTest_eq, oBl_b, oTru_v, oTru_o, oTru_b, truD_n, truD_b, truD_i, truD_t, mAnd_r, mOr_r, mAnd_t, mAnd_f, mOr_t, mOr_f, ↓gAnd_eq, ↓gOr_eq, ↓gNot_eq, mAndC_r, mAndC_f, mOrC_r, ↓gAndT_eq, ↓gOrT_eq, ↓gNotT_eq, ↓gIfE_eq, ↓gChain_eq, ↓gNo_eq, ↓gSome_eq, oInt?_i, ↓gSl_eq, oSl_t, oSl_b, ↓gSl2_eq, kSl2_t,
  ↓gIt_eq, ↓gItV_eq, kItV_v, kItV_b, kItV_o, itV_t, itV_s, itV_b, itV_o, itD_t, itD_s, itD_o, ↓gItR1_eq, ↓gItR2_eq, ↓gItR3_eq, itR3_i, itR1_i, itR2_i, ↓gLc_eq, wipe_n, wipe_c, ↓gYes_eq, ↓gR1_eq, kR1_i, ↓gR2_eq, kR2_i, ↓gLstRg_eq, ↓gTupRg_eq, ↓mFor_eq, ↓mForV_eq, ↓mForRev_eq, kForRev_o, kForRev_t, kForV_o, kForV_b, kForV_t, kForV_s, ↓mApp_eq, appAt_o, kApp_v,
  ↓fnU_eq, rp_0, rp_s, ap_n, ap_c, ms_n, ms_c, out_rt, out_nx, oAdd_i, oAdd_s, oAdd_t, oAdd_oo, oAdd_bo, oAdd_bb, oAdd_ob, oInt_v, oMul_i, oNeg_i, oEq_i, oNe_i, oEq_b, oNe_b, oEq_s, oNe_s, oIx_t, oIx_s, oIx_o, oIx_b, atD_0, atD_1, atD_2, atD_3, atD_4, atD_5, atD_6, atD_7, atD_8, datas_n, datas_v, mp_some, oTup_eq, oLst_eq, kTup_s, kLst_s, len_n, len_c,
  o1_v, o1_o, o1_b, lenD_t, lenD_l, lenD_s, absD_i, intD_i, intD_b, oMax2_i, oMin2_i, oGcd_i, oListC_t, oListC_o, oListC_b, oTupC_t, oTupC_o, oTupC_b, isi_bi, isi_ii, isi_ib, isi_bb, isi_ni, isi_ss, isi_nb, oIsi_v, tyD_b, tyD_i, tyD_s, tyD_n, oIsX_n, oIsX_b, isN_n, isN_i, isN_b, isN_s, isN_t, aUnl_o, aUnl_b, oIx_l, kForV_l, truD_l, oSl_l, itD_l, itV_l, oListC_l, oTupC_l, kIdxL_l, oAdd_lo, oAdd_ol, oAdd_ll, oAdd_lb, oAdd_bl, ↓mFrz_eq, kFrz_o, kFrz_v, kFrz_b, kFrz_n, ↓gFrz_eq, frzC_o, frzC_v, ↓gItI_eq, itI_t, itI_l, itI_s, ↓gDcT_eq, ↓gLc2_eq, ↓gLock_eq, lockAt_o, lockC_v, lockC_o, ↓gKeys_eq, keysAt_b, ↓mDPut_eq, dputAt_T, dputAt_K, ↓gNewT_eq, ↓gNewK_eq, ↓gDGet1_eq, ↓mSetAt_eq, setAt_o, ↓mAugI_eq, augAt_i, kAug_i, ↓gZip_eq, zipD_t, ↓gIdxL_eq, kIdxL_b, kIdxL_o, idxA_v, ↓gIdxK_eq, ↓gSix_eq, kSix_s, oLtU_i, oLtU_s, oLtU_b, ↓gFnD_eq, ↓gFnK_eq, kFnK_21, mOrCt, mOrCf, mAndCt, mAndCf, ↓gF_eq, ↓gFt_eq, ↓mF_eq, oIsiX_v, tyX_b, tyX_i, tyX_s, tyX_n, tyX_t, isiX_ts, isiX_tb, isiX_ti, isiX_tt, isiX_st, isiX_sb, isiX_si, isiX_bs, isiX_bt, isiX_is, isiX_it, isiX_ns, isiX_nt, 
  lenOk, decide_eq_true_eq, Nat.reduceAdd, Nat.reduceLeDiff, Nat.reduceEqDiff, Bool.false_xor, Bool.true_xor, Bool.not_false, Bool.not_true, Bool.false_eq_true, if_true, if_false, reduceIte, ↓reduceIte, decide_true, decide_false, List.length_cons, List.length_nil])
local macro_rules | `(tactic| walk_at "pr") => `(tactic| ((try walk_at "pl"); try rfl))
local macro_rules | `(tactic| walk_at "wk") => `(tactic| try walk_at "pl")
local macro_rules | `(tactic| walk_at "we") => `(tactic| try walk_at "pe")

def top (i : Nat) : Stmt := PySem.Challenge.pw_chartspec_k74_labels_in_the_clear_and_ob.main.body.getD i (.Pass ⟨0, 0, 0, 0⟩)
abbrev s_overlap : Stmt := top 1
theorem sc_overlap : FnScope ["first", "second"] ["first", "second"] (defScope s_overlap) := ⟨rfl, rfl, rfl, by decide +kernel, rfl, by decide +kernel, by decide +kernel⟩
abbrev s_inside : Stmt := top 2
theorem sc_inside : FnScope ["first", "second", "left", "top", "right", "bottom", "least_left", "least_top", "most_right", "most_bottom"] ["first", "second"] (defScope s_inside) := ⟨rfl, rfl, rfl, by decide +kernel, rfl, by decide +kernel, by decide +kernel⟩
abbrev s_common : Stmt := top 3
theorem sc_common : FnScope ["first", "second", "first_left", "first_top", "first_right", "first_bottom", "second_left", "second_top", "second_right", "second_bottom", "left", "top", "right", "bottom"] ["first", "second"] (defScope s_common) := ⟨rfl, rfl, rfl, by decide +kernel, rfl, by decide +kernel, by decide +kernel⟩
abbrev s_edges : Stmt := top 4
theorem sc_edges : FnScope ["rectangle", "left", "top", "width", "height"] ["rectangle"] (defScope s_edges) := ⟨rfl, rfl, rfl, by decide +kernel, rfl, by decide +kernel, by decide +kernel⟩
abbrev s_chosen_rectangle : Stmt := top 6
theorem sc_chosen_rectangle : FnScope ["problem", "choice", "label", "side"] ["problem", "choice"] (defScope s_chosen_rectangle) := ⟨rfl, rfl, rfl, by decide +kernel, rfl, by decide +kernel, by decide +kernel⟩
abbrev s_is_free : Stmt := top 7
theorem sc_is_free : FnScope ["problem", "choice", "area", "obstacles", "_", "place", "obstacle"] ["problem", "choice"] (defScope s_is_free) := ⟨rfl, rfl, rfl, by decide +kernel, rfl, by decide +kernel, by decide +kernel⟩
abbrev s_forces : Stmt := top 8
theorem sc_forces : FnScope ["problem", "choice", "other"] ["problem", "choice", "other"] (defScope s_forces) := ⟨rfl, rfl, rfl, by decide +kernel, rfl, by decide +kernel, by decide +kernel⟩
abbrev s_other_choice : Stmt := top 9
theorem sc_other_choice : FnScope ["choice", "label", "side"] ["choice"] (defScope s_other_choice) := ⟨rfl, rfl, rfl, by decide +kernel, rfl, by decide +kernel, by decide +kernel⟩
abbrev s_overlap_chosen : Stmt := top 10
theorem sc_overlap_chosen : FnScope ["problem", "first", "second"] ["problem", "first", "second"] (defScope s_overlap_chosen) := ⟨rfl, rfl, rfl, by decide +kernel, rfl, by decide +kernel, by decide +kernel⟩
abbrev s_shortest_chain : Stmt := top 12
theorem sc_shortest_chain : FnScope ["problem", "among", "start", "goal"] ["problem", "among", "start", "goal"] (defScope s_shortest_chain) := ⟨rfl, rfl, rfl, by decide +kernel, rfl, by decide +kernel, by decide +kernel⟩
abbrev s_reason_of : Stmt := top 13
theorem sc_reason_of : FnScope ["problem", "among", "label", "labels", "first", "second"] ["problem", "among", "label"] (defScope s_reason_of) := ⟨rfl, rfl, rfl, by decide +kernel, rfl, by decide +kernel, by decide +kernel⟩
abbrev s_forced_choices : Stmt := top 14
theorem sc_forced_choices : FnScope ["problem", "among", "choices", "label", "side", "other", "choice"] ["problem", "among"] (defScope s_forced_choices) := ⟨rfl, rfl, rfl, by decide +kernel, rfl, by decide +kernel, by decide +kernel⟩
abbrev s_chains_from : Stmt := top 15
theorem sc_chains_from : FnScope ["forced", "starts", "chains", "choice", "level", "following", "other"] ["forced", "starts"] (defScope s_chains_from) := ⟨rfl, rfl, rfl, by decide +kernel, rfl, by decide +kernel, by decide +kernel⟩
abbrev s_together : Stmt := top 17
theorem sc_together : FnScope ["problem", "among", "forced", "made", "label", "sides", "side", "_"] ["problem", "among"] (defScope s_together) := ⟨rfl, rfl, rfl, by decide +kernel, rfl, by decide +kernel, by decide +kernel⟩
abbrev s_kept_labels : Stmt := top 18
theorem sc_kept_labels : FnScope ["problem", "kept", "label"] ["problem"] (defScope s_kept_labels) := ⟨rfl, rfl, rfl, by decide +kernel, rfl, by decide +kernel, by decide +kernel⟩
abbrev s_place_labels : Stmt := top 19
theorem sc_place_labels : FnScope ["problem", "kept", "sides", "places", "label", "other"] ["problem"] (defScope s_place_labels) := ⟨rfl, rfl, rfl, by decide +kernel, rfl, by decide +kernel, by decide +kernel⟩
abbrev s_agree : Stmt := top 20
theorem sc_agree : FnScope ["forced", "choices", "reached", "label", "side"] ["forced", "choices"] (defScope s_agree) := ⟨rfl, rfl, rfl, by decide +kernel, rfl, by decide +kernel, by decide +kernel⟩
abbrev s_law_tape : Stmt := top 22
theorem sc_law_tape : FnScope ["script", "total", "cell"] ["script"] (defScope s_law_tape) := ⟨rfl, rfl, rfl, by decide +kernel, rfl, by decide +kernel, by decide +kernel⟩
abbrev s_law_draw : Stmt := top 23
theorem sc_law_draw : FnScope ["tape", "many", "place", "number"] ["tape", "many"] (defScope s_law_draw) := ⟨rfl, rfl, rfl, by decide +kernel, rfl, by decide +kernel, by decide +kernel⟩
abbrev s_law_inside : Stmt := top 24
theorem sc_law_inside : FnScope ["one", "area"] ["one", "area"] (defScope s_law_inside) := ⟨rfl, rfl, rfl, by decide +kernel, rfl, by decide +kernel, by decide +kernel⟩
abbrev s_law_overlap : Stmt := top 25
theorem sc_law_overlap : FnScope ["one", "other", "left", "top", "right", "low"] ["one", "other"] (defScope s_law_overlap) := ⟨rfl, rfl, rfl, by decide +kernel, rfl, by decide +kernel, by decide +kernel⟩
abbrev s_law_spot : Stmt := top 26
theorem sc_law_spot : FnScope ["tape", "low", "size", "room"] ["tape", "low", "size", "room"] (defScope s_law_spot) := ⟨rfl, rfl, rfl, by decide +kernel, rfl, by decide +kernel, by decide +kernel⟩
abbrev s_law_rectangle : Stmt := top 27
theorem sc_law_rectangle : FnScope ["tape", "area", "size", "left"] ["tape", "area", "size"] (defScope s_law_rectangle) := ⟨rfl, rfl, rfl, by decide +kernel, rfl, by decide +kernel, by decide +kernel⟩
abbrev s_law_label : Stmt := top 28
theorem sc_law_label : FnScope ["tape", "area", "form", "labels", "size", "first", "move", "left", "high", "low"] ["tape", "area", "form", "labels"] (defScope s_law_label) := ⟨rfl, rfl, rfl, by decide +kernel, rfl, by decide +kernel, by decide +kernel⟩
abbrev s_law_problem : Stmt := top 29
theorem sc_law_problem : FnScope ["tape", "most", "size", "area", "form", "labels", "k", "obstacles", "one"] ["tape", "most"] (defScope s_law_problem) := ⟨rfl, rfl, rfl, by decide +kernel, rfl, by decide +kernel, by decide +kernel⟩
abbrev s_law_free : Stmt := top 30
theorem sc_law_free : FnScope ["problem", "one", "other"] ["problem", "one"] (defScope s_law_free) := ⟨rfl, rfl, rfl, by decide +kernel, rfl, by decide +kernel, by decide +kernel⟩
abbrev s_law_renumbered : Stmt := top 31
theorem sc_law_renumbered : FnScope ["placement", "at", "later", "value", "chains", "chain", "choice"] ["placement", "at"] (defScope s_law_renumbered) := ⟨rfl, rfl, rfl, by decide +kernel, rfl, by decide +kernel, by decide +kernel⟩
abbrev s_law_sides : Stmt := top 32
theorem sc_law_sides : FnScope ["placement", "place"] ["placement"] (defScope s_law_sides) := ⟨rfl, rfl, rfl, by decide +kernel, rfl, by decide +kernel, by decide +kernel⟩
abbrev s_law_alone : Stmt := top 33
theorem sc_law_alone : FnScope ["problem", "at", "others"] ["problem", "at"] (defScope s_law_alone) := ⟨rfl, rfl, rfl, by decide +kernel, rfl, by decide +kernel, by decide +kernel⟩
abbrev s_law : Stmt := top 34
theorem sc_law : FnScope ["script", "tape", "old", "labels", "problem", "told", "at", "x", "first", "second", "due", "wider", "again", "k", "block", "others", "turned"] ["script"] (defScope s_law) := ⟨rfl, rfl, rfl, by decide +kernel, rfl, by decide +kernel, by decide +kernel⟩
structure Blt (mg : Str → Option Value) : Prop where
  abs : mg "abs" = none
  any : mg "any" = none
  dict : mg "dict" = none
  int : mg "int" = none
  isinstance : mg "isinstance" = none
  len : mg "len" = none
  list : mg "list" = none
  max : mg "max" = none
  min : mg "min" = none
  range : mg "range" = none
  repr : mg "repr" = none
  reversed : mg "reversed" = none
  sorted : mg "sorted" = none
  tuple : mg "tuple" = none
  zip : mg "zip" = none

section
variable {P : Program} {w : World} {K : PySem.W.Frag} {mg : Str → Option Value} {base : Heap}
theorem df_law_tape (M : Blt mg) (A : At K mg "_law_tape" s_law_tape) : Df P w K mg base 1 "_law_tape" ["script"] (sp_law_tape K) := by
  have nd := sc_law_tape.nd
  refine Df.of A (fun _ _ _ _ _ _ us hl => match us, hl with | [_], _ => rfl) sc_law_tape (fun vs H Q E h => ?_) (fun cdv A out f s H vs Q E hr hgd h => ?_)
  · obtain ⟨a, ns, rfl, _⟩ := h
    rfl
  · obtain ⟨a, ns, rfl, hS, hl, k⟩ := h
    refine ⟨_, (pss_cons (ps_set (i := 1) nd rfl (Or.inl rfl) pe_int)
      (pss_cons (ps_for PassesOwn.never rfl (pi_list (pv 0)) (pg_name (i := 2) nd rfl (Or.inl rfl)) (pss_one (ps_set (i := 1) nd rfl (Or.inl rfl) (pe_op op_mod (pe_callTy call_int1 (by rfl) M.int (by decide +kernel) (pa_cons (pe_op op_add (pe_op op_mul (pv 1) pe_int) (pe_callB call_abs (by rfl) M.abs (by decide +kernel) (pa_cons (pe_callTy call_int1 (by rfl) M.int (by decide +kernel) (pa_cons (pv 2) pa_nil)) pa_nil))) pa_nil)) pe_int))))
      (pss_one (ps_ret (pe_lst (pa_cons (pe_callTy (listK K) (by rfl) M.list (by decide +kernel) (pa_cons (pv 0) pa_nil)) (pa_cons pe_int (pa_cons pe_int (pa_cons (pv 1) pa_nil))))))))), at_start (st_of (k := 2) rfl (by walk_at "sts")) ?_⟩
    refine ⟨_, rfl, a, rfl, ⟨_, hS⟩, for_list (K := K) (a := a) (xs := ns.map V.int) (fun i σ H2 => H2 = H ∧ ∃ (z : Int) (v : Option V), σ = [some (.ref a), some (.int z), v] ∧ 0 ≤ z) ⟨rfl, 7, none, rfl, by decide⟩ (fun i σ H2 _ e => by rw [e.1]; exact hS) ?_ ?_⟩
    · rintro i y σ H2 hi ⟨rfl, z, v, rfl, hz⟩
      obtain ⟨n, rfl⟩ := int_at hi
      repeat walk_at "rd1"
      exact Int.emod_nonneg _ (by decide)
    · rintro σ H2 ⟨rfl, z, v, rfl, hz⟩
      refine ⟨_, rfl, a, _, rfl, Or.inl hS, fun l hl => ?_⟩
      repeat walk_at "rd1"
      refine ⟨(by show 4 ≤ sizeLine; decide), fun t ht => ?_⟩
      have nlt : l ≠ t := ne_of_none upd_same ht
      refine k t l _ (fun b o e => ?_) ⟨⟨ns, 0, 0, z, upd_same, by rw [upd_ne nlt]; exact upd_same, by decide, by decide, hz⟩, nlt⟩ ((Same.new hl).free ht) hl
      rw [upd_ne (ne_of_none (Same.new hl _ _ e) ht), upd_ne (ne_of_none e hl)]
      exact e
theorem df_law_draw (M : Blt mg) (A : At K mg "_law_draw" s_law_draw) : Df P w K mg base 1 "_law_draw" ["tape", "many"] (sp_law_draw K) := by
  have nd := sc_law_draw.nd
  refine Df.of A (fun _ _ _ _ _ _ us hl => match us, hl with | [_, _], _ => rfl) sc_law_draw (fun vs H Q E h => ?_) (fun cdv A out f s H vs Q E hr hgd h => ?_)
  · obtain ⟨t, l, m, rfl, _⟩ := h
    rfl
  · obtain ⟨t, l, m, rfl, T, hm, k⟩ := h
    obtain ⟨⟨ns, p, r, s, h1, h2, p0, r0, s0⟩, nlt⟩ := id T
    refine ⟨_, (pss_cons (ps_if (pt_cmpR op_eq (pe_ix (ixL K) (pv 0) pe_int (fun _ _ => rfl)) pe_int (nomark _)) (pss_cons (ps_set (i := 2) nd rfl (Or.inl rfl) (pe_ix (ixL K) (pv 0) pe_int (fun _ _ => rfl)))
      (pss_cons (ps_set (i := 3) nd rfl (Or.inl rfl) pe_int)
      (pss_cons (ps_if (pt_cmpR op_lt (pv 2) (pe_callB (lenK K) (by rfl) M.len (by decide +kernel) (pa_cons (pe_ix (ixL K) (pv 0) pe_int (fun _ _ => rfl)) pa_nil)) (nomark _)) (pss_one (ps_set (i := 3) nd rfl (Or.inl rfl) (pe_callB call_abs (by rfl) M.abs (by decide +kernel) (pa_cons (pe_callTy call_int1 (by rfl) M.int (by decide +kernel) (pa_cons (pe_ix (ixL K) (pe_ix (ixL K) (pv 0) pe_int (fun _ _ => rfl)) (pv 2) (fun _ _ => rfl)) pa_nil)) pa_nil)))) (pss_cons (ps_asg (pe_op op_mod (pe_callTy call_int1 (by rfl) M.int (by decide +kernel) (pa_cons (pe_op op_add (pe_op op_add (pe_op op_mul (pe_ix (ixL K) (pv 0) pe_int (fun _ _ => rfl)) pe_int) (pv 2)) pe_int) pa_nil)) pe_int) (pg_sub (pv 0) pe_int set_list))
      (pss_one (ps_set (i := 3) nd rfl (Or.inl rfl) (pe_ix (ixL K) (pv 0) pe_int (fun _ _ => rfl))))))
      (pss_cons (ps_asg (pe_op op_add (pv 2) pe_int) (pg_sub (pv 0) pe_int set_list))
      (pss_cons (ps_if (pt_cmpR op_lt (pv 3) (pe_op op_pow pe_int pe_int) (nomark _)) (pss_cons (ps_set (i := 3) nd rfl (Or.inl rfl) (pe_op op_mod (pe_callTy call_int1 (by rfl) M.int (by decide +kernel) (pa_cons (pe_op op_add (pe_op op_add (pe_op op_mul (pv 3) pe_int) (pe_op op_mul (pv 2) pe_int)) pe_int) pa_nil)) pe_int))
      (pss_cons (ps_set (i := 3) nd rfl (Or.inl rfl) (pe_op op_mod (pe_callTy call_int1 (by rfl) M.int (by decide +kernel) (pa_cons (pe_op op_mul (pv 3) pe_int) pa_nil)) pe_int))
      (pss_one (ps_ret (pe_op op_mod (pe_callTy call_int1 (by rfl) M.int (by decide +kernel) (pa_cons (pv 3) pa_nil)) (pe_callB (call_max2 rfl) (by rfl) M.max (by decide +kernel) (pa_cons (pv 1) (pa_cons pe_int pa_nil)))))))) pss_nil)
      (pss_one (ps_asg (pv 3) (pg_sub (pv 0) pe_int set_list)))))))) pss_nil)
      (pss_cons (ps_set (i := 3) nd rfl (Or.inl rfl) (pe_ix (ixL K) (pv 0) pe_int (fun _ _ => rfl)))
      (pss_cons (ps_asg (pe_op op_fdiv (pv 3) (pe_callB (call_max2 rfl) (by rfl) M.max (by decide +kernel) (pa_cons (pv 1) (pa_cons pe_int pa_nil)))) (pg_sub (pv 0) pe_int set_list))
      (pss_one (ps_ret (pe_op op_mod (pe_callTy call_int1 (by rfl) M.int (by decide +kernel) (pa_cons (pv 3) pa_nil)) (pe_callB (call_max2 rfl) (by rfl) M.max (by decide +kernel) (pa_cons (pv 1) (pa_cons pe_int pa_nil))))))))), at_start (st_of (k := 2) rfl (by walk_at "sts")) ?_⟩
    have fin : ∀ (n : Int) (H1 : Hp) (p' r' s' : Int), H1 t = some (.lst [.ref l, .int p', .int r', .int s']) → Al t H H1 → 0 ≤ p' → 0 ≤ r' → 0 ≤ s' → Q (.int (n % (if (1 : Int) > m then (1 : Int) else m))) H1 := by
      intro n H1 p' r' s' e1 a1 hp hr' hs
      rw [max_one]
      refine k _ H1 ⟨⟨ns, p', r', s', e1, by rw [a1 l nlt]; exact h2, hp, hr', hs⟩, nlt⟩ a1 (Int.emod_nonneg _ (by omega)) (Int.emod_lt_of_pos _ (by omega))
    repeat walk_at "rd1"
    refine if_int (fun hr0 => ?_) (fun hr0 => ?_)
    · subst hr0
      repeat walk_at "rd1"
      refine if_dec (fun hpl => ?_) (fun hpl => ?_)
      · rw [List.length_map] at hpl
        obtain ⟨n, hn⟩ := at_int p0 hpl
        refine ⟨_, rfl, _, _, _, _, rfl, rfl, SqL.of h1, rfl, _, rfl, _, _, _, _, rfl, rfl, SqL.of h2, hn, ?_⟩
        repeat walk_at "rd1"
        refine if_dec (fun h18 => ?_) (fun h18 => ?_)
        · repeat walk_at "rd1"
          exact fin _ _ (p + 1) 0 s upd_same Al.upd (by omega) (by decide) s0
        · repeat walk_at "rd1"
          exact fin _ _ (p + 1) _ s upd_same ((Al.upd.trans Al.upd).trans Al.upd) (by omega) (Int.ediv_nonneg (by split <;> omega) (by split <;> omega)) s0
      · repeat walk_at "rd1"
        refine if_dec (fun h18 => ?_) (fun h18 => ?_)
        · repeat walk_at "rd1"
          exact fin _ _ (p + 1) 0 _ upd_same (Al.upd.trans Al.upd) (by omega) (by decide) (Int.emod_nonneg _ (by decide))
        · repeat walk_at "rd1"
          exact fin _ _ (p + 1) _ _ upd_same (((Al.upd.trans Al.upd).trans Al.upd).trans Al.upd) (by omega) (Int.ediv_nonneg (Int.emod_nonneg _ (by decide)) (by split <;> omega)) (Int.emod_nonneg _ (by decide))
    · repeat walk_at "rd1"
      exact fin _ _ p _ s upd_same Al.upd p0 (Int.ediv_nonneg r0 (by split <;> omega)) s0
end

/-- edges(rectangle); 0 rectangle, 1 left, 2 top, 3 width, 4 height -/
noncomputable def f_edges : List C → M C := fnU 1 4
    (mSeq (mAsg (gVar 0) (aTup 4 (aCons (asgR 1) (aCons (asgR 2) (aCons (asgR 3) (aCons (asgR 4) aNil))))))
      (mRet (gTupE (gaCons (gVar 1) (gaCons (gVar 2) (gaCons (gOp oAdd (gVar 1) (gVar 3)) (gaCons (gOp oAdd (gVar 2) (gVar 4)) gaNil)))))))
/-- inside(first, second); 0 first, 1 second, 2 left, 3 top, 4 right, 5 bottom, 6 least_left, 7 least_top, 8 most_right, 9 most_bottom -/
noncomputable def f_inside : List C → M C := fnU 2 8
    (mSeq (mAsg (gFn f_edges (gaCons (gVar 0) gaNil)) (aTup 4 (aCons (asgR 2) (aCons (asgR 3) (aCons (asgR 4) (aCons (asgR 5) aNil))))))
      (mSeq (mAsg (gFn f_edges (gaCons (gVar 1) gaNil)) (aTup 4 (aCons (asgR 6) (aCons (asgR 7) (aCons (asgR 8) (aCons (asgR 9) aNil))))))
      (mRet (gAndT (gOp oLe (gVar 6) (gVar 2)) (gAndT (gOp oLe (gVar 7) (gVar 3)) (gAndT (gOp oLe (gVar 4) (gVar 8)) (gOp oLe (gVar 5) (gVar 9))))))))
/-- common(first, second); 0 first, 1 second, 2 first_left, 3 first_top, 4 first_right, 5 first_bottom, 6 second_left, 7 second_top, 8 second_right, 9 second_bottom, 10 left, 11 top, 12 right, 13 bottom -/
noncomputable def f_common : List C → M C := fnU 2 12
    (mSeq (mAsg (gFn f_edges (gaCons (gVar 0) gaNil)) (aTup 4 (aCons (asgR 2) (aCons (asgR 3) (aCons (asgR 4) (aCons (asgR 5) aNil))))))
      (mSeq (mAsg (gFn f_edges (gaCons (gVar 1) gaNil)) (aTup 4 (aCons (asgR 6) (aCons (asgR 7) (aCons (asgR 8) (aCons (asgR 9) aNil))))))
      (mSeq (mPar 10 11 (gaCons (gCall oMax2 (gaCons (gVar 2) (gaCons (gVar 6) gaNil))) (gaCons (gCall oMax2 (gaCons (gVar 3) (gaCons (gVar 7) gaNil))) gaNil)))
      (mSeq (mPar 12 13 (gaCons (gCall oMin2 (gaCons (gVar 4) (gaCons (gVar 8) gaNil))) (gaCons (gCall oMin2 (gaCons (gVar 5) (gaCons (gVar 9) gaNil))) gaNil)))
      (mSeq (mIf (gOr (gTest (gOp oGe (gVar 10) (gVar 12))) (gTest (gOp oGe (gVar 11) (gVar 13)))) (mRet (gC .none)) mNext)
      (mRet (gTupE (gaCons (gVar 10) (gaCons (gVar 11) (gaCons (gOp oSub (gVar 12) (gVar 10)) (gaCons (gOp oSub (gVar 13) (gVar 11)) gaNil)))))))))))
/-- overlap(first, second); 0 first, 1 second -/
noncomputable def f_overlap : List C → M C := fnU 2 0
    (mRet (gOp (oIsX true) (gFn f_common (gaCons (gVar 0) (gaCons (gVar 1) gaNil))) (gC .none)))
/-- chosen_rectangle(problem, choice); 0 problem, 1 choice, 2 label, 3 side -/
noncomputable def f_chosen_rectangle : List C → M C := fnU 2 2
    (mSeq (mAsg (gVar 1) (aTup 2 (aCons (asgR 2) (aCons (asgR 3) aNil))))
      (mRet (gOp oIx (gOp oIx (gOp oIx (gVar 0) (gC (.int 2))) (gVar 2)) (gVar 3))))
/-- is_free(problem, choice); 0 problem, 1 choice, 2 area, 3 obstacles, 4 _, 5 place, 6 obstacle -/
noncomputable def f_is_free : List C → M C := fnU 2 5
    (mSeq (mAsg (gVar 0) (aTup 3 (aCons (asgR 2) (aCons (asgR 3) (aCons (asgR 4) aNil)))))
      (mSeq (mAsg (gFn f_chosen_rectangle (gaCons (gVar 0) (gaCons (gVar 1) gaNil))) (asgR 5))
      (mRet (gAndT (gFn f_inside (gaCons (gVar 5) (gaCons (gVar 2) gaNil))) (gNotT (gCall oAny (gaCons (gLc (gItV false 3) (asgR 6) gYes (gFn f_overlap (gaCons (gVar 5) (gaCons (gVar 6) gaNil))) [6]) gaNil)))))))
/-- other_choice(choice); 0 choice, 1 label, 2 side -/
noncomputable def f_other_choice : List C → M C := fnU 1 2
    (mSeq (mAsg (gVar 0) (aTup 2 (aCons (asgR 1) (aCons (asgR 2) aNil))))
      (mRet (gTupE (gaCons (gVar 1) (gaCons (gOp oSub (gC (.int 1)) (gVar 2)) gaNil)))))
/-- overlap_chosen(problem, first, second); 0 problem, 1 first, 2 second -/
noncomputable def f_overlap_chosen : List C → M C := fnU 3 0
    (mRet (gFn f_overlap (gaCons (gFn f_chosen_rectangle (gaCons (gVar 0) (gaCons (gVar 1) gaNil))) (gaCons (gFn f_chosen_rectangle (gaCons (gVar 0) (gaCons (gVar 2) gaNil))) gaNil))))
/-- forces(problem, choice, other); 0 problem, 1 choice, 2 other -/
noncomputable def f_forces : List C → M C := fnU 3 0
    (mSeq (mIf (gTest (gOp oEq (gVar 1) (gVar 2))) (mRet (gC (.bool false))) mNext)
      (mSeq (mIf (gTest (gOp oEq (gOp oIx (gVar 1) (gC (.int 0))) (gOp oIx (gVar 2) (gC (.int 0))))) (mRet (gNotT (gFn f_is_free (gaCons (gVar 0) (gaCons (gVar 1) gaNil))))) mNext)
      (mRet (gFn f_overlap_chosen (gaCons (gVar 0) (gaCons (gVar 1) (gaCons (gFn f_other_choice (gaCons (gVar 2) gaNil)) gaNil)))))))
/-- forced_choices(problem, among); 0 problem, 1 among, 2 choices, 3 label, 4 side, 5 other, 6 choice -/
noncomputable def f_forced_choices : List C → M C := fnU 2 5
    (mSeq (mAsg (gLc2 (gItV false 1) (asgR 3) gYes (gItI (gTupE (gaCons (gC (.int 0)) (gaCons (gC (.int 1)) gaNil)))) (asgR 4) gYes (gTupE (gaCons (gVar 3) (gaCons (gVar 4) gaNil))) [3, 4] [4]) (asgR 2))
      (mRet (gDcT (gItV false 2) (asgR 6) gYes (gVar 6) (gFrz (gLc (gItV false 2) (asgR 5) (gTru (gFn f_forces (gaCons (gVar 0) (gaCons (gVar 6) (gaCons (gVar 5) gaNil))))) (gVar 5) [5])) [6])))
/-- chains_from(forced, starts); 0 forced, 1 starts, 2 chains, 3 choice, 4 level, 5 following, 6 other -/
noncomputable def f_chains_from : List C → M C := fnU 2 5
    (mSeq (mAsg (gDcT (gItV false 1) (asgR 3) gYes (gVar 3) (gTupE (gaCons (gVar 3) gaNil)) [3]) (asgR 2))
      (mSeq (mAsg (gCall oListC (gaCons (gVar 1) gaNil)) (asgR 4))
      (mSeq (mWhile (fun _ => 100) (gTru (gVar 4)) (mSeq (mAsg (gLst gaNil) (asgR 5))
      (mSeq (mFor (gIt (gCall oListC (gaCons (gVar 4) gaNil))) (asgR 3) (mFor (gIt (gOp oDGet (gVar 0) (gVar 3))) (asgR 6) (mIf (gTest (gOp (oDIn true) (gVar 6) (gVar 2))) (mSeq (mDPut 2 (gOp oAdd (gOp oDGet (gVar 2) (gVar 3)) (gTupE (gaCons (gVar 6) gaNil))) (gVar 6))
      (mApp 5 (gVar 6))) mNext)))
      (mFrz 5 (mAsg (gVar 5) (asgR 4))))))
      (mRetV 2))))
/-- shortest_chain(problem, among, start, goal); 0 problem, 1 among, 2 start, 3 goal -/
noncomputable def f_shortest_chain : List C → M C := fnU 4 0
    (mRet (gDGet1 (gFn f_chains_from (gaCons (gFn f_forced_choices (gaCons (gVar 0) (gaCons (gVar 1) gaNil))) (gaCons (gTupE (gaCons (gVar 2) gaNil)) gaNil))) (gVar 3)))
/-- reason_of(problem, among, label); 0 problem, 1 among, 2 label, 3 labels, 4 first, 5 second -/
noncomputable def f_reason_of : List C → M C := fnU 3 3
    (mSeq (mAsg (gCall oTupC (gaCons (gCall oSort (gaCons (gOp oAdd (gVar 1) (gTupE (gaCons (gVar 2) gaNil))) gaNil)) gaNil)) (asgR 3))
      (mSeq (mAsg (gFn f_shortest_chain (gaCons (gVar 0) (gaCons (gVar 3) (gaCons (gTupE (gaCons (gVar 2) (gaCons (gC (.int 0)) gaNil))) (gaCons (gTupE (gaCons (gVar 2) (gaCons (gC (.int 1)) gaNil))) gaNil))))) (asgR 4))
      (mSeq (mAsg (gFn f_shortest_chain (gaCons (gVar 0) (gaCons (gVar 3) (gaCons (gTupE (gaCons (gVar 2) (gaCons (gC (.int 1)) gaNil))) (gaCons (gTupE (gaCons (gVar 2) (gaCons (gC (.int 0)) gaNil))) gaNil))))) (asgR 5))
      (mSeq (mIf (gOr (gTest (gOp (oIsX false) (gVar 4) (gC .none))) (gTest (gOp (oIsX false) (gVar 5) (gC .none)))) (mRet (gC .none)) mNext)
      (mRet (gTupE (gaCons (gVar 4) (gaCons (gVar 5) gaNil))))))))
/-- agree(forced, choices); 0 forced, 1 choices, 2 reached, 3 label, 4 side -/
noncomputable def f_agree : List C → M C := fnU 2 3
    (mSeq (mAsg (gFn f_chains_from (gaCons (gVar 0) (gaCons (gVar 1) gaNil))) (asgR 2))
      (mRet (gNotT (gCall oAny (gaCons (gLock 2 (gLc (gKeys 2) (aTup 2 (aCons (asgR 3) (aCons (asgR 4) aNil))) gYes (gOp (oDIn false) (gTupE (gaCons (gVar 3) (gaCons (gOp oSub (gC (.int 1)) (gVar 4)) gaNil))) (gVar 2)) [3, 4])) gaNil)))))
/-- together(problem, among); 0 problem, 1 among, 2 forced, 3 made, 4 label, 5 sides, 6 side, 7 _ -/
noncomputable def f_together : List C → M C := fnU 2 6
    (mSeq (mAsg (gFn f_forced_choices (gaCons (gVar 0) (gaCons (gVar 1) gaNil))) (asgR 2))
      (mSeq (mAsg (gTupE gaNil) (asgR 3))
      (mSeq (mForV 1 (asgR 4) (mSeq (mAsg (gLc (gIt (gTupE (gaCons (gC (.int 0)) (gaCons (gC (.int 1)) gaNil)))) (asgR 6) (gTru (gFn f_agree (gaCons (gVar 2) (gaCons (gOp oAdd (gVar 3) (gTupE (gaCons (gTupE (gaCons (gVar 4) (gaCons (gVar 6) gaNil))) gaNil))) gaNil)))) (gVar 6) [6]) (asgR 5))
      (mSeq (mIf (gNot (gTru (gVar 5))) (mRet (gC .none)) mNext)
      (mAsg (gOp oAdd (gVar 3) (gTupE (gaCons (gTupE (gaCons (gVar 4) (gaCons (gOp oIx (gVar 5) (gC (.int 0))) gaNil))) gaNil))) (asgR 3)))))
      (mRet (gCall oTupC (gaCons (gLc (gItV false 3) (aTup 2 (aCons (asgR 7) (aCons (asgR 6) aNil))) gYes (gVar 6) [6, 7]) gaNil))))))
/-- kept_labels(problem); 0 problem, 1 kept, 2 label -/
noncomputable def f_kept_labels : List C → M C := fnU 1 2
    (mSeq (mAsg (gTupE gaNil) (asgR 1))
      (mSeq (mFor (gItR1 (gaCons (gCall oLen (gaCons (gOp oIx (gVar 0) (gC (.int 2))) gaNil)) gaNil)) (asgR 2) (mIf (gTest (gOp (oIsX true) (gFn f_together (gaCons (gVar 0) (gaCons (gOp oAdd (gVar 1) (gTupE (gaCons (gVar 2) gaNil))) gaNil))) (gC .none))) (mAsg (gOp oAdd (gVar 1) (gTupE (gaCons (gVar 2) gaNil))) (asgR 1)) mNext))
      (mRetV 1)))
/-- place_labels(problem); 0 problem, 1 kept, 2 sides, 3 places, 4 label, 5 other -/
noncomputable def f_place_labels : List C → M C := fnU 1 5
    (mSeq (mAsg (gFn f_kept_labels (gaCons (gVar 0) gaNil)) (asgR 1))
      (mSeq (mAsg (gDZip (gaCons (gVar 1) (gaCons (gFn f_together (gaCons (gVar 0) (gaCons (gVar 1) gaNil))) gaNil))) (asgR 2))
      (mSeq (mAsg (gLst gaNil) (asgR 3))
      (mSeq (mFor (gItR1 (gaCons (gCall oLen (gaCons (gOp oIx (gVar 0) (gC (.int 2))) gaNil)) gaNil)) (asgR 4) (mIf (gTest (gOp (oDIn false) (gVar 4) (gVar 2))) (mApp 3 (gOp oDGet (gVar 2) (gVar 4))) (mApp 3 (gFn f_reason_of (gaCons (gVar 0) (gaCons (gCall oTupC (gaCons (gLc (gItV false 1) (asgR 5) (gTest (gOp oLt (gVar 5) (gVar 4))) (gVar 5) [5]) gaNil)) (gaCons (gVar 4) gaNil)))))))
      (mRet (gCall oTupC (gaCons (gVar 3) gaNil)))))))
/-- _law_inside(one, area); 0 one, 1 area -/
noncomputable def f_law_inside : List C → M C := fnU 2 0
    (mSeq (mIf (gOr (gTest (gOp oLt (gOp oIx (gVar 0) (gC (.int 0))) (gOp oIx (gVar 1) (gC (.int 0))))) (gTest (gOp oLt (gOp oIx (gVar 0) (gC (.int 1))) (gOp oIx (gVar 1) (gC (.int 1)))))) (mRet (gC (.bool false))) mNext)
      (mSeq (mIf (gTest (gOp oGt (gOp oAdd (gOp oIx (gVar 0) (gC (.int 0))) (gOp oIx (gVar 0) (gC (.int 2)))) (gOp oAdd (gOp oIx (gVar 1) (gC (.int 0))) (gOp oIx (gVar 1) (gC (.int 2)))))) (mRet (gC (.bool false))) mNext)
      (mRet (gOp oLe (gOp oAdd (gOp oIx (gVar 0) (gC (.int 1))) (gOp oIx (gVar 0) (gC (.int 3)))) (gOp oAdd (gOp oIx (gVar 1) (gC (.int 1))) (gOp oIx (gVar 1) (gC (.int 3))))))))
/-- _law_overlap(one, other); 0 one, 1 other, 2 left, 3 top, 4 right, 5 low -/
noncomputable def f_law_overlap : List C → M C := fnU 2 4
    (mSeq (mAsg (gCall oMax2 (gaCons (gOp oIx (gVar 0) (gC (.int 0))) (gaCons (gOp oIx (gVar 1) (gC (.int 0))) gaNil))) (asgR 2))
      (mSeq (mAsg (gCall oMax2 (gaCons (gOp oIx (gVar 0) (gC (.int 1))) (gaCons (gOp oIx (gVar 1) (gC (.int 1))) gaNil))) (asgR 3))
      (mSeq (mAsg (gCall oMin2 (gaCons (gOp oAdd (gOp oIx (gVar 0) (gC (.int 0))) (gOp oIx (gVar 0) (gC (.int 2)))) (gaCons (gOp oAdd (gOp oIx (gVar 1) (gC (.int 0))) (gOp oIx (gVar 1) (gC (.int 2)))) gaNil))) (asgR 4))
      (mSeq (mAsg (gCall oMin2 (gaCons (gOp oAdd (gOp oIx (gVar 0) (gC (.int 1))) (gOp oIx (gVar 0) (gC (.int 3)))) (gaCons (gOp oAdd (gOp oIx (gVar 1) (gC (.int 1))) (gOp oIx (gVar 1) (gC (.int 3)))) gaNil))) (asgR 5))
      (mRet (gAndT (gOp oLt (gVar 2) (gVar 4)) (gOp oLt (gVar 3) (gVar 5))))))))
/-- _law_spot(tape, low, size, room); 0 tape, 1 low, 2 size, 3 room -/
noncomputable def f_law_spot : List C → M C := fnU 4 0
    (mSeq (mIf (gTest (gOp oEq (gCall drawC (gaCons (gVar 0) (gaCons (gC (.int 6)) gaNil))) (gC (.int 0)))) (mRet (gOp oIx (gLst (gaCons (gOp oSub (gVar 1) (gC (.int 1))) (gaCons (gOp oAdd (gOp oSub (gOp oAdd (gVar 1) (gVar 3)) (gVar 2)) (gC (.int 1))) gaNil))) (gCall drawC (gaCons (gVar 0) (gaCons (gC (.int 2)) gaNil))))) mNext)
      (mRet (gOp oAdd (gVar 1) (gCall drawC (gaCons (gVar 0) (gaCons (gCall oMax2 (gaCons (gOp oAdd (gOp oSub (gVar 3) (gVar 2)) (gC (.int 1))) (gaCons (gC (.int 1)) gaNil))) gaNil))))))
/-- _law_rectangle(tape, area, size); 0 tape, 1 area, 2 size, 3 left -/
noncomputable def f_law_rectangle : List C → M C := fnU 3 1
    (mSeq (mAsg (gFn f_law_spot (gaCons (gVar 0) (gaCons (gOp oIx (gVar 1) (gC (.int 0))) (gaCons (gOp oIx (gVar 2) (gC (.int 0))) (gaCons (gOp oIx (gVar 1) (gC (.int 2))) gaNil))))) (asgR 3))
      (mRet (gTupE (gaCons (gVar 3) (gaCons (gFn f_law_spot (gaCons (gVar 0) (gaCons (gOp oIx (gVar 1) (gC (.int 1))) (gaCons (gOp oIx (gVar 2) (gC (.int 1))) (gaCons (gOp oIx (gVar 1) (gC (.int 3))) gaNil))))) (gaCons (gOp oIx (gVar 2) (gC (.int 0))) (gaCons (gOp oIx (gVar 2) (gC (.int 1))) gaNil)))))))
/-- _law_label(tape, area, form, labels); 0 tape, 1 area, 2 form, 3 labels, 4 size, 5 first, 6 move, 7 left, 8 high, 9 low -/
noncomputable def f_law_label : List C → M C := fnU 4 6
    (mSeq (mAsg (gTupE (gaCons (gOp oIx (gLst (gaCons (gC (.int 10)) (gaCons (gC (.int 7)) (gaCons (gC (.int 12)) (gaCons (gC (.int 4)) (gaCons (gC (.int 1)) (gaCons (gC (.int 15)) (gaCons (gC (.int 0)) gaNil)))))))) (gCall drawC (gaCons (gVar 0) (gaCons (gC (.int 7)) gaNil)))) (gaCons (gOp oIx (gLst (gaCons (gC (.int 7)) (gaCons (gC (.int 7)) (gaCons (gC (.int 5)) (gaCons (gC (.int 3)) (gaCons (gC (.int 8)) (gaCons (gC (.int 1)) (gaCons (gC (.int 0)) gaNil)))))))) (gCall drawC (gaCons (gVar 0) (gaCons (gC (.int 7)) gaNil)))) gaNil))) (asgR 4))
      (mSeq (mIf (gTest (gOp oEq (gVar 2) (gC (.int 0)))) (mRet (gTupE (gaCons (gFn f_law_rectangle (gaCons (gVar 0) (gaCons (gVar 1) (gaCons (gVar 4) gaNil)))) (gaCons (gFn f_law_rectangle (gaCons (gVar 0) (gaCons (gVar 1) (gaCons (gVar 4) gaNil)))) gaNil)))) mNext)
      (mSeq (mIf (gTest (gOp oEq (gVar 2) (gC (.int 1)))) (mSeq (mAsg (gFn f_law_rectangle (gaCons (gVar 0) (gaCons (gVar 1) (gaCons (gTupE (gaCons (gOp oAdd (gC (.int 4)) (gOp oIx (gVar 4) (gC (.int 0)))) (gaCons (gC (.int 7)) gaNil))) gaNil)))) (asgR 5))
      (mSeq (mAsg (gOp oIx (gLst (gaCons (gTupE (gaCons (gC (.int 0)) (gaCons (gC (.int 9)) gaNil))) (gaCons (gTupE (gaCons (gC (.int 0)) (gaCons (gUn oNeg (gC (.int 9))) gaNil))) (gaCons (gTupE (gaCons (gOp oAdd (gOp oIx (gVar 5) (gC (.int 2))) (gC (.int 2))) (gaCons (gC (.int 0)) gaNil))) (gaCons (gTupE (gaCons (gOp oSub (gUn oNeg (gC (.int 2))) (gOp oIx (gVar 5) (gC (.int 2)))) (gaCons (gC (.int 0)) gaNil))) gaNil))))) (gCall drawC (gaCons (gVar 0) (gaCons (gC (.int 4)) gaNil)))) (asgR 6))
      (mRet (gTupE (gaCons (gVar 5) (gaCons (gTupE (gaCons (gOp oAdd (gOp oIx (gVar 5) (gC (.int 0))) (gOp oIx (gVar 6) (gC (.int 0)))) (gaCons (gOp oAdd (gOp oIx (gVar 5) (gC (.int 1))) (gOp oIx (gVar 6) (gC (.int 1)))) (gaCons (gOp oIx (gVar 5) (gC (.int 2))) (gaCons (gC (.int 7)) gaNil))))) gaNil)))))) mNext)
      (mSeq (mIf (gTest (gOp oEq (gVar 2) (gC (.int 2)))) (mSeq (mAsg (gOp oAdd (gOp oIx (gVar 1) (gC (.int 0))) (gOp oMul (gOp oIx (gLst (gaCons (gC (.int 4)) (gaCons (gC (.int 5)) (gaCons (gC (.int 3)) gaNil)))) (gCall drawC (gaCons (gVar 0) (gaCons (gC (.int 3)) gaNil)))) (gCall oLen (gaCons (gVar 3) gaNil)))) (asgR 7))
      (mSeq (mAsg (gTupE (gaCons (gVar 7) (gaCons (gOp oIx (gVar 1) (gC (.int 1))) (gaCons (gC (.int 6)) (gaCons (gC (.int 5)) gaNil))))) (asgR 8))
      (mSeq (mAsg (gTupE (gaCons (gVar 7) (gaCons (gOp oAdd (gOp oIx (gVar 1) (gC (.int 1))) (gOp oIx (gLst (gaCons (gC (.int 5)) (gaCons (gC (.int 4)) (gaCons (gC (.int 6)) gaNil)))) (gCall drawC (gaCons (gVar 0) (gaCons (gC (.int 3)) gaNil))))) (gaCons (gC (.int 6)) (gaCons (gC (.int 5)) gaNil))))) (asgR 9))
      (mRet (gOp oIx (gLst (gaCons (gTupE (gaCons (gVar 8) (gaCons (gVar 9) gaNil))) (gaCons (gTupE (gaCons (gVar 9) (gaCons (gVar 8) gaNil))) (gaCons (gTupE (gaCons (gVar 8) (gaCons (gVar 9) gaNil))) (gaCons (gTupE (gaCons (gVar 8) (gaCons (gVar 8) gaNil))) gaNil))))) (gCall drawC (gaCons (gVar 0) (gaCons (gC (.int 4)) gaNil)))))))) mNext)
      (mSeq (mAsg (gFn f_law_rectangle (gaCons (gVar 0) (gaCons (gVar 1) (gaCons (gVar 4) gaNil)))) (asgR 5))
      (mSeq (mIf (gAnd (gTru (gVar 3)) (gTest (gOp oGt (gCall drawC (gaCons (gVar 0) (gaCons (gC (.int 3)) gaNil))) (gC (.int 0))))) (mAsg (gOp oIx (gOp oIx (gVar 3) (gCall drawC (gaCons (gVar 0) (gaCons (gCall oLen (gaCons (gVar 3) gaNil)) gaNil)))) (gCall drawC (gaCons (gVar 0) (gaCons (gC (.int 2)) gaNil)))) (asgR 5)) mNext)
      (mRet (gOp oIx (gLst (gaCons (gTupE (gaCons (gVar 5) (gaCons (gVar 5) gaNil))) (gaCons (gTupE (gaCons (gVar 5) (gaCons (gFn f_law_rectangle (gaCons (gVar 0) (gaCons (gVar 1) (gaCons (gVar 4) gaNil)))) gaNil))) gaNil))) (gCall oMin2 (gaCons (gCall drawC (gaCons (gVar 0) (gaCons (gC (.int 4)) gaNil))) (gaCons (gC (.int 1)) gaNil)))))))))))
/-- _law_problem(tape, most); 0 tape, 1 most, 2 size, 3 area, 4 form, 5 labels, 6 k, 7 obstacles, 8 one -/
noncomputable def f_law_problem : List C → M C := fnU 2 7
    (mSeq (mAsg (gTupE (gaCons (gOp oIx (gLst (gaCons (gC (.int 30)) (gaCons (gC (.int 24)) (gaCons (gC (.int 16)) (gaCons (gC (.int 40)) (gaCons (gC (.int 13)) (gaCons (gC (.int 0)) gaNil))))))) (gCall drawC (gaCons (gVar 0) (gaCons (gC (.int 6)) gaNil)))) (gaCons (gOp oIx (gLst (gaCons (gC (.int 20)) (gaCons (gC (.int 16)) (gaCons (gC (.int 14)) (gaCons (gC (.int 9)) (gaCons (gC (.int 30)) (gaCons (gC (.int 7)) gaNil))))))) (gCall drawC (gaCons (gVar 0) (gaCons (gC (.int 6)) gaNil)))) gaNil))) (asgR 2))
      (mSeq (mAsg (gTupE (gaCons (gOp oSub (gCall drawC (gaCons (gVar 0) (gaCons (gC (.int 40)) gaNil))) (gC (.int 20))) (gaCons (gOp oSub (gCall drawC (gaCons (gVar 0) (gaCons (gC (.int 40)) gaNil))) (gC (.int 20))) (gaCons (gOp oIx (gVar 2) (gC (.int 0))) (gaCons (gOp oIx (gVar 2) (gC (.int 1))) gaNil))))) (asgR 3))
      (mSeq (mAsg (gCall drawC (gaCons (gVar 0) (gaCons (gC (.int 4)) gaNil))) (asgR 4))
      (mSeq (mAsg (gLst gaNil) (asgR 5))
      (mSeq (mFor (gItR1 (gaCons (gCall drawC (gaCons (gVar 0) (gaCons (gOp oAdd (gVar 1) (gC (.int 1))) gaNil))) gaNil)) (asgR 6) (mApp 5 (gFn f_law_label (gaCons (gVar 0) (gaCons (gVar 3) (gaCons (gVar 4) (gaCons (gVar 5) gaNil)))))))
      (mSeq (mAsg (gLst gaNil) (asgR 7))
      (mSeq (mFor (gItR1 (gaCons (gOp oIx (gLst (gaCons (gC (.int 0)) (gaCons (gC (.int 0)) (gaCons (gC (.int 1)) (gaCons (gC (.int 3)) gaNil))))) (gCall drawC (gaCons (gVar 0) (gaCons (gC (.int 4)) gaNil)))) gaNil)) (asgR 6) (mSeq (mAsg (gFn f_law_rectangle (gaCons (gVar 0) (gaCons (gVar 3) (gaCons (gTupE (gaCons (gCall drawC (gaCons (gVar 0) (gaCons (gC (.int 7)) gaNil))) (gaCons (gCall drawC (gaCons (gVar 0) (gaCons (gC (.int 7)) gaNil))) gaNil))) gaNil)))) (asgR 8))
      (mSeq (mIf (gAnd (gTru (gVar 5)) (gTest (gOp oEq (gCall drawC (gaCons (gVar 0) (gaCons (gC (.int 4)) gaNil))) (gC (.int 0))))) (mAsg (gOp oIx (gOp oIx (gVar 5) (gCall drawC (gaCons (gVar 0) (gaCons (gCall oLen (gaCons (gVar 5) gaNil)) gaNil)))) (gCall drawC (gaCons (gVar 0) (gaCons (gC (.int 2)) gaNil)))) (asgR 8)) mNext)
      (mApp 7 (gVar 8)))))
      (mRet (gTupE (gaCons (gVar 3) (gaCons (gCall oTupC (gaCons (gVar 7) gaNil)) (gaCons (gCall oTupC (gaCons (gVar 5) gaNil)) gaNil))))))))))))
/-- _law_free(problem, one); 0 problem, 1 one, 2 other -/
noncomputable def f_law_free : List C → M C := fnU 2 1
    (mSeq (mIf (gNot (gTru (gFn f_law_inside (gaCons (gVar 1) (gaCons (gOp oIx (gVar 0) (gC (.int 0))) gaNil))))) (mRet (gC (.bool false))) mNext)
      (mSeq (mFor (gIt (gOp oIx (gVar 0) (gC (.int 1)))) (asgR 2) (mIf (gTru (gFn f_law_overlap (gaCons (gVar 1) (gaCons (gVar 2) gaNil)))) (mRet (gC (.bool false))) mNext))
      (mRet (gC (.bool true)))))
/-- _law_renumbered(placement, at); 0 placement, 1 at, 2 later, 3 value, 4 chains, 5 chain, 6 choice -/
noncomputable def f_law_renumbered : List C → M C := fnU 2 5
    (mSeq (mAsg (gLst gaNil) (asgR 2))
      (mSeq (mForV 0 (asgR 3) (mSeq (mIf (gTru (gUn (oIsiX "tuple") (gVar 3))) (mSeq (mAsg (gLst gaNil) (asgR 4))
      (mSeq (mForV 3 (asgR 5) (mApp 4 (gCall oTupC (gaCons (gLc (gItV false 5) (asgR 6) gYes (gTupE (gaCons (gOp oAdd (gOp oIx (gVar 6) (gC (.int 0))) (gCall oIntC (gaCons (gOp oGe (gOp oIx (gVar 6) (gC (.int 0))) (gVar 1)) gaNil))) (gaCons (gOp oIx (gVar 6) (gC (.int 1))) gaNil))) [6]) gaNil))))
      (mAsg (gCall oTupC (gaCons (gVar 4) gaNil)) (asgR 3)))) mNext)
      (mApp 2 (gVar 3))))
      (mRetV 2)))
/-- _law_sides(placement); 0 placement, 1 place -/
noncomputable def f_law_sides : List C → M C := fnU 1 1
    (mRet (gLc (gItV false 0) (asgR 1) gYes (gOp oIx (gLst (gaCons (gVar 1) (gaCons (gC .none) gaNil))) (gCall oIntC (gaCons (gUn (oIsiX "tuple") (gVar 1)) gaNil))) [1]))
/-- _law_alone(problem, at); 0 problem, 1 at, 2 others -/
noncomputable def f_law_alone : List C → M C := fnU 2 1
    (mSeq (mAsg (gOp oAdd (gSl (gOp oIx (gVar 0) (gC (.int 1))) gNo (gSome (gVar 1))) (gSl (gOp oIx (gVar 0) (gC (.int 1))) (gSome (gOp oAdd (gVar 1) (gC (.int 1)))) gNo)) (asgR 2))
      (mRet (gFn f_law_free (gaCons (gTupE (gaCons (gOp oIx (gVar 0) (gC (.int 0))) (gaCons (gVar 2) (gaCons (gTupE gaNil) gaNil)))) (gaCons (gOp oIx (gOp oIx (gVar 0) (gC (.int 1))) (gVar 1)) gaNil)))))
/-- law; 0 script, 1 tape, 2 old, 3 labels, 4 problem, 5 told, 6 at, 7 x, 8 first, 9 second, 10 due, 11 wider, 12 again, 13 k, 14 block, 15 others, 16 turned -/
noncomputable def m_law : Ro → M Res :=
    (mSeq (mAsg (gFn f_law_problem (gaCons (gVar 1) (gaCons (gC (.int 7)) gaNil))) (asgR 2))
      (mSeq (mAsg (gOp oIx (gVar 2) (gC (.int 2))) (asgR 3))
      (mSeq (mAsg (gTupE (gaCons (gTupE (gaCons (gOp oIx (gOp oIx (gVar 2) (gC (.int 0))) (gC (.int 0))) (gaCons (gOp oIx (gOp oIx (gVar 2) (gC (.int 0))) (gC (.int 1))) (gaCons (gOp oAdd (gOp oIx (gOp oIx (gVar 2) (gC (.int 0))) (gC (.int 2))) (gC (.int 110))) (gaCons (gOp oIx (gOp oIx (gVar 2) (gC (.int 0))) (gC (.int 3))) gaNil))))) (gaCons (gOp oIx (gVar 2) (gC (.int 1))) (gaCons (gVar 3) gaNil)))) (asgR 4))
      (mSeq (mAsg (gFn f_place_labels (gaCons (gVar 4) gaNil)) (asgR 5))
      (mSeq (mAsg (gCall drawC (gaCons (gVar 1) (gaCons (gOp oAdd (gCall oLen (gaCons (gVar 3) gaNil)) (gC (.int 1))) gaNil))) (asgR 6))
      (mSeq (mAsg (gOp oAdd (gOp oAdd (gOp oAdd (gOp oIx (gOp oIx (gVar 2) (gC (.int 0))) (gC (.int 0))) (gOp oIx (gOp oIx (gVar 2) (gC (.int 0))) (gC (.int 2)))) (gC (.int 100))) (gCall drawC (gaCons (gVar 1) (gaCons (gC (.int 5)) gaNil)))) (asgR 7))
      (mSeq (mAsg (gTupE (gaCons (gVar 7) (gaCons (gOp oAdd (gOp oIx (gOp oIx (gVar 2) (gC (.int 0))) (gC (.int 1))) (gCall drawC (gaCons (gVar 1) (gaCons (gOp oSub (gOp oIx (gOp oIx (gVar 2) (gC (.int 0))) (gC (.int 3))) (gC (.int 5))) gaNil)))) (gaCons (gCall drawC (gaCons (gVar 1) (gaCons (gC (.int 6)) gaNil))) (gaCons (gC (.int 6)) gaNil))))) (asgR 8))
      (mSeq (mAsg (gFn f_law_rectangle (gaCons (gVar 1) (gaCons (gOp oIx (gVar 2) (gC (.int 0))) (gaCons (gTupE (gaCons (gCall drawC (gaCons (gVar 1) (gaCons (gC (.int 12)) gaNil))) (gaCons (gCall drawC (gaCons (gVar 1) (gaCons (gC (.int 9)) gaNil))) gaNil))) gaNil)))) (asgR 9))
      (mSeq (mIf (gAnd (gTru (gVar 3)) (gTest (gOp oEq (gCall drawC (gaCons (gVar 1) (gaCons (gC (.int 2)) gaNil))) (gC (.int 0))))) (mAsg (gOp oIx (gOp oIx (gVar 3) (gCall drawC (gaCons (gVar 1) (gaCons (gCall oLen (gaCons (gVar 3) gaNil)) gaNil)))) (gCall drawC (gaCons (gVar 1) (gaCons (gC (.int 2)) gaNil)))) (asgR 9)) mNext)
      (mSeq (mAsg (gFn f_law_renumbered (gaCons (gVar 5) (gaCons (gVar 6) gaNil))) (asgR 10))
      (mSeq (mIns 10 (gaCons (gVar 6) (gaCons (gC (.int 0)) gaNil)))
      (mSeq (mAsg (gTupE (gaCons (gOp oIx (gVar 4) (gC (.int 0))) (gaCons (gOp oIx (gVar 4) (gC (.int 1))) (gaCons (gOp oAdd (gOp oAdd (gSl (gVar 3) gNo (gSome (gVar 6))) (gTupE (gaCons (gTupE (gaCons (gVar 8) (gaCons (gVar 9) gaNil))) gaNil))) (gSl (gVar 3) (gSome (gVar 6)) gNo)) gaNil)))) (asgR 11))
      (mSeq (mIf (gTest (gOp oNe (gCall oRepr (gaCons (gFn f_place_labels (gaCons (gVar 11) gaNil)) gaNil)) (gCall oRepr (gaCons (gCall oTupC (gaCons (gVar 10) gaNil)) gaNil)))) (mRet (gC (.bool false))) mNext)
      (mSeq (mAsg (gOp oAdd (gTRev (gOp oIx (gVar 4) (gC (.int 1)))) (gSl (gOp oIx (gVar 4) (gC (.int 1))) gNo (gSome (gC (.int 1))))) (asgR 12))
      (mSeq (mIf (gTest (gOp oNe (gCall oRepr (gaCons (gFn f_place_labels (gaCons (gTupE (gaCons (gOp oIx (gVar 4) (gC (.int 0))) (gaCons (gVar 12) (gaCons (gVar 3) gaNil)))) gaNil)) gaNil)) (gCall oRepr (gaCons (gVar 5) gaNil)))) (mRet (gC (.bool false))) mNext)
      (mSeq (mFor (gItR1 (gaCons (gCall oLen (gaCons (gOp oIx (gVar 4) (gC (.int 1))) gaNil)) gaNil)) (asgR 13) (mIf (gTru (gFn f_law_alone (gaCons (gVar 4) (gaCons (gVar 13) gaNil)))) (mSeq (mAsg (gOp oIx (gOp oIx (gVar 4) (gC (.int 1))) (gVar 13)) (asgR 14))
      (mSeq (mAsg (gOp oAdd (gSl (gOp oIx (gVar 4) (gC (.int 1))) gNo (gSome (gVar 13))) (gSl (gOp oIx (gVar 4) (gC (.int 1))) (gSome (gOp oAdd (gVar 13) (gC (.int 1)))) gNo)) (asgR 15))
      (mSeq (mAsg (gFn f_place_labels (gaCons (gTupE (gaCons (gOp oIx (gVar 4) (gC (.int 0))) (gaCons (gVar 15) (gaCons (gOp oAdd (gTupE (gaCons (gTupE (gaCons (gVar 14) (gaCons (gVar 14) gaNil))) gaNil)) (gVar 3)) gaNil)))) gaNil)) (asgR 16))
      (mRet (gOp oEq (gCall oRepr (gaCons (gFn f_law_sides (gaCons (gVar 16) gaNil)) gaNil)) (gCall oRepr (gaCons (gOp oAdd (gLst (gaCons (gC (.int 0)) gaNil)) (gFn f_law_sides (gaCons (gVar 5) gaNil))) gaNil))))))) mNext))
      (mRet (gC (.bool true)))))))))))))))))))

section
variable {P : Program} {w : World} {K : PySem.W.Frag} {mg : Str → Option Value} {base : Heap}
theorem df_edges (M : Blt mg) (A : At K mg "edges" s_edges) : Df P w K mg base 1 "edges" ["rectangle"] (spU K f_edges) := by
  have nd := sc_edges.nd
  exact Df.uni A (fun _ _ _ _ _ _ us hl => match us, hl with | [_], _ => rfl) sc_edges rfl (fun cdv A out f s H E hr hgd => ⟨_, (pss_cons (ps_asg (pv 0) (pg_tup rfl (pgs_cons (pg_name (i := 1) nd rfl (Or.inl rfl)) (pgs_cons (pg_name (i := 2) nd rfl (Or.inl rfl)) (pgs_cons (pg_name (i := 3) nd rfl (Or.inl rfl)) (pgs_cons (pg_name (i := 4) nd rfl (Or.inl rfl)) pgs_nil))))))
      (pss_one (ps_ret (pe_tup (pa_cons (pv 1) (pa_cons (pv 2) (pa_cons (pe_op (opAdd K) (pv 1) (pv 3)) (pa_cons (pe_op (opAdd K) (pv 2) (pv 4)) pa_nil)))))))),
    (rs_seq (rs_asg (re_var (i := 0)) (rg_tup (n := 4) (rgs_cons (rg_name (i := 1)) (rgs_cons (rg_name (i := 2)) (rgs_cons (rg_name (i := 3)) (rgs_cons (rg_name (i := 4)) rgs_nil))))))
      (rs_ret (re_tup (ra_cons (re_var (i := 1)) (ra_cons (re_var (i := 2)) (ra_cons (re_op os_add (re_var (i := 1)) (re_var (i := 3))) (ra_cons (re_op os_add (re_var (i := 2)) (re_var (i := 4))) ra_nil)))))))⟩)
theorem df_inside (M : Blt mg) (A : At K mg "inside" s_inside) (D_edges : Df P w K mg base 1 "edges" ["rectangle"] (spU K f_edges)) : Df P w K mg base 2 "inside" ["first", "second"] (spU K f_inside) := by
  have nd := sc_inside.nd
  exact Df.uni A (fun _ _ _ _ _ _ us hl => match us, hl with | [_, _], _ => rfl) sc_inside rfl (fun cdv A out f s H E hr hgd => ⟨_, (pss_cons (ps_asg (pe_df D_edges (hr.mono (by decide)) hgd rfl (pa_cons (pv 0) pa_nil)) (pg_tup rfl (pgs_cons (pg_name (i := 2) nd rfl (Or.inl rfl)) (pgs_cons (pg_name (i := 3) nd rfl (Or.inl rfl)) (pgs_cons (pg_name (i := 4) nd rfl (Or.inl rfl)) (pgs_cons (pg_name (i := 5) nd rfl (Or.inl rfl)) pgs_nil))))))
      (pss_cons (ps_asg (pe_df D_edges (hr.mono (by decide)) hgd rfl (pa_cons (pv 1) pa_nil)) (pg_tup rfl (pgs_cons (pg_name (i := 6) nd rfl (Or.inl rfl)) (pgs_cons (pg_name (i := 7) nd rfl (Or.inl rfl)) (pgs_cons (pg_name (i := 8) nd rfl (Or.inl rfl)) (pgs_cons (pg_name (i := 9) nd rfl (Or.inl rfl)) pgs_nil))))))
      (pss_one (ps_ret (andT K (pe_cmpR op_le (pv 6) (pv 2) (nomark _)) (andT K (pe_cmpR op_le (pv 7) (pv 3) (nomark _)) (andT K (pe_cmpR op_le (pv 4) (pv 8) (nomark _)) (pe_one (pe_cmpR op_le (pv 5) (pv 9) (nomark _)))))))))),
    (rs_seq (rs_asg (re_fn (ra_cons (re_var (i := 0)) ra_nil)) (rg_tup (n := 4) (rgs_cons (rg_name (i := 2)) (rgs_cons (rg_name (i := 3)) (rgs_cons (rg_name (i := 4)) (rgs_cons (rg_name (i := 5)) rgs_nil))))))
      (rs_seq (rs_asg (re_fn (ra_cons (re_var (i := 1)) ra_nil)) (rg_tup (n := 4) (rgs_cons (rg_name (i := 6)) (rgs_cons (rg_name (i := 7)) (rgs_cons (rg_name (i := 8)) (rgs_cons (rg_name (i := 9)) rgs_nil))))))
      (rs_ret (re_and (re_op os_cmp0 (re_var (i := 6)) (re_var (i := 2))) (re_and (re_op os_cmp0 (re_var (i := 7)) (re_var (i := 3))) (re_and (re_op os_cmp0 (re_var (i := 4)) (re_var (i := 8))) (re_op os_cmp0 (re_var (i := 5)) (re_var (i := 9)))))))))⟩)
theorem df_common (M : Blt mg) (A : At K mg "common" s_common) (D_edges : Df P w K mg base 1 "edges" ["rectangle"] (spU K f_edges)) : Df P w K mg base 2 "common" ["first", "second"] (spU K f_common) := by
  have nd := sc_common.nd
  exact Df.uni A (fun _ _ _ _ _ _ us hl => match us, hl with | [_, _], _ => rfl) sc_common rfl (fun cdv A out f s H E hr hgd => ⟨_, (pss_cons (ps_asg (pe_df D_edges (hr.mono (by decide)) hgd rfl (pa_cons (pv 0) pa_nil)) (pg_tup rfl (pgs_cons (pg_name (i := 2) nd rfl (Or.inl rfl)) (pgs_cons (pg_name (i := 3) nd rfl (Or.inl rfl)) (pgs_cons (pg_name (i := 4) nd rfl (Or.inl rfl)) (pgs_cons (pg_name (i := 5) nd rfl (Or.inl rfl)) pgs_nil))))))
      (pss_cons (ps_asg (pe_df D_edges (hr.mono (by decide)) hgd rfl (pa_cons (pv 1) pa_nil)) (pg_tup rfl (pgs_cons (pg_name (i := 6) nd rfl (Or.inl rfl)) (pgs_cons (pg_name (i := 7) nd rfl (Or.inl rfl)) (pgs_cons (pg_name (i := 8) nd rfl (Or.inl rfl)) (pgs_cons (pg_name (i := 9) nd rfl (Or.inl rfl)) pgs_nil))))))
      (pss_cons (par2 (ps_par (i := 10) (j := 11) (by rfl) nd rfl rfl (by decide) rfl rfl (pa_cons (pe_callB (call_max2 rfl) (by rfl) M.max (by decide +kernel) (pa_cons (pv 2) (pa_cons (pv 6) pa_nil))) (pa_cons (pe_callB (call_max2 rfl) (by rfl) M.max (by decide +kernel) (pa_cons (pv 3) (pa_cons (pv 7) pa_nil))) pa_nil)) (by rfl)))
      (pss_cons (par2 (ps_par (i := 12) (j := 13) (by rfl) nd rfl rfl (by decide) rfl rfl (pa_cons (pe_callB (call_min2 rfl) (by rfl) M.min (by decide +kernel) (pa_cons (pv 4) (pa_cons (pv 8) pa_nil))) (pa_cons (pe_callB (call_min2 rfl) (by rfl) M.min (by decide +kernel) (pa_cons (pv 5) (pa_cons (pv 9) pa_nil))) pa_nil)) (by rfl)))
      (pss_cons (ps_if (PW.pt (pw_or (pt_cmpR op_ge (pv 10) (pv 12) (nomark _)) (pw_or1 (pt_cmpR op_ge (pv 11) (pv 13) (nomark _))))) (pss_one (ps_ret pe_non)) pss_nil)
      (pss_one (ps_ret (pe_tup (pa_cons (pv 10) (pa_cons (pv 11) (pa_cons (pe_op op_sub (pv 12) (pv 10)) (pa_cons (pe_op op_sub (pv 13) (pv 11)) pa_nil)))))))))))),
    (rs_seq (rs_asg (re_fn (ra_cons (re_var (i := 0)) ra_nil)) (rg_tup (n := 4) (rgs_cons (rg_name (i := 2)) (rgs_cons (rg_name (i := 3)) (rgs_cons (rg_name (i := 4)) (rgs_cons (rg_name (i := 5)) rgs_nil))))))
      (rs_seq (rs_asg (re_fn (ra_cons (re_var (i := 1)) ra_nil)) (rg_tup (n := 4) (rgs_cons (rg_name (i := 6)) (rgs_cons (rg_name (i := 7)) (rgs_cons (rg_name (i := 8)) (rgs_cons (rg_name (i := 9)) rgs_nil))))))
      (rs_seq (rs_par (ra_cons (re_call cs_max2 (ra_cons (re_var (i := 2)) (ra_cons (re_var (i := 6)) ra_nil))) (ra_cons (re_call cs_max2 (ra_cons (re_var (i := 3)) (ra_cons (re_var (i := 7)) ra_nil))) ra_nil)))
      (rs_seq (rs_par (ra_cons (re_call cs_min2 (ra_cons (re_var (i := 4)) (ra_cons (re_var (i := 8)) ra_nil))) (ra_cons (re_call cs_min2 (ra_cons (re_var (i := 5)) (ra_cons (re_var (i := 9)) ra_nil))) ra_nil)))
      (rs_seq (rs_if (rt_or (rt_test (re_op os_cmp0 (re_var (i := 10)) (re_var (i := 12)))) (rt_test (re_op os_cmp0 (re_var (i := 11)) (re_var (i := 13))))) (rs_ret re_non) rs_next)
      (rs_ret (re_tup (ra_cons (re_var (i := 10)) (ra_cons (re_var (i := 11)) (ra_cons (re_op os_sub (re_var (i := 12)) (re_var (i := 10))) (ra_cons (re_op os_sub (re_var (i := 13)) (re_var (i := 11))) ra_nil)))))))))))⟩)
theorem df_overlap (M : Blt mg) (A : At K mg "overlap" s_overlap) (D_common : Df P w K mg base 2 "common" ["first", "second"] (spU K f_common)) : Df P w K mg base 3 "overlap" ["first", "second"] (spU K f_overlap) := by
  have nd := sc_overlap.nd
  exact Df.uni A (fun _ _ _ _ _ _ us hl => match us, hl with | [_, _], _ => rfl) sc_overlap rfl (fun cdv A out f s H E hr hgd => ⟨_, (pss_one (ps_ret (pe_cmpR opIsNot (pe_df D_common (hr.mono (by decide)) hgd rfl (pa_cons (pv 0) (pa_cons (pv 1) pa_nil))) pe_non (nomark _)))),
    (rs_ret (re_op os_isX (re_fn (ra_cons (re_var (i := 0)) (ra_cons (re_var (i := 1)) ra_nil))) re_non))⟩)
end
section
variable {P : Program} {w : World} {K : PySem.W.Frag} {mg : Str → Option Value} {base : Heap}
theorem df_chosen_rectangle (M : Blt mg) (A : At K mg "chosen_rectangle" s_chosen_rectangle) : Df P w K mg base 1 "chosen_rectangle" ["problem", "choice"] (spU K f_chosen_rectangle) := by
  have nd := sc_chosen_rectangle.nd
  exact Df.uni A (fun _ _ _ _ _ _ us hl => match us, hl with | [_, _], _ => rfl) sc_chosen_rectangle rfl (fun cdv A out f s H E hr hgd => ⟨_, (pss_cons (ps_asg (pv 1) (pg_tup rfl (pgs_cons (pg_name (i := 2) nd rfl (Or.inl rfl)) (pgs_cons (pg_name (i := 3) nd rfl (Or.inl rfl)) pgs_nil))))
      (pss_one (ps_ret (pe_ix (ixU K) (pe_ix (ixU K) (pe_ix (ixU K) (pv 0) pe_int (fun _ _ => rfl)) (pv 2) (fun _ _ => rfl)) (pv 3) (fun _ _ => rfl))))),
    (rs_seq (rs_asg (re_var (i := 1)) (rg_tup (n := 2) (rgs_cons (rg_name (i := 2)) (rgs_cons (rg_name (i := 3)) rgs_nil))))
      (rs_ret (re_op os_ix (re_op os_ix (re_op os_ix (re_var (i := 0)) re_int) (re_var (i := 2))) (re_var (i := 3)))))⟩)
theorem df_is_free (M : Blt mg) (A : At K mg "is_free" s_is_free) (D_chosen_rectangle : Df P w K mg base 1 "chosen_rectangle" ["problem", "choice"] (spU K f_chosen_rectangle)) (D_inside : Df P w K mg base 2 "inside" ["first", "second"] (spU K f_inside)) (D_overlap : Df P w K mg base 3 "overlap" ["first", "second"] (spU K f_overlap)) : Df P w K mg base 4 "is_free" ["problem", "choice"] (spU K f_is_free) := by
  have nd := sc_is_free.nd
  exact Df.uni A (fun _ _ _ _ _ _ us hl => match us, hl with | [_, _], _ => rfl) sc_is_free rfl (fun cdv A out f s H E hr hgd => ⟨_, (pss_cons (ps_asg (pv 0) (pg_tup rfl (pgs_cons (pg_name (i := 2) nd rfl (Or.inl rfl)) (pgs_cons (pg_name (i := 3) nd rfl (Or.inl rfl)) (pgs_cons (pg_name (i := 4) nd rfl (Or.inl rfl)) pgs_nil)))))
      (pss_cons (ps_set (i := 5) nd rfl (Or.inr rfl) (pe_df D_chosen_rectangle (hr.mono (by decide)) hgd rfl (pa_cons (pv 0) (pa_cons (pv 1) pa_nil))))
      (pss_one (ps_ret (andT K (pe_df D_inside (hr.mono (by decide)) hgd rfl (pa_cons (pv 5) (pa_cons (pv 2) pa_nil))) (pe_one (notT K (pe_callB (anyK K rfl) (by rfl) M.any (by decide +kernel) (pa_cons (pe_lc (own := [("obstacle", 6)]) (g := (gName 6)) (tt := tYes) rfl nd (pi_seq K (pv 3)) (blkOk_by (N := ["problem", "choice", "area", "obstacles", "_", "place", "obstacle"]) (sc := (defScope s_is_free)) (by decide +kernel)) (fun _ _ _ _ _ => (pg_name (i := 6) nd rfl (Or.inl rfl))) (fun _ _ _ _ _ => pts_nil) (fun _ _ _ _ _ => (pe_df D_overlap (hr.mono (by decide)) hgd rfl (pa_cons (pv 5) (pa_cons (pv 6) pa_nil))))) pa_nil))))))))),
    (rs_seq (rs_asg (re_var (i := 0)) (rg_tup (n := 3) (rgs_cons (rg_name (i := 2)) (rgs_cons (rg_name (i := 3)) (rgs_cons (rg_name (i := 4)) rgs_nil)))))
      (rs_seq (rs_asg (re_fn (ra_cons (re_var (i := 0)) (ra_cons (re_var (i := 1)) ra_nil))) (rg_name (i := 5)))
      (rs_ret (re_and (re_fn (ra_cons (re_var (i := 5)) (ra_cons (re_var (i := 2)) ra_nil))) (re_not (re_call cs_any (ra_cons (re_lc (s := false) (ri_var (i := 3) (s := false)) (rg_name (i := 6)) rt_yes (re_fn (ra_cons (re_var (i := 5)) (ra_cons (re_var (i := 6)) ra_nil))) (by decide)) ra_nil)))))))⟩)
theorem df_other_choice (M : Blt mg) (A : At K mg "other_choice" s_other_choice) : Df P w K mg base 1 "other_choice" ["choice"] (spU K f_other_choice) := by
  have nd := sc_other_choice.nd
  exact Df.uni A (fun _ _ _ _ _ _ us hl => match us, hl with | [_], _ => rfl) sc_other_choice rfl (fun cdv A out f s H E hr hgd => ⟨_, (pss_cons (ps_asg (pv 0) (pg_tup rfl (pgs_cons (pg_name (i := 1) nd rfl (Or.inl rfl)) (pgs_cons (pg_name (i := 2) nd rfl (Or.inl rfl)) pgs_nil))))
      (pss_one (ps_ret (pe_tup (pa_cons (pv 1) (pa_cons (pe_op op_sub pe_int (pv 2)) pa_nil)))))),
    (rs_seq (rs_asg (re_var (i := 0)) (rg_tup (n := 2) (rgs_cons (rg_name (i := 1)) (rgs_cons (rg_name (i := 2)) rgs_nil))))
      (rs_ret (re_tup (ra_cons (re_var (i := 1)) (ra_cons (re_op os_sub re_int (re_var (i := 2))) ra_nil)))))⟩)
theorem df_overlap_chosen (M : Blt mg) (A : At K mg "overlap_chosen" s_overlap_chosen) (D_overlap : Df P w K mg base 3 "overlap" ["first", "second"] (spU K f_overlap)) (D_chosen_rectangle : Df P w K mg base 1 "chosen_rectangle" ["problem", "choice"] (spU K f_chosen_rectangle)) : Df P w K mg base 4 "overlap_chosen" ["problem", "first", "second"] (spU K f_overlap_chosen) := by
  have nd := sc_overlap_chosen.nd
  exact Df.uni A (fun _ _ _ _ _ _ us hl => match us, hl with | [_, _, _], _ => rfl) sc_overlap_chosen rfl (fun cdv A out f s H E hr hgd => ⟨_, (pss_one (ps_ret (pe_df D_overlap (hr.mono (by decide)) hgd rfl (pa_cons (pe_df D_chosen_rectangle (hr.mono (by decide)) hgd rfl (pa_cons (pv 0) (pa_cons (pv 1) pa_nil))) (pa_cons (pe_df D_chosen_rectangle (hr.mono (by decide)) hgd rfl (pa_cons (pv 0) (pa_cons (pv 2) pa_nil))) pa_nil))))),
    (rs_ret (re_fn (ra_cons (re_fn (ra_cons (re_var (i := 0)) (ra_cons (re_var (i := 1)) ra_nil))) (ra_cons (re_fn (ra_cons (re_var (i := 0)) (ra_cons (re_var (i := 2)) ra_nil))) ra_nil))))⟩)
end
section
variable {P : Program} {w : World} {K : PySem.W.Frag} {mg : Str → Option Value} {base : Heap}
theorem df_forces (M : Blt mg) (A : At K mg "forces" s_forces) (D_overlap_chosen : Df P w K mg base 4 "overlap_chosen" ["problem", "first", "second"] (spU K f_overlap_chosen)) (D_other_choice : Df P w K mg base 1 "other_choice" ["choice"] (spU K f_other_choice)) (D_is_free : Df P w K mg base 4 "is_free" ["problem", "choice"] (spU K f_is_free)) : Df P w K mg base 5 "forces" ["problem", "choice", "other"] (spU K f_forces) := by
  have nd := sc_forces.nd
  exact Df.uni A (fun _ _ _ _ _ _ us hl => match us, hl with | [_, _, _], _ => rfl) sc_forces rfl (fun cdv A out f s H E hr hgd => ⟨_, (pss_cons (ps_if (pt_cmpR (opEq K hr.units) (pv 1) (pv 2) (nomark _)) (pss_one (ps_ret pe_bl)) pss_nil)
      (pss_cons (ps_if (pt_cmpR (opEq K hr.units) (pe_ix (ixU K) (pv 1) pe_int (fun _ _ => rfl)) (pe_ix (ixU K) (pv 2) pe_int (fun _ _ => rfl)) (nomark _)) (pss_one (ps_ret (notT K (pe_df D_is_free (hr.mono (by decide)) hgd rfl (pa_cons (pv 0) (pa_cons (pv 1) pa_nil)))))) pss_nil)
      (pss_one (ps_ret (pe_df D_overlap_chosen (hr.mono (by decide)) hgd rfl (pa_cons (pv 0) (pa_cons (pv 1) (pa_cons (pe_df D_other_choice (hr.mono (by decide)) hgd rfl (pa_cons (pv 2) pa_nil)) pa_nil)))))))),
    (rs_seq (rs_if (rt_test (re_op os_eq (re_var (i := 1)) (re_var (i := 2)))) (rs_ret re_bl) rs_next)
      (rs_seq (rs_if (rt_test (re_op os_eq (re_op os_ix (re_var (i := 1)) re_int) (re_op os_ix (re_var (i := 2)) re_int))) (rs_ret (re_not (re_fn (ra_cons (re_var (i := 0)) (ra_cons (re_var (i := 1)) ra_nil))))) rs_next)
      (rs_ret (re_fn (ra_cons (re_var (i := 0)) (ra_cons (re_var (i := 1)) (ra_cons (re_fn (ra_cons (re_var (i := 2)) ra_nil)) ra_nil)))))))⟩)
theorem df_forced_choices (M : Blt mg) (A : At K mg "forced_choices" s_forced_choices) (D_forces : Df P w K mg base 5 "forces" ["problem", "choice", "other"] (spU K f_forces)) : Df P w K mg base 6 "forced_choices" ["problem", "among"] (spU K f_forced_choices) := by
  have nd := sc_forced_choices.nd
  exact Df.uni A (fun _ _ _ _ _ _ us hl => match us, hl with | [_, _], _ => rfl) sc_forced_choices rfl (fun cdv A out f s H E hr hgd => ⟨_, (pss_cons (ps_set (i := 2) nd rfl (Or.inr rfl) (pe_lc2 (own := [("label", 3), ("side", 4)]) (vs1 := [4]) (g := (gName 3)) (g1 := (gName 4)) (tt := tYes) (tt1 := tYes) rfl nd (pi_seq K (pv 1)) (blkOk_by (N := ["problem", "among", "choices", "label", "side", "other", "choice"]) (sc := (defScope s_forced_choices)) (by decide +kernel)) (by decide) (fun _ _ _ _ _ => (pg_name (i := 3) nd rfl (Or.inl rfl))) (fun _ _ _ _ _ => pts_nil) (fun _ _ _ _ _ => (pi_seq K (pe_tup (pa_cons pe_int (pa_cons pe_int pa_nil))))) (fun _ _ _ _ _ => (pg_name (i := 4) nd rfl (Or.inl rfl))) (fun _ _ _ _ _ => pts_nil) (fun _ _ _ _ _ => (pe_tup (pa_cons (pv 3) (pa_cons (pv 4) pa_nil))))))
      (pss_one (ps_ret (pe_dcT (own := [("choice", 6)]) (g := (gName 6)) (tt := tYes) (u0 hr) rfl nd (pi_seq K (pv 2)) (blkOk_by (N := ["problem", "among", "choices", "label", "side", "other", "choice"]) (sc := (defScope s_forced_choices)) (by decide +kernel)) (fun _ _ _ _ _ => (pg_name (i := 6) nd rfl (Or.inr rfl))) (fun _ _ _ _ _ => pts_nil) (fun _ _ _ _ _ => (pv 6)) (fun _ _ _ _ _ => (pe_frz (pe_lc (own := [("other", 5)]) (g := (gName 5)) rfl nd (pi_seq K (pv 2)) (blkOk_by (N := ["problem", "among", "choices", "label", "side", "other", "choice"]) (sc := (L2.relS { kind := PySem.ScopeKind.function, names := [ (PySem.Str.ofString ".0", PySem.NameKind.local), (PySem.Str.ofString "choice", PySem.NameKind.cell), (PySem.Str.ofString "choices", PySem.NameKind.free), (PySem.Str.ofString "problem", PySem.NameKind.free)], isGenerator := false, isCoroutine := false, more := [] : PySem.Scope } (defScope s_forced_choices))) (by decide +kernel)) (fun _ _ _ _ _ => (pg_name (i := 5) nd rfl (Or.inl rfl))) (fun _ _ _ _ _ => (pts_one (truK K (pe_df D_forces (hr.mono (by decide)) hgd rfl (pa_cons (pv 0) (pa_cons (pv 6) (pa_cons (pv 5) pa_nil))))))) (fun _ _ _ _ _ => (pv 5))))))))),
    (rs_seq (rs_asg (re_lc2 (s := false) (ri_var (i := 1) (s := false)) (rg_name (i := 3)) rt_yes ov_name (rii_seq (re_tup (ra_cons re_int (ra_cons re_int ra_nil)))) (rg_name (i := 4)) rt_yes (re_tup (ra_cons (re_var (i := 3)) (ra_cons (re_var (i := 4)) ra_nil))) (by decide) (by decide)) (rg_name (i := 2)))
      (rs_ret (re_dcT (s := false) (ri_var (i := 2) (s := false)) (rg_name (i := 6)) rt_yes (re_var (i := 6)) (re_frz (re_lc (s := false) (ri_var (i := 2) (s := false)) (rg_name (i := 5)) (rt_tru (re_fn (ra_cons (re_var (i := 0)) (ra_cons (re_var (i := 6)) (ra_cons (re_var (i := 5)) ra_nil))))) (re_var (i := 5)) (by decide))) (by decide))))⟩)
theorem df_chains_from (M : Blt mg) (A : At K mg "chains_from" s_chains_from) : Df P w K mg base 1 "chains_from" ["forced", "starts"] (spU K f_chains_from) := by
  have nd := sc_chains_from.nd
  exact Df.uni A (fun _ _ _ _ _ _ us hl => match us, hl with | [_, _], _ => rfl) sc_chains_from rfl (fun cdv A out f s H E hr hgd => ⟨_, (pss_cons (ps_setDcT (i := 2) (own := [("choice", 3)]) (g := (gName 3)) (tt := tYes) (u0 hr) rfl nd rfl rfl (sw_dict rfl rfl rfl (by decide +kernel)) (pi_seq K (pv 1)) (blkOk_by (N := ["forced", "starts", "chains", "choice", "level", "following", "other"]) (sc := (defScope s_chains_from)) (by decide +kernel)) (fun _ _ _ _ _ => (pg_name (i := 3) nd rfl (Or.inl rfl))) (fun _ _ _ _ _ => pts_nil) (fun _ _ _ _ _ => (pv 3)) (fun _ _ _ _ _ => (pe_tup (pa_cons (pv 3) pa_nil))))
      (pss_cons (ps_set (i := 4) nd rfl (Or.inl rfl) (pe_callTy (listK K) (by rfl) M.list (by decide +kernel) (pa_cons (pv 1) pa_nil)))
      (pss_cons (ps_while PassesOwn.never (truK K (pv 4)) (pss_cons (ps_set (i := 5) nd rfl (Or.inl rfl) (pe_lst pa_nil))
      (pss_cons (ps_for PassesOwn.never rfl (pi_seq K (pe_callTy (listK K) (by rfl) M.list (by decide +kernel) (pa_cons (pv 4) pa_nil))) (pg_name (i := 3) nd rfl (Or.inl rfl)) (pss_one (ps_for PassesOwn.never rfl (pi_seq K (pe_dget (u1 hr) (pv 0) (pv 3) (fun _ _ => rfl))) (pg_name (i := 6) nd rfl (Or.inl rfl)) (pss_one (ps_if (pt_cmp (pc_dnotin (u1 hr) (pv 6) (pv 2))) (pss_cons (ps_dput (u1 hr) (pv 2) (pv 6) (pe_op (opAdd K) (pe_dget (u1 hr) (pv 2) (pv 3) (fun _ _ => rfl)) (pe_tup (pa_cons (pv 6) pa_nil))) rfl)
      (pss_one (ps_expr (pe_bm PySem.F.plainAttrs_list PySem.F.slot_list_append PySem.F.type_list_append mt_append (pv 5) (pa_cons (pv 6) pa_nil))))) pss_nil)))))
      (pss_one (ps_frz (i := 5) (ps_set (i := 4) nd rfl (Or.inl rfl) (pv 5)))))))
      (pss_one (ps_ret (pv 2)))))),
    (rs_seq (rs_asg (re_dcT (s := false) (ri_var (i := 1) (s := false)) (rg_name (i := 3)) rt_yes (re_var (i := 3)) (re_tup (ra_cons (re_var (i := 3)) ra_nil)) (by decide)) (rg_name (i := 2)))
      (rs_seq (rs_asg (re_call cs_list (ra_cons (re_var (i := 1)) ra_nil)) (rg_name (i := 4)))
      (rs_seq (rs_while (rt_tru (re_var (i := 4))) (rs_seq (rs_asg (re_lst ra_nil) (rg_name (i := 5)))
      (rs_seq (rs_for (ri_seq (s := true) (re_call cs_list (ra_cons (re_var (i := 4)) ra_nil))) (rg_name (i := 3)) (rs_for (ri_seq (s := true) (re_dget (re_var (i := 0)) (re_var (i := 3)))) (rg_name (i := 6)) (rs_if (rt_test (re_dnotin (re_var (i := 6)) (re_var (i := 2)))) (rs_seq (rs_dput (i := 2) (re_op os_add (re_dget (re_var (i := 2)) (re_var (i := 3))) (re_tup (ra_cons (re_var (i := 6)) ra_nil))) (re_var (i := 6)))
      (rs_app (i := 5) (re_var (i := 6)))) rs_next)))
      (rs_frz (i := 5) (rs_asg (re_var (i := 5)) (rg_name (i := 4)))))))
      (rs_retV (i := 2)))))⟩)
theorem df_shortest_chain (M : Blt mg) (A : At K mg "shortest_chain" s_shortest_chain) (D_chains_from : Df P w K mg base 1 "chains_from" ["forced", "starts"] (spU K f_chains_from)) (D_forced_choices : Df P w K mg base 6 "forced_choices" ["problem", "among"] (spU K f_forced_choices)) : Df P w K mg base 7 "shortest_chain" ["problem", "among", "start", "goal"] (spU K f_shortest_chain) := by
  have nd := sc_shortest_chain.nd
  exact Df.uni A (fun _ _ _ _ _ _ us hl => match us, hl with | [_, _, _, _], _ => rfl) sc_shortest_chain rfl (fun cdv A out f s H E hr hgd => ⟨_, (pss_one (ps_ret (pe_dget1 (u1 hr) (pe_df D_chains_from (hr.mono (by decide)) hgd rfl (pa_cons (pe_df D_forced_choices (hr.mono (by decide)) hgd rfl (pa_cons (pv 0) (pa_cons (pv 1) pa_nil))) (pa_cons (pe_tup (pa_cons (pv 2) pa_nil)) pa_nil))) (pv 3) ⟨rfl, rfl, rfl, rfl⟩))),
    (rs_ret (re_dget1 (re_fn (ra_cons (re_fn (ra_cons (re_var (i := 0)) (ra_cons (re_var (i := 1)) ra_nil))) (ra_cons (re_tup (ra_cons (re_var (i := 2)) ra_nil)) ra_nil))) (re_var (i := 3))))⟩)
end
section
variable {P : Program} {w : World} {K : PySem.W.Frag} {mg : Str → Option Value} {base : Heap}
theorem df_reason_of (M : Blt mg) (A : At K mg "reason_of" s_reason_of) (D_shortest_chain : Df P w K mg base 7 "shortest_chain" ["problem", "among", "start", "goal"] (spU K f_shortest_chain)) : Df P w K mg base 8 "reason_of" ["problem", "among", "label"] (spU K f_reason_of) := by
  have nd := sc_reason_of.nd
  exact Df.uni A (fun _ _ _ _ _ _ us hl => match us, hl with | [_, _, _], _ => rfl) sc_reason_of rfl (fun cdv A out f s H E hr hgd => ⟨_, (pss_cons (ps_set (i := 3) nd rfl (Or.inl rfl) (pe_callTy (tupK K) (by rfl) M.tuple (by decide +kernel) (pa_cons (pe_callB (sortU K) (by rfl) M.sorted (by decide +kernel) (pa_cons (pe_op (opAdd K) (pv 1) (pe_tup (pa_cons (pv 2) pa_nil))) pa_nil)) pa_nil)))
      (pss_cons (ps_set (i := 4) nd rfl (Or.inl rfl) (pe_df D_shortest_chain (hr.mono (by decide)) hgd rfl (pa_cons (pv 0) (pa_cons (pv 3) (pa_cons (pe_tup (pa_cons (pv 2) (pa_cons pe_int pa_nil))) (pa_cons (pe_tup (pa_cons (pv 2) (pa_cons pe_int pa_nil))) pa_nil))))))
      (pss_cons (ps_set (i := 5) nd rfl (Or.inl rfl) (pe_df D_shortest_chain (hr.mono (by decide)) hgd rfl (pa_cons (pv 0) (pa_cons (pv 3) (pa_cons (pe_tup (pa_cons (pv 2) (pa_cons pe_int pa_nil))) (pa_cons (pe_tup (pa_cons (pv 2) (pa_cons pe_int pa_nil))) pa_nil))))))
      (pss_cons (ps_if (PW.pt (pw_or (pt_cmpR opIs (pv 4) pe_non (nomark _)) (pw_or1 (pt_cmpR opIs (pv 5) pe_non (nomark _))))) (pss_one (ps_ret pe_non)) pss_nil)
      (pss_one (ps_ret (pe_tup (pa_cons (pv 4) (pa_cons (pv 5) pa_nil))))))))),
    (rs_seq (rs_asg (re_call cs_tuple (ra_cons (re_call cs_sort (ra_cons (re_op os_add (re_var (i := 1)) (re_tup (ra_cons (re_var (i := 2)) ra_nil))) ra_nil)) ra_nil)) (rg_name (i := 3)))
      (rs_seq (rs_asg (re_fn (ra_cons (re_var (i := 0)) (ra_cons (re_var (i := 3)) (ra_cons (re_tup (ra_cons (re_var (i := 2)) (ra_cons re_int ra_nil))) (ra_cons (re_tup (ra_cons (re_var (i := 2)) (ra_cons re_int ra_nil))) ra_nil))))) (rg_name (i := 4)))
      (rs_seq (rs_asg (re_fn (ra_cons (re_var (i := 0)) (ra_cons (re_var (i := 3)) (ra_cons (re_tup (ra_cons (re_var (i := 2)) (ra_cons re_int ra_nil))) (ra_cons (re_tup (ra_cons (re_var (i := 2)) (ra_cons re_int ra_nil))) ra_nil))))) (rg_name (i := 5)))
      (rs_seq (rs_if (rt_or (rt_test (re_op os_isX (re_var (i := 4)) re_non)) (rt_test (re_op os_isX (re_var (i := 5)) re_non))) (rs_ret re_non) rs_next)
      (rs_ret (re_tup (ra_cons (re_var (i := 4)) (ra_cons (re_var (i := 5)) ra_nil))))))))⟩)
theorem df_agree (M : Blt mg) (A : At K mg "agree" s_agree) (D_chains_from : Df P w K mg base 1 "chains_from" ["forced", "starts"] (spU K f_chains_from)) : Df P w K mg base 2 "agree" ["forced", "choices"] (spU K f_agree) := by
  have nd := sc_agree.nd
  exact Df.uni A (fun _ _ _ _ _ _ us hl => match us, hl with | [_, _], _ => rfl) sc_agree rfl (fun cdv A out f s H E hr hgd => ⟨_, (pss_cons (ps_set (i := 2) nd rfl (Or.inr rfl) (pe_df D_chains_from (hr.mono (by decide)) hgd rfl (pa_cons (pv 0) (pa_cons (pv 1) pa_nil))))
      (pss_one (ps_ret (notT K (pe_callB (anyK K rfl) (by rfl) M.any (by decide +kernel) (pa_cons (pe_lock (pe_lc (own := [("label", 3), ("side", 4)]) (g := (gTup K 2 (gCons (gName 3) (gCons (gName 4) gNil)))) (tt := tYes) rfl nd (pi_keys (pv 2)) (blkOk_by (N := ["forced", "choices", "reached", "label", "side"]) (sc := (defScope s_agree)) (by decide +kernel)) (fun _ _ _ _ _ => (pg_tup rfl (pgs_cons (pg_name (i := 3) nd rfl (Or.inl rfl)) (pgs_cons (pg_name (i := 4) nd rfl (Or.inl rfl)) pgs_nil)))) (fun _ _ _ _ _ => pts_nil) (fun _ _ _ _ _ => (pe_cmp (pc_din (u1 hr) (pe_tup (pa_cons (pv 3) (pa_cons (pe_op op_sub pe_int (pv 4)) pa_nil))) (pv 2)))))) pa_nil)))))),
    (rs_seq (rs_asg (re_fn (ra_cons (re_var (i := 0)) (ra_cons (re_var (i := 1)) ra_nil))) (rg_name (i := 2)))
      (rs_ret (re_not (re_call cs_any (ra_cons (re_lock (i := 2) (re_lc (s := false) (ri_keys (i := 2) (s := false)) (rg_tup (n := 2) (rgs_cons (rg_name (i := 3)) (rgs_cons (rg_name (i := 4)) rgs_nil))) rt_yes (re_din (re_tup (ra_cons (re_var (i := 3)) (ra_cons (re_op os_sub re_int (re_var (i := 4))) ra_nil))) (re_var (i := 2))) (by decide))) ra_nil)))))⟩)
theorem df_together (M : Blt mg) (A : At K mg "together" s_together) (D_forced_choices : Df P w K mg base 6 "forced_choices" ["problem", "among"] (spU K f_forced_choices)) (D_agree : Df P w K mg base 2 "agree" ["forced", "choices"] (spU K f_agree)) : Df P w K mg base 7 "together" ["problem", "among"] (spU K f_together) := by
  have nd := sc_together.nd
  exact Df.uni A (fun _ _ _ _ _ _ us hl => match us, hl with | [_, _], _ => rfl) sc_together rfl (fun cdv A out f s H E hr hgd => ⟨_, (pss_cons (ps_set (i := 2) nd rfl (Or.inr rfl) (pe_df D_forced_choices (hr.mono (by decide)) hgd rfl (pa_cons (pv 0) (pa_cons (pv 1) pa_nil))))
      (pss_cons (ps_set (i := 3) nd rfl (Or.inr rfl) (pe_tup pa_nil))
      (pss_cons (ps_for PassesOwn.never rfl (pi_seq K (pv 1)) (pg_name (i := 4) nd rfl (Or.inr rfl)) (pss_cons (ps_setLc (i := 5) (own := [("side", 6)]) (g := (gName 6)) rfl nd rfl rfl (sw_true rfl rfl rfl (by decide +kernel)) (pi_seq K (pe_tup (pa_cons pe_int (pa_cons pe_int pa_nil)))) (blkOk_by (N := ["problem", "among", "forced", "made", "label", "sides", "side", "_"]) (sc := (defScope s_together)) (by decide +kernel)) (fun _ _ _ _ _ => (pg_name (i := 6) nd rfl (Or.inl rfl))) (fun _ _ _ _ _ => (pts_one (truK K (pe_df D_agree (hr.mono (by decide)) hgd rfl (pa_cons (pv 2) (pa_cons (pe_op (opAdd K) (pv 3) (pe_tup (pa_cons (pe_tup (pa_cons (pv 4) (pa_cons (pv 6) pa_nil))) pa_nil))) pa_nil)))))) (fun _ _ _ _ _ => (pv 6)))
      (pss_cons (ps_if (pt_not (truK K (pv 5))) (pss_one (ps_ret pe_non)) pss_nil)
      (pss_one (ps_set (i := 3) nd rfl (Or.inr rfl) (pe_op (opAdd K) (pv 3) (pe_tup (pa_cons (pe_tup (pa_cons (pv 4) (pa_cons (pe_ix (ixU K) (pv 5) pe_int (fun _ _ => rfl)) pa_nil))) pa_nil))))))))
      (pss_one (ps_ret (pe_callTy (tupK K) (by rfl) M.tuple (by decide +kernel) (pa_cons (pe_lc (own := [("side", 6), ("_", 7)]) (g := (gTup K 2 (gCons (gName 7) (gCons (gName 6) gNil)))) (tt := tYes) rfl nd (pi_seq K (pv 3)) (blkOk_by (N := ["problem", "among", "forced", "made", "label", "sides", "side", "_"]) (sc := (defScope s_together)) (by decide +kernel)) (fun _ _ _ _ _ => (pg_tup rfl (pgs_cons (pg_name (i := 7) nd rfl (Or.inl rfl)) (pgs_cons (pg_name (i := 6) nd rfl (Or.inl rfl)) pgs_nil)))) (fun _ _ _ _ _ => pts_nil) (fun _ _ _ _ _ => (pv 6))) pa_nil))))))),
    (rs_seq (rs_asg (re_fn (ra_cons (re_var (i := 0)) (ra_cons (re_var (i := 1)) ra_nil))) (rg_name (i := 2)))
      (rs_seq (rs_asg (re_tup ra_nil) (rg_name (i := 3)))
      (rs_seq (rs_forV (i := 1) (rg_name (i := 4)) (rs_seq (rs_asg (re_lc (s := false) (ri_seq (s := false) (re_tup (ra_cons re_int (ra_cons re_int ra_nil)))) (rg_name (i := 6)) (rt_tru (re_fn (ra_cons (re_var (i := 2)) (ra_cons (re_op os_add (re_var (i := 3)) (re_tup (ra_cons (re_tup (ra_cons (re_var (i := 4)) (ra_cons (re_var (i := 6)) ra_nil))) ra_nil))) ra_nil)))) (re_var (i := 6)) (by decide)) (rg_name (i := 5)))
      (rs_seq (rs_if (rt_not (rt_tru (re_var (i := 5)))) (rs_ret re_non) rs_next)
      (rs_asg (re_op os_add (re_var (i := 3)) (re_tup (ra_cons (re_tup (ra_cons (re_var (i := 4)) (ra_cons (re_op os_ix (re_var (i := 5)) re_int) ra_nil))) ra_nil))) (rg_name (i := 3))))))
      (rs_ret (re_call cs_tuple (ra_cons (re_lc (s := false) (ri_var (i := 3) (s := false)) (rg_tup (n := 2) (rgs_cons (rg_name (i := 7)) (rgs_cons (rg_name (i := 6)) rgs_nil))) rt_yes (re_var (i := 6)) (by decide)) ra_nil))))))⟩)
theorem df_kept_labels (M : Blt mg) (A : At K mg "kept_labels" s_kept_labels) (D_together : Df P w K mg base 7 "together" ["problem", "among"] (spU K f_together)) : Df P w K mg base 8 "kept_labels" ["problem"] (spU K f_kept_labels) := by
  have nd := sc_kept_labels.nd
  exact Df.uni A (fun _ _ _ _ _ _ us hl => match us, hl with | [_], _ => rfl) sc_kept_labels rfl (fun cdv A out f s H E hr hgd => ⟨_, (pss_cons (ps_set (i := 1) nd rfl (Or.inl rfl) (pe_tup pa_nil))
      (pss_cons (ps_for PassesOwn.never rfl (pi_range1 rfl M.range (pa_cons (pe_callB (lenK K) (by rfl) M.len (by decide +kernel) (pa_cons (pe_ix (ixU K) (pv 0) pe_int (fun _ _ => rfl)) pa_nil)) pa_nil)) (pg_name (i := 2) nd rfl (Or.inl rfl)) (pss_one (ps_if (pt_cmpR opIsNot (pe_df D_together (hr.mono (by decide)) hgd rfl (pa_cons (pv 0) (pa_cons (pe_op (opAdd K) (pv 1) (pe_tup (pa_cons (pv 2) pa_nil))) pa_nil))) pe_non (nomark _)) (pss_one (ps_set (i := 1) nd rfl (Or.inl rfl) (pe_op (opAdd K) (pv 1) (pe_tup (pa_cons (pv 2) pa_nil))))) pss_nil)))
      (pss_one (ps_ret (pv 1))))),
    (rs_seq (rs_asg (re_tup ra_nil) (rg_name (i := 1)))
      (rs_seq (rs_for (ri_rng1 (s := true) (ra_cons (re_call cs_len (ra_cons (re_op os_ix (re_var (i := 0)) re_int) ra_nil)) ra_nil)) (rg_name (i := 2)) (rs_if (rt_test (re_op os_isX (re_fn (ra_cons (re_var (i := 0)) (ra_cons (re_op os_add (re_var (i := 1)) (re_tup (ra_cons (re_var (i := 2)) ra_nil))) ra_nil))) re_non)) (rs_asg (re_op os_add (re_var (i := 1)) (re_tup (ra_cons (re_var (i := 2)) ra_nil))) (rg_name (i := 1))) rs_next))
      (rs_retV (i := 1))))⟩)
end
section
variable {P : Program} {w : World} {K : PySem.W.Frag} {mg : Str → Option Value} {base : Heap}
theorem df_place_labels (M : Blt mg) (A : At K mg "place_labels" s_place_labels) (D_kept_labels : Df P w K mg base 8 "kept_labels" ["problem"] (spU K f_kept_labels)) (D_together : Df P w K mg base 7 "together" ["problem", "among"] (spU K f_together)) (D_reason_of : Df P w K mg base 8 "reason_of" ["problem", "among", "label"] (spU K f_reason_of)) : Df P w K mg base 9 "place_labels" ["problem"] (spU K f_place_labels) := by
  have nd := sc_place_labels.nd
  exact Df.uni A (fun _ _ _ _ _ _ us hl => match us, hl with | [_], _ => rfl) sc_place_labels rfl (fun cdv A out f s H E hr hgd => ⟨_, (pss_cons (ps_set (i := 1) nd rfl (Or.inl rfl) (pe_df D_kept_labels (hr.mono (by decide)) hgd rfl (pa_cons (pv 0) pa_nil)))
      (pss_cons (ps_set (i := 2) nd rfl (Or.inl rfl) (pe_dzip rfl rfl M.dict rfl M.zip (pa_cons (pv 1) (pa_cons (pe_df D_together (hr.mono (by decide)) hgd rfl (pa_cons (pv 0) (pa_cons (pv 1) pa_nil))) pa_nil))))
      (pss_cons (ps_set (i := 3) nd rfl (Or.inl rfl) (pe_lst pa_nil))
      (pss_cons (ps_for PassesOwn.never rfl (pi_range1 rfl M.range (pa_cons (pe_callB (lenK K) (by rfl) M.len (by decide +kernel) (pa_cons (pe_ix (ixU K) (pv 0) pe_int (fun _ _ => rfl)) pa_nil)) pa_nil)) (pg_name (i := 4) nd rfl (Or.inr rfl)) (pss_one (ps_if (pt_cmp (pc_din (u1 hr) (pv 4) (pv 2))) (pss_one (ps_expr (pe_bm PySem.F.plainAttrs_list PySem.F.slot_list_append PySem.F.type_list_append mt_append (pv 3) (pa_cons (pe_dget (u1 hr) (pv 2) (pv 4) (fun _ _ => rfl)) pa_nil)))) (pss_one (ps_expr (pe_bm PySem.F.plainAttrs_list PySem.F.slot_list_append PySem.F.type_list_append mt_append (pv 3) (pa_cons (pe_df D_reason_of (hr.mono (by decide)) hgd rfl (pa_cons (pv 0) (pa_cons (pe_callTy (tupK K) (by rfl) M.tuple (by decide +kernel) (pa_cons (pe_lc (own := [("other", 5)]) (g := (gName 5)) rfl nd (pi_seq K (pv 1)) (blkOk_by (N := ["problem", "kept", "sides", "places", "label", "other"]) (sc := (defScope s_place_labels)) (by decide +kernel)) (fun _ _ _ _ _ => (pg_name (i := 5) nd rfl (Or.inl rfl))) (fun _ _ _ _ _ => (pts_one (pt_cmpR op_lt (pv 5) (pv 4) (nomark _)))) (fun _ _ _ _ _ => (pv 5))) pa_nil)) (pa_cons (pv 4) pa_nil)))) pa_nil)))))))
      (pss_one (ps_ret (pe_callTy (tupK K) (by rfl) M.tuple (by decide +kernel) (pa_cons (pv 3) pa_nil)))))))),
    (rs_seq (rs_asg (re_fn (ra_cons (re_var (i := 0)) ra_nil)) (rg_name (i := 1)))
      (rs_seq (rs_asg (re_dzip (ra_cons (re_var (i := 1)) (ra_cons (re_fn (ra_cons (re_var (i := 0)) (ra_cons (re_var (i := 1)) ra_nil))) ra_nil))) (rg_name (i := 2)))
      (rs_seq (rs_asg (re_lst ra_nil) (rg_name (i := 3)))
      (rs_seq (rs_for (ri_rng1 (s := true) (ra_cons (re_call cs_len (ra_cons (re_op os_ix (re_var (i := 0)) re_int) ra_nil)) ra_nil)) (rg_name (i := 4)) (rs_if (rt_test (re_din (re_var (i := 4)) (re_var (i := 2)))) (rs_app (i := 3) (re_dget (re_var (i := 2)) (re_var (i := 4)))) (rs_app (i := 3) (re_fn (ra_cons (re_var (i := 0)) (ra_cons (re_call cs_tuple (ra_cons (re_lc (s := false) (ri_var (i := 1) (s := false)) (rg_name (i := 5)) (rt_test (re_op os_cmp0 (re_var (i := 5)) (re_var (i := 4)))) (re_var (i := 5)) (by decide)) ra_nil)) (ra_cons (re_var (i := 4)) ra_nil)))))))
      (rs_ret (re_call cs_tuple (ra_cons (re_var (i := 3)) ra_nil)))))))⟩)
theorem df_law_inside (M : Blt mg) (A : At K mg "_law_inside" s_law_inside) : Df P w K mg base 1 "_law_inside" ["one", "area"] (spU K f_law_inside) := by
  have nd := sc_law_inside.nd
  exact Df.uni A (fun _ _ _ _ _ _ us hl => match us, hl with | [_, _], _ => rfl) sc_law_inside rfl (fun cdv A out f s H E hr hgd => ⟨_, (pss_cons (ps_if (PW.pt (pw_or (pt_cmpR op_lt (pe_ix (ixU K) (pv 0) pe_int (fun _ _ => rfl)) (pe_ix (ixU K) (pv 1) pe_int (fun _ _ => rfl)) (nomark _)) (pw_or1 (pt_cmpR op_lt (pe_ix (ixU K) (pv 0) pe_int (fun _ _ => rfl)) (pe_ix (ixU K) (pv 1) pe_int (fun _ _ => rfl)) (nomark _))))) (pss_one (ps_ret pe_bl)) pss_nil)
      (pss_cons (ps_if (pt_cmpR op_gt (pe_op (opAdd K) (pe_ix (ixU K) (pv 0) pe_int (fun _ _ => rfl)) (pe_ix (ixU K) (pv 0) pe_int (fun _ _ => rfl))) (pe_op (opAdd K) (pe_ix (ixU K) (pv 1) pe_int (fun _ _ => rfl)) (pe_ix (ixU K) (pv 1) pe_int (fun _ _ => rfl))) (nomark _)) (pss_one (ps_ret pe_bl)) pss_nil)
      (pss_one (ps_ret (pe_cmpR op_le (pe_op (opAdd K) (pe_ix (ixU K) (pv 0) pe_int (fun _ _ => rfl)) (pe_ix (ixU K) (pv 0) pe_int (fun _ _ => rfl))) (pe_op (opAdd K) (pe_ix (ixU K) (pv 1) pe_int (fun _ _ => rfl)) (pe_ix (ixU K) (pv 1) pe_int (fun _ _ => rfl))) (nomark _)))))),
    (rs_seq (rs_if (rt_or (rt_test (re_op os_cmp0 (re_op os_ix (re_var (i := 0)) re_int) (re_op os_ix (re_var (i := 1)) re_int))) (rt_test (re_op os_cmp0 (re_op os_ix (re_var (i := 0)) re_int) (re_op os_ix (re_var (i := 1)) re_int)))) (rs_ret re_bl) rs_next)
      (rs_seq (rs_if (rt_test (re_op os_cmp0 (re_op os_add (re_op os_ix (re_var (i := 0)) re_int) (re_op os_ix (re_var (i := 0)) re_int)) (re_op os_add (re_op os_ix (re_var (i := 1)) re_int) (re_op os_ix (re_var (i := 1)) re_int)))) (rs_ret re_bl) rs_next)
      (rs_ret (re_op os_cmp0 (re_op os_add (re_op os_ix (re_var (i := 0)) re_int) (re_op os_ix (re_var (i := 0)) re_int)) (re_op os_add (re_op os_ix (re_var (i := 1)) re_int) (re_op os_ix (re_var (i := 1)) re_int))))))⟩)
theorem df_law_overlap (M : Blt mg) (A : At K mg "_law_overlap" s_law_overlap) : Df P w K mg base 1 "_law_overlap" ["one", "other"] (spU K f_law_overlap) := by
  have nd := sc_law_overlap.nd
  exact Df.uni A (fun _ _ _ _ _ _ us hl => match us, hl with | [_, _], _ => rfl) sc_law_overlap rfl (fun cdv A out f s H E hr hgd => ⟨_, (pss_cons (ps_set (i := 2) nd rfl (Or.inl rfl) (pe_callB (call_max2 rfl) (by rfl) M.max (by decide +kernel) (pa_cons (pe_ix (ixU K) (pv 0) pe_int (fun _ _ => rfl)) (pa_cons (pe_ix (ixU K) (pv 1) pe_int (fun _ _ => rfl)) pa_nil))))
      (pss_cons (ps_set (i := 3) nd rfl (Or.inl rfl) (pe_callB (call_max2 rfl) (by rfl) M.max (by decide +kernel) (pa_cons (pe_ix (ixU K) (pv 0) pe_int (fun _ _ => rfl)) (pa_cons (pe_ix (ixU K) (pv 1) pe_int (fun _ _ => rfl)) pa_nil))))
      (pss_cons (ps_set (i := 4) nd rfl (Or.inl rfl) (pe_callB (call_min2 rfl) (by rfl) M.min (by decide +kernel) (pa_cons (pe_op (opAdd K) (pe_ix (ixU K) (pv 0) pe_int (fun _ _ => rfl)) (pe_ix (ixU K) (pv 0) pe_int (fun _ _ => rfl))) (pa_cons (pe_op (opAdd K) (pe_ix (ixU K) (pv 1) pe_int (fun _ _ => rfl)) (pe_ix (ixU K) (pv 1) pe_int (fun _ _ => rfl))) pa_nil))))
      (pss_cons (ps_set (i := 5) nd rfl (Or.inl rfl) (pe_callB (call_min2 rfl) (by rfl) M.min (by decide +kernel) (pa_cons (pe_op (opAdd K) (pe_ix (ixU K) (pv 0) pe_int (fun _ _ => rfl)) (pe_ix (ixU K) (pv 0) pe_int (fun _ _ => rfl))) (pa_cons (pe_op (opAdd K) (pe_ix (ixU K) (pv 1) pe_int (fun _ _ => rfl)) (pe_ix (ixU K) (pv 1) pe_int (fun _ _ => rfl))) pa_nil))))
      (pss_one (ps_ret (andT K (pe_cmpR op_lt (pv 2) (pv 4) (nomark _)) (pe_one (pe_cmpR op_lt (pv 3) (pv 5) (nomark _)))))))))),
    (rs_seq (rs_asg (re_call cs_max2 (ra_cons (re_op os_ix (re_var (i := 0)) re_int) (ra_cons (re_op os_ix (re_var (i := 1)) re_int) ra_nil))) (rg_name (i := 2)))
      (rs_seq (rs_asg (re_call cs_max2 (ra_cons (re_op os_ix (re_var (i := 0)) re_int) (ra_cons (re_op os_ix (re_var (i := 1)) re_int) ra_nil))) (rg_name (i := 3)))
      (rs_seq (rs_asg (re_call cs_min2 (ra_cons (re_op os_add (re_op os_ix (re_var (i := 0)) re_int) (re_op os_ix (re_var (i := 0)) re_int)) (ra_cons (re_op os_add (re_op os_ix (re_var (i := 1)) re_int) (re_op os_ix (re_var (i := 1)) re_int)) ra_nil))) (rg_name (i := 4)))
      (rs_seq (rs_asg (re_call cs_min2 (ra_cons (re_op os_add (re_op os_ix (re_var (i := 0)) re_int) (re_op os_ix (re_var (i := 0)) re_int)) (ra_cons (re_op os_add (re_op os_ix (re_var (i := 1)) re_int) (re_op os_ix (re_var (i := 1)) re_int)) ra_nil))) (rg_name (i := 5)))
      (rs_ret (re_and (re_op os_cmp0 (re_var (i := 2)) (re_var (i := 4))) (re_op os_cmp0 (re_var (i := 3)) (re_var (i := 5)))))))))⟩)
theorem df_law_spot (M : Blt mg) (A : At K mg "_law_spot" s_law_spot) (D_law_draw : Df P w K mg base 1 "_law_draw" ["tape", "many"] (sp_law_draw K)) : Df P w K mg base 2 "_law_spot" ["tape", "low", "size", "room"] (spU K f_law_spot) := by
  have nd := sc_law_spot.nd
  exact Df.uni A (fun _ _ _ _ _ _ us hl => match us, hl with | [_, _, _, _], _ => rfl) sc_law_spot rfl (fun cdv A out f s H E hr hgd => ⟨_, (pss_cons (ps_if (pt_cmpR (opEq K hr.units) (pe_df D_law_draw (hr.mono (by decide)) hgd rfl (pa_cons (pv 0) (pa_cons pe_int pa_nil))) pe_int (nomark _)) (pss_one (ps_ret (pe_ix (ixU K) (pe_lst (pa_cons (pe_op op_sub (pv 1) pe_int) (pa_cons (pe_op (opAdd K) (pe_op op_sub (pe_op (opAdd K) (pv 1) (pv 3)) (pv 2)) pe_int) pa_nil))) (pe_df D_law_draw (hr.mono (by decide)) hgd rfl (pa_cons (pv 0) (pa_cons pe_int pa_nil))) (fun _ _ => rfl)))) pss_nil)
      (pss_one (ps_ret (pe_op (opAdd K) (pv 1) (pe_df D_law_draw (hr.mono (by decide)) hgd rfl (pa_cons (pv 0) (pa_cons (pe_callB (call_max2 rfl) (by rfl) M.max (by decide +kernel) (pa_cons (pe_op (opAdd K) (pe_op op_sub (pv 3) (pv 2)) pe_int) (pa_cons pe_int pa_nil))) pa_nil))))))),
    (rs_seq (rs_if (rt_test (re_op os_eq (re_draw (ra_cons (re_var (i := 0)) (ra_cons re_int ra_nil))) re_int)) (rs_ret (re_op os_ix (re_lst (ra_cons (re_op os_sub (re_var (i := 1)) re_int) (ra_cons (re_op os_add (re_op os_sub (re_op os_add (re_var (i := 1)) (re_var (i := 3))) (re_var (i := 2))) re_int) ra_nil))) (re_draw (ra_cons (re_var (i := 0)) (ra_cons re_int ra_nil))))) rs_next)
      (rs_ret (re_op os_add (re_var (i := 1)) (re_draw (ra_cons (re_var (i := 0)) (ra_cons (re_call cs_max2 (ra_cons (re_op os_add (re_op os_sub (re_var (i := 3)) (re_var (i := 2))) re_int) (ra_cons re_int ra_nil))) ra_nil))))))⟩)
end
section
variable {P : Program} {w : World} {K : PySem.W.Frag} {mg : Str → Option Value} {base : Heap}
theorem df_law_rectangle (M : Blt mg) (A : At K mg "_law_rectangle" s_law_rectangle) (D_law_spot : Df P w K mg base 2 "_law_spot" ["tape", "low", "size", "room"] (spU K f_law_spot)) : Df P w K mg base 3 "_law_rectangle" ["tape", "area", "size"] (spU K f_law_rectangle) := by
  have nd := sc_law_rectangle.nd
  exact Df.uni A (fun _ _ _ _ _ _ us hl => match us, hl with | [_, _, _], _ => rfl) sc_law_rectangle rfl (fun cdv A out f s H E hr hgd => ⟨_, (pss_cons (ps_set (i := 3) nd rfl (Or.inl rfl) (pe_df D_law_spot (hr.mono (by decide)) hgd rfl (pa_cons (pv 0) (pa_cons (pe_ix (ixU K) (pv 1) pe_int (fun _ _ => rfl)) (pa_cons (pe_ix (ixU K) (pv 2) pe_int (fun _ _ => rfl)) (pa_cons (pe_ix (ixU K) (pv 1) pe_int (fun _ _ => rfl)) pa_nil))))))
      (pss_one (ps_ret (pe_tup (pa_cons (pv 3) (pa_cons (pe_df D_law_spot (hr.mono (by decide)) hgd rfl (pa_cons (pv 0) (pa_cons (pe_ix (ixU K) (pv 1) pe_int (fun _ _ => rfl)) (pa_cons (pe_ix (ixU K) (pv 2) pe_int (fun _ _ => rfl)) (pa_cons (pe_ix (ixU K) (pv 1) pe_int (fun _ _ => rfl)) pa_nil))))) (pa_cons (pe_ix (ixU K) (pv 2) pe_int (fun _ _ => rfl)) (pa_cons (pe_ix (ixU K) (pv 2) pe_int (fun _ _ => rfl)) pa_nil)))))))),
    (rs_seq (rs_asg (re_fn (ra_cons (re_var (i := 0)) (ra_cons (re_op os_ix (re_var (i := 1)) re_int) (ra_cons (re_op os_ix (re_var (i := 2)) re_int) (ra_cons (re_op os_ix (re_var (i := 1)) re_int) ra_nil))))) (rg_name (i := 3)))
      (rs_ret (re_tup (ra_cons (re_var (i := 3)) (ra_cons (re_fn (ra_cons (re_var (i := 0)) (ra_cons (re_op os_ix (re_var (i := 1)) re_int) (ra_cons (re_op os_ix (re_var (i := 2)) re_int) (ra_cons (re_op os_ix (re_var (i := 1)) re_int) ra_nil))))) (ra_cons (re_op os_ix (re_var (i := 2)) re_int) (ra_cons (re_op os_ix (re_var (i := 2)) re_int) ra_nil)))))))⟩)
theorem df_law_label (M : Blt mg) (A : At K mg "_law_label" s_law_label) (D_law_rectangle : Df P w K mg base 3 "_law_rectangle" ["tape", "area", "size"] (spU K f_law_rectangle)) (D_law_draw : Df P w K mg base 1 "_law_draw" ["tape", "many"] (sp_law_draw K)) : Df P w K mg base 4 "_law_label" ["tape", "area", "form", "labels"] (spU K f_law_label) := by
  have nd := sc_law_label.nd
  exact Df.uni A (fun _ _ _ _ _ _ us hl => match us, hl with | [_, _, _, _], _ => rfl) sc_law_label rfl (fun cdv A out f s H E hr hgd => ⟨_, (pss_cons (ps_set (i := 4) nd rfl (Or.inl rfl) (pe_tup (pa_cons (pe_ix (ixU K) (pe_lst (pa_cons pe_int (pa_cons pe_int (pa_cons pe_int (pa_cons pe_int (pa_cons pe_int (pa_cons pe_int (pa_cons pe_int pa_nil)))))))) (pe_df D_law_draw (hr.mono (by decide)) hgd rfl (pa_cons (pv 0) (pa_cons pe_int pa_nil))) (fun _ _ => rfl)) (pa_cons (pe_ix (ixU K) (pe_lst (pa_cons pe_int (pa_cons pe_int (pa_cons pe_int (pa_cons pe_int (pa_cons pe_int (pa_cons pe_int (pa_cons pe_int pa_nil)))))))) (pe_df D_law_draw (hr.mono (by decide)) hgd rfl (pa_cons (pv 0) (pa_cons pe_int pa_nil))) (fun _ _ => rfl)) pa_nil))))
      (pss_cons (ps_if (pt_cmpR (opEq K hr.units) (pv 2) pe_int (nomark _)) (pss_one (ps_ret (pe_tup (pa_cons (pe_df D_law_rectangle (hr.mono (by decide)) hgd rfl (pa_cons (pv 0) (pa_cons (pv 1) (pa_cons (pv 4) pa_nil)))) (pa_cons (pe_df D_law_rectangle (hr.mono (by decide)) hgd rfl (pa_cons (pv 0) (pa_cons (pv 1) (pa_cons (pv 4) pa_nil)))) pa_nil))))) pss_nil)
      (pss_cons (ps_if (pt_cmpR (opEq K hr.units) (pv 2) pe_int (nomark _)) (pss_cons (ps_set (i := 5) nd rfl (Or.inl rfl) (pe_df D_law_rectangle (hr.mono (by decide)) hgd rfl (pa_cons (pv 0) (pa_cons (pv 1) (pa_cons (pe_tup (pa_cons (pe_op (opAdd K) pe_int (pe_ix (ixU K) (pv 4) pe_int (fun _ _ => rfl))) (pa_cons pe_int pa_nil))) pa_nil)))))
      (pss_cons (ps_set (i := 6) nd rfl (Or.inl rfl) (pe_ix (ixU K) (pe_lst (pa_cons (pe_tup (pa_cons pe_int (pa_cons pe_int pa_nil))) (pa_cons (pe_tup (pa_cons pe_int (pa_cons (pe_un un_neg pe_int) pa_nil))) (pa_cons (pe_tup (pa_cons (pe_op (opAdd K) (pe_ix (ixU K) (pv 5) pe_int (fun _ _ => rfl)) pe_int) (pa_cons pe_int pa_nil))) (pa_cons (pe_tup (pa_cons (pe_op op_sub (pe_un un_neg pe_int) (pe_ix (ixU K) (pv 5) pe_int (fun _ _ => rfl))) (pa_cons pe_int pa_nil))) pa_nil))))) (pe_df D_law_draw (hr.mono (by decide)) hgd rfl (pa_cons (pv 0) (pa_cons pe_int pa_nil))) (fun _ _ => rfl)))
      (pss_one (ps_ret (pe_tup (pa_cons (pv 5) (pa_cons (pe_tup (pa_cons (pe_op (opAdd K) (pe_ix (ixU K) (pv 5) pe_int (fun _ _ => rfl)) (pe_ix (ixU K) (pv 6) pe_int (fun _ _ => rfl))) (pa_cons (pe_op (opAdd K) (pe_ix (ixU K) (pv 5) pe_int (fun _ _ => rfl)) (pe_ix (ixU K) (pv 6) pe_int (fun _ _ => rfl))) (pa_cons (pe_ix (ixU K) (pv 5) pe_int (fun _ _ => rfl)) (pa_cons pe_int pa_nil))))) pa_nil))))))) pss_nil)
      (pss_cons (ps_if (pt_cmpR (opEq K hr.units) (pv 2) pe_int (nomark _)) (pss_cons (ps_set (i := 7) nd rfl (Or.inl rfl) (pe_op (opAdd K) (pe_ix (ixU K) (pv 1) pe_int (fun _ _ => rfl)) (pe_op (opMul K) (pe_ix (ixU K) (pe_lst (pa_cons pe_int (pa_cons pe_int (pa_cons pe_int pa_nil)))) (pe_df D_law_draw (hr.mono (by decide)) hgd rfl (pa_cons (pv 0) (pa_cons pe_int pa_nil))) (fun _ _ => rfl)) (pe_callB (lenK K) (by rfl) M.len (by decide +kernel) (pa_cons (pv 3) pa_nil)))))
      (pss_cons (ps_set (i := 8) nd rfl (Or.inl rfl) (pe_tup (pa_cons (pv 7) (pa_cons (pe_ix (ixU K) (pv 1) pe_int (fun _ _ => rfl)) (pa_cons pe_int (pa_cons pe_int pa_nil))))))
      (pss_cons (ps_set (i := 9) nd rfl (Or.inl rfl) (pe_tup (pa_cons (pv 7) (pa_cons (pe_op (opAdd K) (pe_ix (ixU K) (pv 1) pe_int (fun _ _ => rfl)) (pe_ix (ixU K) (pe_lst (pa_cons pe_int (pa_cons pe_int (pa_cons pe_int pa_nil)))) (pe_df D_law_draw (hr.mono (by decide)) hgd rfl (pa_cons (pv 0) (pa_cons pe_int pa_nil))) (fun _ _ => rfl))) (pa_cons pe_int (pa_cons pe_int pa_nil))))))
      (pss_one (ps_ret (pe_ix (ixU K) (pe_lst (pa_cons (pe_tup (pa_cons (pv 8) (pa_cons (pv 9) pa_nil))) (pa_cons (pe_tup (pa_cons (pv 9) (pa_cons (pv 8) pa_nil))) (pa_cons (pe_tup (pa_cons (pv 8) (pa_cons (pv 9) pa_nil))) (pa_cons (pe_tup (pa_cons (pv 8) (pa_cons (pv 8) pa_nil))) pa_nil))))) (pe_df D_law_draw (hr.mono (by decide)) hgd rfl (pa_cons (pv 0) (pa_cons pe_int pa_nil))) (fun _ _ => rfl))))))) pss_nil)
      (pss_cons (ps_set (i := 5) nd rfl (Or.inl rfl) (pe_df D_law_rectangle (hr.mono (by decide)) hgd rfl (pa_cons (pv 0) (pa_cons (pv 1) (pa_cons (pv 4) pa_nil)))))
      (pss_cons (ps_if (PW.pt (pw_and (truK K (pv 3)) (pw_and1 (pt_cmpR op_gt (pe_df D_law_draw (hr.mono (by decide)) hgd rfl (pa_cons (pv 0) (pa_cons pe_int pa_nil))) pe_int (nomark _))))) (pss_one (ps_set (i := 5) nd rfl (Or.inl rfl) (pe_ix (ixU K) (pe_ix (ixU K) (pv 3) (pe_df D_law_draw (hr.mono (by decide)) hgd rfl (pa_cons (pv 0) (pa_cons (pe_callB (lenK K) (by rfl) M.len (by decide +kernel) (pa_cons (pv 3) pa_nil)) pa_nil))) (fun _ _ => rfl)) (pe_df D_law_draw (hr.mono (by decide)) hgd rfl (pa_cons (pv 0) (pa_cons pe_int pa_nil))) (fun _ _ => rfl)))) pss_nil)
      (pss_one (ps_ret (pe_ix (ixU K) (pe_lst (pa_cons (pe_tup (pa_cons (pv 5) (pa_cons (pv 5) pa_nil))) (pa_cons (pe_tup (pa_cons (pv 5) (pa_cons (pe_df D_law_rectangle (hr.mono (by decide)) hgd rfl (pa_cons (pv 0) (pa_cons (pv 1) (pa_cons (pv 4) pa_nil)))) pa_nil))) pa_nil))) (pe_callB (call_min2 rfl) (by rfl) M.min (by decide +kernel) (pa_cons (pe_df D_law_draw (hr.mono (by decide)) hgd rfl (pa_cons (pv 0) (pa_cons pe_int pa_nil))) (pa_cons pe_int pa_nil))) (fun _ _ => rfl)))))))))),
    (rs_seq (rs_asg (re_tup (ra_cons (re_op os_ix (re_lst (ra_cons re_int (ra_cons re_int (ra_cons re_int (ra_cons re_int (ra_cons re_int (ra_cons re_int (ra_cons re_int ra_nil)))))))) (re_draw (ra_cons (re_var (i := 0)) (ra_cons re_int ra_nil)))) (ra_cons (re_op os_ix (re_lst (ra_cons re_int (ra_cons re_int (ra_cons re_int (ra_cons re_int (ra_cons re_int (ra_cons re_int (ra_cons re_int ra_nil)))))))) (re_draw (ra_cons (re_var (i := 0)) (ra_cons re_int ra_nil)))) ra_nil))) (rg_name (i := 4)))
      (rs_seq (rs_if (rt_test (re_op os_eq (re_var (i := 2)) re_int)) (rs_ret (re_tup (ra_cons (re_fn (ra_cons (re_var (i := 0)) (ra_cons (re_var (i := 1)) (ra_cons (re_var (i := 4)) ra_nil)))) (ra_cons (re_fn (ra_cons (re_var (i := 0)) (ra_cons (re_var (i := 1)) (ra_cons (re_var (i := 4)) ra_nil)))) ra_nil)))) rs_next)
      (rs_seq (rs_if (rt_test (re_op os_eq (re_var (i := 2)) re_int)) (rs_seq (rs_asg (re_fn (ra_cons (re_var (i := 0)) (ra_cons (re_var (i := 1)) (ra_cons (re_tup (ra_cons (re_op os_add re_int (re_op os_ix (re_var (i := 4)) re_int)) (ra_cons re_int ra_nil))) ra_nil)))) (rg_name (i := 5)))
      (rs_seq (rs_asg (re_op os_ix (re_lst (ra_cons (re_tup (ra_cons re_int (ra_cons re_int ra_nil))) (ra_cons (re_tup (ra_cons re_int (ra_cons (re_un us_neg re_int) ra_nil))) (ra_cons (re_tup (ra_cons (re_op os_add (re_op os_ix (re_var (i := 5)) re_int) re_int) (ra_cons re_int ra_nil))) (ra_cons (re_tup (ra_cons (re_op os_sub (re_un us_neg re_int) (re_op os_ix (re_var (i := 5)) re_int)) (ra_cons re_int ra_nil))) ra_nil))))) (re_draw (ra_cons (re_var (i := 0)) (ra_cons re_int ra_nil)))) (rg_name (i := 6)))
      (rs_ret (re_tup (ra_cons (re_var (i := 5)) (ra_cons (re_tup (ra_cons (re_op os_add (re_op os_ix (re_var (i := 5)) re_int) (re_op os_ix (re_var (i := 6)) re_int)) (ra_cons (re_op os_add (re_op os_ix (re_var (i := 5)) re_int) (re_op os_ix (re_var (i := 6)) re_int)) (ra_cons (re_op os_ix (re_var (i := 5)) re_int) (ra_cons re_int ra_nil))))) ra_nil)))))) rs_next)
      (rs_seq (rs_if (rt_test (re_op os_eq (re_var (i := 2)) re_int)) (rs_seq (rs_asg (re_op os_add (re_op os_ix (re_var (i := 1)) re_int) (re_op os_mul (re_op os_ix (re_lst (ra_cons re_int (ra_cons re_int (ra_cons re_int ra_nil)))) (re_draw (ra_cons (re_var (i := 0)) (ra_cons re_int ra_nil)))) (re_call cs_len (ra_cons (re_var (i := 3)) ra_nil)))) (rg_name (i := 7)))
      (rs_seq (rs_asg (re_tup (ra_cons (re_var (i := 7)) (ra_cons (re_op os_ix (re_var (i := 1)) re_int) (ra_cons re_int (ra_cons re_int ra_nil))))) (rg_name (i := 8)))
      (rs_seq (rs_asg (re_tup (ra_cons (re_var (i := 7)) (ra_cons (re_op os_add (re_op os_ix (re_var (i := 1)) re_int) (re_op os_ix (re_lst (ra_cons re_int (ra_cons re_int (ra_cons re_int ra_nil)))) (re_draw (ra_cons (re_var (i := 0)) (ra_cons re_int ra_nil))))) (ra_cons re_int (ra_cons re_int ra_nil))))) (rg_name (i := 9)))
      (rs_ret (re_op os_ix (re_lst (ra_cons (re_tup (ra_cons (re_var (i := 8)) (ra_cons (re_var (i := 9)) ra_nil))) (ra_cons (re_tup (ra_cons (re_var (i := 9)) (ra_cons (re_var (i := 8)) ra_nil))) (ra_cons (re_tup (ra_cons (re_var (i := 8)) (ra_cons (re_var (i := 9)) ra_nil))) (ra_cons (re_tup (ra_cons (re_var (i := 8)) (ra_cons (re_var (i := 8)) ra_nil))) ra_nil))))) (re_draw (ra_cons (re_var (i := 0)) (ra_cons re_int ra_nil)))))))) rs_next)
      (rs_seq (rs_asg (re_fn (ra_cons (re_var (i := 0)) (ra_cons (re_var (i := 1)) (ra_cons (re_var (i := 4)) ra_nil)))) (rg_name (i := 5)))
      (rs_seq (rs_if (rt_and (rt_tru (re_var (i := 3))) (rt_test (re_op os_cmp0 (re_draw (ra_cons (re_var (i := 0)) (ra_cons re_int ra_nil))) re_int))) (rs_asg (re_op os_ix (re_op os_ix (re_var (i := 3)) (re_draw (ra_cons (re_var (i := 0)) (ra_cons (re_call cs_len (ra_cons (re_var (i := 3)) ra_nil)) ra_nil)))) (re_draw (ra_cons (re_var (i := 0)) (ra_cons re_int ra_nil)))) (rg_name (i := 5))) rs_next)
      (rs_ret (re_op os_ix (re_lst (ra_cons (re_tup (ra_cons (re_var (i := 5)) (ra_cons (re_var (i := 5)) ra_nil))) (ra_cons (re_tup (ra_cons (re_var (i := 5)) (ra_cons (re_fn (ra_cons (re_var (i := 0)) (ra_cons (re_var (i := 1)) (ra_cons (re_var (i := 4)) ra_nil)))) ra_nil))) ra_nil))) (re_call cs_min2 (ra_cons (re_draw (ra_cons (re_var (i := 0)) (ra_cons re_int ra_nil))) (ra_cons re_int ra_nil)))))))))))⟩)
theorem df_law_problem (M : Blt mg) (A : At K mg "_law_problem" s_law_problem) (D_law_draw : Df P w K mg base 1 "_law_draw" ["tape", "many"] (sp_law_draw K)) (D_law_rectangle : Df P w K mg base 3 "_law_rectangle" ["tape", "area", "size"] (spU K f_law_rectangle)) (D_law_label : Df P w K mg base 4 "_law_label" ["tape", "area", "form", "labels"] (spU K f_law_label)) : Df P w K mg base 5 "_law_problem" ["tape", "most"] (spU K f_law_problem) := by
  have nd := sc_law_problem.nd
  exact Df.uni A (fun _ _ _ _ _ _ us hl => match us, hl with | [_, _], _ => rfl) sc_law_problem rfl (fun cdv A out f s H E hr hgd => ⟨_, (pss_cons (ps_set (i := 2) nd rfl (Or.inl rfl) (pe_tup (pa_cons (pe_ix (ixU K) (pe_lst (pa_cons pe_int (pa_cons pe_int (pa_cons pe_int (pa_cons pe_int (pa_cons pe_int (pa_cons pe_int pa_nil))))))) (pe_df D_law_draw (hr.mono (by decide)) hgd rfl (pa_cons (pv 0) (pa_cons pe_int pa_nil))) (fun _ _ => rfl)) (pa_cons (pe_ix (ixU K) (pe_lst (pa_cons pe_int (pa_cons pe_int (pa_cons pe_int (pa_cons pe_int (pa_cons pe_int (pa_cons pe_int pa_nil))))))) (pe_df D_law_draw (hr.mono (by decide)) hgd rfl (pa_cons (pv 0) (pa_cons pe_int pa_nil))) (fun _ _ => rfl)) pa_nil))))
      (pss_cons (ps_set (i := 3) nd rfl (Or.inl rfl) (pe_tup (pa_cons (pe_op op_sub (pe_df D_law_draw (hr.mono (by decide)) hgd rfl (pa_cons (pv 0) (pa_cons pe_int pa_nil))) pe_int) (pa_cons (pe_op op_sub (pe_df D_law_draw (hr.mono (by decide)) hgd rfl (pa_cons (pv 0) (pa_cons pe_int pa_nil))) pe_int) (pa_cons (pe_ix (ixU K) (pv 2) pe_int (fun _ _ => rfl)) (pa_cons (pe_ix (ixU K) (pv 2) pe_int (fun _ _ => rfl)) pa_nil))))))
      (pss_cons (ps_set (i := 4) nd rfl (Or.inl rfl) (pe_df D_law_draw (hr.mono (by decide)) hgd rfl (pa_cons (pv 0) (pa_cons pe_int pa_nil))))
      (pss_cons (ps_set (i := 5) nd rfl (Or.inl rfl) (pe_lst pa_nil))
      (pss_cons (ps_for PassesOwn.never rfl (pi_range1 rfl M.range (pa_cons (pe_df D_law_draw (hr.mono (by decide)) hgd rfl (pa_cons (pv 0) (pa_cons (pe_op (opAdd K) (pv 1) pe_int) pa_nil))) pa_nil)) (pg_name (i := 6) nd rfl (Or.inl rfl)) (pss_one (ps_expr (pe_bm PySem.F.plainAttrs_list PySem.F.slot_list_append PySem.F.type_list_append mt_append (pv 5) (pa_cons (pe_df D_law_label (hr.mono (by decide)) hgd rfl (pa_cons (pv 0) (pa_cons (pv 3) (pa_cons (pv 4) (pa_cons (pv 5) pa_nil))))) pa_nil)))))
      (pss_cons (ps_set (i := 7) nd rfl (Or.inl rfl) (pe_lst pa_nil))
      (pss_cons (ps_for PassesOwn.never rfl (pi_range1 rfl M.range (pa_cons (pe_ix (ixU K) (pe_lst (pa_cons pe_int (pa_cons pe_int (pa_cons pe_int (pa_cons pe_int pa_nil))))) (pe_df D_law_draw (hr.mono (by decide)) hgd rfl (pa_cons (pv 0) (pa_cons pe_int pa_nil))) (fun _ _ => rfl)) pa_nil)) (pg_name (i := 6) nd rfl (Or.inl rfl)) (pss_cons (ps_set (i := 8) nd rfl (Or.inl rfl) (pe_df D_law_rectangle (hr.mono (by decide)) hgd rfl (pa_cons (pv 0) (pa_cons (pv 3) (pa_cons (pe_tup (pa_cons (pe_df D_law_draw (hr.mono (by decide)) hgd rfl (pa_cons (pv 0) (pa_cons pe_int pa_nil))) (pa_cons (pe_df D_law_draw (hr.mono (by decide)) hgd rfl (pa_cons (pv 0) (pa_cons pe_int pa_nil))) pa_nil))) pa_nil)))))
      (pss_cons (ps_if (PW.pt (pw_and (truK K (pv 5)) (pw_and1 (pt_cmpR (opEq K hr.units) (pe_df D_law_draw (hr.mono (by decide)) hgd rfl (pa_cons (pv 0) (pa_cons pe_int pa_nil))) pe_int (nomark _))))) (pss_one (ps_set (i := 8) nd rfl (Or.inl rfl) (pe_ix (ixU K) (pe_ix (ixU K) (pv 5) (pe_df D_law_draw (hr.mono (by decide)) hgd rfl (pa_cons (pv 0) (pa_cons (pe_callB (lenK K) (by rfl) M.len (by decide +kernel) (pa_cons (pv 5) pa_nil)) pa_nil))) (fun _ _ => rfl)) (pe_df D_law_draw (hr.mono (by decide)) hgd rfl (pa_cons (pv 0) (pa_cons pe_int pa_nil))) (fun _ _ => rfl)))) pss_nil)
      (pss_one (ps_expr (pe_bm PySem.F.plainAttrs_list PySem.F.slot_list_append PySem.F.type_list_append mt_append (pv 7) (pa_cons (pv 8) pa_nil)))))))
      (pss_one (ps_ret (pe_tup (pa_cons (pv 3) (pa_cons (pe_callTy (tupK K) (by rfl) M.tuple (by decide +kernel) (pa_cons (pv 7) pa_nil)) (pa_cons (pe_callTy (tupK K) (by rfl) M.tuple (by decide +kernel) (pa_cons (pv 5) pa_nil)) pa_nil))))))))))))),
    (rs_seq (rs_asg (re_tup (ra_cons (re_op os_ix (re_lst (ra_cons re_int (ra_cons re_int (ra_cons re_int (ra_cons re_int (ra_cons re_int (ra_cons re_int ra_nil))))))) (re_draw (ra_cons (re_var (i := 0)) (ra_cons re_int ra_nil)))) (ra_cons (re_op os_ix (re_lst (ra_cons re_int (ra_cons re_int (ra_cons re_int (ra_cons re_int (ra_cons re_int (ra_cons re_int ra_nil))))))) (re_draw (ra_cons (re_var (i := 0)) (ra_cons re_int ra_nil)))) ra_nil))) (rg_name (i := 2)))
      (rs_seq (rs_asg (re_tup (ra_cons (re_op os_sub (re_draw (ra_cons (re_var (i := 0)) (ra_cons re_int ra_nil))) re_int) (ra_cons (re_op os_sub (re_draw (ra_cons (re_var (i := 0)) (ra_cons re_int ra_nil))) re_int) (ra_cons (re_op os_ix (re_var (i := 2)) re_int) (ra_cons (re_op os_ix (re_var (i := 2)) re_int) ra_nil))))) (rg_name (i := 3)))
      (rs_seq (rs_asg (re_draw (ra_cons (re_var (i := 0)) (ra_cons re_int ra_nil))) (rg_name (i := 4)))
      (rs_seq (rs_asg (re_lst ra_nil) (rg_name (i := 5)))
      (rs_seq (rs_for (ri_rng1 (s := true) (ra_cons (re_draw (ra_cons (re_var (i := 0)) (ra_cons (re_op os_add (re_var (i := 1)) re_int) ra_nil))) ra_nil)) (rg_name (i := 6)) (rs_app (i := 5) (re_fn (ra_cons (re_var (i := 0)) (ra_cons (re_var (i := 3)) (ra_cons (re_var (i := 4)) (ra_cons (re_var (i := 5)) ra_nil)))))))
      (rs_seq (rs_asg (re_lst ra_nil) (rg_name (i := 7)))
      (rs_seq (rs_for (ri_rng1 (s := true) (ra_cons (re_op os_ix (re_lst (ra_cons re_int (ra_cons re_int (ra_cons re_int (ra_cons re_int ra_nil))))) (re_draw (ra_cons (re_var (i := 0)) (ra_cons re_int ra_nil)))) ra_nil)) (rg_name (i := 6)) (rs_seq (rs_asg (re_fn (ra_cons (re_var (i := 0)) (ra_cons (re_var (i := 3)) (ra_cons (re_tup (ra_cons (re_draw (ra_cons (re_var (i := 0)) (ra_cons re_int ra_nil))) (ra_cons (re_draw (ra_cons (re_var (i := 0)) (ra_cons re_int ra_nil))) ra_nil))) ra_nil)))) (rg_name (i := 8)))
      (rs_seq (rs_if (rt_and (rt_tru (re_var (i := 5))) (rt_test (re_op os_eq (re_draw (ra_cons (re_var (i := 0)) (ra_cons re_int ra_nil))) re_int))) (rs_asg (re_op os_ix (re_op os_ix (re_var (i := 5)) (re_draw (ra_cons (re_var (i := 0)) (ra_cons (re_call cs_len (ra_cons (re_var (i := 5)) ra_nil)) ra_nil)))) (re_draw (ra_cons (re_var (i := 0)) (ra_cons re_int ra_nil)))) (rg_name (i := 8))) rs_next)
      (rs_app (i := 7) (re_var (i := 8))))))
      (rs_ret (re_tup (ra_cons (re_var (i := 3)) (ra_cons (re_call cs_tuple (ra_cons (re_var (i := 7)) ra_nil)) (ra_cons (re_call cs_tuple (ra_cons (re_var (i := 5)) ra_nil)) ra_nil))))))))))))⟩)
theorem df_law_free (M : Blt mg) (A : At K mg "_law_free" s_law_free) (D_law_inside : Df P w K mg base 1 "_law_inside" ["one", "area"] (spU K f_law_inside)) (D_law_overlap : Df P w K mg base 1 "_law_overlap" ["one", "other"] (spU K f_law_overlap)) : Df P w K mg base 2 "_law_free" ["problem", "one"] (spU K f_law_free) := by
  have nd := sc_law_free.nd
  exact Df.uni A (fun _ _ _ _ _ _ us hl => match us, hl with | [_, _], _ => rfl) sc_law_free rfl (fun cdv A out f s H E hr hgd => ⟨_, (pss_cons (ps_if (pt_not (truK K (pe_df D_law_inside (hr.mono (by decide)) hgd rfl (pa_cons (pv 1) (pa_cons (pe_ix (ixU K) (pv 0) pe_int (fun _ _ => rfl)) pa_nil))))) (pss_one (ps_ret pe_bl)) pss_nil)
      (pss_cons (ps_for PassesOwn.never rfl (pi_seq K (pe_ix (ixU K) (pv 0) pe_int (fun _ _ => rfl))) (pg_name (i := 2) nd rfl (Or.inl rfl)) (pss_one (ps_if (truK K (pe_df D_law_overlap (hr.mono (by decide)) hgd rfl (pa_cons (pv 1) (pa_cons (pv 2) pa_nil)))) (pss_one (ps_ret pe_bl)) pss_nil)))
      (pss_one (ps_ret pe_bl)))),
    (rs_seq (rs_if (rt_not (rt_tru (re_fn (ra_cons (re_var (i := 1)) (ra_cons (re_op os_ix (re_var (i := 0)) re_int) ra_nil))))) (rs_ret re_bl) rs_next)
      (rs_seq (rs_for (ri_seq (s := true) (re_op os_ix (re_var (i := 0)) re_int)) (rg_name (i := 2)) (rs_if (rt_tru (re_fn (ra_cons (re_var (i := 1)) (ra_cons (re_var (i := 2)) ra_nil)))) (rs_ret re_bl) rs_next))
      (rs_ret re_bl)))⟩)
end
section
variable {P : Program} {w : World} {K : PySem.W.Frag} {mg : Str → Option Value} {base : Heap}
theorem df_law_renumbered (M : Blt mg) (A : At K mg "_law_renumbered" s_law_renumbered) : Df P w K mg base 1 "_law_renumbered" ["placement", "at"] (spU K f_law_renumbered) := by
  have nd := sc_law_renumbered.nd
  exact Df.uni A (fun _ _ _ _ _ _ us hl => match us, hl with | [_, _], _ => rfl) sc_law_renumbered rfl (fun cdv A out f s H E hr hgd => ⟨_, (pss_cons (ps_set (i := 2) nd rfl (Or.inl rfl) (pe_lst pa_nil))
      (pss_cons (ps_for PassesOwn.never rfl (pi_seq K (pv 0)) (pg_name (i := 3) nd rfl (Or.inl rfl)) (pss_cons (ps_if (truK K (pe_callB (isiK K) (by rfl) M.isinstance (by decide +kernel) (pa_cons (pv 3) (pa_cons (pe_bltn (v := .ty "tuple") (u := .type "tuple") (by rfl) M.tuple (by decide +kernel) rfl) pa_nil)))) (pss_cons (ps_set (i := 4) nd rfl (Or.inl rfl) (pe_lst pa_nil))
      (pss_cons (ps_for PassesOwn.never rfl (pi_seq K (pv 3)) (pg_name (i := 5) nd rfl (Or.inl rfl)) (pss_one (ps_expr (pe_bm PySem.F.plainAttrs_list PySem.F.slot_list_append PySem.F.type_list_append mt_append (pv 4) (pa_cons (pe_callTy (tupK K) (by rfl) M.tuple (by decide +kernel) (pa_cons (pe_lc (own := [("choice", 6)]) (g := (gName 6)) (tt := tYes) rfl nd (pi_seq K (pv 5)) (blkOk_by (N := ["placement", "at", "later", "value", "chains", "chain", "choice"]) (sc := (defScope s_law_renumbered)) (by decide +kernel)) (fun _ _ _ _ _ => (pg_name (i := 6) nd rfl (Or.inl rfl))) (fun _ _ _ _ _ => pts_nil) (fun _ _ _ _ _ => (pe_tup (pa_cons (pe_op (opAdd K) (pe_ix (ixU K) (pv 6) pe_int (fun _ _ => rfl)) (pe_callTy call_int1 (by rfl) M.int (by decide +kernel) (pa_cons (pe_cmpR op_ge (pe_ix (ixU K) (pv 6) pe_int (fun _ _ => rfl)) (pv 1) (nomark _)) pa_nil))) (pa_cons (pe_ix (ixU K) (pv 6) pe_int (fun _ _ => rfl)) pa_nil))))) pa_nil)) pa_nil)))))
      (pss_one (ps_set (i := 3) nd rfl (Or.inl rfl) (pe_callTy (tupK K) (by rfl) M.tuple (by decide +kernel) (pa_cons (pv 4) pa_nil)))))) pss_nil)
      (pss_one (ps_expr (pe_bm PySem.F.plainAttrs_list PySem.F.slot_list_append PySem.F.type_list_append mt_append (pv 2) (pa_cons (pv 3) pa_nil))))))
      (pss_one (ps_ret (pv 2))))),
    (rs_seq (rs_asg (re_lst ra_nil) (rg_name (i := 2)))
      (rs_seq (rs_forV (i := 0) (rg_name (i := 3)) (rs_seq (rs_if (rt_tru (re_isiX (re_var (i := 3)))) (rs_seq (rs_asg (re_lst ra_nil) (rg_name (i := 4)))
      (rs_seq (rs_forV (i := 3) (rg_name (i := 5)) (rs_app (i := 4) (re_call cs_tuple (ra_cons (re_lc (s := false) (ri_var (i := 5) (s := false)) (rg_name (i := 6)) rt_yes (re_tup (ra_cons (re_op os_add (re_op os_ix (re_var (i := 6)) re_int) (re_call cs_int (ra_cons (re_op os_cmp0 (re_op os_ix (re_var (i := 6)) re_int) (re_var (i := 1))) ra_nil))) (ra_cons (re_op os_ix (re_var (i := 6)) re_int) ra_nil))) (by decide)) ra_nil))))
      (rs_asg (re_call cs_tuple (ra_cons (re_var (i := 4)) ra_nil)) (rg_name (i := 3))))) rs_next)
      (rs_app (i := 2) (re_var (i := 3)))))
      (rs_retV (i := 2))))⟩)
theorem df_law_sides (M : Blt mg) (A : At K mg "_law_sides" s_law_sides) : Df P w K mg base 1 "_law_sides" ["placement"] (spU K f_law_sides) := by
  have nd := sc_law_sides.nd
  exact Df.uni A (fun _ _ _ _ _ _ us hl => match us, hl with | [_], _ => rfl) sc_law_sides rfl (fun cdv A out f s H E hr hgd => ⟨_, (pss_one (ps_ret (pe_lc (own := [("place", 1)]) (g := (gName 1)) (tt := tYes) rfl nd (pi_seq K (pv 0)) (blkOk_by (N := ["placement", "place"]) (sc := (defScope s_law_sides)) (by decide +kernel)) (fun _ _ _ _ _ => (pg_name (i := 1) nd rfl (Or.inl rfl))) (fun _ _ _ _ _ => pts_nil) (fun _ _ _ _ _ => (pe_ix (ixU K) (pe_lst (pa_cons (pv 1) (pa_cons pe_non pa_nil))) (pe_callTy call_int1 (by rfl) M.int (by decide +kernel) (pa_cons (pe_callB (isiK K) (by rfl) M.isinstance (by decide +kernel) (pa_cons (pv 1) (pa_cons (pe_bltn (v := .ty "tuple") (u := .type "tuple") (by rfl) M.tuple (by decide +kernel) rfl) pa_nil))) pa_nil)) (fun _ _ => rfl)))))),
    (rs_ret (re_lc (s := false) (ri_var (i := 0) (s := false)) (rg_name (i := 1)) rt_yes (re_op os_ix (re_lst (ra_cons (re_var (i := 1)) (ra_cons re_non ra_nil))) (re_call cs_int (ra_cons (re_isiX (re_var (i := 1))) ra_nil))) (by decide)))⟩)
theorem df_law_alone (M : Blt mg) (A : At K mg "_law_alone" s_law_alone) (D_law_free : Df P w K mg base 2 "_law_free" ["problem", "one"] (spU K f_law_free)) : Df P w K mg base 3 "_law_alone" ["problem", "at"] (spU K f_law_alone) := by
  have nd := sc_law_alone.nd
  exact Df.uni A (fun _ _ _ _ _ _ us hl => match us, hl with | [_, _], _ => rfl) sc_law_alone rfl (fun cdv A out f s H E hr hgd => ⟨_, (pss_cons (ps_set (i := 2) nd rfl (Or.inl rfl) (pe_op (opAdd K) (pe_slice (slU K) (pe_ix (ixU K) (pv 0) pe_int (fun _ _ => rfl)) po_none (po_some (pv 1))) (pe_slice (slU K) (pe_ix (ixU K) (pv 0) pe_int (fun _ _ => rfl)) (po_some (pe_op (opAdd K) (pv 1) pe_int)) po_none)))
      (pss_one (ps_ret (pe_df D_law_free (hr.mono (by decide)) hgd rfl (pa_cons (pe_tup (pa_cons (pe_ix (ixU K) (pv 0) pe_int (fun _ _ => rfl)) (pa_cons (pv 2) (pa_cons (pe_tup pa_nil) pa_nil)))) (pa_cons (pe_ix (ixU K) (pe_ix (ixU K) (pv 0) pe_int (fun _ _ => rfl)) (pv 1) (fun _ _ => rfl)) pa_nil)))))),
    (rs_seq (rs_asg (re_op os_add (re_sl (re_op os_ix (re_var (i := 0)) re_int) ro_no (ro_some (re_var (i := 1)))) (re_sl (re_op os_ix (re_var (i := 0)) re_int) (ro_some (re_op os_add (re_var (i := 1)) re_int)) ro_no)) (rg_name (i := 2)))
      (rs_ret (re_fn (ra_cons (re_tup (ra_cons (re_op os_ix (re_var (i := 0)) re_int) (ra_cons (re_var (i := 2)) (ra_cons (re_tup ra_nil) ra_nil)))) (ra_cons (re_op os_ix (re_op os_ix (re_var (i := 0)) re_int) (re_var (i := 1))) ra_nil)))))⟩)
end

theorem edges_eq (a : R) : f_edges [.val a.d] = .ret (.val (.tuple [.int a.l, .int a.t, .int (a.l + a.w), .int (a.t + a.h)])) := by
  unfold f_edges R.d
  walk_at "pl"
theorem inside_eq (a b : R) : f_inside [.val a.d, .val b.d] = .ret (.val (.bool (In a b))) := by
  unfold f_inside
  walk_at "pl"
  rw [edges_eq]
  walk_at "pl"
  rw [edges_eq]
  walk_at "pl"
  rfl
theorem common_eq (a b : R) : f_common [.val a.d, .val b.d] = .ret (.val (odata (com a b))) := by
  unfold f_common
  walk_at "pl"
  rw [edges_eq]
  walk_at "pl"
  rw [edges_eq]
  walk_at "pl"
  by_cases h : max a.l b.l < min (a.l + a.w) (b.l + b.w) ∧ max a.t b.t < min (a.t + a.h) (b.t + b.h)
  · rw [if_neg (by rw [decide_eq_false (by omega), decide_eq_false (by omega)]; decide)]
    unfold com
    rw [if_pos h]
    rfl
  · rw [if_pos (by simp only [Bool.or_eq_true, decide_eq_true_eq]; omega)]
    unfold com
    rw [if_neg h]
    rfl
def ov (a b : R) : Bool := (com a b).isSome
theorem ov_comm (a b : R) : ov a b = ov b a := by unfold ov; rw [com_comm]
theorem ov_iff {a b : R} : ov a b = (decide (max a.l b.l < min (a.l + a.w) (b.l + b.w)) && decide (max a.t b.t < min (a.t + a.h) (b.t + b.h))) := by
  unfold ov com
  by_cases h : max a.l b.l < min (a.l + a.w) (b.l + b.w) ∧ max a.t b.t < min (a.t + a.h) (b.t + b.h)
  · rw [if_pos h, decide_eq_true h.1, decide_eq_true h.2]; rfl
  · rw [if_neg h]
    by_cases h1 : max a.l b.l < min (a.l + a.w) (b.l + b.w)
    · rw [decide_eq_false (fun h2 => h ⟨h1, h2⟩), Bool.and_false]; rfl
    · rw [decide_eq_false h1]; rfl
theorem isN_od (o : Option R) : C.isN (.val (odata o)) = o.isNone := by cases o <;> rfl
theorem overlap_eq (a b : R) : f_overlap [.val a.d, .val b.d] = .ret (.val (.bool (ov a b))) := by
  unfold f_overlap
  walk_at "pl"
  rw [common_eq]
  walk_at "pl"
  rw [isN_od]
  unfold ov
  cases com a b <;> rfl

theorem law_inside_eq (a b : R) : f_law_inside [.val a.d, .val b.d] = .ret (.val (.bool (In a b))) := by
  unfold f_law_inside R.d
  walk_at "pl"
  unfold In
  by_cases h1 : a.l < b.l
  · rw [if_pos (by rw [decide_eq_true h1]; rfl), decide_eq_false (by omega)]; rfl
  · by_cases h2 : a.t < b.t
    · rw [if_pos (by rw [decide_eq_true h2, Bool.or_true]), decide_eq_false (show ¬ b.t ≤ a.t by omega)]
      simp
    · rw [if_neg (by rw [decide_eq_false h1, decide_eq_false h2]; decide), decide_eq_true (show b.l ≤ a.l by omega), decide_eq_true (show b.t ≤ a.t by omega)]
      by_cases h3 : b.l + b.w < a.l + a.w
      · rw [if_pos h3, decide_eq_false (show ¬ a.l + a.w ≤ b.l + b.w by omega)]; rfl
      · rw [if_neg h3, decide_eq_true (show a.l + a.w ≤ b.l + b.w by omega)]; rfl
theorem law_overlap_eq (a b : R) : f_law_overlap [.val a.d, .val b.d] = .ret (.val (.bool (ov a b))) := by
  unfold f_law_overlap R.d
  walk_at "pl"
  rw [ov_iff]
/-- a problem -/
structure Pb where
  area : R
  obs : List R
  labs : List (R × R)
def labD (p : R × R) : PyData := .tuple [p.1.d, p.2.d]
def Pb.d (p : Pb) : PyData := .tuple [p.area.d, .tuple (p.obs.map R.d), .tuple (p.labs.map labD)]
def sd (s : Bool) : Int := if s then 1 else 0
def chD (c : Nat × Bool) : PyData := .tuple [.int c.1, .int (sd c.2)]
def side (p : R × R) (s : Bool) : R := if s then p.2 else p.1
theorem labD_at (p : R × R) (s : Bool) : atD [p.1.d, p.2.d] (sd s) = .ret (.val (side p s).d) := by
  cases s
  · exact atD_0
  · exact atD_1
theorem oIx_lab {p : R × R} {s : Bool} : oIx (.val (labD p)) (.val (.int (sd s))) = .ret (.val (side p s).d) := labD_at p s
theorem labs_at {xs : List (R × R)} {i : Nat} {p : R × R} (h : xs[i]? = some p) : atD (xs.map labD) (i : Int) = .ret (.val (labD p)) := atD_get (by rw [List.getElem?_map, h]; rfl)
theorem chosen_eq {P : Pb} {i : Nat} {p : R × R} (s : Bool) (h : P.labs[i]? = some p) : f_chosen_rectangle [.val P.d, .val (chD (i, s))] = .ret (.val (side p s).d) := by
  unfold f_chosen_rectangle Pb.d chD
  walk_at "pl"
  rw [labs_at h]
  walk_at "pl"
  exact oIx_lab
def freeB (P : Pb) (r : R) : Bool := In r P.area && !(P.obs.any fun o => ov r o)
theorem isfree_eq {P : Pb} {i : Nat} {p : R × R} (s : Bool) (h : P.labs[i]? = some p) (hl : P.obs.length ≤ 16777216) : f_is_free [.val P.d, .val (chD (i, s))] = .ret (.val (.bool (freeB P (side p s)))) := by
  unfold f_is_free
  have e := chosen_eq s h
  unfold Pb.d at e ⊢
  walk_at "pl"
  rw [e]
  walk_at "pl"
  rw [inside_eq]
  walk_at "pl"
  rw [if_pos (by rw [List.length_map]; exact hl), lcL_map R.d (fun o => .bool (ov (side p s) o)) P.obs [] fun x _ => ⟨_, by walk_at "pr", by walk_at "pr", by walk_at "pl"; exact overlap_eq _ _⟩]
  walk_at "pl"
  rw [List.nil_append, show (List.map (fun o => PyData.bool (ov (side p s) o)) P.obs) = (P.obs.map fun o => ov (side p s) o).map .bool by rw [List.map_map]; rfl, bigD_l]
  walk_at "pl"
  unfold freeB
  rw [List.any_map]
  rfl
theorem law_free_eq (P : Pb) (r : R) : f_law_free [.val P.d, .val r.d] = .ret (.val (.bool (freeB P r))) := by
  unfold f_law_free Pb.d
  walk_at "pl"
  rw [law_inside_eq]
  walk_at "pl"
  unfold freeB
  cases h : In r P.area with
  | false => rfl
  | true =>
    walk_at "pl"
    rcases forL_any R.d (fun o => ov r o) (fun ρ => ∃ x, ρ = [some (.val (.tuple [P.area.d, .tuple (P.obs.map R.d), .tuple (P.labs.map labD)])), some (.val r.d), x]) (.val (.bool false)) (a := asgR 2) (b := mIf (gTru (gFn f_law_overlap (gaCons (gVar 1) (gaCons (gVar 2) gaNil)))) (mRet (gC (.bool false))) mNext) P.obs _ ⟨none, rfl⟩ (fun x _ ρ ⟨y, e⟩ => by
      subst e
      refine ⟨_, by walk_at "pr", fun hp => ?_, fun hp => ?_⟩
      · walk_at "pl"; rw [law_overlap_eq, hp]; walk_at "pl"
      · exact ⟨_, ⟨_, rfl⟩, by walk_at "pl"; rw [law_overlap_eq, hp]; walk_at "pr"⟩) with ⟨h1, h2⟩ | ⟨h1, ρ', ⟨y, e⟩, h2⟩
    · rw [h2, h1]; walk_at "pl"; rfl
    · subst e; rw [h2, h1]; walk_at "pl"; rfl
def forceB (P : Pb) (c d : Nat × Bool) (p q : R × R) : Bool := if c.1 = d.1 then c.2 != d.2 && !freeB P (side p c.2) else ov (side p c.2) (side q (!d.2))
theorem sd_inj {s t : Bool} : (sd s = sd t) = (s = t) := by cases s <;> cases t <;> simp [sd]
theorem sd_not (s : Bool) : 1 - sd s = sd (!s) := by cases s <;> rfl
theorem chD_eqv (c d : Nat × Bool) : PyData.eqv (chD c) (chD d) = (decide (c.1 = d.1) && decide (c.2 = d.2)) := by
  unfold chD
  simp only [PyData.eqv, PyData.eqvAll, Bool.and_true]
  congr 1
  · by_cases h : c.1 = d.1
    · rw [h]; simp
    · rw [decide_eq_false h]; simp; omega
  · cases c.2 <;> cases d.2 <;> rfl
theorem other_eq (c : Nat × Bool) : f_other_choice [.val (chD c)] = .ret (.val (chD (c.1, !c.2))) := by
  unfold f_other_choice chD
  walk_at "pl"
  rw [sd_not]
theorem forces_eq {P : Pb} {c d : Nat × Bool} {p q : R × R} (hc : P.labs[c.1]? = some p) (hd : P.labs[d.1]? = some q) (hl : P.obs.length ≤ 16777216) : f_forces [.val P.d, .val (chD c), .val (chD d)] = .ret (.val (.bool (forceB P c d p q))) := by
  unfold f_forces
  walk_at "pl"
  have e0 : oEq (.val (chD c)) (.val (chD d)) = .ret (.val (.bool (decide (c.1 = d.1) && decide (c.2 = d.2)))) := by
    show oEqD false (some (chD c)) (some (chD d)) = _
    rw [oEqD_d rfl rfl, chD_eqv, Bool.false_xor]
  have e1 : ∀ c : Nat × Bool, oIx (.val (chD c)) (.val (.int 0)) = .ret (.val (.int c.1)) := fun c => by unfold chD; walk_at "pl"
  rw [e0]
  walk_at "pl"
  unfold forceB
  by_cases h1 : c.1 = d.1
  · rw [if_pos h1]
    by_cases h2 : c.2 = d.2
    · rw [decide_eq_true h1, decide_eq_true h2, h2]
      cases d.2 <;> rfl
    · rw [decide_eq_true h1, decide_eq_false h2, if_neg (by decide), e1, retB, e1, retB]
      walk_at "pl"
      rw [if_pos (by rw [h1]), isfree_eq c.2 hc hl]
      walk_at "pl"
      rw [show (c.2 != d.2) = true by simpa using h2]
      rfl
  · rw [if_neg h1, decide_eq_false h1, if_neg (by simp), e1, retB, e1, retB]
    walk_at "pl"
    rw [if_neg (by omega), other_eq]
    walk_at "pl"
    unfold f_overlap_chosen
    walk_at "pl"
    rw [chosen_eq c.2 hc]
    walk_at "pl"
    rw [chosen_eq (!d.2) hd]
    walk_at "pl"
    exact overlap_eq _ _
theorem force_back {P : Pb} {c d : Nat × Bool} {p q : R × R} (hc : P.labs[c.1]? = some p) (hd : P.labs[d.1]? = some q) (h : forceB P c d p q = true) : forceB P (d.1, !d.2) (c.1, !c.2) q p = true := by
  unfold forceB at h ⊢
  by_cases h1 : c.1 = d.1
  · rw [if_pos h1] at h
    rw [if_pos h1.symm]
    have : p = q := by rw [h1, hd] at hc; exact (Option.some.inj hc).symm
    subst this
    obtain ⟨c1, c2⟩ := c
    obtain ⟨d1, d2⟩ := d
    cases c2 <;> cases d2 <;> simp_all
  · rw [if_neg h1] at h
    rw [if_neg (fun z => h1 z.symm)]
    simp only [Bool.not_not]
    rw [ov_comm]
    exact h

theorem rd0 {r : R} : oIx (.val r.d) (.val (.int 0)) = .ret (.val (.int r.l)) := by unfold R.d; walk_at "pl"
theorem rd1 {r : R} : oIx (.val r.d) (.val (.int 1)) = .ret (.val (.int r.t)) := by unfold R.d; walk_at "pl"
theorem rd2 {r : R} : oIx (.val r.d) (.val (.int 2)) = .ret (.val (.int r.w)) := by unfold R.d; walk_at "pl"
theorem rd3 {r : R} : oIx (.val r.d) (.val (.int 3)) = .ret (.val (.int r.h)) := by unfold R.d; walk_at "pl"
local macro_rules | `(tactic| walk_at "wa") => `(tactic| ((try walk_at "pl"); repeat (simp only [rd0, rd1, rd2, rd3, retB]; try walk_at "pl")))
structure Rb (k : Int) (r : R) : Prop where
  l1 : -k ≤ r.l
  l2 : r.l ≤ k
  t1 : -k ≤ r.t
  t2 : r.t ≤ k
  w1 : 0 ≤ r.w
  w2 : r.w ≤ k
  h1 : 0 ≤ r.h
  h2 : r.h ≤ k
theorem spot_wp {lo sz rm : Int} (s0 : 0 ≤ sz) (s1 : sz ≤ 24) (r0 : 0 ≤ rm) (r1 : rm ≤ 50) {α : Type} {k : C → M α} {Q : α → Prop} (q : ∀ v : Int, lo - 30 ≤ v → v ≤ lo + 60 → wp (k (.val (.int v))) Q) : wp ((f_law_spot [.tape, .val (.int lo), .val (.int sz), .val (.int rm)]).bind k) Q := by
  unfold f_law_spot
  walk_at "wk"
  refine wp_drawn (by decide) fun n n0 n1 => ?_
  walk_at "wk"
  refine wp_ite (fun h => ?_) (fun h => ?_)
  · walk_at "wk"
    refine wp_drawn (by decide) fun m m0 m1 => ?_
    walk_at "wk"
    refine wp_pick m0 (by simp only [List.length_cons, List.length_nil]; omega) fun d hd => ?_
    simp only [List.mem_cons, List.not_mem_nil, or_false] at hd
    rcases hd with rfl | rfl
    · walk_at "wk"
      exact q _ (by omega) (by omega)
    · walk_at "wk"
      exact q _ (by omega) (by omega)
  · walk_at "wk"
    refine wp_drawn (by omega) fun m m0 m1 => ?_
    walk_at "wk"
    exact q _ (by omega) (by omega)
structure Ar (a : R) : Prop where
  l1 : -50 ≤ a.l
  l2 : a.l ≤ 50
  t1 : -50 ≤ a.t
  t2 : a.t ≤ 50
  w1 : 0 ≤ a.w
  w2 : a.w ≤ 50
  h1 : 0 ≤ a.h
  h2 : a.h ≤ 50
theorem rect_wp {a : R} (ha : Ar a) {x y : Int} (x0 : 0 ≤ x) (x1 : x ≤ 24) (y0 : 0 ≤ y) (y1 : y ≤ 24) {α : Type} {k : C → M α} {Q : α → Prop} (q : ∀ r, Rb 120 r → r.l ≤ a.l + 60 → r.w = x → wp (k (.val r.d)) Q) : wp ((f_law_rectangle [.tape, .val a.d, .val (.tuple [.int x, .int y])]).bind k) Q := by
  have := ha.l1; have := ha.l2; have := ha.t1; have := ha.t2; have := ha.w1; have := ha.w2; have := ha.h1; have := ha.h2
  unfold f_law_rectangle
  walk_at "wa"
  refine spot_wp x0 x1 (by omega) (by omega) fun v v0 v1 => ?_
  walk_at "wa"
  refine spot_wp y0 y1 (by omega) (by omega) fun w w0 w1 => ?_
  walk_at "wa"
  exact q ⟨v, w, x, y⟩ ⟨by show -120 ≤ v; omega, by show v ≤ 120; omega, by show -120 ≤ w; omega, by show w ≤ 120; omega, x0, by show x ≤ 120; omega, y0, by show y ≤ 120; omega⟩ (by show v ≤ a.l + 60; omega) rfl
theorem lab0 {p : R × R} : oIx (.val (labD p)) (.val (.int 0)) = .ret (.val p.1.d) := oIx_lab (s := false)
theorem lab1 {p : R × R} : oIx (.val (labD p)) (.val (.int 1)) = .ret (.val p.2.d) := oIx_lab (s := true)
theorem mk_lab (a b : R) : PyData.tuple [a.d, b.d] = labD (a, b) := rfl
def Rx (a r : R) : Prop := Rb 300 r ∧ r.l + r.w ≤ a.l + 100
def Lb (a : R) (p : R × R) : Prop := Rx a p.1 ∧ Rx a p.2
theorem Rb.up {a : R} {k m : Int} (h : Rb k a) (e : k ≤ m) : Rb m a := by
  have := h.l1; have := h.l2; have := h.t1; have := h.t2; have := h.w2; have := h.h2
  exact ⟨by omega, by omega, by omega, by omega, h.w1, by omega, h.h1, by omega⟩
theorem label_wp {a : R} (ha : Ar a) {fm : Int} {labs : List (R × R)} (hl : labs.length ≤ 16) (hb : ∀ p ∈ labs, Lb a p) {α : Type} {k : C → M α} {Q : α → Prop} (q : ∀ p, Lb a p → wp (k (.val (labD p))) Q) :
    wp ((f_law_label [.tape, .val a.d, .val (.int fm), .bor (.lst (labs.map labD))]).bind k) Q := by
  refine wp_call (fun c => ∃ p, Lb a p ∧ c = .val (labD p)) ?_ (by rintro c ⟨p, h1, rfl⟩; exact q p h1)
  have a1 := ha.l1; have a2 := ha.l2; have a3 := ha.t1; have a4 := ha.t2; have a5 := ha.w1; have a6 := ha.w2; have a7 := ha.h1; have a8 := ha.h2
  refine wp_fn rfl ?_
  walk_at "we"
  refine wp_seqJ (fun ρ => ∃ x y : Int, 0 ≤ x ∧ x ≤ 15 ∧ 0 ≤ y ∧ y ≤ 8 ∧ ρ = [some .tape, some (.val a.d), some (.val (.int fm)), some (.bor (.lst (labs.map labD))), some (.val (.tuple [.int x, .int y])), none, none, none, none, none]) ?_ ?_
  · walk_at "wk"
    refine wp_drawn (by decide) fun n n0 n1 => ?_
    walk_at "wk"
    refine wp_pick n0 (by simp only [List.length_cons, List.length_nil]; omega) fun d hd => ?_
    have : ∃ j : Int, d = .int j ∧ 0 ≤ j ∧ j ≤ 15 := by
      simp only [List.mem_cons, List.not_mem_nil, or_false] at hd
      rcases hd with rfl | rfl | rfl | rfl | rfl | rfl | rfl <;> exact ⟨_, rfl, by decide, by decide⟩
    obtain ⟨x, rfl, x0, x1⟩ := this
    walk_at "wk"
    refine wp_drawn (by decide) fun m m0 m1 => ?_
    walk_at "wk"
    refine wp_pick m0 (by simp only [List.length_cons, List.length_nil]; omega) fun d hd => ?_
    have : ∃ j : Int, d = .int j ∧ 0 ≤ j ∧ j ≤ 8 := by
      simp only [List.mem_cons, List.not_mem_nil, or_false] at hd
      rcases hd with rfl | rfl | rfl | rfl | rfl | rfl | rfl <;> exact ⟨_, rfl, by decide, by decide⟩
    obtain ⟨y, rfl, y0, y1⟩ := this
    walk_at "wk"
    exact ⟨x, y, x0, x1, y0, y1, rfl⟩
  rintro ρ ⟨x, y, x0, x1, y0, y1, rfl⟩
  refine wp_seqJ (fun ρ => ρ = [some .tape, some (.val a.d), some (.val (.int fm)), some (.bor (.lst (labs.map labD))), some (.val (.tuple [.int x, .int y])), none, none, none, none, none]) ?_ ?_
  · walk_at "wk"
    refine wp_ite (fun h => ?_) (fun h => ?_)
    · walk_at "wk"
      refine rect_wp ha (by omega) (by omega) (by omega) (by omega) fun r hr hr1 hr2 => ?_
      walk_at "wk"
      refine rect_wp ha (by omega) (by omega) (by omega) (by omega) fun s hs hs1 hs2 => ?_
      walk_at "wk"
      exact out_ok ⟨(r, s), ⟨⟨hr.up (by decide), by show r.l + r.w ≤ _; omega⟩, ⟨hs.up (by decide), by show s.l + s.w ≤ _; omega⟩⟩, rfl⟩
    · walk_at "wk"
      rfl
  rintro ρ rfl
  refine wp_seqJ (fun ρ => ρ = [some .tape, some (.val a.d), some (.val (.int fm)), some (.bor (.lst (labs.map labD))), some (.val (.tuple [.int x, .int y])), none, none, none, none, none]) ?_ ?_
  · walk_at "wk"
    refine wp_ite (fun h => ?_) (fun h => ?_)
    · walk_at "wk"
      refine rect_wp ha (by omega) (by omega) (by omega) (by omega) fun r hr hr1 hr2 => ?_
      have b1 := hr.l1; have b2 := hr.l2; have b3 := hr.t1; have b4 := hr.t2; have b5 := hr.w1; have b6 := hr.w2
      walk_at "wa"
      refine wp_drawn (by decide) fun n n0 n1 => ?_
      walk_at "wk"
      refine wp_pick n0 (by simp only [List.length_cons, List.length_nil]; omega) fun d hd => ?_
      have : ∃ i j : Int, d = .tuple [.int i, .int j] ∧ -130 ≤ i ∧ i ≤ r.w + 2 ∧ -130 ≤ j ∧ j ≤ 130 := by
        simp only [List.mem_cons, List.not_mem_nil, or_false] at hd
        rcases hd with rfl | rfl | rfl | rfl <;> exact ⟨_, _, rfl, by omega, by omega, by omega, by omega⟩
      obtain ⟨i, j, rfl, i0, i1, j0, j1⟩ := this
      walk_at "wa"
      exact out_ok ⟨(r, ⟨r.l + i, r.t + j, r.w, 7⟩), ⟨⟨hr.up (by decide), by show r.l + r.w ≤ _; omega⟩, ⟨⟨by show -300 ≤ r.l + i; omega, by show r.l + i ≤ 300; omega, by show -300 ≤ r.t + j; omega, by show r.t + j ≤ 300; omega, b5, by show r.w ≤ 300; omega, (show (0 : Int) ≤ 7 by decide), (show (7 : Int) ≤ 300 by decide)⟩, by show r.l + i + r.w ≤ a.l + 100; omega⟩⟩, rfl⟩
    · walk_at "wk"
      rfl
  rintro ρ rfl
  refine wp_seqJ (fun ρ => ρ = [some .tape, some (.val a.d), some (.val (.int fm)), some (.bor (.lst (labs.map labD))), some (.val (.tuple [.int x, .int y])), none, none, none, none, none]) ?_ ?_
  · walk_at "wk"
    refine wp_ite (fun h => ?_) (fun h => ?_)
    · walk_at "wa"
      refine wp_drawn (by decide) fun n n0 n1 => ?_
      walk_at "wk"
      refine wp_pick n0 (by simp only [List.length_cons, List.length_nil]; omega) fun d hd => ?_
      have : ∃ j : Int, d = .int j ∧ 0 ≤ j ∧ j ≤ 5 := by
        simp only [List.mem_cons, List.not_mem_nil, or_false] at hd
        rcases hd with rfl | rfl | rfl <;> exact ⟨_, rfl, by decide, by decide⟩
      obtain ⟨j, rfl, j0, j1⟩ := this
      walk_at "wk"
      rw [List.length_map]
      have hj : j * (labs.length : Int) ≤ 5 * 16 := Int.mul_le_mul j1 (by omega) (by omega) (by decide)
      have hj0 : 0 ≤ j * (labs.length : Int) := Int.mul_nonneg j0 (by omega)
      rw [if_pos (cMul_ok 200 200 (by decide) (by decide) (by decide) (by omega) (by omega))]
      generalize j * (labs.length : Int) = z at *
      walk_at "wa"
      refine wp_drawn (by decide) fun m m0 m1 => ?_
      walk_at "wk"
      refine wp_pick m0 (by simp only [List.length_cons, List.length_nil]; omega) fun d hd => ?_
      have : ∃ j : Int, d = .int j ∧ 0 ≤ j ∧ j ≤ 6 := by
        simp only [List.mem_cons, List.not_mem_nil, or_false] at hd
        rcases hd with rfl | rfl | rfl <;> exact ⟨_, rfl, by decide, by decide⟩
      obtain ⟨i, rfl, i0, i1⟩ := this
      walk_at "wa"
      refine wp_drawn (by decide) fun w w0 w1 => ?_
      walk_at "wk"
      refine wp_pick w0 (by simp only [List.length_cons, List.length_nil]; omega) fun d hd => ?_
      have q1 : Rx a ⟨a.l + z, a.t, 6, 5⟩ := ⟨⟨by show -300 ≤ a.l + z; omega, by show a.l + z ≤ 300; omega, by show -300 ≤ a.t; omega, by show a.t ≤ 300; omega, (show (0 : Int) ≤ 6 by decide), (show (6 : Int) ≤ 300 by decide), (show (0 : Int) ≤ 5 by decide), (show (5 : Int) ≤ 300 by decide)⟩, by show a.l + z + 6 ≤ a.l + 100; omega⟩
      have q2 : Rx a ⟨a.l + z, a.t + i, 6, 5⟩ := ⟨⟨by show -300 ≤ a.l + z; omega, by show a.l + z ≤ 300; omega, by show -300 ≤ a.t + i; omega, by show a.t + i ≤ 300; omega, (show (0 : Int) ≤ 6 by decide), (show (6 : Int) ≤ 300 by decide), (show (0 : Int) ≤ 5 by decide), (show (5 : Int) ≤ 300 by decide)⟩, by show a.l + z + 6 ≤ a.l + 100; omega⟩
      have : ∃ p, Lb a p ∧ d = labD p := by
        simp only [List.mem_cons, List.not_mem_nil, or_false] at hd
        rcases hd with rfl | rfl | rfl | rfl
        · exact ⟨(_, _), ⟨q1, q2⟩, rfl⟩
        · exact ⟨(_, _), ⟨q2, q1⟩, rfl⟩
        · exact ⟨(_, _), ⟨q1, q2⟩, rfl⟩
        · exact ⟨(_, _), ⟨q1, q1⟩, rfl⟩
      obtain ⟨p, hp, rfl⟩ := this
      walk_at "wk"
      exact out_ok ⟨p, hp, rfl⟩
    · walk_at "wk"
      rfl
  rintro ρ rfl
  refine wp_seqJ (fun ρ => ∃ f : R, Rx a f ∧ ρ = [some .tape, some (.val a.d), some (.val (.int fm)), some (.bor (.lst (labs.map labD))), some (.val (.tuple [.int x, .int y])), some (.val f.d), none, none, none, none]) ?_ ?_
  · walk_at "wk"
    refine rect_wp ha (by omega) (by omega) (by omega) (by omega) fun r hr hr1 hr2 => ?_
    walk_at "wk"
    exact ⟨r, ⟨hr.up (by decide), by omega⟩, rfl⟩
  rintro ρ ⟨f, hf, rfl⟩
  refine wp_seqJ (fun ρ => ∃ f : R, Rx a f ∧ ρ = [some .tape, some (.val a.d), some (.val (.int fm)), some (.bor (.lst (labs.map labD))), some (.val (.tuple [.int x, .int y])), some (.val f.d), none, none, none, none]) ?_ ?_
  · walk_at "wk"
    cases labs with
    | nil =>
      rw [show (!(List.map labD []).isEmpty) = false from rfl]
      walk_at "wk"
      exact ⟨f, hf, rfl⟩
    | cons p labs =>
      rw [show (!(List.map labD (p :: labs)).isEmpty) = true from rfl]
      walk_at "wk"
      refine wp_drawn (by decide) fun n n0 n1 => ?_
      walk_at "wk"
      refine wp_ite (fun h => ?_) (fun h => ?_)
      · refine wp_drawn (by rw [List.length_map]; omega) fun m m0 m1 => ?_
        rw [List.length_map] at m1
        walk_at "wk"
        refine wp_pick m0 (by rw [List.length_map]; simp only [List.length_cons] at *; omega) fun d hd => ?_
        obtain ⟨z, hz, rfl⟩ := List.mem_map.mp hd
        have hzb := hb z hz
        walk_at "wk"
        refine wp_drawn (by decide) fun w w0 w1 => ?_
        walk_at "wk"
        have : w = 0 ∨ w = 1 := by omega
        rcases this with rfl | rfl
        · rw [lab0]
          walk_at "wk"
          exact ⟨z.1, hzb.1, rfl⟩
        · rw [lab1]
          walk_at "wk"
          exact ⟨z.2, hzb.2, rfl⟩
      · walk_at "wk"
        exact ⟨f, hf, rfl⟩
  clear hf
  rintro ρ ⟨f, hf, rfl⟩
  walk_at "wk"
  refine rect_wp ha (by omega) (by omega) (by omega) (by omega) fun r hr hr1 hr2 => ?_
  walk_at "wk"
  refine wp_drawn (by decide) fun n n0 n1 => ?_
  walk_at "wk"
  refine wp_pick (by omega) (by simp only [List.length_cons, List.length_nil]; omega) fun d hd => ?_
  simp only [List.mem_cons, List.not_mem_nil, or_false] at hd
  rcases hd with rfl | rfl
  · walk_at "wk"
    exact ⟨(f, f), ⟨hf, hf⟩, rfl⟩
  · walk_at "wk"
    exact ⟨(f, r), ⟨hf, ⟨hr.up (by decide), by show r.l + r.w ≤ _; omega⟩⟩, rfl⟩
structure PbOk (P : Pb) : Prop where
  labs : ∀ p ∈ P.labs, Lb P.area p
  nl : P.labs.length ≤ 20
  obs : ∀ r ∈ P.obs, Rx P.area r
  no : P.obs.length ≤ 10
  ar : Ar P.area
  h7 : 7 ≤ P.area.h
theorem map_snoc {δ : Type} (f : δ → PyData) (xs : List δ) (x : δ) : xs.map f ++ [f x] = (xs ++ [x]).map f := by rw [List.map_append]; rfl
theorem problem_wp {m : Int} (m0 : 0 ≤ m) (m1 : m ≤ 15) {α : Type} {k : C → M α} {Q : α → Prop} (q : ∀ P, PbOk P → (P.labs.length : Int) ≤ m → wp (k (.val P.d)) Q) : wp ((f_law_problem [.tape, .val (.int m)]).bind k) Q := by
  refine wp_call (fun c => ∃ P, PbOk P ∧ (P.labs.length : Int) ≤ m ∧ c = .val P.d) ?_ (by rintro c ⟨p, h1, h2, rfl⟩; exact q p h1 h2)
  refine wp_fn rfl ?_
  walk_at "we"
  refine wp_seqJ (fun ρ => ∃ x y : Int, 0 ≤ x ∧ x ≤ 40 ∧ 7 ≤ y ∧ y ≤ 40 ∧ ρ = [some .tape, some (.val (.int m)), some (.val (.tuple [.int x, .int y])), none, none, none, none, none, none]) ?_ ?_
  · walk_at "wk"
    refine wp_drawn (by decide) fun n n0 n1 => ?_
    walk_at "wk"
    refine wp_pick n0 (by simp only [List.length_cons, List.length_nil]; omega) fun d hd => ?_
    have : ∃ j : Int, d = .int j ∧ 0 ≤ j ∧ j ≤ 40 := by
      simp only [List.mem_cons, List.not_mem_nil, or_false] at hd
      rcases hd with rfl | rfl | rfl | rfl | rfl | rfl <;> exact ⟨_, rfl, by decide, by decide⟩
    obtain ⟨x, rfl, x0, x1⟩ := this
    walk_at "wk"
    refine wp_drawn (by decide) fun m m0 m1 => ?_
    walk_at "wk"
    refine wp_pick m0 (by simp only [List.length_cons, List.length_nil]; omega) fun d hd => ?_
    have : ∃ j : Int, d = .int j ∧ 7 ≤ j ∧ j ≤ 40 := by
      simp only [List.mem_cons, List.not_mem_nil, or_false] at hd
      rcases hd with rfl | rfl | rfl | rfl | rfl | rfl <;> exact ⟨_, rfl, by decide, by decide⟩
    obtain ⟨y, rfl, y0, y1⟩ := this
    walk_at "wk"
    exact ⟨x, y, x0, x1, y0, y1, rfl⟩
  rintro ρ ⟨x, y, x0, x1, y0, y1, rfl⟩
  refine wp_seqJ (fun ρ => ∃ a : R, (Ar a ∧ 7 ≤ a.h) ∧ ρ = [some .tape, some (.val (.int m)), some (.val (.tuple [.int x, .int y])), some (.val a.d), none, none, none, none, none]) ?_ ?_
  · walk_at "wk"
    refine wp_drawn (by decide) fun n n0 n1 => ?_
    walk_at "wk"
    refine wp_drawn (by decide) fun w w0 w1 => ?_
    walk_at "wk"
    exact ⟨⟨n - 20, w - 20, x, y⟩, ⟨⟨by show -50 ≤ n - 20; omega, by show n - 20 ≤ 50; omega, by show -50 ≤ w - 20; omega, by show w - 20 ≤ 50; omega, x0, by show x ≤ 50; omega, by show 0 ≤ y; omega, by show y ≤ 50; omega⟩, y0⟩, rfl⟩
  rintro ρ ⟨a, ⟨ha, ha7⟩, rfl⟩
  refine wp_seqJ (fun ρ => ∃ fm : Int, ρ = [some .tape, some (.val (.int m)), some (.val (.tuple [.int x, .int y])), some (.val a.d), some (.val (.int fm)), none, none, none, none]) ?_ ?_
  · walk_at "wk"
    refine wp_drawn (by decide) fun n n0 n1 => ?_
    walk_at "wk"
    exact ⟨n, rfl⟩
  rintro ρ ⟨fm, rfl⟩
  refine wp_seqJ (fun ρ => ρ = [some .tape, some (.val (.int m)), some (.val (.tuple [.int x, .int y])), some (.val a.d), some (.val (.int fm)), some (.own (.lst (([] : List (R × R)).map labD))), none, none, none]) ?_ ?_
  · walk_at "wk"
    rfl
  rintro ρ rfl
  refine wp_seqJ (fun ρ => ∃ (labs : List (R × R)) (z : Option C), labs.length ≤ 20 ∧ (labs.length : Int) ≤ m ∧ (∀ p ∈ labs, Lb a p) ∧ ρ = [some .tape, some (.val (.int m)), some (.val (.tuple [.int x, .int y])), some (.val a.d), some (.val (.int fm)), some (.own (.lst (labs.map labD))), z, none, none]) ?_ ?_
  · walk_at "wk"
    refine wp_drawn (by omega) fun n n0 n1 => ?_
    walk_at "wk"
    rw [if_pos (rngOk_ok (by omega) (by omega))]
    walk_at "wk"
    refine wp_turns (n := n.toNat) (fun i ρ => ∃ (labs : List (R × R)) (z : Option C), labs.length ≤ i ∧ (∀ p ∈ labs, Lb a p) ∧ ρ = [some .tape, some (.val (.int m)), some (.val (.tuple [.int x, .int y])), some (.val a.d), some (.val (.int fm)), some (.own (.lst (labs.map labD))), z, none, none]) ?_ ?_ ⟨[], none, Nat.le_refl _, by simp, rfl⟩
    · rintro ρ ⟨labs, z, l0, lb, rfl⟩
      exact ⟨labs, z, by omega, by omega, lb, rfl⟩
    · rintro i ds ρ hi ⟨labs, z, l0, lb, rfl⟩
      walk_at "wk"
      refine label_wp ha (by omega) lb fun p hp => ?_
      walk_at "wk"
      rw [if_pos (by rw [List.length_map]; omega), map_snoc]
      walk_at "wk"
      refine ⟨labs ++ [p], _, by rw [List.length_append]; simp only [List.length_cons, List.length_nil]; omega, fun q hq => ?_, rfl⟩
      rcases List.mem_append.mp hq with h | h
      · exact lb q h
      · rw [List.mem_singleton.mp h]; exact hp
  rintro ρ ⟨labs, z, l0, l9, lb, rfl⟩
  refine wp_seqJ (fun ρ => ρ = [some .tape, some (.val (.int m)), some (.val (.tuple [.int x, .int y])), some (.val a.d), some (.val (.int fm)), some (.own (.lst (labs.map labD))), z, some (.own (.lst (([] : List R).map R.d))), none]) ?_ ?_
  · walk_at "wk"
    rfl
  rintro ρ rfl
  refine wp_seqJ (fun ρ => ∃ (obs : List R) (z y' : Option C), obs.length ≤ 10 ∧ (∀ p ∈ obs, Rx a p) ∧ ρ = [some .tape, some (.val (.int m)), some (.val (.tuple [.int x, .int y])), some (.val a.d), some (.val (.int fm)), some (.own (.lst (labs.map labD))), z, some (.own (.lst (obs.map R.d))), y']) ?_ ?_
  · walk_at "wk"
    refine wp_drawn (by decide) fun n n0 n1 => ?_
    walk_at "wk"
    refine wp_pick n0 (by simp only [List.length_cons, List.length_nil]; omega) fun d hd => ?_
    have : ∃ j : Int, d = .int j ∧ 0 ≤ j ∧ j ≤ 3 := by
      simp only [List.mem_cons, List.not_mem_nil, or_false] at hd
      rcases hd with rfl | rfl | rfl | rfl <;> exact ⟨_, rfl, by decide, by decide⟩
    obtain ⟨j, rfl, j0, j1⟩ := this
    walk_at "wk"
    rw [if_pos (rngOk_ok (by omega) (by omega))]
    walk_at "wk"
    refine wp_turns (n := j.toNat) (fun i ρ => ∃ (obs : List R) (z y' : Option C), obs.length ≤ i ∧ (∀ p ∈ obs, Rx a p) ∧ ρ = [some .tape, some (.val (.int m)), some (.val (.tuple [.int x, .int y])), some (.val a.d), some (.val (.int fm)), some (.own (.lst (labs.map labD))), z, some (.own (.lst (obs.map R.d))), y']) ?_ ?_ ⟨[], _, none, Nat.le_refl _, by simp, rfl⟩
    · rintro ρ ⟨obs, z, y', l0, lb, rfl⟩
      exact ⟨obs, z, y', by omega, lb, rfl⟩
    · rintro i ds ρ hi ⟨obs, z, y', o0, ob, rfl⟩
      walk_at "we"
      refine wp_seqJ (fun ρ => ∃ (r : R) (z : Option C), Rx a r ∧ ρ = [some .tape, some (.val (.int m)), some (.val (.tuple [.int x, .int y])), some (.val a.d), some (.val (.int fm)), some (.own (.lst (labs.map labD))), z, some (.own (.lst (obs.map R.d))), some (.val r.d)]) ?_ ?_
      · walk_at "wk"
        refine wp_drawn (by decide) fun u u0 u1 => ?_
        walk_at "wk"
        refine wp_drawn (by decide) fun v v0 v1 => ?_
        walk_at "wk"
        refine rect_wp ha (by omega) (by omega) (by omega) (by omega) fun r hr hr1 hr2 => ?_
        walk_at "wk"
        exact ⟨r, _, ⟨hr.up (by decide), by omega⟩, rfl⟩
      clear z
      rintro ρ ⟨r, z, hr, rfl⟩
      refine wp_seqJ (fun ρ => ∃ (r : R), Rx a r ∧ ρ = [some .tape, some (.val (.int m)), some (.val (.tuple [.int x, .int y])), some (.val a.d), some (.val (.int fm)), some (.own (.lst (labs.map labD))), z, some (.own (.lst (obs.map R.d))), some (.val r.d)]) ?_ ?_
      · walk_at "wk"
        cases labs with
        | nil =>
          rw [show (!(List.map labD []).isEmpty) = false from rfl]
          walk_at "wk"
          exact ⟨r, hr, rfl⟩
        | cons p labs =>
          rw [show (!(List.map labD (p :: labs)).isEmpty) = true from rfl]
          walk_at "wk"
          refine wp_drawn (by decide) fun n n0 n1 => ?_
          walk_at "wk"
          refine wp_ite (fun h => ?_) (fun h => ?_)
          · refine wp_drawn (by rw [List.length_map]; omega) fun m m0 m1 => ?_
            rw [List.length_map] at m1
            walk_at "wk"
            refine wp_pick m0 (by rw [List.length_map]; simp only [List.length_cons] at *; omega) fun d hd => ?_
            obtain ⟨z, hz, rfl⟩ := List.mem_map.mp hd
            have hzb := lb z hz
            walk_at "wk"
            refine wp_drawn (by decide) fun w w0 w1 => ?_
            walk_at "wk"
            have : w = 0 ∨ w = 1 := by omega
            rcases this with rfl | rfl
            · rw [lab0]
              walk_at "wk"
              exact ⟨z.1, hzb.1, rfl⟩
            · rw [lab1]
              walk_at "wk"
              exact ⟨z.2, hzb.2, rfl⟩
          · walk_at "wk"
            exact ⟨r, hr, rfl⟩
      clear hr
      rintro ρ ⟨r, hr, rfl⟩
      walk_at "wk"
      rw [if_pos (by rw [List.length_map]; omega), map_snoc]
      walk_at "wk"
      refine ⟨obs ++ [r], _, _, by rw [List.length_append]; simp only [List.length_cons, List.length_nil]; omega, fun q hq => ?_, rfl⟩
      rcases List.mem_append.mp hq with h | h
      · exact ob q h
      · rw [List.mem_singleton.mp h]; exact hr
  clear z
  rintro ρ ⟨obs, z, y', o0, ob, rfl⟩
  walk_at "wk"
  exact ⟨⟨a, obs, labs⟩, ⟨lb, l0, ob, o0, ha, ha7⟩, l9, rfl⟩
theorem pd2 {P : Pb} : oIx (.val P.d) (.val (.int 2)) = .ret (.val (.tuple (P.labs.map labD))) := by unfold Pb.d; walk_at "pl"
theorem ch0 {c : Nat × Bool} : oIx (.val (chD c)) (.val (.int 0)) = .ret (.val (.int c.1)) := by unfold chD; walk_at "pl"
theorem ch1 {c : Nat × Bool} : oIx (.val (chD c)) (.val (.int 1)) = .ret (.val (.int (sd c.2))) := by unfold chD; walk_at "pl"
def chL : Nat → List (Nat × Bool)
  | 0 => []
  | n + 1 => chL n ++ [(n, false), (n, true)]
theorem chL_lt : ∀ {n : Nat} {c : Nat × Bool}, c ∈ chL n → c.1 < n
  | 0, c, h => absurd h List.not_mem_nil
  | n + 1, c, h => by
    rcases List.mem_append.mp h with h | h
    · have := chL_lt h; omega
    · simp only [List.mem_cons, List.not_mem_nil, or_false] at h
      rcases h with rfl | rfl <;> exact Nat.lt_succ_self n
theorem chL_len : ∀ n : Nat, (chL n).length = 2 * n
  | 0 => rfl
  | n + 1 => by rw [chL, List.length_append, chL_len n]; simp only [List.length_cons, List.length_nil]; omega
theorem Rb.rep {r : R} (h : Rb 300 r) (b : Bool) : RepOk (.tuple [r.d, .bool b]) := by
  obtain ⟨a1, a2, a3, a4, a5, a6, a7, a8⟩ := h
  refine ⟨?_, by simp [R.d, PyData.depth, PyData.depthAll], by simp only [R.d, cost, costAll]; decide⟩
  have p1 := small_int (i := r.l) (by omega) (by omega)
  have p2 := small_int (i := r.t) (by omega) (by omega)
  have p3 := small_int (i := r.w) (by omega) (by omega)
  have p4 := small_int (i := r.h) (by omega) (by omega)
  simp only [R.d, plainD, plainAll, Bool.and_true, Bool.and_eq_true] at *
  exact ⟨p1, p2, p3, p4⟩
theorem side_ok {P : Pb} (h : PbOk P) {i : Nat} {p : R × R} (e : P.labs[i]? = some p) (s : Bool) : Rb 300 (side p s) := by
  have := h.labs p (List.mem_of_getElem? e)
  cases s
  · exact this.1.1
  · exact this.2.1
theorem ne_same {x : Str} : oNe (.val (.str x)) (.val (.str x)) = .ret (.val (.bool false)) := by rw [oNe_s, decide_eq_true rfl]; rfl

/-! dicts keyed by choices -/
def ck (c : Ch) : List Key := [.inl (c.1 : Int), .inl (sd c.2)]
theorem keyT_ch (c : Ch) : keyT (chD c) = some (ck c) := rfl
theorem ck_inj {c d : Ch} (h : ck c = ck d) : c = d := by
  unfold ck at h
  obtain ⟨h1, h2⟩ := List.cons.inj h
  obtain ⟨h2, _⟩ := List.cons.inj h2
  have e1 : (c.1 : Int) = d.1 := Sum.inl.inj h1
  have e2 : c.2 = d.2 := sd_inj.mp (Sum.inl.inj h2)
  exact Prod.ext (by omega) e2
def dC (m : List (Ch × PyData)) : List (List Key × PyData) := m.map fun e => (ck e.1, e.2)
def getC (m : List (Ch × PyData)) (c : Ch) : Option PyData := (m.find? fun e => decide (e.1 = c)).map (·.2)
theorem ck_dec (c d : Ch) : decide (ck c = ck d) = decide (c = d) := decide_eq_decide.mpr ⟨ck_inj, fun e => by rw [e]⟩
theorem valD_dC (m : List (Ch × PyData)) (c : Ch) : valD (dC m) (ck c) = getC m c := by
  unfold valD dC getC
  rw [List.find?_map]
  have : ((fun kv : List Key × PyData => decide (kv.1 = ck c)) ∘ fun e : Ch × PyData => (ck e.1, e.2)) = fun e => decide (e.1 = c) := funext fun e => ck_dec _ _
  rw [this]
  cases m.find? fun e => decide (e.1 = c) <;> rfl
theorem getC_some (m : List (Ch × PyData)) (c : Ch) : (getC m c).isSome = decide (c ∈ m.map (·.1)) := by
  unfold getC
  rw [Option.isSome_map, Bool.eq_iff_iff, List.find?_isSome, decide_eq_true_eq, List.mem_map]
  constructor
  · rintro ⟨e, he, h⟩; exact ⟨e, he, of_decide_eq_true h⟩
  · rintro ⟨e, he, h⟩; exact ⟨e, he, decide_eq_true h⟩
theorem getC_in {m : List (Ch × PyData)} {c : Ch} {v : PyData} (h : getC m c = some v) : (c, v) ∈ m := by
  unfold getC at h
  obtain ⟨e, he, rfl⟩ := Option.map_eq_some_iff.mp h
  have h1 := List.mem_of_find?_eq_some he
  have h2 := List.find?_some he
  have : e.1 = c := of_decide_eq_true h2
  subst this
  exact h1
theorem getC_ex {m : List (Ch × PyData)} {c : Ch} (h : c ∈ m.map (·.1)) : ∃ v, getC m c = some v ∧ (c, v) ∈ m := by
  have : (getC m c).isSome = true := by rw [getC_some]; exact decide_eq_true h
  obtain ⟨v, hv⟩ := Option.isSome_iff_exists.mp this
  exact ⟨v, hv, getC_in hv⟩
theorem putD_new {m : List (Ch × PyData)} {c : Ch} {v : PyData} (h : c ∉ m.map (·.1)) : putD (dC m) (ck c) v = dC (m ++ [(c, v)]) := by
  unfold putD
  have : ((dC m).any fun kv => decide (kv.1 = ck c)) = false := by
    rw [Bool.eq_false_iff]
    intro z
    obtain ⟨kv, hk, e⟩ := List.any_eq_true.mp z
    obtain ⟨x, hx, rfl⟩ := List.mem_map.mp hk
    have e : x.1 = c := ck_inj (of_decide_eq_true e)
    exact h (List.mem_map.mpr ⟨x, hx, e⟩)
  rw [this, if_neg (by decide)]
  unfold dC
  rw [List.map_append]
  rfl
theorem dC_len (m : List (Ch × PyData)) : (dC m).length = m.length := List.length_map ..
theorem get_b {m : List (Ch × PyData)} {c : Ch} {v : PyData} (h : getC m c = some v) : oDGet (.bor (.dT (dC m))) (.val (chD c)) = .ret (.val v) := by
  show (match lkD (.bor (.dT (dC m))) (chD c) with | some (some z) => (M.ret (C.val z)) | _ => .fail) = _
  rw [show lkD (.bor (.dT (dC m))) (chD c) = some (valD (dC m) (ck c)) from rfl, valD_dC, h]
theorem in_b {m : List (Ch × PyData)} {c : Ch} {n : Bool} : oDIn n (.val (chD c)) (.bor (.dT (dC m))) = .ret (.val (.bool (n ^^ decide (c ∈ m.map (·.1))))) := by
  show (match lkD (.bor (.dT (dC m))) (chD c) with | some o => (M.ret (C.val (.bool (n ^^ o.isSome)))) | _ => .fail) = _
  rw [show lkD (.bor (.dT (dC m))) (chD c) = some (valD (dC m) (ck c)) from rfl, valD_dC]
  dsimp only
  rw [getC_some]
theorem in_l {m : List (Ch × PyData)} {c : Ch} {n : Bool} : oDIn n (.val (chD c)) (.bor (.lT (dC m))) = .ret (.val (.bool (n ^^ decide (c ∈ m.map (·.1))))) := by
  show (match lkD (.bor (.lT (dC m))) (chD c) with | some o => (M.ret (C.val (.bool (n ^^ o.isSome)))) | _ => .fail) = _
  rw [show lkD (.bor (.lT (dC m))) (chD c) = some (valD (dC m) (ck c)) from rfl, valD_dC]
  dsimp only
  rw [getC_some]
theorem put_C {m : List (Ch × PyData)} {c : Ch} {v : PyData} (h : c ∉ m.map (·.1)) (hl : m.length ≤ 1000) : putC (dC m) (.val (chD c)) (.val v) = some (dC (m ++ [(c, v)])) := by
  unfold putC
  dsimp only
  rw [keyT_ch]
  dsimp only
  rw [if_pos (lenOk_ok (by rw [dC_len]; omega)), putD_new h]
theorem put_T {i : Nat} {ρ : Ro} {m : List (Ch × PyData)} {c : Ch} {v : PyData} (h : c ∉ m.map (·.1)) (hl : m.length ≤ 1000) : kPutT i ρ (dC m) (.val v) (.val (chD c)) = .ret (.nx (ρ.set i (some (.own (.dT (dC (m ++ [(c, v)]))))))) := by
  unfold kPutT
  dsimp only
  rw [keyT_ch]
  dsimp only
  rw [if_pos (lenOk_ok (by rw [dC_len]; omega)), putD_new h]
theorem dcL_nil {a : C → Ro → M Ro} {c : Ro → M Bool} {gk gv : Ro → M C} {ρ : Ro} {acc : List (List Key × PyData)} : dcL a c gk gv [] ρ acc = .ret (.own (.dT acc)) := rfl
/-- each thing gives a new key -/
theorem dcL_ch {δ : Type} (enc : δ → PyData) (f : δ → Ch) (g : δ → PyData) {a : C → Ro → M Ro} {c : Ro → M Bool} {gk gv : Ro → M C} {ρ : Ro} : ∀ (xs : List δ) (m : List (Ch × PyData)), m.length + xs.length ≤ 1000 → (m.map (·.1) ++ xs.map f).Nodup →
    (∀ x ∈ xs, ∃ ρ1, a (.val (enc x)) ρ = .ret ρ1 ∧ c ρ1 = .ret true ∧ gk ρ1 = .ret (.val (chD (f x))) ∧ gv ρ1 = .ret (.val (g x))) →
    dcL a c gk gv (xs.map enc) ρ (dC m) = .ret (.own (.dT (dC (m ++ xs.map fun x => (f x, g x)))))
  | [], m, _, _, _ => by rw [List.map_nil, dcL_nil, List.map_nil, List.append_nil]
  | x :: xs, m, hl, nd, h => by
    obtain ⟨ρ1, h1, h2, h3, h4⟩ := h x List.mem_cons_self
    rw [List.length_cons] at hl
    have new : f x ∉ m.map (·.1) := fun z => (List.nodup_append.mp nd).2.2 _ z _ (by simp) rfl
    show (a (.val (enc x)) ρ).bind _ = _
    rw [h1, retB, h2, retB, if_pos rfl, h3, retB, h4, retB, put_C new (by omega)]
    dsimp only
    rw [dcL_ch enc f g xs (m ++ [(f x, g x)]) (by rw [List.length_append]; simp; omega) (by rw [List.map_append, List.append_assoc]; exact nd) fun y hy => h y (List.mem_cons_of_mem _ hy), List.append_assoc]
    rfl
/-! the choices of labels -/
def chs (A : List Nat) : List Ch := A.flatMap fun i => [(i, false), (i, true)]
theorem mem_chs {A : List Nat} {c : Ch} : c ∈ chs A ↔ c.1 ∈ A := by
  unfold chs
  rw [List.mem_flatMap]
  constructor
  · rintro ⟨i, hi, h⟩
    rcases List.mem_cons.mp h with rfl | h
    · exact hi
    · rw [List.mem_singleton.mp h]; exact hi
  · intro h
    obtain ⟨i, s⟩ := c
    exact ⟨i, h, by cases s <;> simp⟩
theorem chs_cons {i : Nat} {A : List Nat} : chs (i :: A) = (i, false) :: (i, true) :: chs A := rfl
theorem chs_len : ∀ A : List Nat, (chs A).length = 2 * A.length
  | [] => rfl
  | i :: A => by rw [chs_cons, List.length_cons, List.length_cons, List.length_cons, chs_len A]; omega
theorem chs_nd : ∀ {A : List Nat}, A.Nodup → (chs A).Nodup
  | [], _ => List.nodup_nil
  | i :: A, h => by
    obtain ⟨h1, h2⟩ := List.nodup_cons.mp h
    rw [chs_cons]
    refine List.nodup_cons.mpr ⟨fun z => ?_, List.nodup_cons.mpr ⟨fun z => h1 (mem_chs.mp z), chs_nd h2⟩⟩
    rcases List.mem_cons.mp z with z | z
    · cases z
    · exact h1 (mem_chs.mp z)
def intN (i : Nat) : PyData := .int (i : Int)
def lcG : Ro → M (List PyData) := gItI (gTupE (gaCons (gC (.int 0)) (gaCons (gC (.int 1)) gaNil)))
theorem lc2_ch {Pd Ad : PyData} : ∀ (A : List Nat) (acc : List PyData), acc.length + 2 * A.length ≤ 1000 →
    lcL2 (asgR 3) gYes lcG (asgR 4) gYes (gTupE (gaCons (gVar 3) (gaCons (gVar 4) gaNil))) [4] (A.map intN) [some (.val Pd), some (.val Ad), none, none, none, none, none] acc = .ret (.own (.lst (acc ++ (chs A).map chD)))
  | [], acc, _ => by rw [show chs [] = [] from rfl, List.map_nil, List.map_nil, List.append_nil]; rfl
  | i :: A, acc, h => by
    rw [List.length_cons] at h
    have e1 : ∀ (s : Bool) (ds : List PyData) (acc : List PyData) (k : List PyData → M C), acc.length < 1000 → lcI (asgR 4) gYes (gTupE (gaCons (gVar 3) (gaCons (gVar 4) gaNil))) (.int (sd s) :: ds) [some (.val Pd), some (.val Ad), none, some (.val (intN i)), none, none, none] acc k =
        lcI (asgR 4) gYes (gTupE (gaCons (gVar 3) (gaCons (gVar 4) gaNil))) ds [some (.val Pd), some (.val Ad), none, some (.val (intN i)), none, none, none] (acc ++ [chD (i, s)]) k := fun s ds acc k hl => by
      show ((asgR 4 (.val (.int (sd s))) _).bind _) = _
      walk_at "wk"
      rw [if_pos (by omega)]
      rfl
    rw [List.map_cons]
    show ((asgR 3 (.val (intN i)) _).bind _) = _
    unfold lcG
    walk_at "wk"
    rw [show (PyData.int 0) = .int (sd false) from rfl, show (PyData.int 1) = .int (sd true) from rfl, e1 false _ _ _ (by omega), e1 true _ _ _ (by rw [List.length_append]; simp; omega)]
    show lcL2 (asgR 3) gYes lcG (asgR 4) gYes _ [4] (A.map intN) _ ((acc ++ [chD (i, false)]) ++ [chD (i, true)]) = _
    rw [lc2_ch A _ (by rw [List.length_append, List.length_append]; simp; omega), chs_cons, List.append_assoc, List.append_assoc]
    rfl

theorem wp_whl (I : Nat → Ro → Prop) {gc : Ro → M Bool} {b : Ro → M Res} {Q : Res → Prop} (z : ∀ ρ, ¬ I 0 ρ) (st : ∀ n ρ, I (n + 1) ρ → wp (gc ρ) fun c => (c = true → wp (b ρ) (Fp (I n) Q)) ∧ (c = false → Q (.nx ρ))) : ∀ (n : Nat) (ρ : Ro), I n ρ → wp (whlL gc b n ρ) Q
  | 0, ρ, h => absurd h (z ρ)
  | n + 1, ρ, h => by
    unfold whlL
    refine wp_call _ (st n ρ h) fun c hc => ?_
    cases c with
    | false => rw [if_neg (by decide), wp_retE]; exact hc.2 rfl
    | true =>
      rw [if_pos rfl]
      refine wp_call _ (hc.1 rfl) fun r hr => ?_
      cases r with
      | nx ρ' => exact wp_whl I z st n ρ' hr
      | ct ρ' => exact wp_whl I z st n ρ' hr
      | bk ρ' => show wp (.ret _) Q; rw [wp_retE]; exact hr
      | rt c => show wp (.ret _) Q; rw [wp_retE]; exact hr
/-! the labels of a problem -/
def lab (P : Pb) (i : Nat) : R × R := P.labs.getD i (⟨0, 0, 0, 0⟩, ⟨0, 0, 0, 0⟩)
theorem lab_at {P : Pb} {i : Nat} (h : i < P.labs.length) : P.labs[i]? = some (lab P i) := by
  unfold lab
  rw [List.getD_eq_getElem?_getD, List.getElem?_eq_getElem h]
  rfl
def Fr (P : Pb) (c : Ch) : Bool := freeB P (side (lab P c.1) c.2)
def Ol (P : Pb) (c d : Ch) : Bool := ov (side (lab P c.1) c.2) (side (lab P d.1) d.2)
theorem ol_sym (P : Pb) (c d : Ch) : Ol P c d = Ol P d c := ov_comm _ _
def FoP (P : Pb) : Ch → Ch → Bool := Fo (Fr P) (Ol P)
theorem fo_eq {P : Pb} {c d : Ch} : forceB P c d (lab P c.1) (lab P d.1) = FoP P c d := rfl
def InP (P : Pb) (A : List Nat) : Prop := ∀ i ∈ A, i < P.labs.length
def succ (P : Pb) (A : List Nat) (c : Ch) : List Ch := (chs A).filter (FoP P c)
def fm (P : Pb) (A : List Nat) : List (Ch × PyData) := (chs A).map fun c => (c, .list ((succ P A c).map chD))
theorem fm_keys (P : Pb) (A : List Nat) : (fm P A).map (·.1) = chs A := by
  unfold fm
  rw [List.map_map]
  exact List.map_id _
theorem fm_get {P : Pb} {A : List Nat} {c : Ch} (h : c.1 ∈ A) : getC (fm P A) c = some (.list ((succ P A c).map chD)) := by
  obtain ⟨v, h1, h2⟩ := getC_ex (m := fm P A) (c := c) (by rw [fm_keys]; exact mem_chs.mpr h)
  rw [h1]
  unfold fm at h2
  obtain ⟨d, _, e⟩ := List.mem_map.mp h2
  cases e
  rfl
theorem forces_at {P : Pb} {A : List Nat} {c d : Ch} (hA : InP P A) (hlo : P.obs.length ≤ 16777216) (hc : c.1 ∈ A) (hd : d.1 ∈ A) : f_forces [.val P.d, .val (chD c), .val (chD d)] = .ret (.val (.bool (FoP P c d))) := by
  rw [forces_eq (lab_at (hA _ hc)) (lab_at (hA _ hd)) hlo, fo_eq]
theorem forced_eq {P : Pb} {A : List Nat} (hA : InP P A) (nd : A.Nodup) (hl : A.length ≤ 100) (hlo : P.obs.length ≤ 16777216) : f_forced_choices [.val P.d, .val (.tuple (A.map intN))] = .ret (.own (.dT (dC (fm P A)))) := by
  have e := lc2_ch (Pd := P.d) (Ad := .tuple (A.map intN)) A [] (by simp; omega)
  unfold lcG at e
  unfold f_forced_choices
  walk_at "wk"
  rw [e]
  walk_at "wk"
  rw [List.nil_append, show (dcL (asgR 6) gYes (gVar 6) _ _ _ []) = dcL (asgR 6) gYes (gVar 6) _ _ _ (dC []) from rfl, dcL_ch chD id (fun c => .list ((succ P A c).map chD)) (chs A) [] (by rw [chs_len]; simp; omega) (by simpa using chs_nd nd) fun c hc => ⟨_, by walk_at "pr", rfl, by walk_at "pr", ?_⟩]
  · walk_at "wk"
    rfl
  · walk_at "wk"
    rw [List.length_map, chs_len, if_pos (by omega)]
    rw [lcL_fm chD (FoP P c) chD (chs A) [] fun d hd => ⟨_, by walk_at "pr", by walk_at "wk"; rw [forces_at hA hlo (mem_chs.mp hc) (mem_chs.mp hd)]; walk_at "pr", fun _ => by walk_at "pr"⟩]
    walk_at "wk"
    rfl
/-! what following reaches -/
structure CInv (P : Pb) (A : List Nat) (S : List Ch) (m : List (Ch × PyData)) (fr : List Ch) : Prop where
  nd : (m.map (·.1)).Nodup
  rch : ∀ c ∈ m.map (·.1), Rch (Fr P) (Ol P) A S c
  src : ∀ c ∈ S, c ∈ m.map (·.1)
  inA : ∀ c ∈ m.map (·.1), c.1 ∈ A
  front : ∀ c ∈ fr, c ∈ m.map (·.1)
  cl : ∀ c ∈ m.map (·.1), c ∉ fr → ∀ d, FoP P c d = true → d.1 ∈ A → d ∈ m.map (·.1)
  vals : ∀ e ∈ m, ∃ ds, e.2 = .tuple ds ∧ ds.length ≤ m.length
theorem nd_sub {l : List Ch} : ∀ {k : List Ch}, k.Nodup → (∀ x ∈ k, x ∈ l) → k.length ≤ l.length := by
  intro k
  induction k generalizing l with
  | nil => intro _ _; exact Nat.zero_le _
  | cons x k ih =>
    intro nd h
    obtain ⟨h1, h2⟩ := List.nodup_cons.mp nd
    have hx := h x List.mem_cons_self
    have := ih (l := l.erase x) h2 fun y hy => (List.mem_erase_of_ne fun e : y = x => h1 (e ▸ hy)).mpr (h y (List.mem_cons_of_mem _ hy))
    rw [List.length_erase_of_mem hx] at this
    have p := List.length_pos_of_mem hx
    rw [List.length_cons]
    omega
theorem CInv.len {P : Pb} {A : List Nat} {S : List Ch} {m : List (Ch × PyData)} {fr : List Ch} (h : CInv P A S m fr) : m.length ≤ 2 * A.length := by
  have := nd_sub (k := m.map (·.1)) (l := chs A) h.nd fun c hc => mem_chs.mpr (h.inA c hc)
  rwa [List.length_map, chs_len] at this

/-- one choice of the level in the making: ds is what it forces and is not yet seen -/
structure DInv (P : Pb) (A : List Nat) (S : List Ch) (m : List (Ch × PyData)) (c : Ch) (ds fr : List Ch) : Prop where
  base : CInv P A S m (c :: fr)
  todo : ∀ d, FoP P c d = true → d.1 ∈ A → d ∈ m.map (·.1) ∨ d ∈ ds
  okd : ∀ d ∈ ds, FoP P c d = true ∧ d.1 ∈ A
theorem DInv.start {P : Pb} {A : List Nat} {S : List Ch} {m : List (Ch × PyData)} {c : Ch} {fr : List Ch} (h : CInv P A S m (c :: fr)) : DInv P A S m c (succ P A c) fr :=
  ⟨h, fun d f hd => .inr (List.mem_filter.mpr ⟨mem_chs.mpr hd, f⟩), fun d hd => ⟨(List.mem_filter.mp hd).2, mem_chs.mp (List.mem_filter.mp hd).1⟩⟩
theorem DInv.done {P : Pb} {A : List Nat} {S : List Ch} {m : List (Ch × PyData)} {c : Ch} {fr : List Ch} (h : DInv P A S m c [] fr) : CInv P A S m fr :=
  ⟨h.base.nd, h.base.rch, h.base.src, h.base.inA, fun x hx => h.base.front x (List.mem_cons_of_mem _ hx), fun x hx nx d f hd => by
    by_cases e : x = c
    · subst e
      rcases h.todo d f hd with z | z
      · exact z
      · exact absurd z List.not_mem_nil
    · exact h.base.cl x hx (fun z => by rcases List.mem_cons.mp z with z | z; exact e z; exact nx z) d f hd, h.base.vals⟩
theorem DInv.skip {P : Pb} {A : List Nat} {S : List Ch} {m : List (Ch × PyData)} {c d : Ch} {ds fr : List Ch} (h : DInv P A S m c (d :: ds) fr) (hd : d ∈ m.map (·.1)) : DInv P A S m c ds fr :=
  ⟨h.base, fun x f hx => by
    rcases h.todo x f hx with z | z
    · exact .inl z
    · rcases List.mem_cons.mp z with rfl | z
      · exact .inl hd
      · exact .inr z, fun x hx => h.okd x (List.mem_cons_of_mem _ hx)⟩
theorem DInv.put {P : Pb} {A : List Nat} {S : List Ch} {m : List (Ch × PyData)} {c d : Ch} {ds fr : List Ch} {vs : List PyData} (h : DInv P A S m c (d :: ds) fr) (hd : d ∉ m.map (·.1)) (hv : vs.length ≤ m.length + 1) : DInv P A S (m ++ [(d, .tuple vs)]) c ds (fr ++ [d]) := by
  obtain ⟨f, hA⟩ := h.okd d List.mem_cons_self
  have keys : ∀ x, x ∈ (m ++ [(d, PyData.tuple vs)]).map (·.1) ↔ x ∈ m.map (·.1) ∨ x = d := fun x => by rw [List.map_append, List.mem_append]; simp
  refine ⟨⟨?_, fun x hx => ?_, fun x hx => (keys x).mpr (.inl (h.base.src x hx)), fun x hx => ?_, fun x hx => ?_, fun x hx nx y fy hy => ?_, fun e he => ?_⟩, fun x fx hx => ?_, fun x hx => h.okd x (List.mem_cons_of_mem _ hx)⟩
  · rw [List.map_append]
    refine List.nodup_append.mpr ⟨h.base.nd, by simp, fun a ha b hb e => ?_⟩
    have hb : b = d := by simpa using hb
    rw [e, hb] at ha
    exact hd ha
  · rcases (keys x).mp hx with z | rfl
    · exact h.base.rch x z
    · exact .step (h.base.rch c (h.base.front c List.mem_cons_self)) f hA
  · rcases (keys x).mp hx with z | rfl
    · exact h.base.inA x z
    · exact hA
  · rcases List.mem_cons.mp hx with rfl | hx
    · exact (keys _).mpr (.inl (h.base.front _ List.mem_cons_self))
    · rcases List.mem_append.mp hx with hx | hx
      · exact (keys _).mpr (.inl (h.base.front _ (List.mem_cons_of_mem _ hx)))
      · exact (keys _).mpr (.inr (List.mem_singleton.mp hx))
  · rcases (keys x).mp hx with z | rfl
    · refine (keys y).mpr (.inl (h.base.cl x z (fun w => nx ?_) y fy hy))
      rcases List.mem_cons.mp w with rfl | w
      · exact List.mem_cons_self
      · exact List.mem_cons_of_mem _ (List.mem_append_left _ w)
    · exact absurd (List.mem_cons_of_mem _ (List.mem_append_right _ (List.mem_singleton.mpr rfl))) nx
  · rw [List.length_append]
    rcases List.mem_append.mp he with he | he
    · obtain ⟨ws, e1, e2⟩ := h.base.vals e he
      exact ⟨ws, e1, by simp; omega⟩
    · rw [List.mem_singleton.mp he]
      exact ⟨vs, rfl, by simpa using hv⟩
  · rcases h.todo x fx hx with z | z
    · exact .inl ((keys x).mpr (.inl z))
    · rcases List.mem_cons.mp z with rfl | z
      · exact .inl ((keys _).mpr (.inr rfl))
      · exact .inr z
/-- all that S reaches: the keys -/
structure Whole (P : Pb) (A : List Nat) (S : List Ch) (m : List (Ch × PyData)) : Prop where
  nd : (m.map (·.1)).Nodup
  iff : ∀ c, c ∈ m.map (·.1) ↔ Rch (Fr P) (Ol P) A S c
theorem CInv.whole {P : Pb} {A : List Nat} {S : List Ch} {m : List (Ch × PyData)} (h : CInv P A S m []) : Whole P A S m := ⟨h.nd, fun c => ⟨h.rch c, fun r => by
  induction r with
  | base hc => exact h.src _ hc
  | step _ f hA ih => exact h.cl _ ih List.not_mem_nil _ f hA⟩⟩
theorem CInv.first {P : Pb} {A : List Nat} {S : List Ch} (nd : S.Nodup) (hS : ∀ c ∈ S, c.1 ∈ A) : CInv P A S (S.map fun c => (c, .tuple [chD c])) S := by
  have e : (S.map fun c => (c, PyData.tuple [chD c])).map (·.1) = S := by rw [List.map_map]; exact List.map_id _
  refine ⟨by rw [e]; exact nd, fun c hc => .base (by rw [e] at hc; exact hc), fun c hc => by rw [e]; exact hc, fun c hc => hS c (by rw [e] at hc; exact hc), fun c hc => by rw [e]; exact hc, fun c hc nc => absurd (by rw [e] at hc; exact hc) nc, fun x hx => ?_⟩
  obtain ⟨c, hc, rfl⟩ := List.mem_map.mp hx
  exact ⟨_, rfl, by rw [List.length_map]; exact List.length_pos_of_mem hc⟩
theorem chains_wp {P : Pb} {A : List Nat} {S : List Ch} (hl : A.length ≤ 30) (nd : S.Nodup) (hS : ∀ c ∈ S, c.1 ∈ A) {α : Type} {k : C → M α} {Q : α → Prop} (q : ∀ m, Whole P A S m → wp (k (.own (.dT (dC m)))) Q) :
    wp ((f_chains_from [.bor (.dT (dC (fm P A))), .val (.tuple (S.map chD))]).bind k) Q := by
  refine wp_call (fun c => ∃ m, Whole P A S m ∧ c = .own (.dT (dC m))) ?_ (by rintro c ⟨m, hm, rfl⟩; exact q m hm)
  unfold f_chains_from
  refine wp_fn rfl ?_
  have sl : S.length ≤ 2 * A.length := by
    have := nd_sub (k := S) (l := chs A) nd fun c hc => mem_chs.mpr (hS c hc)
    rwa [chs_len] at this
  generalize hF : PyData.tuple (S.map chD) = Sd
  walk_at "we"
  refine wp_seqJ (fun ρ => ρ = [some (.bor (.dT (dC (fm P A)))), some (.val Sd), some (.own (.dT (dC (S.map fun c => (c, .tuple [chD c]))))), none, none, none, none]) ?_ ?_
  · subst hF
    walk_at "wk"
    rw [show (dcL (asgR 3) gYes (gVar 3) _ _ _ []) = dcL (asgR 3) gYes (gVar 3) _ _ _ (dC []) from rfl, dcL_ch chD id (fun c => .tuple [chD c]) S [] (by simp; omega) (by simpa using nd) fun c hc => ⟨_, by walk_at "pr", rfl, by walk_at "pr", by walk_at "pr"⟩]
    walk_at "wk"
    rfl
  rintro ρ rfl
  refine wp_seqJ (fun ρ => ρ = [some (.bor (.dT (dC (fm P A)))), some (.val Sd), some (.own (.dT (dC (S.map fun c => (c, .tuple [chD c]))))), none, some (.own (.lst (S.map chD))), none, none]) ?_ ?_
  · subst hF
    walk_at "wk"
    rfl
  rintro ρ rfl
  refine wp_seqJ (fun ρ => ∃ m z3 z4 z5 z6, Whole P A S m ∧ ρ = [some (.bor (.dT (dC (fm P A)))), some (.val Sd), some (.own (.dT (dC m))), z3, z4, z5, z6]) ?_ ?_
  · show wp (whlL _ _ 100 _) _
    refine wp_whl (fun n ρ => ∃ (m : List (Ch × PyData)) (L : List Ch) (z3 z5 z6 : Option C) (z4 : C), CInv P A S m L ∧ ρ = [some (.bor (.dT (dC (fm P A)))), some (.val Sd), some (.own (.dT (dC m))), z3, some z4, z5, z6] ∧ (z4 = .own (.lst (L.map chD)) ∨ z4 = .val (.list (L.map chD))) ∧ ((L = [] ∧ 1 ≤ n) ∨ 2 * A.length + 2 ≤ n + m.length)) ?_ ?_ 100 _ ⟨_, S, none, none, none, _, CInv.first nd hS, rfl, .inl rfl, .inr (by omega)⟩
    · rintro ρ ⟨m, L, z3, z5, z6, z4, inv, rfl, h4, h | h⟩
      · omega
      · have := inv.len; omega
    rintro n ρ ⟨m, L, z3, z5, z6, z4, inv, rfl, h4, hn⟩
    have tst : ∀ {Q' : Bool → Prop}, Q' (!(L.map chD).isEmpty) → wp ((gTru (gVar 4)) [some (.bor (.dT (dC (fm P A)))), some (.val Sd), some (.own (.dT (dC m))), z3, some z4, z5, z6]) Q' := fun {Q'} h => by
      rcases h4 with rfl | rfl
      · walk_at "wk"; exact h
      · walk_at "wk"; exact h
    refine tst ?_
    cases L with
    | nil =>
      refine ⟨fun z => (by cases z), fun _ => ⟨m, z3, some z4, z5, z6, inv.whole, rfl⟩⟩
    | cons c0 L0 =>
      refine ⟨fun _ => ?_, fun z => by cases z⟩
      have hn : 2 * A.length + 2 ≤ n + 1 + m.length := by
        rcases hn with ⟨z, _⟩ | z
        · cases z
        · exact z
      have ml := inv.len
      have z4' : ∀ {α : Type} {k : C → M α} {Q : α → Prop}, wp (k (.own (.lst ((c0 :: L0).map chD)))) Q → wp ((gCall oListC (gaCons (gVar 4) gaNil) [some (.bor (.dT (dC (fm P A)))), some (.val Sd), some (.own (.dT (dC m))), z3, some z4, some (.own (.lst [])), z6]).bind k) Q := fun {α k Q} h => by
        rcases h4 with rfl | rfl
        · walk_at "wk"; exact h
        · walk_at "wk"; exact h
      generalize c0 :: L0 = L at *
      refine wp_seqJ (fun ρ => ρ = [some (.bor (.dT (dC (fm P A)))), some (.val Sd), some (.own (.dT (dC m))), z3, some z4, some (.own (.lst ([] : List PyData))), z6]) ?_ ?_
      · walk_at "wk"
        rfl
      rintro ρ rfl
      refine wp_seqJ (fun ρ => ∃ m' F z3 z6, CInv P A S m' F ∧ m'.length = m.length + F.length ∧ ρ = [some (.bor (.dT (dC (fm P A)))), some (.val Sd), some (.own (.dT (dC m'))), z3, some z4, some (.own (.lst (F.map chD))), z6]) ?_ ?_
      · rw [show ∀ {i a b} {ρ : Ro}, mFor i a b ρ = (i ρ).bind fun ds => forL a b ds ρ from rfl, gIt_eq, bind_bind]
        refine z4' ?_
        rw [itD_o, retB]
        refine wp_over chD (fun cs ρ => ∃ m' F z3 z6, CInv P A S m' (cs ++ F) ∧ m'.length = m.length + F.length ∧ ρ = [some (.bor (.dT (dC (fm P A)))), some (.val Sd), some (.own (.dT (dC m'))), z3, some z4, some (.own (.lst (F.map chD))), z6]) ?_ ?_ ⟨m, [], z3, z6, by rw [List.append_nil]; exact inv, rfl, rfl⟩
        · rintro ρ ⟨m', F, z3, z6, i', e', rfl⟩
          exact ⟨m', F, z3, z6, i', e', rfl⟩
        rintro c cs ρ ⟨m', F, z3, z6, i', e', rfl⟩
        have hcA : c.1 ∈ A := i'.inA c (i'.front c (by simp))
        rw [show (asgR 3 (.val (chD c)) [some (.bor (.dT (dC (fm P A)))), some (.val Sd), some (.own (.dT (dC m'))), z3, some z4, some (.own (.lst (F.map chD))), z6]) = .ret [some (.bor (.dT (dC (fm P A)))), some (.val Sd), some (.own (.dT (dC m'))), some (.val (chD c)), some z4, some (.own (.lst (F.map chD))), z6] from rfl, retB]
        walk_at "wk"
        rw [get_b (fm_get hcA)]
        walk_at "wk"
        refine wp_over chD (fun ds ρ => ∃ m' F z6, DInv P A S m' c ds (cs ++ F) ∧ m'.length = m.length + F.length ∧ ρ = [some (.bor (.dT (dC (fm P A)))), some (.val Sd), some (.own (.dT (dC m'))), some (.val (chD c)), some z4, some (.own (.lst (F.map chD))), z6]) ?_ ?_ ⟨m', F, z6, DInv.start i', e', rfl⟩
        · rintro ρ ⟨m', F, z6, i', e', rfl⟩
          exact ⟨m', F, _, z6, i'.done, e', rfl⟩
        rintro d ds ρ ⟨m', F, z6, i', e', rfl⟩
        have ml' := i'.base.len
        rw [show (asgR 6 (.val (chD d)) [some (.bor (.dT (dC (fm P A)))), some (.val Sd), some (.own (.dT (dC m'))), some (.val (chD c)), some z4, some (.own (.lst (F.map chD))), z6]) = .ret [some (.bor (.dT (dC (fm P A)))), some (.val Sd), some (.own (.dT (dC m'))), some (.val (chD c)), some z4, some (.own (.lst (F.map chD))), some (.val (chD d))] from rfl, retB]
        walk_at "wk"
        rw [in_b]
        walk_at "wk"
        by_cases hd : d ∈ m'.map (·.1)
        · rw [decide_eq_true hd]
          walk_at "wk"
          exact ⟨m', F, _, i'.skip hd, e', rfl⟩
        · rw [decide_eq_false hd]
          obtain ⟨v, hv, hvm⟩ := getC_ex (i'.base.front c List.mem_cons_self)
          obtain ⟨vs, ev, lv⟩ := i'.base.vals _ hvm
          have ev : v = .tuple vs := ev
          subst ev
          walk_at "wk"
          rw [get_b hv]
          walk_at "wk"
          rw [if_pos (by omega)]
          walk_at "wk"
          rw [put_T hd (by omega)]
          walk_at "wk"
          rw [List.length_map, if_pos (by omega)]
          walk_at "wk"
          refine ⟨m' ++ [(d, .tuple (vs ++ [chD d]))], F ++ [d], _, (by rw [← List.append_assoc]; exact i'.put hd (by rw [List.length_append, List.length_singleton]; omega)), (by rw [List.length_append, List.length_append, List.length_singleton, List.length_singleton]; omega), (by rw [List.map_append]; rfl)⟩
      rintro ρ ⟨m', F, z3, z6, i', e', rfl⟩
      walk_at "wk"
      refine ⟨m', F, _, _, _, _, i', rfl, .inr rfl, ?_⟩
      have := i'.len
      cases F with
      | nil => exact .inl ⟨rfl, by omega⟩
      | cons a F => rw [List.length_cons] at e'; exact .inr (by omega)
  rintro ρ ⟨m, z3, z4, z5, z6, w, rfl⟩
  walk_at "wk"
  exact ⟨m, w, rfl⟩

def encM (m : List (Ch × List Ch)) : List (Ch × PyData) := m.map fun e => (e.1, .tuple (e.2.map chD))
theorem encM_keys (m : List (Ch × List Ch)) : (encM m).map (·.1) = m.map (·.1) := by unfold encM; rw [List.map_map]; rfl
theorem encM_get {m : List (Ch × List Ch)} (nd : (m.map (·.1)).Nodup) {c : Ch} {v : List Ch} (h : (c, v) ∈ m) : getC (encM m) c = some (.tuple (v.map chD)) := by
  obtain ⟨d, h1, h2⟩ := getC_ex (m := encM m) (c := c) (by rw [encM_keys]; exact mem_key (m := m) h)
  rw [h1]
  obtain ⟨e, he, eq⟩ := List.mem_map.mp h2
  obtain ⟨c', u⟩ := e
  cases eq
  rw [uniq_val nd he h]
theorem encM_none {m : List (Ch × List Ch)} {c : Ch} (h : c ∉ m.map (·.1)) : getC (encM m) c = none := by
  cases e : getC (encM m) c with
  | none => rfl
  | some d =>
    have := mem_key (m := m) (e := (c, [])) 
    have k := getC_some (encM m) c
    rw [e, encM_keys, decide_eq_false h] at k
    cases k
theorem encM_snoc {m : List (Ch × List Ch)} {d : Ch} {v : List Ch} : encM m ++ [(d, .tuple (v.map chD ++ [chD d]))] = encM (m ++ [(d, v ++ [d])]) := by
  unfold encM
  rw [List.map_append]
  simp
theorem encM_len (m : List (Ch × List Ch)) : (encM m).length = m.length := List.length_map ..
theorem keys_len {F : Ch → Ch → Bool} {A : List Nat} {s : Ch} {m : List (Ch × List Ch)} (hs : s ∈ chs A) (nd : (m.map (·.1)).Nodup) (fw : ∀ e ∈ m, FirstWay F (chs A) s e.1 e.2) : m.length ≤ 2 * A.length := by
  have := nd_sub (k := m.map (·.1)) (l := chs A) nd fun c hc => by
    obtain ⟨e, he, rfl⟩ := List.mem_map.mp hc
    rcases (fw e he).way.last with ⟨_, z⟩ | ⟨_, _, _, _, z, _⟩
    · rw [← z]; exact hs
    · exact z
  rwa [List.length_map, chs_len] at this
theorem succ_sorted {P : Pb} {A : List Nat} (h : A.Pairwise (· < ·)) (c : Ch) : (succ P A c).Pairwise clt := by
  refine List.Pairwise.filter _ ?_
  induction A with
  | nil => exact List.Pairwise.nil
  | cons i A ih =>
    obtain ⟨h1, h2⟩ := List.pairwise_cons.mp h
    rw [chs_cons]
    have far : ∀ s, ∀ d ∈ chs A, clt (i, s) d := fun s d hd => .inl (h1 _ (mem_chs.mp hd))
    refine List.pairwise_cons.mpr ⟨fun d hd => ?_, List.pairwise_cons.mpr ⟨far true, ih h2⟩⟩
    rcases List.mem_cons.mp hd with rfl | hd
    · exact .inr ⟨rfl, rfl, rfl⟩
    · exact far false d hd
theorem ways_wp {P : Pb} {A : List Nat} {s : Ch} (hl : A.length ≤ 30) (srt : A.Pairwise (· < ·)) (hs : s.1 ∈ A) {Fd : C} (hF : Fd = .own (.dT (dC (fm P A))) ∨ Fd = .bor (.dT (dC (fm P A)))) {α : Type} {k : C → M α} {Q : α → Prop}
    (q : ∀ m, (m.map (·.1)).Nodup → (∀ e ∈ m, FirstWay (FoP P) (chs A) s e.1 e.2) → (∀ c w, Way (FoP P) (chs A) s c w → c ∈ m.map (·.1)) → m.length ≤ 60 → wp (k (.own (.dT (dC (encM m))))) Q) :
    wp ((f_chains_from [.bor (.dT (dC (fm P A))), .val (.tuple [chD s])]).bind k) Q := by
  refine wp_call (fun c => ∃ m : List (Ch × List Ch), (m.map (·.1)).Nodup ∧ (∀ e ∈ m, FirstWay (FoP P) (chs A) s e.1 e.2) ∧ (∀ c w, Way (FoP P) (chs A) s c w → c ∈ m.map (·.1)) ∧ m.length ≤ 60 ∧ c = .own (.dT (dC (encM m)))) ?_ (by rintro c ⟨m, h1, h2, h3, h4, rfl⟩; exact q m h1 h2 h3 h4)
  have hsA : s ∈ chs A := mem_chs.mpr hs
  unfold f_chains_from
  refine wp_fn rfl ?_
  generalize hSd : PyData.tuple [chD s] = Sd
  walk_at "we"
  refine wp_seqJ (fun ρ => ρ = [some (.bor (.dT (dC (fm P A)))), some (.val Sd), some (.own (.dT (dC (encM [(s, [s])])))), none, none, none, none]) ?_ ?_
  · subst hSd
    walk_at "wk"
    rw [show (dcL (asgR 3) gYes (gVar 3) _ [chD s] _ []) = dcL (asgR 3) gYes (gVar 3) _ ([s].map chD) _ (dC []) from rfl, dcL_ch chD id (fun c => .tuple [chD c]) [s] [] (by simp) (by simp) fun c hc => ⟨_, by walk_at "pr", rfl, by walk_at "pr", by walk_at "pr"⟩]
    walk_at "wk"
    rfl
  rintro ρ rfl
  refine wp_seqJ (fun ρ => ρ = [some (.bor (.dT (dC (fm P A)))), some (.val Sd), some (.own (.dT (dC (encM [(s, [s])])))), none, some (.own (.lst ([s].map chD))), none, none]) ?_ ?_
  · subst hSd
    walk_at "wk"
    rfl
  rintro ρ rfl
  refine wp_seqJ (fun ρ => ∃ (m : List (Ch × List Ch)) (z3 z4 z5 z6 : Option C), (m.map (·.1)).Nodup ∧ (∀ e ∈ m, FirstWay (FoP P) (chs A) s e.1 e.2) ∧ (∀ c w, Way (FoP P) (chs A) s c w → c ∈ m.map (·.1)) ∧ m.length ≤ 60 ∧ ρ = [some (.bor (.dT (dC (fm P A)))), some (.val Sd), some (.own (.dT (dC (encM m)))), z3, z4, z5, z6]) ?_ ?_
  · show wp (whlL _ _ 100 _) _
    refine wp_whl (fun n ρ => ∃ (lv : Nat) (m : List (Ch × List Ch)) (old L : List Ch) (z3 z5 z6 : Option C) (z4 : C), BInv (FoP P) (chs A) s lv m old [] L [] ∧ ρ = [some (.bor (.dT (dC (fm P A)))), some (.val Sd), some (.own (.dT (dC (encM m)))), z3, some z4, z5, z6] ∧ (z4 = .own (.lst (L.map chD)) ∨ z4 = .val (.list (L.map chD))) ∧ ((L = [] ∧ 1 ≤ n) ∨ 2 * A.length + 2 ≤ n + m.length) ∧ lv + n ≤ 100) ?_ ?_ 100 _ ⟨0, _, [], [s], none, none, none, _, BInv.first, rfl, .inl rfl, .inr (by simp; omega), by omega⟩
    · rintro ρ ⟨lv, m, old, L, z3, z5, z6, z4, inv, rfl, h4, h | h, _⟩
      · omega
      · have := keys_len hsA inv.nd inv.fw; omega
    rintro n ρ ⟨lv, m, old, L, z3, z5, z6, z4, inv, rfl, h4, hn, hlv⟩
    have tst : ∀ {Q' : Bool → Prop}, Q' (!(L.map chD).isEmpty) → wp ((gTru (gVar 4)) [some (.bor (.dT (dC (fm P A)))), some (.val Sd), some (.own (.dT (dC (encM m)))), z3, some z4, z5, z6]) Q' := fun {Q'} h => by
      rcases h4 with rfl | rfl
      · walk_at "wk"; exact h
      · walk_at "wk"; exact h
    refine tst ?_
    have ml := keys_len hsA inv.nd inv.fw
    cases L with
    | nil =>
      refine ⟨fun z => (by cases z), fun _ => ⟨m, z3, some z4, z5, z6, inv.nd, inv.whole.1, inv.whole.2, by omega, rfl⟩⟩
    | cons c0 L0 =>
      refine ⟨fun _ => ?_, fun z => by cases z⟩
      have hn : 2 * A.length + 2 ≤ n + 1 + m.length := by
        rcases hn with ⟨z, _⟩ | z
        · cases z
        · exact z
      have z4' : ∀ {α : Type} {k : C → M α} {Q : α → Prop}, wp (k (.own (.lst ((c0 :: L0).map chD)))) Q → wp ((gCall oListC (gaCons (gVar 4) gaNil) [some (.bor (.dT (dC (fm P A)))), some (.val Sd), some (.own (.dT (dC (encM m)))), z3, some z4, some (.own (.lst [])), z6]).bind k) Q := fun {α k Q} h => by
        rcases h4 with rfl | rfl
        · walk_at "wk"; exact h
        · walk_at "wk"; exact h
      generalize c0 :: L0 = L at *
      refine wp_seqJ (fun ρ => ρ = [some (.bor (.dT (dC (fm P A)))), some (.val Sd), some (.own (.dT (dC (encM m)))), z3, some z4, some (.own (.lst ([] : List PyData))), z6]) ?_ ?_
      · walk_at "wk"
        rfl
      rintro ρ rfl
      refine wp_seqJ (fun ρ => ∃ m' dn F z3 z6, BInv (FoP P) (chs A) s lv m' old dn [] F ∧ m'.length = m.length + F.length ∧ ρ = [some (.bor (.dT (dC (fm P A)))), some (.val Sd), some (.own (.dT (dC (encM m')))), z3, some z4, some (.own (.lst (F.map chD))), z6]) ?_ ?_
      · rw [show ∀ {i a b} {ρ : Ro}, mFor i a b ρ = (i ρ).bind fun ds => forL a b ds ρ from rfl, gIt_eq, bind_bind]
        refine z4' ?_
        rw [itD_o, retB]
        refine wp_over chD (fun cs ρ => ∃ m' dn F z3 z6, BInv (FoP P) (chs A) s lv m' old dn cs F ∧ (∀ e ∈ m', e.1 ∈ F → ∃ u, e.2 = u ++ [e.1] ∧ ∀ c ∈ cs, ∀ v, (c, v) ∈ m' → lxc u v) ∧ m'.length = m.length + F.length ∧ ρ = [some (.bor (.dT (dC (fm P A)))), some (.val Sd), some (.own (.dT (dC (encM m')))), z3, some z4, some (.own (.lst (F.map chD))), z6]) ?_ ?_ ⟨m, [], [], z3, z6, inv, fun e _ h => (by cases h), rfl, rfl⟩
        · rintro ρ ⟨m', dn, F, z3, z6, i', _, e', rfl⟩
          exact ⟨m', dn, F, z3, z6, i', e', rfl⟩
        rintro c cs ρ ⟨m', dn, F, z3, z6, i', par, e', rfl⟩
        have ck : c ∈ m'.map (·.1) := (i'.keys c).mpr (.inr (.inr (.inl List.mem_cons_self)))
        obtain ⟨⟨c', v⟩, hcv, ec⟩ := List.mem_map.mp ck
        have ec : c' = c := ec
        subst ec
        have hcA : c'.1 ∈ A := by
          rcases (i'.fw _ hcv).way.last with ⟨_, z⟩ | ⟨_, _, _, _, z, _⟩
          · have z : s = c' := z
            rw [← z]; exact hs
          · exact mem_chs.mp z
        rw [show (asgR 3 (.val (chD c')) [some (.bor (.dT (dC (fm P A)))), some (.val Sd), some (.own (.dT (dC (encM m')))), z3, some z4, some (.own (.lst (F.map chD))), z6]) = .ret [some (.bor (.dT (dC (fm P A)))), some (.val Sd), some (.own (.dT (dC (encM m')))), some (.val (chD c')), some z4, some (.own (.lst (F.map chD))), z6] from rfl, retB]
        walk_at "wk"
        rw [get_b (fm_get hcA)]
        walk_at "wk"
        refine wp_over chD (fun ds ρ => ∃ m' F z6, BTurn (FoP P) (chs A) s lv m' old dn c' v cs F ds ∧ m'.length = m.length + F.length ∧ ρ = [some (.bor (.dT (dC (fm P A)))), some (.val Sd), some (.own (.dT (dC (encM m')))), some (.val (chD c')), some z4, some (.own (.lst (F.map chD))), z6]) ?_ ?_ ⟨m', F, z6, ⟨i', hcv, fun d hd f => .inr (List.mem_filter.mpr ⟨hd, f⟩), fun d hd => ⟨(List.mem_filter.mp hd).1, (List.mem_filter.mp hd).2⟩, succ_sorted srt c', fun e he ef => ?_⟩, e', rfl⟩
        · rintro ρ ⟨m', F, z6, t', e', rfl⟩
          refine ⟨m', dn ++ [c'], F, _, z6, t'.done, fun e he ef => ?_, e', rfl⟩
          obtain ⟨u, e1, e2⟩ := t'.par e he ef
          refine ⟨u, e1, fun x hx w hw => ?_⟩
          have below : lxc v w := (List.pairwise_cons.mp (List.pairwise_append.mp t'.base.srt).2.1).1 x hx v w t'.cv hw
          rcases e2 with z | ⟨rfl, _⟩
          · exact lxc_trans z below
          · exact below
        · rintro d ds ρ ⟨m', F, z6, t', e', rfl⟩
          have ml' := keys_len hsA t'.base.nd t'.base.fw
          have vl : v.length = lv + 1 := t'.base.lev _ t'.cv (.inr List.mem_cons_self)
          rw [show (asgR 6 (.val (chD d)) [some (.bor (.dT (dC (fm P A)))), some (.val Sd), some (.own (.dT (dC (encM m')))), some (.val (chD c')), some z4, some (.own (.lst (F.map chD))), z6]) = .ret [some (.bor (.dT (dC (fm P A)))), some (.val Sd), some (.own (.dT (dC (encM m')))), some (.val (chD c')), some z4, some (.own (.lst (F.map chD))), some (.val (chD d))] from rfl, retB]
          walk_at "wk"
          rw [in_b, encM_keys]
          walk_at "wk"
          by_cases hd : d ∈ m'.map (·.1)
          · rw [decide_eq_true hd]
            walk_at "wk"
            exact ⟨m', F, _, t'.skip hd, e', rfl⟩
          · rw [decide_eq_false hd]
            walk_at "wk"
            rw [get_b (encM_get t'.base.nd t'.cv)]
            walk_at "wk"
            rw [List.length_map, if_pos (by omega)]
            walk_at "wk"
            rw [put_T (by rw [encM_keys]; exact hd) (by rw [encM_len]; omega), encM_snoc]
            walk_at "wk"
            rw [List.length_map, if_pos (by omega)]
            walk_at "wk"
            exact ⟨m' ++ [(d, v ++ [d])], F ++ [d], _, t'.put hd, (by rw [List.length_append, List.length_append, List.length_singleton, List.length_singleton]; omega), (by rw [List.map_append]; rfl)⟩
        · obtain ⟨u, e1, e2⟩ := par e he ef
          exact ⟨u, e1, .inl (e2 c' List.mem_cons_self v hcv)⟩
      rintro ρ ⟨m', dn, F, z3, z6, i', e', rfl⟩
      walk_at "wk"
      refine ⟨lv + 1, m', old ++ dn, F, _, _, _, _, i'.level, rfl, .inr rfl, ?_, by omega⟩
      have := keys_len hsA i'.nd i'.fw
      cases F with
      | nil => exact .inl ⟨rfl, by omega⟩
      | cons a F => rw [List.length_cons] at e'; exact .inr (by omega)
  rintro ρ ⟨m, z3, z4, z5, z6, h1, h2, h3, h4, rfl⟩
  walk_at "wk"
  exact ⟨m, h1, h2, h3, h4, rfl⟩

def chnD : Option (List Ch) → PyData
  | none => .none
  | some v => .tuple (v.map chD)
/-- r is the first of the shortest ways, if there is one -/
def IsChain (P : Pb) (A : List Nat) (s g : Ch) : Option (List Ch) → Prop
  | none => ∀ w, ¬ Way (FoP P) (chs A) s g w
  | some v => FirstWay (FoP P) (chs A) s g v
theorem shortest_wp {P : Pb} {A : List Nat} {s g : Ch} (hA : InP P A) (hl : A.length ≤ 30) (hlo : P.obs.length ≤ 16777216) (srt : A.Pairwise (· < ·)) (hs : s.1 ∈ A) {α : Type} {k : C → M α} {Q : α → Prop}
    (q : ∀ r, IsChain P A s g r → wp (k (.val (chnD r))) Q) : wp ((f_shortest_chain [.val P.d, .val (.tuple (A.map intN)), .val (chD s), .val (chD g)]).bind k) Q := by
  refine wp_call (fun c => ∃ r, IsChain P A s g r ∧ c = .val (chnD r)) ?_ (by rintro c ⟨r, hr, rfl⟩; exact q r hr)
  unfold f_shortest_chain
  refine wp_fn rfl ?_
  walk_at "wk"
  rw [forced_eq hA (srt.imp fun h => Nat.ne_of_lt h) (by omega) hlo]
  walk_at "wk"
  refine ways_wp hl srt hs (.inl rfl) fun m nd fw all ml => ?_
  rw [show C.isDict (.own (.dT (dC (encM m)))) = true from rfl, if_pos rfl]
  walk_at "wk"
  have lk : oDGet1 (.own (.dT (dC (encM m)))) (.val (chD g)) = .ret (.val ((getC (encM m) g).getD .none)) := by
    show (match lkD (.own (.dT (dC (encM m)))) (chD g) with | some o => (M.ret (C.val (o.getD .none))) | _ => .fail) = _
    rw [show lkD (.own (.dT (dC (encM m)))) (chD g) = some (valD (dC (encM m)) (ck g)) from rfl, valD_dC]
  rw [lk]
  walk_at "wk"
  by_cases hg : g ∈ m.map (·.1)
  · obtain ⟨e, he, eq⟩ := List.mem_map.mp hg
    obtain ⟨g', v⟩ := e
    have eq : g' = g := eq
    subst eq
    exact ⟨some v, fw _ he, by rw [encM_get nd he]; rfl⟩
  · exact ⟨none, fun w hw => hg (all g w hw), by rw [encM_none hg]; rfl⟩

open Classical in
noncomputable def agB (P : Pb) (A : List Nat) (S : List Ch) : Bool := decide (Con (Fr P) (Ol P) A S)
open Classical in
theorem agB_iff {P : Pb} {A : List Nat} {S : List Ch} : agB P A S = true ↔ Con (Fr P) (Ol P) A S := by unfold agB; exact decide_eq_true_iff
theorem whole_ag {P : Pb} {A : List Nat} {S : List Ch} {m : List (Ch × PyData)} (w : Whole P A S m) : (!((m.map (·.1)).map fun c => decide (ng c ∈ m.map (·.1))).any id) = agB P A S := by
  rw [Bool.eq_iff_iff, agB_iff, Bool.not_eq_true', Bool.eq_false_iff, ne_eq, List.any_eq_true]
  constructor
  · intro h c hc hn
    refine h ⟨true, List.mem_map.mpr ⟨c, (w.iff c).mpr hc, decide_eq_true ((w.iff _).mpr hn)⟩, rfl⟩
  · rintro h ⟨b, hb, e⟩
    obtain ⟨c, hc, rfl⟩ := List.mem_map.mp hb
    exact h c ((w.iff c).mp hc) ((w.iff _).mp (of_decide_eq_true e))
theorem keys_ch (m : List (Ch × PyData)) : ((dC m).map fun kv => keyD kv.1) = (m.map (·.1)).map chD := by
  unfold dC
  rw [List.map_map, List.map_map]
  rfl
theorem agree_wp {P : Pb} {A : List Nat} {S : List Ch} (hl : A.length ≤ 30) (nd : S.Nodup) (hS : ∀ c ∈ S, c.1 ∈ A) {α : Type} {k : C → M α} {Q : α → Prop} (q : wp (k (.val (.bool (agB P A S)))) Q) :
    wp ((f_agree [.bor (.dT (dC (fm P A))), .val (.tuple (S.map chD))]).bind k) Q := by
  refine wp_call (fun c => c = .val (.bool (agB P A S))) ?_ (by rintro c rfl; exact q)
  unfold f_agree
  refine wp_fn rfl ?_
  generalize hF : PyData.tuple (S.map chD) = Sd
  refine wp_seqJ (fun ρ => ∃ m, Whole P A S m ∧ m.length ≤ 1000 ∧ ρ = [some (.bor (.dT (dC (fm P A)))), some (.val Sd), some (.own (.dT (dC m))), none, none]) ?_ ?_
  · subst hF
    walk_at "wk"
    refine chains_wp hl nd hS fun m w => ?_
    walk_at "wk"
    refine ⟨m, w, ?_, rfl⟩
    have := nd_sub (k := m.map (·.1)) (l := chs A) w.nd fun c hc => mem_chs.mpr (rch_in hS ((w.iff c).mp hc))
    rw [List.length_map, chs_len] at this
    omega
  rintro ρ ⟨m, w, ml, rfl⟩
  walk_at "wk"
  rw [keys_ch, List.length_map, List.length_map, if_pos (by omega)]
  rw [lcL_map chD (fun c => .bool (decide (ng c ∈ m.map (·.1)))) (m.map (·.1)) [] fun c hc => ⟨_, (by unfold chD; walk_at "pr"), rfl, (by
    walk_at "wk"
    rw [sd_not, show PyData.tuple [.int (c.1 : Int), .int (sd (!c.2))] = chD (ng c) from rfl, in_l]
    rw [Bool.false_xor])⟩]
  walk_at "wk"
  rw [List.nil_append, show ((m.map (·.1)).map fun c => PyData.bool (decide (ng c ∈ m.map (·.1)))) = ((m.map (·.1)).map fun c => decide (ng c ∈ m.map (·.1))).map .bool by simp only [List.map_map]; rfl, bigD_l]
  walk_at "wk"
  rw [whole_ag w]

/-! one label after the other -/
theorem first_nd {S : List Ch} : ∀ {pre : List Nat}, S.map (·.1) = pre → pre.Nodup → S.Nodup := by
  intro pre e nd
  subst e
  induction S with
  | nil => exact List.nodup_nil
  | cons c S ih =>
    obtain ⟨h1, h2⟩ := List.nodup_cons.mp nd
    exact List.nodup_cons.mpr ⟨fun z => h1 (List.mem_map.mpr ⟨c, z, rfl⟩), ih h2⟩
def sidesD (p : Bool → Bool) : List PyData := ([false, true].filter p).map fun s => .int (sd s)
theorem sides_wp {α : Type} {k : C → M α} {Q : α → Prop} {a : C → Ro → M Ro} {c : Ro → M Bool} {e : Ro → M C} {ρ : Ro} (p : Bool → Bool) (step : ∀ (s : Bool), ∃ ρ1, a (.val (.int (sd s))) ρ = .ret ρ1 ∧ (∀ {β : Type} {k : Bool → M β} {Q : β → Prop}, wp (k (p s)) Q → wp ((c ρ1).bind k) Q) ∧ e ρ1 = .ret (.val (.int (sd s)))) (q : wp (k (.own (.lst (sidesD p)))) Q) :
    wp ((lcL a c e [.int 0, .int 1] ρ []).bind k) Q := by
  have one : ∀ (s : Bool) (ds acc : List PyData) {β : Type} {k : C → M β} {Q : β → Prop}, wp ((lcL a c e ds ρ (acc ++ if p s = true then [.int (sd s)] else [])).bind k) Q → wp ((lcL a c e (.int (sd s) :: ds) ρ acc).bind k) Q := fun s ds acc {β k Q} h => by
    obtain ⟨ρ1, h1, h2, h3⟩ := step s
    rw [lcL_cons, h1, retB, bind_bind]
    refine h2 ?_
    by_cases hp : p s = true
    · rw [if_pos hp] at h ⊢
      rw [h3, retB, kLc_v]
      exact h
    · rw [if_neg hp, List.append_nil] at h
      rw [if_neg hp]
      exact h
  refine one false _ _ (one true _ _ ?_)
  rw [lcL_nil, retB]
  unfold sidesD at q
  cases h0 : p false <;> cases h1 : p true <;> simp [h0, h1, List.filter] at q ⊢ <;> exact q
def tgD : Option (List Ch) → PyData
  | none => .none
  | some S => .tuple (S.map fun c => .int (sd c.2))
theorem together_wp {P : Pb} {A : List Nat} (hA : InP P A) (nd : A.Nodup) (hl : A.length ≤ 30) (hlo : P.obs.length ≤ 16777216) {α : Type} {k : C → M α} {Q : α → Prop} (q : wp (k (.val (tgD (gr (agB P A) A [])))) Q) :
    wp ((f_together [.val P.d, .val (.tuple (A.map intN))]).bind k) Q := by
  refine wp_call (fun c => c = .val (tgD (gr (agB P A) A []))) ?_ (by rintro c rfl; exact q)
  unfold f_together
  refine wp_fn rfl ?_
  generalize hPd : P.d = Pd
  generalize hAd : PyData.tuple (A.map intN) = Ad
  refine wp_seqJ (fun ρ => ρ = [some (.val Pd), some (.val Ad), some (.own (.dT (dC (fm P A)))), none, none, none, none, none]) ?_ ?_
  · subst hPd hAd
    walk_at "wk"
    rw [forced_eq hA nd (by omega) hlo]
    walk_at "wk"
    rfl
  rintro ρ rfl
  refine wp_seqJ (fun ρ => ρ = [some (.val Pd), some (.val Ad), some (.own (.dT (dC (fm P A)))), some (.val (.tuple (([] : List Ch).map chD))), none, none, none, none]) ?_ ?_
  · walk_at "wk"
    rfl
  rintro ρ rfl
  refine wp_seqJ (fun ρ => ∃ S z4 z5 z6 z7, S.length ≤ 30 ∧ gr (agB P A) A [] = some S ∧ ρ = [some (.val Pd), some (.val Ad), some (.own (.dT (dC (fm P A)))), some (.val (.tuple (S.map chD))), z4, z5, z6, z7]) ?_ ?_
  · subst hAd
    walk_at "wk"
    refine wp_over intN (fun L ρ => ∃ pre S z4 z5 z6 z7, A = pre ++ L ∧ S.map (·.1) = pre ∧ gr (agB P A) A [] = gr (agB P A) L S ∧ ρ = [some (.val Pd), some (.val (.tuple (A.map intN))), some (.own (.dT (dC (fm P A)))), some (.val (.tuple (S.map chD))), z4, z5, z6, z7]) ?_ ?_ ⟨[], [], none, none, none, none, rfl, rfl, rfl, rfl⟩
    · rintro ρ ⟨pre, S, z4, z5, z6, z7, e1, e2, e3, rfl⟩
      rw [List.append_nil] at e1
      exact ⟨S, z4, z5, z6, z7, by rw [← List.length_map (f := (·.1)) (as := S), e2, ← e1]; exact hl, e3, rfl⟩
    rintro n L ρ ⟨pre, S, z4, z5, z6, z7, e1, e2, e3, rfl⟩
    have ndp : (pre ++ [n]).Nodup := by
      have : A = (pre ++ [n]) ++ L := by rw [e1, List.append_assoc]; rfl
      rw [this] at nd
      exact (List.nodup_append.mp nd).1
    have inA : ∀ i ∈ pre ++ [n], i ∈ A := fun i hi => by rw [e1]; rcases List.mem_append.mp hi with z | z; exact List.mem_append_left _ z; rw [List.mem_singleton.mp z]; simp
    have slen : S.length ≤ 30 := by
      rw [← List.length_map (f := (·.1)) (as := S), e2]
      have := congrArg List.length e1
      rw [List.length_append] at this
      omega
    have nds : ∀ s, (S ++ [(n, s)]).Nodup := fun s => first_nd (pre := pre ++ [n]) (by rw [List.map_append, e2]; rfl) ndp
    have inS : ∀ s, ∀ c ∈ S ++ [(n, s)], c.1 ∈ A := fun s c hc => inA _ (by
      have : c.1 ∈ (S ++ [(n, s)]).map (·.1) := List.mem_map.mpr ⟨c, hc, rfl⟩
      rw [List.map_append, e2] at this
      exact this)
    rw [show (asgR 4 (.val (intN n)) [some (.val Pd), some (.val (.tuple (A.map intN))), some (.own (.dT (dC (fm P A)))), some (.val (.tuple (S.map chD))), z4, z5, z6, z7]) = .ret [some (.val Pd), some (.val (.tuple (A.map intN))), some (.own (.dT (dC (fm P A)))), some (.val (.tuple (S.map chD))), some (.val (intN n)), z5, z6, z7] from rfl, retB]
    generalize PyData.tuple (A.map intN) = Ad
    refine wp_seqJ (fun ρ => ∃ z6, ρ = [some (.val Pd), some (.val Ad), some (.own (.dT (dC (fm P A)))), some (.val (.tuple (S.map chD))), some (.val (intN n)), some (.own (.lst (sidesD fun s => agB P A (S ++ [(n, s)])))), z6, z7]) ?_ ?_
    · walk_at "wk"
      refine sides_wp (fun s => agB P A (S ++ [(n, s)])) (fun s => ⟨_, by walk_at "pr", fun {β k Q} h => ?_, by walk_at "pr"⟩) ?_
      · walk_at "wk"
        rw [List.length_map, if_pos (by omega)]
        walk_at "wk"
        rw [show S.map chD ++ [PyData.tuple [intN n, .int (sd s)]] = (S ++ [(n, s)]).map chD by rw [List.map_append]; rfl]
        refine agree_wp hl (nds s) (inS s) ?_
        walk_at "wk"
        exact h
      · walk_at "wk"
        exact ⟨_, rfl⟩
    rintro ρ ⟨y6, rfl⟩
    have glen : S.length + 1 ≤ 16777216 := by omega
    have mapS : ∀ s, S.map chD ++ [PyData.tuple [intN n, .int (sd s)]] = (S ++ [(n, s)]).map chD := fun s => by rw [List.map_append]; rfl
    have eA : ∀ L', A = pre ++ n :: L' → A = (pre ++ [n]) ++ L' := fun L' e => by rw [e, List.append_assoc]; rfl
    have eS : ∀ s : Bool, List.map (fun c : Ch => c.1) (S ++ [(n, s)]) = pre ++ [n] := fun s => by rw [List.map_append, e2]; rfl
    cases h0 : agB P A (S ++ [(n, false)]) with
    | true =>
      have e5 : sidesD (fun s => agB P A (S ++ [(n, s)])) = .int (sd false) :: ([true].filter fun s => agB P A (S ++ [(n, s)])).map fun s => .int (sd s) := by unfold sidesD; rw [List.filter_cons_of_pos (p := fun s => agB P A (S ++ [(n, s)])) (a := false) h0]; rfl
      rw [e5]
      walk_at "wk"
      try rw [List.isEmpty_cons]
      walk_at "wk"
      try rw [atD_0]
      walk_at "wk"
      rw [List.length_map, if_pos (by omega)]
      walk_at "wk"
      exact ⟨pre ++ [n], S ++ [(n, false)], _, _, _, _, eA L e1, eS false, by rw [e3, gr, if_pos h0], by rw [mapS]⟩
    | false =>
      have n0 : ¬ agB P A (S ++ [(n, false)]) = true := by rw [h0]; decide
      cases h1 : agB P A (S ++ [(n, true)]) with
      | true =>
        have e5 : sidesD (fun s => agB P A (S ++ [(n, s)])) = [.int (sd true)] := by unfold sidesD; rw [List.filter_cons_of_neg (p := fun s => agB P A (S ++ [(n, s)])) (a := false) n0, List.filter_cons_of_pos (p := fun s => agB P A (S ++ [(n, s)])) (a := true) h1]; rfl
        rw [e5]
        walk_at "wk"
        try rw [List.isEmpty_cons]
        walk_at "wk"
        try rw [atD_0]
        walk_at "wk"
        rw [List.length_map, if_pos (by omega)]
        walk_at "wk"
        exact ⟨pre ++ [n], S ++ [(n, true)], _, _, _, _, eA L e1, eS true, by rw [e3, gr, if_neg n0, if_pos h1], by rw [mapS]⟩
      | false =>
        have n1 : ¬ agB P A (S ++ [(n, true)]) = true := by rw [h1]; decide
        have e5 : sidesD (fun s => agB P A (S ++ [(n, s)])) = [] := by unfold sidesD; rw [List.filter_cons_of_neg (p := fun s => agB P A (S ++ [(n, s)])) (a := false) n0, List.filter_cons_of_neg (p := fun s => agB P A (S ++ [(n, s)])) (a := true) n1]; rfl
        rw [e5]
        walk_at "wk"
        try rw [List.isEmpty_nil]
        walk_at "wk"
        refine out_ok ?_
        rw [e3, gr, if_neg n0, if_neg n1]
        rfl
  rintro ρ ⟨S, z4, z5, z6, z7, sl, e, rfl⟩
  walk_at "wk"
  rw [List.length_map, if_pos (by omega)]
  rw [lcL_map chD (fun c => .int (sd c.2)) S [] fun c hc => ⟨_, (by unfold chD; walk_at "pr"), rfl, by walk_at "pr"⟩]
  walk_at "wk"
  rw [e]
  rfl

/-! the law's own rows -/
def rowD (r : List Bool) : PyData := .tuple (r.map fun s => .int (sd s))
def clr (P : Pb) (n : Nat) (s : Bool) (kept : List Nat) (r : List Bool) : Bool := (kept.zip r).all fun c => !Ol P (n, s) c
theorem row_at {r : List Bool} {i : Nat} {s : Bool} (h : r[i]? = some s) : atD (r.map fun s => PyData.int (sd s)) (i : Int) = .ret (.val (.int (sd s))) := atD_get (by rw [List.getElem?_map, h]; rfl)
theorem kept_at {kept : List Nat} {i : Nat} {j : Nat} (h : kept[i]? = some j) : atD (kept.map intN) (i : Int) = .ret (.val (.int (j : Int))) := atD_get (by rw [List.getElem?_map, h]; rfl)
theorem clr_step {P : Pb} {n : Nat} {s : Bool} {kept : List Nat} {r : List Bool} {i j : Nat} {t : Bool} (hi : i < kept.length) (hr : r.length = kept.length) (h1 : kept[i]? = some j) (h2 : r[i]? = some t) :
    clr P n s (kept.take (i + 1)) (r.take (i + 1)) = (clr P n s (kept.take i) (r.take i) && !Ol P (n, s) (j, t)) := by
  unfold clr
  rw [List.take_add_one, List.take_add_one, h1, h2, List.zip_append (by rw [List.length_take, List.length_take, hr]), List.all_append]
  simp

theorem rows_bound {P : Pb} {kept : List Nat} {rows : List (List Bool)} {n : Nat} (h : rows.length ≤ 2 ^ kept.length) (hr : ∀ r ∈ rows, r.length = kept.length) : (longer (Fr P) (Ol P) kept rows n).length ≤ 2 ^ (kept ++ [n]).length ∧ ∀ r ∈ longer (Fr P) (Ol P) kept rows n, r.length = (kept ++ [n]).length := by
  constructor
  · have : ∀ rows : List (List Bool), (longer (Fr P) (Ol P) kept rows n).length ≤ 2 * rows.length := by
      intro rows
      induction rows with
      | nil => exact Nat.le_refl _
      | cons r rows ih =>
        have e : longer (Fr P) (Ol P) kept (r :: rows) n = (([false, true].filter fun s => okS (Fr P) (Ol P) kept r n s).map fun s => r ++ [s]) ++ longer (Fr P) (Ol P) kept rows n := by unfold longer; rw [List.flatMap_cons]
        rw [e, List.length_append, List.length_map, List.length_cons]
        have := List.length_filter_le (fun s => okS (Fr P) (Ol P) kept r n s) [false, true]
        simp only [List.length_cons, List.length_nil] at this
        omega
    have := this rows
    rw [List.length_append, List.length_singleton, Nat.pow_succ]
    omega
  · intro r h
    obtain ⟨row, h1, s, _, rfl⟩ := mem_longer.mp h
    rw [List.length_append, List.length_append, hr row h1]
    rfl
theorem wp_lcF {ρ : Ro} {δ : Type} (enc : δ → PyData) (P : List δ → List PyData → Prop) {a : C → Ro → M Ro} {c : Ro → M Bool} {e : Ro → M C} {Q : C → Prop} : ∀ (xs pre : List δ) (acc : List PyData), P pre acc →
    (∀ pre x acc, x ∈ xs → P pre acc → wp ((a (.val (enc x)) ρ).bind fun ρ1 => (c ρ1).bind fun b => if b = true then (e ρ1).bind fun y => .ret (some y) else .ret none) fun o => (o = none ∧ P (pre ++ [x]) acc) ∨ ∃ y, o = some (.val y) ∧ P (pre ++ [x]) (acc ++ [y])) → (∀ acc, P (pre ++ xs) acc → Q (.own (.lst acc))) → wp (lcL a c e (xs.map enc) ρ acc) Q
  | [], pre, acc, h, _, hq => by rw [List.map_nil, lcL_nil, wp_retE]; exact hq acc (by rw [List.append_nil]; exact h)
  | x :: xs, pre, acc, h, st, hq => by
    have next : ∀ acc, P (pre ++ [x]) acc → wp (lcL a c e (xs.map enc) ρ acc) Q := fun acc h => wp_lcF enc P xs (pre ++ [x]) acc h (fun pre y acc hy => st pre y acc (List.mem_cons_of_mem _ hy)) (fun acc ha => hq acc (by rw [List.append_assoc] at ha; exact ha))
    rw [List.map_cons, lcL_cons]
    have hx := st pre x acc List.mem_cons_self h
    rw [wp_bindE] at hx ⊢
    refine wp_mono (fun ρ1 h1 => ?_) hx
    rw [wp_bindE] at h1 ⊢
    refine wp_mono (fun b h2 => ?_) h1
    by_cases hb : b = true
    · rw [if_pos hb] at h2 ⊢
      rw [wp_bindE] at h2 ⊢
      refine wp_mono (fun y h3 => ?_) h2
      rw [wp_retE] at h3
      rcases h3 with ⟨e1, _⟩ | ⟨y', e1, h4⟩
      · cases e1
      · cases e1
        rw [kLc_v]
        exact next _ h4
    · rw [if_neg hb] at h2 ⊢
      rw [wp_retE] at h2
      rcases h2 with ⟨_, h4⟩ | ⟨y', e1, h4⟩
      · exact next _ h4
      · cases e1
theorem sds_rep : ∀ r : List Bool, plainAll (r.map fun s => PyData.int (sd s)) = true ∧ PyData.depthAll (r.map fun s => PyData.int (sd s)) ≤ 1 ∧ costAll (r.map fun s => PyData.int (sd s)) ≤ 1923 * r.length
  | [] => ⟨rfl, by simp [PyData.depthAll], by simp [costAll]⟩
  | s :: r => by
    obtain ⟨h1, h2, h3⟩ := sds_rep r
    refine ⟨?_, ?_, ?_⟩
    · rw [List.map_cons, plainAll, h1, Bool.and_true]
      cases s <;> decide +kernel
    · rw [List.map_cons]
      simp only [PyData.depthAll, PyData.depth]
      omega
    · rw [List.map_cons, List.length_cons]
      simp only [costAll, cost]
      omega
theorem rowD_rep {r : List Bool} (h : r.length ≤ 20) : RepOk (rowD r) := by
  obtain ⟨h1, h2, h3⟩ := sds_rep r
  unfold rowD
  refine ⟨by simp only [plainD]; exact h1, by simp only [PyData.depth]; omega, by simp only [cost]; try rw [show sizeLine = 16777216 by decide]; omega⟩
def dueD : List (List Bool) → PyData
  | [] => .none
  | r :: _ => rowD r
theorem together_due {P : Pb} {A : List Nat} (nd : A.Nodup) : tgD (gr (agB P A) A []) = dueD (rowsF (Fr P) (Ol P) [] [[]] A) := by
  have h := gr_rows (Fre := Fr P) (Ov := Ol P) (A := A) (ol_sym P) (ag := agB P A) (fun S => agB_iff) nd
  generalize rowsF (Fr P) (Ol P) [] [[]] A = rows at *
  cases hg : gr (agB P A) A [] with
  | none =>
    rw [hg] at h
    cases rows with
    | nil => rfl
    | cons r rs => cases h
  | some S =>
    rw [hg] at h
    cases rows with
    | nil => cases h
    | cons r rs =>
      have h : S.map (·.2) = r := Option.some.inj h
      subst h
      show PyData.tuple (S.map fun c => .int (sd c.2)) = .tuple ((S.map (·.2)).map fun s => .int (sd s))
      rw [List.map_map]
      rfl

structure PbS (P : Pb) : Prop where
  nl : P.labs.length ≤ 20
  no : P.obs.length ≤ 100
theorem PbOk.s {P : Pb} (h : PbOk P) : PbS P := ⟨h.nl, by have := h.no; omega⟩

def rowsOf (P : Pb) (A : List Nat) : List (List Bool) := rowsF (Fr P) (Ol P) [] [[]] A
def keptF (P : Pb) : Nat → List Nat
  | 0 => []
  | n + 1 => if (rowsOf P (keptF P n ++ [n])).isEmpty = true then keptF P n else keptF P n ++ [n]
theorem keptF_s {P : Pb} {n : Nat} : keptF P (n + 1) = if (rowsOf P (keptF P n ++ [n])).isEmpty = true then keptF P n else keptF P n ++ [n] := rfl
theorem rowsF_snoc {Fre : Ch → Bool} {Ov : Ch → Ch → Bool} {n : Nat} : ∀ (L kept : List Nat) (rows : List (List Bool)), rowsF Fre Ov kept rows (L ++ [n]) = longer Fre Ov (kept ++ L) (rowsF Fre Ov kept rows L) n
  | [], kept, rows => by rw [List.append_nil]; rfl
  | m :: L, kept, rows => by
    rw [List.cons_append, rowsF, rowsF, rowsF_snoc L, List.append_assoc]
    rfl
theorem rowsOf_snoc {P : Pb} {A : List Nat} {n : Nat} : rowsOf P (A ++ [n]) = longer (Fr P) (Ol P) A (rowsOf P A) n := by
  unfold rowsOf
  rw [rowsF_snoc, List.nil_append]
theorem rows_ok {P : Pb} : ∀ (L pre : List Nat) (rows : List (List Bool)), rows.length ≤ 2 ^ pre.length → (∀ r ∈ rows, r.length = pre.length) → (rowsF (Fr P) (Ol P) pre rows L).length ≤ 2 ^ (pre ++ L).length ∧ ∀ r ∈ rowsF (Fr P) (Ol P) pre rows L, r.length = (pre ++ L).length
  | [], pre, rows, h1, h2 => by rw [List.append_nil]; exact ⟨h1, h2⟩
  | n :: L, pre, rows, h1, h2 => by
    obtain ⟨b1, b2⟩ := rows_bound (P := P) (n := n) h1 h2
    have := rows_ok (P := P) L (pre ++ [n]) _ b1 b2
    rw [List.append_assoc] at this
    exact this
theorem rowsOf_ok (P : Pb) (A : List Nat) : (rowsOf P A).length ≤ 2 ^ A.length ∧ ∀ r ∈ rowsOf P A, r.length = A.length := rows_ok A [] [[]] (by decide) (by simp)
theorem kept_range (P : Pb) : ∀ n, (keptF P n).Sublist (List.range n) ∧ (rowsOf P (keptF P n)).isEmpty = false
  | 0 => ⟨List.Sublist.refl _, rfl⟩
  | n + 1 => by
    obtain ⟨h1, h2⟩ := kept_range P n
    rw [keptF_s, List.range_succ]
    cases c : (rowsOf P (keptF P n ++ [n])).isEmpty with
    | true => rw [if_pos rfl]; exact ⟨h1.trans (List.sublist_append_left _ _), h2⟩
    | false => rw [if_neg (by decide)]; exact ⟨h1.append (List.Sublist.refl _), c⟩
theorem kept_ext (P : Pb) (n : Nat) : ∀ m, ∃ suf, keptF P (n + m) = keptF P n ++ suf ∧ ∀ i ∈ suf, n ≤ i
  | 0 => ⟨[], by rw [List.append_nil]; rfl, fun i h => absurd h List.not_mem_nil⟩
  | m + 1 => by
    obtain ⟨suf, h1, h2⟩ := kept_ext P n m
    rw [← Nat.add_assoc, keptF_s]
    split
    · exact ⟨suf, h1, h2⟩
    · refine ⟨suf ++ [n + m], by rw [h1, List.append_assoc], fun i hi => ?_⟩
      rcases List.mem_append.mp hi with z | z
      · exact h2 i z
      · rw [List.mem_singleton.mp z]; omega
theorem kept_lt {P : Pb} {n i : Nat} (h : i ∈ keptF P n) : i < n := List.mem_range.mp ((kept_range P n).1.subset h)
theorem kept_filter {P : Pb} {n N : Nat} (h : n ≤ N) : (keptF P N).filter (fun i => decide (i < n)) = keptF P n := by
  obtain ⟨suf, h1, h2⟩ := kept_ext P n (N - n)
  rw [show n + (N - n) = N by omega] at h1
  rw [h1, List.filter_append, List.filter_eq_self.mpr fun i hi => decide_eq_true (kept_lt hi), List.filter_eq_nil_iff.mpr fun i hi => by have := h2 i hi; simp; omega, List.append_nil]
theorem kept_mem {P : Pb} {n N : Nat} (h : n < N) : n ∈ keptF P N ↔ (rowsOf P (keptF P n ++ [n])).isEmpty = false := by
  obtain ⟨suf, h1, h2⟩ := kept_ext P (n + 1) (N - (n + 1))
  rw [show n + 1 + (N - (n + 1)) = N by omega] at h1
  have out : n ∉ suf := fun z => by have := h2 n z; omega
  have no : n ∉ keptF P n := fun z => by have := kept_lt z; omega
  rw [h1, List.mem_append, keptF_s]
  cases c : (rowsOf P (keptF P n ++ [n])).isEmpty with
  | true => rw [if_pos rfl]; exact ⟨fun z => by rcases z with z | z; exact absurd z no; exact absurd z out, fun z => by cases z⟩
  | false => rw [if_neg (by decide)]; exact ⟨fun _ => rfl, fun _ => .inl (by simp)⟩
theorem isN_due (rows : List (List Bool)) : C.isN (.val (dueD rows)) = rows.isEmpty := by cases rows <;> rfl
theorem dueOf {P : Pb} {A : List Nat} (nd : A.Nodup) : tgD (gr (agB P A) A []) = dueD (rowsOf P A) := together_due nd
theorem range_ints (n : Nat) : rngD 0 1 (n : Int).toNat = (List.range n).map intN := by
  unfold rngD
  rw [Int.toNat_natCast]
  exact List.map_congr_left fun i _ => by unfold intN; congr 1; omega
/-- is it placed together? -/
theorem asked_wp {P : Pb} {A : List Nat} (hP : PbS P) (hA : InP P A) (nd : A.Nodup) (hl : A.length ≤ 30) {α : Type} {k : C → M α} {Q : α → Prop} (q : wp (k (.val (dueD (rowsOf P A)))) Q) : wp ((f_together [.val P.d, .val (.tuple (A.map intN))]).bind k) Q :=
  together_wp hA nd hl (by have := hP.no; omega) (by rw [dueOf nd]; exact q)
theorem snoc_nd {P : Pb} {n : Nat} : (keptF P n ++ [n]).Nodup := by
  refine List.nodup_append.mpr ⟨(kept_range P n).1.nodup List.nodup_range, by simp, fun a ha b hb e => ?_⟩
  have hb : b = n := by simpa using hb
  have := kept_lt ha
  omega
theorem kept_len (P : Pb) (n : Nat) : (keptF P n).length ≤ n := by
  have := (kept_range P n).1.length_le
  rwa [List.length_range] at this
theorem snoc_in {P : Pb} {n : Nat} (h : n < P.labs.length) : InP P (keptF P n ++ [n]) := fun i hi => by
  rcases List.mem_append.mp hi with z | z
  · have := kept_lt z; omega
  · rw [List.mem_singleton.mp z]; exact h
theorem kept_labels_wp {P : Pb} (hP : PbS P) {α : Type} {k : C → M α} {Q : α → Prop} (q : wp (k (.val (.tuple ((keptF P P.labs.length).map intN)))) Q) : wp ((f_kept_labels [.val P.d]).bind k) Q := by
  refine wp_call (fun c => c = .val (.tuple ((keptF P P.labs.length).map intN))) ?_ (by rintro c rfl; exact q)
  have hn := hP.nl
  unfold f_kept_labels
  refine wp_fn rfl ?_
  refine wp_seqJ (fun ρ => ρ = [some (.val P.d), some (.val (.tuple ((keptF P 0).map intN))), none]) ?_ ?_
  · walk_at "wk"
    rfl
  rintro ρ rfl
  refine wp_seqJ (fun ρ => ∃ z, ρ = [some (.val P.d), some (.val (.tuple ((keptF P P.labs.length).map intN))), z]) ?_ ?_
  · walk_at "wk"
    rw [pd2]
    walk_at "wk"
    rw [List.length_map, if_pos (rngOk_ok (by omega) (by omega))]
    walk_at "wk"
    refine wp_turns (n := (P.labs.length : Int).toNat) (fun i ρ => ∃ z, ρ = [some (.val P.d), some (.val (.tuple ((keptF P i).map intN))), z]) ?_ ?_ ⟨none, rfl⟩
    · rintro ρ ⟨z, rfl⟩
      rw [Int.toNat_natCast]
      exact ⟨z, rfl⟩
    rintro i ds ρ hi ⟨z, rfl⟩
    have hi' : i < P.labs.length := by omega
    have kl := kept_len P i
    rw [show (PyData.int (0 + (i : Int) * 1)) = intN i by unfold intN; congr 1; omega]
    rw [show (asgR 2 (.val (intN i)) [some (.val P.d), some (.val (.tuple ((keptF P i).map intN))), z]) = .ret [some (.val P.d), some (.val (.tuple ((keptF P i).map intN))), some (.val (intN i))] from rfl, retB]
    walk_at "wk"
    rw [List.length_map, if_pos (by omega)]
    walk_at "wk"
    rw [show (keptF P i).map intN ++ [intN i] = (keptF P i ++ [i]).map intN by rw [List.map_append]; rfl]
    refine asked_wp hP (snoc_in hi') snoc_nd (by rw [List.length_append, List.length_singleton]; omega) ?_
    walk_at "wk"
    rw [isN_due]
    cases c : (rowsOf P (keptF P i ++ [i])).isEmpty with
    | true =>
      walk_at "wk"
      exact ⟨_, by rw [keptF_s, if_pos c]⟩
    | false =>
      walk_at "wk"
      rw [if_pos (by omega)]
      walk_at "wk"
      exact ⟨_, by rw [show keptF P (i + 1) = keptF P i ++ [i] by rw [keptF_s, if_neg (by rw [c]; decide)]]⟩
  rintro ρ ⟨z, rfl⟩
  walk_at "wk"
theorem pow_20 {n : Nat} (hn : n ≤ 20) : 2 ^ n ≤ 1048576 := Nat.le_trans (Nat.pow_le_pow_right (by decide) hn) (by decide)
theorem ints_rep : ∀ A : List Nat, (∀ i ∈ A, i ≤ 1000) → plainAll (A.map intN) = true ∧ PyData.depthAll (A.map intN) ≤ 1 ∧ costAll (A.map intN) ≤ 1923 * A.length
  | [], _ => ⟨rfl, by simp [PyData.depthAll], by simp [costAll]⟩
  | i :: A, h => by
    obtain ⟨h1, h2, h3⟩ := ints_rep A fun j hj => h j (List.mem_cons_of_mem _ hj)
    have hi := h i List.mem_cons_self
    refine ⟨?_, ?_, ?_⟩
    · rw [List.map_cons, plainAll, h1, Bool.and_true]
      exact small_int (by omega) (by omega)
    · rw [List.map_cons]
      simp only [PyData.depthAll, intN, PyData.depth]
      omega
    · rw [List.map_cons, List.length_cons]
      simp only [costAll, intN, cost]
      omega
theorem ints_ok {A : List Nat} (h : ∀ i ∈ A, i ≤ 1000) (hl : A.length ≤ 20) : RepOk (.tuple (A.map intN)) := by
  obtain ⟨h1, h2, h3⟩ := ints_rep A h
  refine ⟨by simp only [plainD]; exact h1, by simp only [PyData.depth]; omega, by simp only [cost]; try rw [show sizeLine = 16777216 by decide]; omega⟩
theorem ints_shaped : ∀ A : List Nat, PyData.canLayAll0 (A.map intN) = true ∧ PyData.depthAll (A.map intN) ≤ 1
  | [] => ⟨rfl, by simp [PyData.depthAll]⟩
  | i :: A => by
    obtain ⟨h1, h2⟩ := ints_shaped A
    refine ⟨?_, ?_⟩
    · rw [List.map_cons]
      simp only [PyData.canLayAll0, intN, PyData.canLay0, h1, Bool.and_true, Bool.true_and]
    · rw [List.map_cons]
      simp only [PyData.depthAll, intN, PyData.depth]
      omega
theorem oIn_ints {i : Nat} {A : List Nat} : oIn (.val (intN i)) (.val (.list (A.map intN))) = .ret (.val (.bool (decide (i ∈ A)))) := by
  obtain ⟨h1, h2⟩ := ints_shaped A
  have e : oIn (.val (intN i)) (.val (.list (A.map intN))) = oInD false (intN i) (A.map intN) := rfl
  rw [e]
  unfold oInD
  rw [if_pos (by
    rw [Bool.and_eq_true]
    refine ⟨rfl, ?_⟩
    unfold SeqAt.shaped
    simp only [PyData.canLay0, PyData.depth, h1, Bool.true_and]
    exact decide_eq_true (by omega)), Bool.false_xor]
  congr 3
  rw [Bool.eq_iff_iff, List.any_map, List.any_eq_true, decide_eq_true_eq]
  constructor
  · rintro ⟨j, hj, h⟩
    have : (j : Int) = i := by simpa [intN, PyData.eqv] using h
    have : j = i := by omega
    exact this ▸ hj
  · intro h
    exact ⟨i, h, by simp [intN, PyData.eqv]⟩

theorem nd_snoc {A : List Nat} {n : Nat} (nd : A.Nodup) (h : n ∉ A) : (A ++ [n]).Nodup := by
  refine List.nodup_append.mpr ⟨nd, by simp, fun a ha b hb e => ?_⟩
  have hb : b = n := by simpa using hb
  exact h (hb ▸ e ▸ ha)
/-! ways and what is reached -/
theorem way_rch {P : Pb} {A : List Nat} {c d : Ch} {w : List Ch} (h : Way (FoP P) (chs A) c d w) : Rch (Fr P) (Ol P) A [c] d := by
  induction h with
  | one c => exact .base (by simp)
  | @cons c x d w f hx _ ih => exact rch_trans (.step (.base (by simp)) f (mem_chs.mp hx)) ih
theorem rch_way {P : Pb} {A : List Nat} {c d : Ch} (h : Rch (Fr P) (Ol P) A [c] d) : ∃ w, Way (FoP P) (chs A) c d w := by
  induction h with
  | base h => rw [List.mem_singleton.mp h]; exact ⟨_, .one c⟩
  | @step b e _ f m ih =>
    obtain ⟨w, hw⟩ := ih
    exact ⟨_, hw.snoc f (mem_chs.mpr m)⟩
theorem way_sub {P : Pb} {A B : List Nat} {c d : Ch} {w : List Ch} (h : Way (FoP P) (chs A) c d w) : (∀ e ∈ w, e.1 ∈ B) → Way (FoP P) (chs B) c d w := by
  induction h with
  | one c => intro _; exact .one c
  | @cons c x d w f _ hw ih =>
    intro hb
    obtain ⟨t, rfl⟩ := hw.head
    exact .cons f (mem_chs.mpr (hb x (by simp))) (ih fun e he => hb e (List.mem_cons_of_mem _ he))
theorem way_in {P : Pb} {A : List Nat} {c d : Ch} {w : List Ch} (h : Way (FoP P) (chs A) c d w) : c.1 ∈ A → ∀ e ∈ w, e.1 ∈ A := by
  induction h with
  | one c => intro hc e he; rw [List.mem_singleton.mp he]; exact hc
  | @cons c x d w f hx hw ih =>
    intro hc e he
    rcases List.mem_cons.mp he with rfl | he
    · exact hc
    · exact ih (mem_chs.mp hx) e he
theorem rowsOf_none {P : Pb} {A : List Nat} (nd : A.Nodup) : rowsOf P A = [] ↔ ∀ σ, ¬ Val (Fr P) (Ol P) A σ := by
  have all : All (Fr P) (Ol P) ([] ++ A) (rowsF (Fr P) (Ol P) [] [[]] A) := all_rows (ol_sym P) A [] [[]] (by simpa using nd) all_nil
  rw [List.nil_append] at all
  unfold rowsOf
  constructor
  · intro e σ v
    have := all.cpl σ ((val_vp trivial).mp v)
    rw [e] at this
    cases this
  · intro no
    cases e : rowsF (Fr P) (Ol P) [] [[]] A with
    | nil => rfl
    | cons r rs =>
      obtain ⟨σ, h1, _⟩ := all.snd r (by rw [e]; exact List.mem_cons_self)
      exact absurd ((val_vp trivial).mpr h1) (no σ)
theorem rowsOf_some {P : Pb} {A : List Nat} (nd : A.Nodup) (h : rowsOf P A ≠ []) : ∃ σ, Val (Fr P) (Ol P) A σ := Classical.byContradiction fun z => h ((rowsOf_none nd).mpr fun σ v => z ⟨σ, v⟩)
/-- both chains, or a placing -/
theorem chains_or {P : Pb} {part A : List Nat} {n : Nat} (np : part.Nodup) (nd : A.Nodup) (hA : ∀ i, i ∈ A ↔ i ∈ part ∨ i = n) (hp : rowsOf P part ≠ []) {r1 r2 : Option (List Ch)} (h1 : IsChain P A (n, false) (n, true) r1) (h2 : IsChain P A (n, true) (n, false) r2) :
    (rowsOf P A ≠ [] ∧ (r1 = none ∨ r2 = none)) ∨ (rowsOf P A = [] ∧ ∃ v w, r1 = some v ∧ r2 = some w) := by
  have hn : n ∈ A := (hA n).mpr (.inr rfl)
  by_cases e : rowsOf P A = []
  · refine .inr ⟨e, ?_⟩
    have no := (rowsOf_none nd).mp e
    obtain ⟨σ, v⟩ := rowsOf_some np hp
    have both : ∀ s, Rch (Fr P) (Ol P) A [(n, s)] (n, !s) := fun s => Classical.byContradiction fun z => by
      obtain ⟨τ, hτ⟩ := add_one (ol_sym P) hA v z
      exact no τ hτ
    cases r1 with
    | none => obtain ⟨w, hw⟩ := rch_way (both false); exact absurd hw (h1 w)
    | some v1 => cases r2 with
      | none => obtain ⟨w, hw⟩ := rch_way (both true); exact absurd hw (h2 w)
      | some v2 => exact ⟨v1, v2, rfl, rfl⟩
  · refine .inl ⟨e, ?_⟩
    obtain ⟨σ, v⟩ := rowsOf_some nd e
    cases r1 with
    | none => exact .inl rfl
    | some v1 => cases r2 with
      | none => exact .inr rfl
      | some v2 => exact (no_both hn (way_rch (FirstWay.way h1)) (way_rch (FirstWay.way h2)) v).elim
theorem chain_one {P : Pb} {A : List Nat} {s g : Ch} {r q : Option (List Ch)} (h : IsChain P A s g r) (k : IsChain P A s g q) : r = q := by
  cases r with
  | none => cases q with
    | none => rfl
    | some w => exact absurd (FirstWay.way k) (h w)
  | some v => cases q with
    | none => exact absurd (FirstWay.way h) (k v)
    | some w => rw [FirstWay.uniq h k]
/-! sorting -/
theorem sorted_one : ∀ {L M : List Nat}, L.Pairwise (· < ·) → M.Pairwise (· < ·) → (∀ i, i ∈ L ↔ i ∈ M) → L = M
  | [], [], _, _, _ => rfl
  | [], m :: M, _, _, h => absurd ((h m).mpr List.mem_cons_self) List.not_mem_nil
  | l :: L, [], _, _, h => absurd ((h l).mp List.mem_cons_self) List.not_mem_nil
  | l :: L, m :: M, hl, hm, h => by
    obtain ⟨l1, l2⟩ := List.pairwise_cons.mp hl
    obtain ⟨m1, m2⟩ := List.pairwise_cons.mp hm
    have e : l = m := by
      have a := (h l).mp List.mem_cons_self
      have b := (h m).mpr List.mem_cons_self
      rcases List.mem_cons.mp a with a | a
      · exact a
      · rcases List.mem_cons.mp b with b | b
        · exact b.symm
        · have := m1 _ a; have := l1 _ b; omega
    subst e
    rw [sorted_one l2 m2 fun i => ?_]
    constructor
    · intro z
      rcases List.mem_cons.mp ((h i).mp (List.mem_cons_of_mem _ z)) with y | y
      · have := l1 _ z; omega
      · exact y
    · intro z
      rcases List.mem_cons.mp ((h i).mpr (List.mem_cons_of_mem _ z)) with y | y
      · have := m1 _ z; omega
      · exact y
theorem perm_nats {A : List Nat} {ns : List Int} (p : ns.Perm (A.map fun i : Nat => (i : Int))) : ∃ L : List Nat, L.Perm A ∧ ns = L.map fun i : Nat => (i : Int) := by
  refine ⟨ns.map Int.toNat, ?_, ?_⟩
  · have := p.map Int.toNat
    rw [List.map_map] at this
    rwa [show (Int.toNat ∘ fun i : Nat => (i : Int)) = id from funext fun i => Int.toNat_natCast i, List.map_id] at this
  · rw [List.map_map]
    refine (List.map_id ns).symm.trans (List.map_congr_left fun i hi => ?_)
    obtain ⟨j, _, rfl⟩ := List.mem_map.mp (p.mem_iff.mp hi)
    simp
theorem ints_map (A : List Nat) : A.map intN = (A.map fun i : Nat => (i : Int)).map PyData.int := by rw [List.map_map]; rfl
theorem srtI_wp {A : List Nat} (nd : A.Nodup) (hl : A.length < 64) {α : Type} {k : C → M α} {Q : α → Prop} (q : ∀ L : List Nat, L.Perm A → L.Pairwise (· < ·) → wp (k (.own (.lst (L.map intN)))) Q) : wp ((srtI (A.map fun i : Nat => (i : Int))).bind k) Q := by
  unfold srtI
  rw [if_pos (by rw [List.length_map]; exact hl), anyB, wp_anyE]
  rintro d ⟨ns, p, s, rfl⟩
  obtain ⟨L, pL, rfl⟩ := perm_nats p
  rw [← ints_map]
  show wp (k (.own (.lst (L.map intN)))) Q
  refine q L pL ?_
  have ndL : L.Nodup := pL.nodup_iff.mpr nd
  have s' : L.Pairwise (· ≤ ·) := (List.pairwise_map.mp s).imp fun h => by omega
  exact (s'.and ndL).imp fun ⟨h1, h2⟩ => by omega
theorem sort_o {A : List Nat} (nd : A.Nodup) (hl : A.length < 64) {α : Type} {k : C → M α} {Q : α → Prop} (q : ∀ L : List Nat, L.Perm A → L.Pairwise (· < ·) → wp (k (.own (.lst (L.map intN)))) Q) : wp ((oSort [.own (.lst (A.map intN))]).bind k) Q := by
  show wp ((srtD (.list (A.map intN))).bind k) Q
  rw [ints_map, srtD_l]
  exact srtI_wp nd hl q
theorem sort_b {A : List Nat} (nd : A.Nodup) (hl : A.length < 64) {α : Type} {k : C → M α} {Q : α → Prop} (q : ∀ L : List Nat, L.Perm A → L.Pairwise (· < ·) → wp (k (.own (.lst (L.map intN)))) Q) : wp ((oSort [.bor (.lst (A.map intN))]).bind k) Q := by
  show wp ((srtD (.list (A.map intN))).bind k) Q
  rw [ints_map, srtD_l]
  exact srtI_wp nd hl q
theorem sort_t {A : List Nat} (nd : A.Nodup) (hl : A.length < 64) {α : Type} {k : C → M α} {Q : α → Prop} (q : ∀ L : List Nat, L.Perm A → L.Pairwise (· < ·) → wp (k (.own (.lst (L.map intN)))) Q) : wp ((oSort [.val (.tuple (A.map intN))]).bind k) Q := by
  show wp ((srtD (.tuple (A.map intN))).bind k) Q
  rw [ints_map, srtD_t]
  exact srtI_wp nd hl q
/-! the reason of a label -/
def reasonD (r1 r2 : Option (List Ch)) : PyData := match r1, r2 with
  | some v, some w => .tuple [.tuple (v.map chD), .tuple (w.map chD)]
  | _, _ => .none
theorem reason_wp {P : Pb} {A : List Nat} {n : Nat} (hA : InP P A) (hn : n < P.labs.length) (nn : n ∉ A) (nd : A.Nodup) (hl : A.length ≤ 25) (hlo : P.obs.length ≤ 16777216) {α : Type} {k : C → M α} {Q : α → Prop}
    (q : ∀ (L : List Nat) (r1 r2 : Option (List Ch)), L.Perm (A ++ [n]) → L.Pairwise (· < ·) → IsChain P L (n, false) (n, true) r1 → IsChain P L (n, true) (n, false) r2 → wp (k (.val (reasonD r1 r2))) Q) : wp ((f_reason_of [.val P.d, .val (.tuple (A.map intN)), .val (intN n)]).bind k) Q := by
  refine wp_call (fun c => ∃ (L : List Nat) (r1 r2 : Option (List Ch)), L.Perm (A ++ [n]) ∧ L.Pairwise (· < ·) ∧ IsChain P L (n, false) (n, true) r1 ∧ IsChain P L (n, true) (n, false) r2 ∧ c = .val (reasonD r1 r2)) ?_ (by rintro c ⟨L, r1, r2, h1, h2, h3, h4, rfl⟩; exact q L r1 r2 h1 h2 h3 h4)
  have nd2 := nd_snoc nd nn
  unfold f_reason_of
  refine wp_fn rfl ?_
  refine wp_seqJ (fun ρ => ∃ L : List Nat, L.Perm (A ++ [n]) ∧ L.Pairwise (· < ·) ∧ ρ = [some (.val P.d), some (.val (.tuple (A.map intN))), some (.val (intN n)), some (.val (.tuple (L.map intN))), none, none]) ?_ ?_
  · walk_at "wk"
    rw [List.length_map, if_pos (by omega)]
    walk_at "wk"
    rw [show A.map intN ++ [intN n] = (A ++ [n]).map intN by rw [List.map_append]; rfl]
    refine sort_t nd2 (by rw [List.length_append, List.length_singleton]; omega) fun L pL sL => ?_
    walk_at "wk"
    exact ⟨L, pL, sL, rfl⟩
  rintro ρ ⟨L, pL, sL, rfl⟩
  have hLA : ∀ i, i ∈ L ↔ i ∈ A ∨ i = n := fun i => by rw [pL.mem_iff, List.mem_append, List.mem_singleton]
  have hLn : n ∈ L := (hLA n).mpr (.inr rfl)
  have hL : InP P L := fun i hi => by
    rcases (hLA i).mp hi with z | rfl
    · exact hA i z
    · exact hn
  have lL : L.length ≤ 30 := by rw [pL.length_eq, List.length_append, List.length_singleton]; omega
  refine wp_seqJ (fun ρ => ∃ r1, IsChain P L (n, false) (n, true) r1 ∧ ρ = [some (.val P.d), some (.val (.tuple (A.map intN))), some (.val (intN n)), some (.val (.tuple (L.map intN))), some (.val (chnD r1)), none]) ?_ ?_
  · walk_at "wk"
    rw [show PyData.tuple [intN n, .int 0] = chD (n, false) from rfl, show PyData.tuple [intN n, .int 1] = chD (n, true) from rfl]
    refine shortest_wp hL lL hlo sL hLn fun r h => ?_
    walk_at "wk"
    exact ⟨r, h, rfl⟩
  rintro ρ ⟨r1, h1, rfl⟩
  refine wp_seqJ (fun ρ => ∃ r2, IsChain P L (n, true) (n, false) r2 ∧ ρ = [some (.val P.d), some (.val (.tuple (A.map intN))), some (.val (intN n)), some (.val (.tuple (L.map intN))), some (.val (chnD r1)), some (.val (chnD r2))]) ?_ ?_
  · walk_at "wk"
    rw [show PyData.tuple [intN n, .int 0] = chD (n, false) from rfl, show PyData.tuple [intN n, .int 1] = chD (n, true) from rfl]
    refine shortest_wp hL lL hlo sL hLn fun r h => ?_
    walk_at "wk"
    exact ⟨r, h, rfl⟩
  rintro ρ ⟨r2, h2, rfl⟩
  cases r1 with
  | none =>
    unfold chnD
    walk_at "wk"
    rw [if_pos (by rfl)]
    walk_at "wk"
    exact ⟨L, none, r2, pL, sL, h1, h2, by cases r2 <;> rfl⟩
  | some v => cases r2 with
    | none =>
      unfold chnD
      walk_at "wk"
      rw [if_pos (by rfl)]
      walk_at "wk"
      exact ⟨L, some v, none, pL, sL, h1, h2, rfl⟩
    | some w =>
      unfold chnD
      walk_at "wk"
      rw [if_neg (by decide)]
      walk_at "wk"
      exact ⟨L, some v, some w, pL, sL, h1, h2, rfl⟩

theorem ch_rep : ∀ v : List Ch, (∀ c ∈ v, c.1 ≤ 1000) → plainAll (v.map chD) = true ∧ PyData.depthAll (v.map chD) ≤ 2 ∧ costAll (v.map chD) ≤ 10000 * v.length
  | [], _ => ⟨rfl, by simp [PyData.depthAll], by simp [costAll]⟩
  | c :: v, h => by
    obtain ⟨h1, h2, h3⟩ := ch_rep v fun d hd => h d (List.mem_cons_of_mem _ hd)
    have hc := h c List.mem_cons_self
    obtain ⟨i, s⟩ := c
    have p1 : plainD (chD (i, s)) = true := by
      simp only [chD, plainD, plainAll, Bool.and_true, Bool.and_eq_true]
      exact ⟨small_int (by omega) (by omega), by cases s <;> decide +kernel⟩
    refine ⟨?_, ?_, ?_⟩
    · rw [List.map_cons, plainAll, p1, h1]; rfl
    · rw [List.map_cons]
      simp only [PyData.depthAll, chD, PyData.depth]
      omega
    · rw [List.map_cons, List.length_cons]
      simp only [costAll, chD, cost]
      omega
theorem reason_rep {v w : List Ch} (hv : ∀ c ∈ v, c.1 ≤ 1000) (hw : ∀ c ∈ w, c.1 ≤ 1000) (lv : v.length ≤ 60) (lw : w.length ≤ 60) : RepOk (.tuple [.tuple (v.map chD), .tuple (w.map chD)]) := by
  obtain ⟨v1, v2, v3⟩ := ch_rep v hv
  obtain ⟨w1, w2, w3⟩ := ch_rep w hw
  refine ⟨by simp only [plainD, plainAll, v1, w1]; rfl, by simp only [PyData.depth, PyData.depthAll]; omega, by simp only [cost, costAll]; try rw [show sizeLine = 16777216 by decide]; omega⟩
theorem chain_small {P : Pb} {A : List Nat} {s g : Ch} {v : List Ch} (hs : s.1 ∈ A) (hl : A.length ≤ 30) (h : FirstWay (FoP P) (chs A) s g v) : v.length ≤ 60 := by
  have := dist_lt (mem_chs.mpr hs) h.dist
  have := h.way.pos
  rw [chs_len] at *
  omega
theorem inL_ints {i : Nat} {A : List Nat} : oNotIn (.val (intN i)) (.bor (.lst (A.map intN))) = .ret (.val (.bool (!decide (i ∈ A)))) := by
  obtain ⟨h1, h2⟩ := ints_shaped A
  have e : oNotIn (.val (intN i)) (.bor (.lst (A.map intN))) = oInD true (intN i) (A.map intN) := rfl
  rw [e]
  unfold oInD
  rw [if_pos (by
    rw [Bool.and_eq_true]
    refine ⟨rfl, ?_⟩
    unfold SeqAt.shaped
    simp only [PyData.canLay0, PyData.depth, h1, Bool.true_and]
    exact decide_eq_true (by omega)), Bool.true_xor]
  congr 4
  rw [Bool.eq_iff_iff, List.any_map, List.any_eq_true, decide_eq_true_eq]
  constructor
  · rintro ⟨j, hj, h⟩
    have : (j : Int) = i := by simpa [intN, PyData.eqv] using h
    have : j = i := by omega
    exact this ▸ hj
  · intro h
    exact ⟨i, h, by simp [intN, PyData.eqv]⟩
theorem nat_le {L : List Nat} : ∀ {N : List Nat}, N.Nodup → (∀ x ∈ N, x ∈ L) → N.length ≤ L.length := by
  intro N
  induction N generalizing L with
  | nil => intro _ _; exact Nat.zero_le _
  | cons x N ih =>
    intro nd h
    obtain ⟨h1, h2⟩ := List.nodup_cons.mp nd
    have hx := h x List.mem_cons_self
    have := ih (L := L.erase x) h2 fun y hy => (List.mem_erase_of_ne fun e : y = x => h1 (e ▸ hy)).mpr (h y (List.mem_cons_of_mem _ hy))
    rw [List.length_erase_of_mem hx] at this
    have p := List.length_pos_of_mem hx
    rw [List.length_cons]
    omega
theorem empt (rows : List (List Bool)) : (!(rows.map rowD).isEmpty) = !rows.isEmpty := by cases rows <;> rfl

/-! a placement -/
def sideIn : List Nat → List Bool → Nat → Option Bool
  | a :: A, b :: r, n => if a = n then some b else sideIn A r n
  | _, _, _ => none
theorem sideIn_some : ∀ {A : List Nat} {r : List Bool} {n : Nat}, r.length = A.length → (sideIn A r n).isSome = decide (n ∈ A)
  | [], _, n, _ => by simp [sideIn]
  | a :: A, [], n, h => by cases h
  | a :: A, b :: r, n, h => by
    unfold sideIn
    by_cases e : a = n
    · rw [if_pos e, e]; simp
    · rw [if_neg e, sideIn_some (Nat.succ.inj h)]
      have : ¬ n = a := fun z => e z.symm
      simp [this]
theorem sideIn_at : ∀ {A : List Nat} {r : List Bool} {j n : Nat}, A.Nodup → A[j]? = some n → sideIn A r n = r[j]?
  | [], _, j, n, _, h => by simp at h
  | a :: A, [], j, n, _, _ => by simp [sideIn]
  | a :: A, b :: r, 0, n, _, h => by
    have h : a = n := by simpa using h
    unfold sideIn
    rw [if_pos h]; rfl
  | a :: A, b :: r, j + 1, n, nd, h => by
    have h : A[j]? = some n := by simpa using h
    obtain ⟨h1, h2⟩ := List.nodup_cons.mp nd
    unfold sideIn
    rw [if_neg (fun e : a = n => h1 (by rw [e]; exact List.mem_of_getElem? h)), sideIn_at h2 h]
    rfl
def kN (A : List Nat) : List Key := A.map fun i : Nat => Sum.inl (i : Int)
theorem keys1_ints : ∀ A : List Nat, keys1 (A.map intN) = some (kN A)
  | [] => rfl
  | i :: A => by
    rw [List.map_cons]
    unfold keys1
    rw [keys1_ints A]
    rfl
theorem kN_nd {A : List Nat} (nd : A.Nodup) : (kN A).Nodup := by
  refine List.Pairwise.map _ (fun a b h e => ?_) nd
  injection e with e
  omega
theorem valD_zip : ∀ {A : List Nat} {r : List Bool} {n : Nat}, valD ((kN A).zip (r.map fun s => PyData.int (sd s))) (Sum.inl (n : Int)) = (sideIn A r n).map fun s => .int (sd s)
  | [], _, n => rfl
  | a :: A, [], n => rfl
  | a :: A, b :: r, n => by
    have ih := valD_zip (A := A) (r := r) (n := n)
    unfold valD at ih ⊢
    unfold sideIn
    rw [show kN (a :: A) = Sum.inl (a : Int) :: kN A from rfl, List.map_cons, List.zip_cons_cons, List.find?_cons]
    by_cases e : a = n
    · subst e
      rw [if_pos rfl, decide_eq_true rfl]
      rfl
    · rw [if_neg e, decide_eq_false (fun z : (Sum.inl (a : Int) : Key) = Sum.inl (n : Int) => by injection z with z; omega)]
      exact ih
def rowK (P : Pb) : List Bool := (rowsOf P (keptF P P.labs.length)).headD []
theorem rowK_len (P : Pb) : (rowK P).length = (keptF P P.labs.length).length ∧ dueD (rowsOf P (keptF P P.labs.length)) = rowD (rowK P) := by
  have ne := (kept_range P P.labs.length).2
  have ok := (rowsOf_ok P (keptF P P.labs.length)).2
  unfold rowK
  cases e : rowsOf P (keptF P P.labs.length) with
  | nil => rw [e] at ne; cases ne
  | cons r rs => exact ⟨ok r (by rw [e]; exact List.mem_cons_self), rfl⟩
/-- what is told of a label -/
def PlAt (P : Pb) (n : Nat) (d : PyData) : Prop := (n ∈ keptF P P.labs.length ∧ ∃ s, sideIn (keptF P P.labs.length) (rowK P) n = some s ∧ d = .int (sd s)) ∨
  (n ∉ keptF P P.labs.length ∧ ∃ v w, IsChain P (keptF P n ++ [n]) (n, false) (n, true) (some v) ∧ IsChain P (keptF P n ++ [n]) (n, true) (n, false) (some w) ∧ d = .tuple [.tuple (v.map chD), .tuple (w.map chD)])
theorem PlAt.one {P : Pb} {n : Nat} {d e : PyData} (h : PlAt P n d) (k : PlAt P n e) : d = e := by
  rcases h with ⟨h1, s, h2, rfl⟩ | ⟨h1, v, w, h2, h3, rfl⟩
  · rcases k with ⟨_, t, k2, rfl⟩ | ⟨k1, _⟩
    · rw [h2] at k2; cases k2; rfl
    · exact absurd h1 k1
  · rcases k with ⟨k1, _⟩ | ⟨_, v', w', k2, k3, rfl⟩
    · exact absurd k1 h1
    · cases chain_one h2 k2; cases chain_one h3 k3; rfl
def Places (P : Pb) (i : Nat) (ds : List PyData) : Prop := ds.length = i ∧ ∀ n, n < i → ∃ d, ds[n]? = some d ∧ PlAt P n d
theorem Places.one {P : Pb} {i : Nat} {ds es : List PyData} (h : Places P i ds) (k : Places P i es) : ds = es := by
  refine List.ext_getElem? fun n => ?_
  by_cases hn : n < i
  · obtain ⟨d, h1, h2⟩ := h.2 n hn
    obtain ⟨e, k1, k2⟩ := k.2 n hn
    rw [h1, k1, h2.one k2]
  · rw [List.getElem?_eq_none (by rw [h.1]; omega), List.getElem?_eq_none (by rw [k.1]; omega)]
theorem Places.snoc {P : Pb} {i : Nat} {ds : List PyData} {d : PyData} (h : Places P i ds) (k : PlAt P i d) : Places P (i + 1) (ds ++ [d]) := by
  refine ⟨by rw [List.length_append, h.1]; rfl, fun n hn => ?_⟩
  by_cases e : n = i
  · subst e
    exact ⟨d, by rw [List.getElem?_append_right (by rw [h.1]; exact Nat.le_refl _), h.1, Nat.sub_self]; rfl, k⟩
  · obtain ⟨x, h1, h2⟩ := h.2 n (by omega)
    exact ⟨x, by rw [List.getElem?_append_left (by rw [h.1]; omega)]; exact h1, h2⟩
theorem kept_sorted (P : Pb) (n : Nat) : (keptF P n ++ [n]).Pairwise (· < ·) := by
  refine List.pairwise_append.mpr ⟨List.Pairwise.sublist (kept_range P n).1 List.pairwise_lt_range, List.pairwise_singleton _ _, fun a ha b hb => ?_⟩
  rw [List.mem_singleton.mp hb]
  exact kept_lt ha
theorem kept_nd (P : Pb) (n : Nat) : (keptF P n).Nodup := (kept_range P n).1.nodup List.nodup_range
/-- a label that is left out has both chains -/
theorem left_both {P : Pb} {n : Nat} (hn : n < P.labs.length) (out : n ∉ keptF P P.labs.length) {r1 r2 : Option (List Ch)} (h1 : IsChain P (keptF P n ++ [n]) (n, false) (n, true) r1) (h2 : IsChain P (keptF P n ++ [n]) (n, true) (n, false) r2) : ∃ v w, r1 = some v ∧ r2 = some w := by
  have some_rows : rowsOf P (keptF P n) ≠ [] := fun e => by have := (kept_range P n).2; rw [e] at this; cases this
  have mem : ∀ i, i ∈ keptF P n ++ [n] ↔ i ∈ keptF P n ∨ i = n := fun i => by rw [List.mem_append, List.mem_singleton]
  rcases chains_or (kept_nd P n) snoc_nd mem some_rows h1 h2 with ⟨e, _⟩ | ⟨_, v, w, e1, e2⟩
  · exfalso
    refine out ((kept_mem hn).mpr ?_)
    cases q : rowsOf P (keptF P n ++ [n]) with
    | nil => exact absurd q e
    | cons _ _ => rfl
  · exact ⟨v, w, e1, e2⟩
theorem place_wp {P : Pb} (hP : PbS P) {α : Type} {k : C → M α} {Q : α → Prop} (q : ∀ ds, Places P P.labs.length ds → wp (k (.val (.tuple ds))) Q) : wp ((f_place_labels [.val P.d]).bind k) Q := by
  refine wp_call (fun c => ∃ ds, Places P P.labs.length ds ∧ c = .val (.tuple ds)) ?_ (by rintro c ⟨ds, h, rfl⟩; exact q ds h)
  have hn := hP.nl
  have hlo : P.obs.length ≤ 16777216 := by have := hP.no; omega
  have kl := kept_len P P.labs.length
  have kin : InP P (keptF P P.labs.length) := fun i hi => kept_lt hi
  have knd := kept_nd P P.labs.length
  obtain ⟨rl, rd⟩ := rowK_len P
  unfold f_place_labels
  refine wp_fn rfl ?_
  refine wp_seqJ (fun ρ => ρ = [some (.val P.d), some (.val (.tuple ((keptF P P.labs.length).map intN))), none, none, none, none]) ?_ ?_
  · walk_at "wk"
    refine kept_labels_wp hP ?_
    walk_at "wk"
    rfl
  rintro ρ rfl
  refine wp_seqJ (fun ρ => ρ = [some (.val P.d), some (.val (.tuple ((keptF P P.labs.length).map intN))), some (.own (.dK ((kN (keptF P P.labs.length)).zip ((rowK P).map fun s => .int (sd s))))), none, none, none]) ?_ ?_
  · walk_at "wk"
    rw [gDZip_eq]
    walk_at "wk"
    refine asked_wp hP kin knd (by omega) ?_
    walk_at "wk"
    rw [rd]
    unfold rowD
    rw [oDZip_t]
    unfold dzD
    rw [keys1_ints]
    dsimp only
    rw [if_pos ⟨by rw [List.length_map, List.length_map, rl], kN_nd knd, by rw [List.length_map]; omega⟩]
    walk_at "wk"
    rfl
  rintro ρ rfl
  generalize hK : (kN (keptF P P.labs.length)).zip ((rowK P).map fun s => PyData.int (sd s)) = Kd
  refine wp_seqJ (fun ρ => ρ = [some (.val P.d), some (.val (.tuple ((keptF P P.labs.length).map intN))), some (.own (.dK Kd)), some (.own (.lst [])), none, none]) ?_ ?_
  · walk_at "wk"
    rfl
  rintro ρ rfl
  refine wp_seqJ (fun ρ => ∃ ds z4, Places P P.labs.length ds ∧ ρ = [some (.val P.d), some (.val (.tuple ((keptF P P.labs.length).map intN))), some (.own (.dK Kd)), some (.own (.lst ds)), z4, none]) ?_ ?_
  · walk_at "wk"
    rw [pd2]
    walk_at "wk"
    rw [List.length_map, if_pos (rngOk_ok (by omega) (by omega))]
    walk_at "wk"
    refine wp_turns (n := (P.labs.length : Int).toNat) (fun i ρ => ∃ ds z4, Places P i ds ∧ ρ = [some (.val P.d), some (.val (.tuple ((keptF P P.labs.length).map intN))), some (.own (.dK Kd)), some (.own (.lst ds)), z4, none]) ?_ ?_ ⟨[], none, ⟨rfl, fun n h => by omega⟩, rfl⟩
    · rintro ρ ⟨ds, z4, h, rfl⟩
      rw [Int.toNat_natCast] at h
      exact ⟨ds, z4, h, rfl⟩
    rintro i es ρ hi ⟨ds, z4, h, rfl⟩
    have hi' : i < P.labs.length := by omega
    have kli := kept_len P i
    have dl : ds.length ≤ 20 := by rw [h.1]; omega
    rw [show (PyData.int (0 + (i : Int) * 1)) = .int (i : Int) by congr 1; omega]
    rw [show (asgR 4 (.val (.int (i : Int))) [some (.val P.d), some (.val (.tuple ((keptF P P.labs.length).map intN))), some (.own (.dK Kd)), some (.own (.lst ds)), z4, none]) = .ret [some (.val P.d), some (.val (.tuple ((keptF P P.labs.length).map intN))), some (.own (.dK Kd)), some (.own (.lst ds)), some (.val (.int (i : Int))), none] from rfl, retB]
    have lk : lkD (.bor (.dK Kd)) (.int (i : Int)) = some ((sideIn (keptF P P.labs.length) (rowK P) i).map fun s => .int (sd s)) := by
      rw [← valD_zip, hK]; rfl
    have isin : oDIn false (.val (.int (i : Int))) (.bor (.dK Kd)) = .ret (.val (.bool (decide (i ∈ keptF P P.labs.length)))) := by
      show (match lkD (.bor (.dK Kd)) (.int (i : Int)) with | some o => (M.ret (C.val (.bool (false ^^ o.isSome)))) | _ => .fail) = _
      rw [lk]
      dsimp only
      rw [Option.isSome_map, sideIn_some rl, Bool.false_xor]
    walk_at "wk"
    rw [isin]
    walk_at "wk"
    by_cases hk : i ∈ keptF P P.labs.length
    · obtain ⟨s, hs⟩ : ∃ s, sideIn (keptF P P.labs.length) (rowK P) i = some s := Option.isSome_iff_exists.mp (by rw [sideIn_some rl]; exact decide_eq_true hk)
      have get : oDGet (.bor (.dK Kd)) (.val (.int (i : Int))) = .ret (.val (.int (sd s))) := by
        show (match lkD (.bor (.dK Kd)) (.int (i : Int)) with | some (some v) => (M.ret (C.val v)) | _ => .fail) = _
        rw [lk, hs]
        rfl
      rw [if_pos hk]
      walk_at "wk"
      rw [get]
      walk_at "wk"
      rw [if_pos (by omega)]
      walk_at "wk"
      exact ⟨_, _, h.snoc (.inl ⟨hk, s, hs, rfl⟩), rfl⟩
    · rw [if_neg hk]
      walk_at "wk"
      rw [lcL_fm intN (fun j => decide (j < i)) intN (keptF P P.labs.length) [] fun j hj => ⟨_, by walk_at "pr", (by unfold intN; walk_at "wk"; congr 1; exact decide_eq_decide.mpr (by omega)), fun _ => by walk_at "pr"⟩, kept_filter (Nat.le_of_lt hi')]
      walk_at "wk"
      rw [List.length_map, if_pos (by omega)]
      rw [List.nil_append]
      refine reason_wp (fun j hj => by have := kept_lt hj; omega) hi' (fun z => by have := kept_lt z; omega) (kept_nd P i) (by omega) hlo fun L r1 r2 g1 g2 g3 g4 => ?_
      have : L = keptF P i ++ [i] := sorted_one g2 (kept_sorted P i) fun j => g1.mem_iff
      subst this
      obtain ⟨v, w, rfl, rfl⟩ := left_both hi' hk g3 g4
      walk_at "wk"
      rw [if_pos (by omega)]
      walk_at "wk"
      exact ⟨_, _, h.snoc (.inr ⟨hk, v, w, g3, g4, rfl⟩), rfl⟩
  rintro ρ ⟨ds, z4, h, rfl⟩
  walk_at "wk"
  exact ⟨ds, h, rfl⟩

local macro_rules | `(tactic| walk_at "pe") => `(tactic| simp (config := {maxSteps := 2000000}) only [bind_bind, bindR, retB, failB, anyB, iteB, wp_retE, wp_failE,
  ↓kSeq_nx, ↓kSeq_rt, ↓kSeq_bk, ↓kSeq_ct, ↓mNext_eq, ↓mBreak_eq, ↓mCont_eq, ↓mDrop_eq, ↓mRet_eq, ↓mRetN_eq, ↓mAsg_eq, ↓mIf_eq, ↓gVar_eq, gAt_v, gAt_o, gAt_b, gAt_t, ↓mRetV_eq, rAt_s, ↓asgR_eq, aAt_v, aAt_o,
  get_0, get_s, set_0', set_s', List.getElem?_cons_zero, List.getElem?_cons_succ, List.set_cons_zero, List.set_cons_succ, ↓aNil_eq, ↓aCons_eq, ↓aTup_eq, ↓mPar_eq, ↓kPar_v, ↓gC_eq, ↓gaNil_eq, ↓gaCons_eq, ↓gTupE_eq, ↓gLst_eq, ↓gOp_eq, ↓gUn_eq, ↓gCall_eq, ↓gFn_eq, map_nilC, map_consC, lend_v, lend_o, lend_b, lend_t,
  ↓gTru_eq, ↓gTest_eq, oBl_b, oTru_v, oTru_o, oTru_b, truD_n, truD_b, truD_i, truD_t, mAnd_r, mOr_r, mAnd_t, mAnd_f, mOr_t, mOr_f, ↓gAnd_eq, ↓gOr_eq, ↓gNot_eq, mAndC_r, mAndC_f, mOrC_r, ↓gAndT_eq, ↓gOrT_eq, ↓gNotT_eq, ↓gIfE_eq, ↓gChain_eq, ↓gNo_eq, ↓gSome_eq, oInt?_i, ↓gSl_eq, oSl_t, oSl_b, ↓gSl2_eq, kSl2_t,
  ↓gIt_eq, ↓gItV_eq, kItV_v, kItV_b, kItV_o, itV_t, itV_s, itV_b, itV_o, itD_t, itD_s, itD_o, ↓gItR1_eq, ↓gItR2_eq, ↓gItR3_eq, itR3_i, itR1_i, itR2_i, ↓gLc_eq, wipe_n, wipe_c, ↓gYes_eq, ↓gR1_eq, kR1_i, ↓gR2_eq, kR2_i, ↓gLstRg_eq, ↓gTupRg_eq, ↓mFor_eq, ↓mForV_eq, ↓mForRev_eq, kForRev_o, kForRev_t, kForV_o, kForV_b, kForV_t, kForV_s, ↓mApp_eq, appAt_o, kApp_v,
  ↓fnU_eq, rp_0, rp_s, ap_n, ap_c, ms_n, ms_c, out_rt, out_nx, oAdd_i, oAdd_s, oAdd_t, oAdd_oo, oAdd_bo, oAdd_bb, oAdd_ob, oInt_v, oMul_i, oNeg_i, oEq_i, oNe_i, oEq_b, oNe_b, oEq_s, oNe_s, oIx_t, oIx_s, oIx_o, oIx_b, atD_0, atD_1, atD_2, atD_3, atD_4, atD_5, atD_6, atD_7, atD_8, datas_n, datas_v, mp_some, oTup_eq, oLst_eq, kTup_s, kLst_s, len_n, len_c,
  o1_v, o1_o, o1_b, lenD_t, lenD_l, lenD_s, absD_i, intD_i, intD_b, oMax2_i, oMin2_i, oGcd_i, oListC_t, oListC_o, oListC_b, oTupC_t, oTupC_o, oTupC_b, isi_bi, isi_ii, isi_ib, isi_bb, isi_ni, isi_ss, isi_nb, oIsi_v, tyD_b, tyD_i, tyD_s, tyD_n, oIsX_n, oIsX_b, isN_n, isN_i, isN_b, isN_s, isN_t, aUnl_o, aUnl_b, oIx_l, ↓gTRev_eq, oTRev_t, ↓gEnT_eq, enC_t, ↓gDZip_eq, kForV_l, truD_l, oSl_l, itD_l, itV_l, oListC_l, oTupC_l, kIdxL_l, oAdd_lo, oAdd_ol, oAdd_ll, oAdd_lb, oAdd_bl, ↓mFrz_eq, kFrz_o, kFrz_v, kFrz_b, kFrz_n, ↓gFrz_eq, frzC_o, frzC_v, ↓gItI_eq, itI_t, itI_l, itI_s, ↓gDcT_eq, ↓gLc2_eq, ↓gLock_eq, lockAt_o, lockC_v, lockC_o, ↓gKeys_eq, keysAt_b, ↓mDPut_eq, dputAt_T, dputAt_K, ↓gNewT_eq, ↓gNewK_eq, ↓gDGet1_eq, ↓mSetAt_eq, setAt_o, ↓mAugI_eq, augAt_i, kAug_i, ↓gZip_eq, zipD_t, ↓gIdxL_eq, kIdxL_b, kIdxL_o, idxA_v, ↓gIdxK_eq, ↓gSix_eq, kSix_s, oLtU_i, oLtU_s, oLtU_b, ↓gFnD_eq, ↓gFnK_eq, kFnK_21, mOrCt, mOrCf, mAndCt, mAndCf, ↓gF_eq, ↓gFt_eq, ↓mF_eq, oIsiX_v, tyX_b, tyX_i, tyX_s, tyX_n, tyX_t, isiX_ts, isiX_tb, isiX_ti, isiX_tt, isiX_st, isiX_sb, isiX_si, isiX_bs, isiX_bt, isiX_is, isiX_it, isiX_ns, isiX_nt, 
  lenOk, decide_eq_true_eq, Nat.reduceAdd, Nat.reduceLeDiff, Nat.reduceEqDiff, Int.reduceEq, Bool.false_xor, Bool.true_xor, Bool.false_or, Bool.or_false, Bool.true_or, Bool.or_true, Bool.true_and, Bool.and_true, Bool.false_and, Bool.and_false, Bool.not_false, Bool.not_true, Bool.false_eq_true, if_true, if_false, reduceIte, ↓reduceIte, decide_true, decide_false, List.length_cons, List.length_nil])
local macro_rules | `(tactic| walk_at "pl") => `(tactic| simp (config := {maxSteps := 2000000}) only [bind_bind, bindR, retB, failB, anyB, iteB, wp_retE, wp_failE,
  ↓mSeq_eq, ↓kSeq_nx, ↓kSeq_rt, ↓kSeq_bk, ↓kSeq_ct, ↓mNext_eq, ↓mBreak_eq, ↓mCont_eq, ↓mDrop_eq, ↓mRet_eq, ↓mRetN_eq, ↓mAsg_eq, ↓mIf_eq, ↓gVar_eq, gAt_v, gAt_o, gAt_b, gAt_t, ↓mRetV_eq, rAt_s, ↓asgR_eq, aAt_v, aAt_o,
  get_0, get_s, set_0', set_s', List.getElem?_cons_zero, List.getElem?_cons_succ, List.set_cons_zero, List.set_cons_succ, ↓aNil_eq, ↓aCons_eq, ↓aTup_eq, ↓mPar_eq, ↓kPar_v, ↓gC_eq, ↓gaNil_eq, ↓gaCons_eq, ↓gTupE_eq, ↓gLst_eq, ↓gOp_eq, ↓gUn_eq, ↓gCall_eq, ↓gFn_eq, map_nilC, map_consC, lend_v, lend_o, lend_b, lend_t,
  ↓gTru_eq, ↓gTest_eq, oBl_b, oTru_v, oTru_o, oTru_b, truD_n, truD_b, truD_i, truD_t, mAnd_r, mOr_r, mAnd_t, mAnd_f, mOr_t, mOr_f, ↓gAnd_eq, ↓gOr_eq, ↓gNot_eq, mAndC_r, mAndC_f, mOrC_r, ↓gAndT_eq, ↓gOrT_eq, ↓gNotT_eq, ↓gIfE_eq, ↓gChain_eq, ↓gNo_eq, ↓gSome_eq, oInt?_i, ↓gSl_eq, oSl_t, oSl_b, ↓gSl2_eq, kSl2_t,
  ↓gIt_eq, ↓gItV_eq, kItV_v, kItV_b, kItV_o, itV_t, itV_s, itV_b, itV_o, itD_t, itD_s, itD_o, ↓gItR1_eq, ↓gItR2_eq, ↓gItR3_eq, itR3_i, itR1_i, itR2_i, ↓gLc_eq, wipe_n, wipe_c, ↓gYes_eq, ↓gR1_eq, kR1_i, ↓gR2_eq, kR2_i, ↓gLstRg_eq, ↓gTupRg_eq, ↓mFor_eq, ↓mForV_eq, ↓mForRev_eq, kForRev_o, kForRev_t, kForV_o, kForV_b, kForV_t, kForV_s, ↓mApp_eq, appAt_o, kApp_v,
  ↓fnU_eq, rp_0, rp_s, ap_n, ap_c, ms_n, ms_c, out_rt, out_nx, oAdd_i, oAdd_s, oAdd_t, oAdd_oo, oAdd_bo, oAdd_bb, oAdd_ob, oInt_v, oMul_i, oNeg_i, oEq_i, oNe_i, oEq_b, oNe_b, oEq_s, oNe_s, oIx_t, oIx_s, oIx_o, oIx_b, atD_0, atD_1, atD_2, atD_3, atD_4, atD_5, atD_6, atD_7, atD_8, datas_n, datas_v, mp_some, oTup_eq, oLst_eq, kTup_s, kLst_s, len_n, len_c,
  o1_v, o1_o, o1_b, lenD_t, lenD_l, lenD_s, absD_i, intD_i, intD_b, oMax2_i, oMin2_i, oGcd_i, oListC_t, oListC_o, oListC_b, oTupC_t, oTupC_o, oTupC_b, isi_bi, isi_ii, isi_ib, isi_bb, isi_ni, isi_ss, isi_nb, oIsi_v, tyD_b, tyD_i, tyD_s, tyD_n, oIsX_n, oIsX_b, isN_n, isN_i, isN_b, isN_s, isN_t, aUnl_o, aUnl_b, oIx_l, ↓gTRev_eq, oTRev_t, ↓gEnT_eq, enC_t, ↓gDZip_eq, kForV_l, truD_l, oSl_l, itD_l, itV_l, oListC_l, oTupC_l, kIdxL_l, oAdd_lo, oAdd_ol, oAdd_ll, oAdd_lb, oAdd_bl, ↓mFrz_eq, kFrz_o, kFrz_v, kFrz_b, kFrz_n, ↓gFrz_eq, frzC_o, frzC_v, ↓gItI_eq, itI_t, itI_l, itI_s, ↓gDcT_eq, ↓gLc2_eq, ↓gLock_eq, lockAt_o, lockC_v, lockC_o, ↓gKeys_eq, keysAt_b, ↓mDPut_eq, dputAt_T, dputAt_K, ↓gNewT_eq, ↓gNewK_eq, ↓gDGet1_eq, ↓mSetAt_eq, setAt_o, ↓mAugI_eq, augAt_i, kAug_i, ↓gZip_eq, zipD_t, ↓gIdxL_eq, kIdxL_b, kIdxL_o, idxA_v, ↓gIdxK_eq, ↓gSix_eq, kSix_s, oLtU_i, oLtU_s, oLtU_b, ↓gFnD_eq, ↓gFnK_eq, kFnK_21, mOrCt, mOrCf, mAndCt, mAndCf, ↓gF_eq, ↓gFt_eq, ↓mF_eq, oIsiX_v, tyX_b, tyX_i, tyX_s, tyX_n, tyX_t, isiX_ts, isiX_tb, isiX_ti, isiX_tt, isiX_st, isiX_sb, isiX_si, isiX_bs, isiX_bt, isiX_is, isiX_it, isiX_ns, isiX_nt, 
  lenOk, decide_eq_true_eq, Nat.reduceAdd, Nat.reduceLeDiff, Nat.reduceEqDiff, Int.reduceEq, Bool.false_xor, Bool.true_xor, Bool.false_or, Bool.or_false, Bool.true_or, Bool.or_true, Bool.true_and, Bool.and_true, Bool.false_and, Bool.and_false, Bool.not_false, Bool.not_true, Bool.false_eq_true, if_true, if_false, reduceIte, ↓reduceIte, decide_true, decide_false, List.length_cons, List.length_nil])
local macro_rules | `(tactic| walk_at "pr") => `(tactic| ((try walk_at "pl"); try rfl))
local macro_rules | `(tactic| walk_at "wk") => `(tactic| try walk_at "pl")
local macro_rules | `(tactic| walk_at "we") => `(tactic| try walk_at "pe")

theorem ch_shaped (c : Ch) : SeqAt.shaped (chD c) = true := by obtain ⟨i, s⟩ := c; rfl
theorem chs_shaped : ∀ L : List Ch, PyData.canLayAll0 (L.map chD) = true ∧ PyData.depthAll (L.map chD) ≤ 2
  | [] => ⟨rfl, by simp [PyData.depthAll]⟩
  | c :: L => by
    obtain ⟨h1, h2⟩ := chs_shaped L
    refine ⟨?_, ?_⟩
    · rw [List.map_cons]
      simp only [PyData.canLayAll0, chD, PyData.canLay0, h1, Bool.and_true, Bool.true_and]
    · rw [List.map_cons]
      simp only [PyData.depthAll, chD, PyData.depth]
      omega

/-! flaws -/
inductive Pl where
  | put (s : Bool)
  | out (v w : List Ch)
def plD : Pl → PyData
  | .put s => .int (sd s)
  | .out v w => .tuple [.tuple (v.map chD), .tuple (w.map chD)]
theorem pl_shaped (v w : List Ch) : SeqAt.shaped (plD (.out v w)) = true := by
  obtain ⟨h1, h2⟩ := chs_shaped v
  obtain ⟨k1, k2⟩ := chs_shaped w
  unfold SeqAt.shaped plD
  simp only [PyData.canLay0, PyData.canLayAll0, PyData.depth, PyData.depthAll, h1, k1, Bool.true_and, Bool.and_true]
  exact decide_eq_true (by omega)
def PlOk (P : Pb) (n : Nat) (p : Pl) : Prop := (n ∈ keptF P P.labs.length ∧ ∃ s, sideIn (keptF P P.labs.length) (rowK P) n = some s ∧ p = .put s) ∨
  (n ∉ keptF P P.labs.length ∧ ∃ v w, IsChain P (keptF P n ++ [n]) (n, false) (n, true) (some v) ∧ IsChain P (keptF P n ++ [n]) (n, true) (n, false) (some w) ∧ p = .out v w)
theorem PlAt.pl {P : Pb} {n : Nat} {d : PyData} (h : PlAt P n d) : ∃ p, PlOk P n p ∧ d = plD p := by
  rcases h with ⟨h1, s, h2, rfl⟩ | ⟨h1, v, w, h2, h3, rfl⟩
  · exact ⟨.put s, .inl ⟨h1, s, h2, rfl⟩, rfl⟩
  · exact ⟨.out v w, .inr ⟨h1, v, w, h2, h3, rfl⟩, rfl⟩
theorem pls_of {P : Pb} : ∀ (ds : List PyData) (i : Nat), (∀ k d, ds[k]? = some d → PlAt P (i + k) d) → ∃ pls : List Pl, ds = pls.map plD ∧ ∀ k p, pls[k]? = some p → PlOk P (i + k) p
  | [], i, _ => ⟨[], rfl, fun k p h => by simp at h⟩
  | d :: ds, i, h => by
    obtain ⟨p, h1, rfl⟩ := (h 0 d rfl).pl
    obtain ⟨pls, rfl, h2⟩ := pls_of ds (i + 1) fun k e he => by
      have := h (k + 1) e (by simpa using he)
      rwa [show i + (k + 1) = i + 1 + k by omega] at this
    refine ⟨p :: pls, rfl, fun k q hq => ?_⟩
    cases k with
    | zero => cases hq; exact h1
    | succ k =>
      have := h2 k q (by simpa using hq)
      rwa [show i + 1 + k = i + (k + 1) by omega] at this
theorem Places.pls {P : Pb} {ds : List PyData} (h : Places P P.labs.length ds) : ∃ pls : List Pl, ds = pls.map plD ∧ pls.length = P.labs.length ∧ ∀ k p, pls[k]? = some p → PlOk P k p := by
  obtain ⟨pls, e, h2⟩ := pls_of ds 0 fun k d hd => by
    have hk : k < P.labs.length := by rw [← h.1]; exact (List.getElem?_eq_some_iff.mp hd).1
    obtain ⟨x, h1, h2⟩ := h.2 k hk
    rw [hd] at h1
    cases h1
    rw [Nat.zero_add]; exact h2
  refine ⟨pls, e, ?_, fun k p hp => by have := h2 k p hp; rwa [Nat.zero_add] at this⟩
  have := congrArg List.length e
  rw [List.length_map, h.1] at this
  exact this.symm
theorem PlOk.small {P : Pb} {n : Nat} (hn : n < P.labs.length) (nl : P.labs.length ≤ 20) {v w : List Ch} (h : PlOk P n (.out v w)) : v.length ≤ 60 ∧ w.length ≤ 60 := by
  rcases h with ⟨_, s, _, e⟩ | ⟨_, v', w', h1, h2, e⟩
  · cases e
  · cases e
    have kl := kept_len P n
    have mem : n ∈ keptF P n ++ [n] := by simp
    exact ⟨chain_small (s := (n, false)) mem (by rw [List.length_append, List.length_singleton]; omega) h1, chain_small (s := (n, true)) mem (by rw [List.length_append, List.length_singleton]; omega) h2⟩

/-! one problem within another, with its labels numbered anew in their order -/
def mv (φ : Nat → Nat) (c : Ch) : Ch := (φ c.1, c.2)
structure Emb (P P' : Pb) (N : Nat) (φ : Nat → Nat) : Prop where
  mono : ∀ i j, i < j → j < N → φ i < φ j
  le : N ≤ P.labs.length
  lt : ∀ i, i < N → φ i < P'.labs.length
  fr : ∀ c : Ch, c.1 < N → Fr P c = Fr P' (mv φ c)
  ol : ∀ c d : Ch, c.1 < N → d.1 < N → Ol P c d = Ol P' (mv φ c) (mv φ d)
section
variable {P P' : Pb} {N : Nat} {φ : Nat → Nat} (e : Emb P P' N φ)
include e
theorem Emb.inj {i j : Nat} (hi : i < N) (hj : j < N) (h : φ i = φ j) : i = j := by
  rcases Nat.lt_trichotomy i j with z | z | z
  · have := e.mono i j z hj; omega
  · exact z
  · have := e.mono j i z hi; omega
theorem Emb.longer {kept : List Nat} {n : Nat} (hk : ∀ i ∈ kept, i < N) (hn : n < N) (rows : List (List Bool)) : longer (Fr P) (Ol P) kept rows n = longer (Fr P') (Ol P') (kept.map φ) rows (φ n) := by
  unfold Cs.longer
  refine congrArg (fun f => rows.flatMap f) (funext fun row => ?_)
  refine congrArg _ (List.filter_congr fun s _ => ?_)
  unfold okS
  rw [List.zip_map_left, List.all_map, e.fr (n, s) hn, Bool.eq_iff_iff, Bool.and_eq_true, Bool.and_eq_true, List.all_eq_true, List.all_eq_true]
  have k : ∀ c ∈ kept.zip row, (!Ol P (n, s) c) = !Ol P' (φ n, s) (φ c.1, c.2) := fun c hc => by rw [e.ol (n, s) c hn (hk _ (List.of_mem_zip hc).1)]; rfl
  exact ⟨fun ⟨a, b⟩ => ⟨a, fun c hc => by have := b c hc; rw [k c hc] at this; exact this⟩, fun ⟨a, b⟩ => ⟨a, fun c hc => by rw [k c hc]; exact b c hc⟩⟩
theorem Emb.rowsF : ∀ (L kept : List Nat) (rows : List (List Bool)), (∀ i ∈ kept, i < N) → (∀ i ∈ L, i < N) → rowsF (Fr P) (Ol P) kept rows L = rowsF (Fr P') (Ol P') (kept.map φ) rows (L.map φ)
  | [], _, _, _, _ => rfl
  | n :: L, kept, rows, hk, hl => by
    have hn := hl n List.mem_cons_self
    rw [List.map_cons, Cs.rowsF, Cs.rowsF, e.longer hk hn]
    have := Emb.rowsF L (kept ++ [n]) (Cs.longer (Fr P') (Ol P') (kept.map φ) rows (φ n)) (fun i hi => by
      rcases List.mem_append.mp hi with z | z
      · exact hk i z
      · rw [List.mem_singleton.mp z]; exact hn) fun i hi => hl i (List.mem_cons_of_mem _ hi)
    rwa [List.map_append] at this
theorem Emb.rows {A : List Nat} (hA : ∀ i ∈ A, i < N) : rowsOf P A = rowsOf P' (A.map φ) := e.rowsF A [] [[]] (fun i h => absurd h List.not_mem_nil) hA
theorem Emb.fo {c d : Ch} (hc : c.1 < N) (hd : d.1 < N) : FoP P c d = FoP P' (mv φ c) (mv φ d) := by
  unfold FoP Fo
  by_cases h : c.1 = d.1
  · rw [if_pos h, if_pos (show (mv φ c).1 = (mv φ d).1 by unfold mv; rw [h]), e.fr c hc]
    rfl
  · rw [if_neg h, if_neg (show ¬ (mv φ c).1 = (mv φ d).1 from fun z => h (e.inj hc hd z)), e.ol c (ng d) hc hd]
    rfl
theorem Emb.way {A : List Nat} (hA : ∀ i ∈ A, i < N) {c d : Ch} {w : List Ch} (h : Way (FoP P) (chs A) c d w) : c.1 ∈ A → Way (FoP P') (chs (A.map φ)) (mv φ c) (mv φ d) (w.map (mv φ)) := by
  induction h with
  | one c => intro _; exact .one _
  | @cons c x d w f hx _ ih =>
    intro hc
    have hxA := mem_chs.mp hx
    exact .cons (by rw [← e.fo (hA _ hc) (hA _ hxA)]; exact f) (mem_chs.mpr (List.mem_map.mpr ⟨x.1, hxA, rfl⟩)) (ih hxA)
theorem Emb.back {A : List Nat} (hA : ∀ i ∈ A, i < N) {c' d' : Ch} {w' : List Ch} (h : Way (FoP P') (chs (A.map φ)) c' d' w') : ∀ c : Ch, c' = mv φ c → c.1 ∈ A → ∃ (d : Ch) (w : List Ch), d' = mv φ d ∧ w' = w.map (mv φ) ∧ d.1 ∈ A ∧ Way (FoP P) (chs A) c d w := by
  induction h with
  | one c' => intro c hc hcA; exact ⟨c, [c], hc, by rw [hc]; rfl, hcA, .one c⟩
  | @cons c' x' d' w' f hx _ ih =>
    intro c hc hcA
    obtain ⟨i, hi, ei⟩ := List.mem_map.mp (mem_chs.mp hx)
    have hx' : x' = mv φ (i, x'.2) := by unfold mv; rw [ei]
    obtain ⟨d, w, h1, h2, h3, h4⟩ := ih (i, x'.2) hx' hi
    refine ⟨d, c :: w, h1, by rw [h2, hc]; rfl, h3, .cons ?_ (mem_chs.mpr hi) h4⟩
    rw [e.fo (hA _ hcA) (hA _ hi), ← hc, ← hx']
    exact f
theorem Emb.ch_inj {c d : Ch} (hc : c.1 < N) (hd : d.1 < N) (h : mv φ c = mv φ d) : c = d := by
  obtain ⟨i, s⟩ := c
  obtain ⟨j, t⟩ := d
  have h1 : φ i = φ j := congrArg Prod.fst h
  have h2 : s = t := congrArg Prod.snd h
  have h3 : i = j := e.inj hc hd h1
  rw [h3, h2]
theorem Emb.clt {c d : Ch} (hd : d.1 < N) (h : clt c d) : clt (mv φ c) (mv φ d) := by
  rcases h with h | ⟨h1, h2⟩
  · exact .inl (e.mono _ _ h hd)
  · exact .inr ⟨by unfold mv; rw [h1], h2⟩
theorem Emb.lxc : ∀ {v w : List Ch}, (∀ c ∈ v, c.1 < N) → (∀ c ∈ w, c.1 < N) → lxc v w → lxc (v.map (mv φ)) (w.map (mv φ))
  | a :: v, b :: w, hv, hw, h => by
    rcases h with h | ⟨h1, h2⟩
    · exact .inl (e.clt (hw b List.mem_cons_self) h)
    · exact .inr ⟨by rw [h1], Emb.lxc (fun c hc => hv c (List.mem_cons_of_mem _ hc)) (fun c hc => hw c (List.mem_cons_of_mem _ hc)) h2⟩
  | [], _, _, _, h => h.elim
  | _ :: _, [], _, _, h => h.elim
theorem Emb.chain {A : List Nat} (hA : ∀ i ∈ A, i < N) {s g : Ch} {v : List Ch} (hs : s.1 ∈ A) (hg : g.1 ∈ A) (h : IsChain P A s g (some v)) : IsChain P' (A.map φ) (mv φ s) (mv φ g) (some (v.map (mv φ))) := by
  have h : FirstWay (FoP P) (chs A) s g v := h
  have pull : ∀ w', Way (FoP P') (chs (A.map φ)) (mv φ s) (mv φ g) w' → ∃ w, w' = w.map (mv φ) ∧ Way (FoP P) (chs A) s g w := fun w' hw => by
    obtain ⟨d, w, h1, h2, h3, h4⟩ := e.back hA hw s rfl hs
    have : g = d := e.ch_inj (hA _ hg) (hA _ h3) h1
    rw [← this] at h4
    exact ⟨w, h2, h4⟩
  refine ⟨e.way hA h.way hs, fun w' hw => ?_, fun w' hw hl => ?_⟩
  · obtain ⟨w, rfl, h1⟩ := pull w' hw
    rw [List.length_map, List.length_map]
    exact h.short w h1
  · obtain ⟨w, rfl, h1⟩ := pull w' hw
    rw [List.length_map, List.length_map] at hl
    rcases h.first w h1 hl with z | z
    · exact .inl (by rw [z])
    · exact .inr (e.lxc (fun c hc => hA _ (way_in h.way hs c hc)) (fun c hc => hA _ (way_in h1 hs c hc)) z)
theorem Emb.sideIn {n : Nat} (hn : n < N) : ∀ {A : List Nat} {r : List Bool}, (∀ i ∈ A, i < N) → sideIn (A.map φ) r (φ n) = sideIn A r n
  | [], _, _ => rfl
  | _ :: _, [], _ => rfl
  | a :: A, b :: r, hA => by
    rw [List.map_cons, Cs.sideIn, Cs.sideIn]
    have ha := hA a List.mem_cons_self
    by_cases h : a = n
    · rw [if_pos h, if_pos (by rw [h])]
    · rw [if_neg h, if_neg (fun z => h (e.inj ha hn z))]
      exact Emb.sideIn hn fun i hi => hA i (List.mem_cons_of_mem _ hi)
end
def mvP (φ : Nat → Nat) : Pl → Pl
  | .put s => .put s
  | .out v w => .out (v.map (mv φ)) (w.map (mv φ))
/-- an embedding of a whole problem that keeps what it keeps -/
theorem Emb.plok {P P' : Pb} {φ : Nat → Nat} (e : Emb P P' P.labs.length φ) (hK : keptF P' P'.labs.length = (keptF P P.labs.length).map φ) {n : Nat} (hn : n < P.labs.length) (hk : keptF P' (φ n) = (keptF P n).map φ) {p : Pl} (h : PlOk P n p) : PlOk P' (φ n) (mvP φ p) := by
  have allK : ∀ i ∈ keptF P P.labs.length, i < P.labs.length := fun i hi => kept_lt hi
  have eR : rowK P' = rowK P := by unfold rowK; rw [hK, ← e.rows allK]
  have mem : φ n ∈ keptF P' P'.labs.length ↔ n ∈ keptF P P.labs.length := by
    rw [hK, List.mem_map]
    exact ⟨fun ⟨i, hi, ei⟩ => by rw [← e.inj (allK i hi) hn ei]; exact hi, fun h => ⟨n, h, rfl⟩⟩
  rcases h with ⟨h1, s, h2, rfl⟩ | ⟨h1, v, w, h2, h3, rfl⟩
  · refine .inl ⟨mem.mpr h1, s, ?_, rfl⟩
    rw [hK, eR, e.sideIn hn allK]
    exact h2
  · have hA : ∀ i ∈ keptF P n ++ [n], i < P.labs.length := snoc_in hn
    have c1 := e.chain hA (by simp) (by simp) h2
    have c2 := e.chain hA (by simp) (by simp) h3
    rw [List.map_append] at c1 c2
    refine .inr ⟨fun z => h1 (mem.mp z), v.map (mv φ), w.map (mv φ), ?_, ?_, rfl⟩
    · rw [hk]; exact c1
    · rw [hk]; exact c2

local macro_rules | `(tactic| walk_at "pe") => `(tactic| simp (config := {maxSteps := 2000000}) only [bind_bind, bindR, retB, failB, anyB, iteB, wp_retE, wp_failE,
  ↓kSeq_nx, ↓kSeq_rt, ↓kSeq_bk, ↓kSeq_ct, ↓mNext_eq, ↓mBreak_eq, ↓mCont_eq, ↓mDrop_eq, ↓mRet_eq, ↓mRetN_eq, ↓mAsg_eq, ↓mIf_eq, ↓gVar_eq, gAt_v, gAt_o, gAt_b, gAt_t, ↓mRetV_eq, rAt_s, ↓asgR_eq, aAt_v, aAt_o,
  get_0, get_s, set_0', set_s', List.getElem?_cons_zero, List.getElem?_cons_succ, List.set_cons_zero, List.set_cons_succ, ↓aNil_eq, ↓aCons_eq, ↓aTup_eq, ↓mPar_eq, ↓kPar_v, ↓gC_eq, ↓gaNil_eq, ↓gaCons_eq, ↓gTupE_eq, ↓gLst_eq, ↓gOp_eq, ↓gUn_eq, ↓gCall_eq, ↓gFn_eq, map_nilC, map_consC, lend_v, lend_o, lend_b, lend_t,
  ↓gTru_eq, ↓gTest_eq, oBl_b, oTru_v, oTru_o, oTru_b, truD_n, truD_b, truD_i, truD_t, mAnd_r, mOr_r, mAnd_t, mAnd_f, mOr_t, mOr_f, ↓gAnd_eq, ↓gOr_eq, ↓gNot_eq, mAndC_r, mAndC_f, mOrC_r, ↓gAndT_eq, ↓gOrT_eq, ↓gNotT_eq, ↓gIfE_eq, ↓gChain_eq, ↓gNo_eq, ↓gSome_eq, oInt?_i, ↓gSl_eq, oSl_t, oSl_b, ↓gSl2_eq, kSl2_t,
  ↓gIt_eq, ↓gItV_eq, kItV_v, kItV_b, kItV_o, itV_t, itV_s, itV_b, itV_o, itD_t, itD_s, itD_o, ↓gItR1_eq, ↓gItR2_eq, ↓gItR3_eq, itR3_i, itR1_i, itR2_i, ↓gLc_eq, wipe_n, wipe_c, ↓gYes_eq, ↓gR1_eq, kR1_i, ↓gR2_eq, kR2_i, ↓gLstRg_eq, ↓gTupRg_eq, ↓mFor_eq, ↓mForV_eq, ↓mForRev_eq, kForRev_o, kForRev_t, kForV_o, kForV_b, kForV_t, kForV_s, ↓mApp_eq, appAt_o, kApp_v,
  ↓fnU_eq, rp_0, rp_s, ap_n, ap_c, ms_n, ms_c, out_rt, out_nx, oAdd_i, oAdd_s, oAdd_t, oAdd_oo, oAdd_bo, oAdd_bb, oAdd_ob, oInt_v, oMul_i, oNeg_i, oEq_i, oNe_i, oEq_b, oNe_b, oEq_s, oNe_s, oIx_t, oIx_s, oIx_o, oIx_b, atD_0, atD_1, atD_2, atD_3, atD_4, atD_5, atD_6, atD_7, atD_8, datas_n, datas_v, mp_some, oTup_eq, oLst_eq, kTup_s, kLst_s, len_n, len_c,
  o1_v, o1_o, o1_b, lenD_t, lenD_l, lenD_s, absD_i, intD_i, intD_b, oMax2_i, oMin2_i, oGcd_i, oListC_t, oListC_o, oListC_b, oTupC_t, oTupC_o, oTupC_b, isi_bi, isi_ii, isi_ib, isi_bb, isi_ni, isi_ss, isi_nb, oIsi_v, tyD_b, tyD_i, tyD_s, tyD_n, oIsX_n, oIsX_b, isN_n, isN_i, isN_b, isN_s, isN_t, aUnl_o, aUnl_b, oIx_l, ↓gTRev_eq, oTRev_t, ↓gEnT_eq, enC_t, ↓gDZip_eq, kForV_l, truD_l, oSl_l, itD_l, itV_l, oListC_l, oTupC_l, kIdxL_l, oAdd_lo, oAdd_ol, oAdd_ll, oAdd_lb, oAdd_bl, ↓mFrz_eq, kFrz_o, kFrz_v, kFrz_b, kFrz_n, ↓gFrz_eq, frzC_o, frzC_v, ↓gItI_eq, itI_t, itI_l, itI_s, ↓gDcT_eq, ↓gLc2_eq, ↓gLock_eq, lockAt_o, lockC_v, lockC_o, ↓gKeys_eq, keysAt_b, ↓mDPut_eq, dputAt_T, dputAt_K, ↓gNewT_eq, ↓gNewK_eq, ↓gDGet1_eq, ↓mSetAt_eq, setAt_o, ↓mAugI_eq, augAt_i, kAug_i, ↓gZip_eq, zipD_t, ↓gIdxL_eq, kIdxL_b, kIdxL_o, idxA_v, ↓gIdxK_eq, ↓gSix_eq, kSix_s, oLtU_i, oLtU_s, oLtU_b, ↓gFnD_eq, ↓gFnK_eq, kFnK_21, mOrCt, mOrCf, mAndCt, mAndCf, ↓gF_eq, ↓gFt_eq, ↓mF_eq, oIsiX_v, tyX_b, tyX_i, tyX_s, tyX_n, tyX_t, isiX_ts, isiX_tb, isiX_ti, isiX_tt, isiX_st, isiX_sb, isiX_si, isiX_bs, isiX_bt, isiX_is, isiX_it, isiX_ns, isiX_nt, 
  lenOk, decide_eq_true_eq, Nat.reduceAdd, Nat.reduceLeDiff, Nat.reduceEqDiff, Int.reduceEq, Bool.false_xor, Bool.true_xor, Bool.false_or, Bool.or_false, Bool.true_or, Bool.or_true, Bool.true_and, Bool.and_true, Bool.false_and, Bool.and_false, Bool.not_false, Bool.not_true, Bool.false_eq_true, if_true, if_false, reduceIte, ↓reduceIte, decide_true, decide_false, List.length_cons, List.length_nil])
local macro_rules | `(tactic| walk_at "pl") => `(tactic| simp (config := {maxSteps := 2000000}) only [bind_bind, bindR, retB, failB, anyB, iteB, wp_retE, wp_failE,
  ↓mSeq_eq, ↓kSeq_nx, ↓kSeq_rt, ↓kSeq_bk, ↓kSeq_ct, ↓mNext_eq, ↓mBreak_eq, ↓mCont_eq, ↓mDrop_eq, ↓mRet_eq, ↓mRetN_eq, ↓mAsg_eq, ↓mIf_eq, ↓gVar_eq, gAt_v, gAt_o, gAt_b, gAt_t, ↓mRetV_eq, rAt_s, ↓asgR_eq, aAt_v, aAt_o,
  get_0, get_s, set_0', set_s', List.getElem?_cons_zero, List.getElem?_cons_succ, List.set_cons_zero, List.set_cons_succ, ↓aNil_eq, ↓aCons_eq, ↓aTup_eq, ↓mPar_eq, ↓kPar_v, ↓gC_eq, ↓gaNil_eq, ↓gaCons_eq, ↓gTupE_eq, ↓gLst_eq, ↓gOp_eq, ↓gUn_eq, ↓gCall_eq, ↓gFn_eq, map_nilC, map_consC, lend_v, lend_o, lend_b, lend_t,
  ↓gTru_eq, ↓gTest_eq, oBl_b, oTru_v, oTru_o, oTru_b, truD_n, truD_b, truD_i, truD_t, mAnd_r, mOr_r, mAnd_t, mAnd_f, mOr_t, mOr_f, ↓gAnd_eq, ↓gOr_eq, ↓gNot_eq, mAndC_r, mAndC_f, mOrC_r, ↓gAndT_eq, ↓gOrT_eq, ↓gNotT_eq, ↓gIfE_eq, ↓gChain_eq, ↓gNo_eq, ↓gSome_eq, oInt?_i, ↓gSl_eq, oSl_t, oSl_b, ↓gSl2_eq, kSl2_t,
  ↓gIt_eq, ↓gItV_eq, kItV_v, kItV_b, kItV_o, itV_t, itV_s, itV_b, itV_o, itD_t, itD_s, itD_o, ↓gItR1_eq, ↓gItR2_eq, ↓gItR3_eq, itR3_i, itR1_i, itR2_i, ↓gLc_eq, wipe_n, wipe_c, ↓gYes_eq, ↓gR1_eq, kR1_i, ↓gR2_eq, kR2_i, ↓gLstRg_eq, ↓gTupRg_eq, ↓mFor_eq, ↓mForV_eq, ↓mForRev_eq, kForRev_o, kForRev_t, kForV_o, kForV_b, kForV_t, kForV_s, ↓mApp_eq, appAt_o, kApp_v,
  ↓fnU_eq, rp_0, rp_s, ap_n, ap_c, ms_n, ms_c, out_rt, out_nx, oAdd_i, oAdd_s, oAdd_t, oAdd_oo, oAdd_bo, oAdd_bb, oAdd_ob, oInt_v, oMul_i, oNeg_i, oEq_i, oNe_i, oEq_b, oNe_b, oEq_s, oNe_s, oIx_t, oIx_s, oIx_o, oIx_b, atD_0, atD_1, atD_2, atD_3, atD_4, atD_5, atD_6, atD_7, atD_8, datas_n, datas_v, mp_some, oTup_eq, oLst_eq, kTup_s, kLst_s, len_n, len_c,
  o1_v, o1_o, o1_b, lenD_t, lenD_l, lenD_s, absD_i, intD_i, intD_b, oMax2_i, oMin2_i, oGcd_i, oListC_t, oListC_o, oListC_b, oTupC_t, oTupC_o, oTupC_b, isi_bi, isi_ii, isi_ib, isi_bb, isi_ni, isi_ss, isi_nb, oIsi_v, tyD_b, tyD_i, tyD_s, tyD_n, oIsX_n, oIsX_b, isN_n, isN_i, isN_b, isN_s, isN_t, aUnl_o, aUnl_b, oIx_l, ↓gTRev_eq, oTRev_t, ↓gEnT_eq, enC_t, ↓gDZip_eq, kForV_l, truD_l, oSl_l, itD_l, itV_l, oListC_l, oTupC_l, kIdxL_l, oAdd_lo, oAdd_ol, oAdd_ll, oAdd_lb, oAdd_bl, ↓mFrz_eq, kFrz_o, kFrz_v, kFrz_b, kFrz_n, ↓gFrz_eq, frzC_o, frzC_v, ↓gItI_eq, itI_t, itI_l, itI_s, ↓gDcT_eq, ↓gLc2_eq, ↓gLock_eq, lockAt_o, lockC_v, lockC_o, ↓gKeys_eq, keysAt_b, ↓mDPut_eq, dputAt_T, dputAt_K, ↓gNewT_eq, ↓gNewK_eq, ↓gDGet1_eq, ↓mSetAt_eq, setAt_o, ↓mAugI_eq, augAt_i, kAug_i, ↓gZip_eq, zipD_t, ↓gIdxL_eq, kIdxL_b, kIdxL_o, idxA_v, ↓gIdxK_eq, ↓gSix_eq, kSix_s, oLtU_i, oLtU_s, oLtU_b, ↓gFnD_eq, ↓gFnK_eq, kFnK_21, mOrCt, mOrCf, mAndCt, mAndCf, ↓gF_eq, ↓gFt_eq, ↓mF_eq, oIsiX_v, tyX_b, tyX_i, tyX_s, tyX_n, tyX_t, isiX_ts, isiX_tb, isiX_ti, isiX_tt, isiX_st, isiX_sb, isiX_si, isiX_bs, isiX_bt, isiX_is, isiX_it, isiX_ns, isiX_nt, 
  lenOk, decide_eq_true_eq, Nat.reduceAdd, Nat.reduceLeDiff, Nat.reduceEqDiff, Int.reduceEq, Bool.false_xor, Bool.true_xor, Bool.false_or, Bool.or_false, Bool.true_or, Bool.or_true, Bool.true_and, Bool.and_true, Bool.false_and, Bool.and_false, Bool.not_false, Bool.not_true, Bool.false_eq_true, if_true, if_false, reduceIte, ↓reduceIte, decide_true, decide_false, List.length_cons, List.length_nil])
local macro_rules | `(tactic| walk_at "pr") => `(tactic| ((try walk_at "pl"); try rfl))
local macro_rules | `(tactic| walk_at "wk") => `(tactic| try walk_at "pl")
local macro_rules | `(tactic| walk_at "we") => `(tactic| try walk_at "pe")

theorem lab_get {P : Pb} {i : Nat} : lab P i = (P.labs[i]?).getD (⟨0, 0, 0, 0⟩, ⟨0, 0, 0, 0⟩) := by unfold lab; rw [List.getD_eq_getElem?_getD]
theorem fr_cg {P P' : Pb} {c : Ch} {j : Nat} (ha : P'.area = P.area) (ho : P'.obs = P.obs) (h : lab P c.1 = lab P' j) : Fr P c = Fr P' (j, c.2) := by
  unfold Fr freeB
  rw [h, ha, ho]
theorem ol_cg {P P' : Pb} {c d : Ch} {i j : Nat} (h : lab P c.1 = lab P' i) (k : lab P d.1 = lab P' j) : Ol P c d = Ol P' (i, c.2) (j, d.2) := by
  unfold Ol
  rw [h, k]
/-! a further label that can't be placed -/
def phi (a i : Nat) : Nat := if i < a then i else i + 1
def insP (P : Pb) (a : Nat) (fu : R × R) : Pb := ⟨P.area, P.obs, P.labs.take a ++ [fu] ++ P.labs.drop a⟩
theorem ins_len {P : Pb} {a : Nat} {fu : R × R} (ha : a ≤ P.labs.length) : (insP P a fu).labs.length = P.labs.length + 1 := by
  unfold insP
  rw [List.length_append, List.length_append, List.length_take, List.length_drop, List.length_singleton]
  omega
theorem ins_get {δ : Type} {xs : List δ} {x : δ} {a i : Nat} (ha : a ≤ xs.length) : (xs.take a ++ [x] ++ xs.drop a)[phi a i]? = xs[i]? := by
  have lt : (xs.take a).length = a := by rw [List.length_take]; omega
  unfold phi
  by_cases h : i < a
  · rw [if_pos h, List.append_assoc, List.getElem?_append_left (by omega), List.getElem?_take_of_lt h]
  · rw [if_neg h, List.getElem?_append_right (by rw [List.length_append, List.length_singleton]; omega), List.length_append, List.length_singleton, lt, List.getElem?_drop]
    congr 1
    omega
theorem ins_at {δ : Type} {xs : List δ} {x : δ} {a : Nat} (ha : a ≤ xs.length) : (xs.take a ++ [x] ++ xs.drop a)[a]? = some x := by
  have lt : (xs.take a).length = a := by rw [List.length_take]; omega
  rw [List.append_assoc, List.getElem?_append_right (by omega), lt, Nat.sub_self]
  rfl
theorem ins_emb {P : Pb} {a : Nat} {fu : R × R} (ha : a ≤ P.labs.length) : Emb P (insP P a fu) P.labs.length (phi a) := by
  have e : ∀ i, lab P i = lab (insP P a fu) (phi a i) := fun i => by rw [lab_get, lab_get]; unfold insP; rw [ins_get ha]
  refine ⟨fun i j h _ => ?_, Nat.le_refl _, fun i hi => ?_, fun c hc => fr_cg (P := P) (P' := insP P a fu) rfl rfl (e _), fun c d hc hd => ol_cg (e _) (e _)⟩
  · unfold phi
    split <;> split <;> omega
  · rw [ins_len ha]
    unfold phi
    split <;> omega
section
variable {P : Pb} {a : Nat} {fu : R × R} (ha : a ≤ P.labs.length) (nf : ∀ s, Fr (insP P a fu) (a, s) = false)
include ha
theorem ins_kept1 : ∀ n, n ≤ a → keptF (insP P a fu) n = (keptF P n).map (phi a)
  | 0, _ => rfl
  | n + 1, h => by
    have ih := ins_kept1 n (by omega)
    have ph : phi a n = n := if_pos (by omega)
    have r := (ins_emb (fu := fu) ha).rows (A := keptF P n ++ [n]) (snoc_in (by omega))
    rw [List.map_append, List.map_singleton, ph] at r
    rw [keptF_s, keptF_s, ih, ← r]
    split
    · rfl
    · rw [List.map_append, List.map_singleton, ph]
include nf
theorem ins_no : rowsOf (insP P a fu) (keptF (insP P a fu) a ++ [a]) = [] := (rowsOf_none snoc_nd).mpr fun σ v => by
  have := ((val_vp trivial).mp v).1 a (by simp)
  rw [nf] at this
  cases this
theorem ins_kept2 : ∀ n, a ≤ n → n ≤ P.labs.length → keptF (insP P a fu) (n + 1) = (keptF P n).map (phi a) := fun n h1 h2 => by
  obtain ⟨k, rfl⟩ : ∃ k, n = a + k := ⟨n - a, by omega⟩
  clear h1
  induction k with
  | zero =>
    rw [Nat.add_zero, keptF_s, ins_no ha nf, if_pos (by rfl)]
    exact ins_kept1 ha a (Nat.le_refl _)
  | succ k ih =>
    have ih := ih (by omega)
    have ph : phi a (a + k) = a + k + 1 := if_neg (by omega)
    have r := (ins_emb (fu := fu) ha).rows (A := keptF P (a + k) ++ [a + k]) (snoc_in (by omega))
    rw [List.map_append, List.map_singleton, ph] at r
    have e1 := keptF_s (P := insP P a fu) (n := a + k + 1)
    have e2 := keptF_s (P := P) (n := a + k)
    rw [show a + (k + 1) = a + k + 1 by omega, e1, e2, ih, ← r]
    split
    · rfl
    · rw [List.map_append, List.map_singleton, ph]
theorem ins_keptN : keptF (insP P a fu) (insP P a fu).labs.length = (keptF P P.labs.length).map (phi a) := by
  rw [ins_len ha]
  exact ins_kept2 ha nf _ ha (Nat.le_refl _)
theorem ins_kept3 {n : Nat} (hn : n < P.labs.length) : keptF (insP P a fu) (phi a n) = (keptF P n).map (phi a) := by
  by_cases h : n < a
  · rw [show phi a n = n from if_pos h]
    exact ins_kept1 ha n (by omega)
  · rw [show phi a n = n + 1 from if_neg h]
    exact ins_kept2 ha nf n (by omega) (by omega)
theorem ins_plok {n : Nat} (hn : n < P.labs.length) {p : Pl} (h : PlOk P n p) : PlOk (insP P a fu) (phi a n) (mvP (phi a) p) :=
  (ins_emb ha).plok (ins_keptN ha nf) hn (ins_kept3 ha nf hn) h
theorem ins_new : PlOk (insP P a fu) a (.out [(a, false), (a, true)] [(a, true), (a, false)]) := by
  have two : ∀ s : Bool, IsChain (insP P a fu) (keptF (insP P a fu) a ++ [a]) (a, s) (a, !s) (some [(a, s), (a, !s)]) := fun s => by
    refine ⟨.cons ?_ (mem_chs.mpr (by simp)) (.one _), fun v hv => ?_, fun v hv hl => ?_⟩
    · unfold FoP Fo
      rw [if_pos rfl, nf]
      cases s <;> rfl
    · generalize hc : ((a, s) : Ch) = c at hv
      generalize hd : ((a, !s) : Ch) = d at hv
      cases hv with
      | one => rw [← hd] at hc; cases s <;> cases hc
      | cons _ _ h => have := h.pos; simp only [List.length_cons, List.length_nil]; omega
    · left
      generalize hc : ((a, s) : Ch) = c at hv hl ⊢
      generalize hd : ((a, !s) : Ch) = d at hv hl ⊢
      cases hv with
      | one => rw [← hd] at hc; cases s <;> cases hc
      | cons _ _ h =>
        cases h with
        | one => rfl
        | cons _ _ h => have := h.pos; simp only [List.length_cons, List.length_nil] at hl; omega
  have out : a ∉ keptF (insP P a fu) (insP P a fu).labs.length := fun z => by
    rw [kept_mem (by rw [ins_len ha]; omega), ins_no ha nf] at z
    cases z
  exact .inr ⟨out, _, _, two false, two true, rfl⟩
end

theorem plT (p : Pl) : isiT "tuple" (tyX (plD p)) = .ret (.val (.bool (match p with | .put _ => false | .out _ _ => true))) := by cases p <;> rfl

theorem ge_phi {a i : Nat} : (i : Int) + (if (a : Int) ≤ (i : Int) then 1 else 0) = ((phi a i : Nat) : Int) := by
  unfold phi
  by_cases h : i < a
  · rw [if_pos h, if_neg (by omega)]; omega
  · rw [if_neg h, if_pos (by omega)]; omega
theorem ren_wp {pls : List Pl} {a : Nat} (hl : pls.length ≤ 30) (ok : ∀ v w, Pl.out v w ∈ pls → v.length ≤ 1000 ∧ w.length ≤ 1000) {α : Type} {k : C → M α} {Q : α → Prop} (q : wp (k (.own (.lst ((pls.map (mvP (phi a))).map plD)))) Q) : wp ((f_law_renumbered [.val (.tuple (pls.map plD)), .val (.int (a : Int))]).bind k) Q := by
  refine wp_call (fun c => c = .own (.lst ((pls.map (mvP (phi a))).map plD))) ?_ (by rintro c rfl; exact q)
  unfold f_law_renumbered
  refine wp_fn rfl ?_
  generalize hPl : PyData.tuple (pls.map plD) = Pd
  refine wp_seqJ (fun ρ => ρ = [some (.val Pd), some (.val (.int (a : Int))), some (.own (.lst ((([] : List Pl).map (mvP (phi a))).map plD))), none, none, none, none]) ?_ ?_
  · walk_at "wk"
    rfl
  rintro ρ rfl
  refine wp_seqJ (fun ρ => ∃ z3 z4 z5 z6, ρ = [some (.val Pd), some (.val (.int (a : Int))), some (.own (.lst ((pls.map (mvP (phi a))).map plD))), z3, z4, z5, z6]) ?_ ?_
  · rw [← hPl]
    walk_at "wk"
    rw [hPl]
    refine wp_over plD (fun ps ρ => ∃ pre z3 z4 z5 z6, pls = pre ++ ps ∧ ρ = [some (.val Pd), some (.val (.int (a : Int))), some (.own (.lst ((pre.map (mvP (phi a))).map plD))), z3, z4, z5, z6]) ?_ ?_ ⟨[], none, none, none, none, rfl, rfl⟩
    · rintro ρ ⟨pre, z3, z4, z5, z6, e, rfl⟩
      rw [List.append_nil] at e
      exact ⟨z3, z4, z5, z6, by rw [e]⟩
    rintro p ps ρ ⟨pre, z3, z4, z5, z6, e, rfl⟩
    rw [show (asgR 3 (.val (plD p)) [some (.val Pd), some (.val (.int (a : Int))), some (.own (.lst ((pre.map (mvP (phi a))).map plD))), z3, z4, z5, z6]) = .ret [some (.val Pd), some (.val (.int (a : Int))), some (.own (.lst ((pre.map (mvP (phi a))).map plD))), some (.val (plD p)), z4, z5, z6] from rfl, retB]
    refine wp_seqJ (fun ρ => ∃ z4 z5 z6, ρ = [some (.val Pd), some (.val (.int (a : Int))), some (.own (.lst ((pre.map (mvP (phi a))).map plD))), some (.val (plD (mvP (phi a) p))), z4, z5, z6]) ?_ ?_
    · cases p with
      | put s =>
        walk_at "wk"
        rw [plT]
        walk_at "wk"
        exact ⟨_, _, _, rfl⟩
      | out v w =>
        obtain ⟨hv, hw⟩ := ok v w (by rw [e]; simp)
        walk_at "wk"
        rw [plT]
        walk_at "wk"
        rw [show plD (.out v w) = .tuple ([v, w].map fun u => PyData.tuple (u.map chD)) from rfl]
        walk_at "wk"
        generalize hZ : PyData.tuple ([v, w].map fun u => PyData.tuple (u.map chD)) = Zd
        refine wp_call (fun r => ∃ z5 z6, r = .nx [some (.val Pd), some (.val (.int (a : Int))), some (.own (.lst ((pre.map (mvP (phi a))).map plD))), some (.val Zd), some (.own (.lst ([v, w].map fun u => PyData.tuple ((u.map (mv (phi a))).map chD)))), z5, z6]) ?_ ?_
        · refine wp_over (fun u : List Ch => PyData.tuple (u.map chD)) (fun us ρ => ∃ pr z5 z6, [v, w] = pr ++ us ∧ ρ = [some (.val Pd), some (.val (.int (a : Int))), some (.own (.lst ((pre.map (mvP (phi a))).map plD))), some (.val Zd), some (.own (.lst (pr.map fun u => PyData.tuple ((u.map (mv (phi a))).map chD)))), z5, z6]) ?_ ?_ ⟨[], _, _, rfl, rfl⟩
          · rintro ρ ⟨pr, z5, z6, e', rfl⟩
            rw [List.append_nil] at e'
            exact ⟨z5, z6, by rw [e']⟩
          rintro u us ρ ⟨pr, z5, z6, e', rfl⟩
          have hu : u.length ≤ 1000 := by
            have : u ∈ [v, w] := by rw [e']; simp
            simp only [List.mem_cons, List.not_mem_nil, or_false] at this
            rcases this with rfl | rfl
            · exact hv
            · exact hw
          have prl : pr.length ≤ 2 := by have := congrArg List.length e'; simp only [List.length_append, List.length_cons, List.length_nil] at this; omega
          rw [show (asgR 5 (.val (.tuple (u.map chD))) [some (.val Pd), some (.val (.int (a : Int))), some (.own (.lst ((pre.map (mvP (phi a))).map plD))), some (.val Zd), some (.own (.lst (pr.map fun u => PyData.tuple ((u.map (mv (phi a))).map chD)))), z5, z6]) = .ret [some (.val Pd), some (.val (.int (a : Int))), some (.own (.lst ((pre.map (mvP (phi a))).map plD))), some (.val Zd), some (.own (.lst (pr.map fun u => PyData.tuple ((u.map (mv (phi a))).map chD)))), some (.val (.tuple (u.map chD))), z6] from rfl, retB]
          walk_at "wk"
          rw [List.length_map, if_pos (by omega)]
          rw [lcL_map chD (fun c => chD (mv (phi a) c)) u [] fun c hc => ⟨_, by walk_at "pr", rfl, by
            unfold chD
            walk_at "wk"
            rw [ge_phi]
            rfl⟩]
          walk_at "wk"
          rw [List.length_map, if_pos (by omega)]
          walk_at "wk"
          exact ⟨pr ++ [u], _, _, by rw [e', List.append_assoc]; rfl, by rw [List.map_append (l₁ := pr), List.nil_append, show (u.map fun c => chD (mv (phi a) c)) = (u.map (mv (phi a))).map chD from by rw [List.map_map]; rfl]; rfl⟩
        rintro r ⟨z5, z6, rfl⟩
        walk_at "wk"
        exact ⟨_, _, _, rfl⟩
    rintro ρ ⟨z4, z5, z6, rfl⟩
    have pl : pre.length ≤ 30 := by have := congrArg List.length e; rw [List.length_append] at this; omega
    walk_at "wk"
    rw [List.length_map, List.length_map, if_pos (by omega)]
    walk_at "wk"
    exact ⟨pre ++ [p], _, _, _, _, by rw [e, List.append_assoc]; rfl, by rw [List.map_append, List.map_append]; rfl⟩
  rintro ρ ⟨z3, z4, z5, z6, rfl⟩
  walk_at "wk"

local macro_rules | `(tactic| walk_at "pe") => `(tactic| simp (config := {maxSteps := 2000000}) only [bind_bind, bindR, retB, failB, anyB, iteB, wp_retE, wp_failE,
  ↓kSeq_nx, ↓kSeq_rt, ↓kSeq_bk, ↓kSeq_ct, ↓mNext_eq, ↓mBreak_eq, ↓mCont_eq, ↓mDrop_eq, ↓mRet_eq, ↓mRetN_eq, ↓mAsg_eq, ↓mIf_eq, ↓gVar_eq, gAt_v, gAt_o, gAt_b, gAt_t, ↓mRetV_eq, rAt_s, ↓asgR_eq, aAt_v, aAt_o,
  get_0, get_s, set_0', set_s', List.getElem?_cons_zero, List.getElem?_cons_succ, List.set_cons_zero, List.set_cons_succ, ↓aNil_eq, ↓aCons_eq, ↓aTup_eq, ↓mPar_eq, ↓kPar_v, ↓gC_eq, ↓gaNil_eq, ↓gaCons_eq, ↓gTupE_eq, ↓gLst_eq, ↓gOp_eq, ↓gUn_eq, ↓gCall_eq, ↓gFn_eq, map_nilC, map_consC, lend_v, lend_o, lend_b, lend_t,
  ↓gTru_eq, ↓gTest_eq, oBl_b, oTru_v, oTru_o, oTru_b, truD_n, truD_b, truD_i, truD_t, mAnd_r, mOr_r, mAnd_t, mAnd_f, mOr_t, mOr_f, ↓gAnd_eq, ↓gOr_eq, ↓gNot_eq, mAndC_r, mAndC_f, mOrC_r, ↓gAndT_eq, ↓gOrT_eq, ↓gNotT_eq, ↓gIfE_eq, ↓gChain_eq, ↓gNo_eq, ↓gSome_eq, oInt?_i, ↓gSl_eq, oSl_t, oSl_b, ↓gSl2_eq, kSl2_t,
  ↓gIt_eq, ↓gItV_eq, kItV_v, kItV_b, kItV_o, itV_t, itV_s, itV_b, itV_o, itD_t, itD_s, itD_o, ↓gItR1_eq, ↓gItR2_eq, ↓gItR3_eq, itR3_i, itR1_i, itR2_i, ↓gLc_eq, wipe_n, wipe_c, ↓gYes_eq, ↓gR1_eq, kR1_i, ↓gR2_eq, kR2_i, ↓gLstRg_eq, ↓gTupRg_eq, ↓mFor_eq, ↓mForV_eq, ↓mForRev_eq, kForRev_o, kForRev_t, kForV_o, kForV_b, kForV_t, kForV_s, ↓mApp_eq, appAt_o, kApp_v,
  ↓fnU_eq, rp_0, rp_s, ap_n, ap_c, ms_n, ms_c, out_rt, out_nx, oAdd_i, oAdd_s, oAdd_t, oAdd_oo, oAdd_bo, oAdd_bb, oAdd_ob, oInt_v, oMul_i, oNeg_i, oEq_i, oNe_i, oEq_b, oNe_b, oEq_s, oNe_s, oIx_t, oIx_s, oIx_o, oIx_b, atD_0, atD_1, atD_2, atD_3, atD_4, atD_5, atD_6, atD_7, atD_8, datas_n, datas_v, mp_some, oTup_eq, oLst_eq, kTup_s, kLst_s, len_n, len_c,
  o1_v, o1_o, o1_b, lenD_t, lenD_l, lenD_s, absD_i, intD_i, intD_b, oMax2_i, oMin2_i, oGcd_i, oListC_t, oListC_o, oListC_b, oTupC_t, oTupC_o, oTupC_b, isi_bi, isi_ii, isi_ib, isi_bb, isi_ni, isi_ss, isi_nb, oIsi_v, tyD_b, tyD_i, tyD_s, tyD_n, oIsX_n, oIsX_b, isN_n, isN_i, isN_b, isN_s, isN_t, aUnl_o, aUnl_b, oIx_l, ↓gTRev_eq, oTRev_t, ↓gEnT_eq, enC_t, ↓gDZip_eq, kForV_l, truD_l, oSl_l, itD_l, itV_l, oListC_l, oTupC_l, kIdxL_l, oAdd_lo, oAdd_ol, oAdd_ll, oAdd_lb, oAdd_bl, ↓mFrz_eq, kFrz_o, kFrz_v, kFrz_b, kFrz_n, ↓gFrz_eq, frzC_o, frzC_v, ↓gItI_eq, itI_t, itI_l, itI_s, ↓gDcT_eq, ↓gLc2_eq, ↓gLock_eq, lockAt_o, lockC_v, lockC_o, ↓gKeys_eq, keysAt_b, ↓mDPut_eq, dputAt_T, dputAt_K, ↓gNewT_eq, ↓gNewK_eq, ↓gDGet1_eq, ↓mSetAt_eq, setAt_o, ↓mAugI_eq, augAt_i, kAug_i, ↓gZip_eq, zipD_t, ↓gIdxL_eq, kIdxL_b, kIdxL_o, idxA_v, ↓gIdxK_eq, ↓gSix_eq, kSix_s, oLtU_i, oLtU_s, oLtU_b, ↓gFnD_eq, ↓gFnK_eq, kFnK_21, mOrCt, mOrCf, mAndCt, mAndCf, ↓gF_eq, ↓gFt_eq, ↓mF_eq, oIsiX_v, tyX_b, tyX_i, tyX_s, tyX_n, tyX_t, isiX_ts, isiX_tb, isiX_ti, isiX_tt, isiX_st, isiX_sb, isiX_si, isiX_bs, isiX_bt, isiX_is, isiX_it, isiX_ns, isiX_nt, 
  lenOk, decide_eq_true_eq, Nat.reduceAdd, Nat.reduceLeDiff, Nat.reduceEqDiff, Int.reduceEq, Bool.false_xor, Bool.true_xor, Bool.false_or, Bool.or_false, Bool.true_or, Bool.or_true, Bool.true_and, Bool.and_true, Bool.false_and, Bool.and_false, Bool.not_false, Bool.not_true, Bool.false_eq_true, if_true, if_false, reduceIte, ↓reduceIte, decide_true, decide_false, List.length_cons, List.length_nil])
local macro_rules | `(tactic| walk_at "pl") => `(tactic| simp (config := {maxSteps := 2000000}) only [bind_bind, bindR, retB, failB, anyB, iteB, wp_retE, wp_failE,
  ↓mSeq_eq, ↓kSeq_nx, ↓kSeq_rt, ↓kSeq_bk, ↓kSeq_ct, ↓mNext_eq, ↓mBreak_eq, ↓mCont_eq, ↓mDrop_eq, ↓mRet_eq, ↓mRetN_eq, ↓mAsg_eq, ↓mIf_eq, ↓gVar_eq, gAt_v, gAt_o, gAt_b, gAt_t, ↓mRetV_eq, rAt_s, ↓asgR_eq, aAt_v, aAt_o,
  get_0, get_s, set_0', set_s', List.getElem?_cons_zero, List.getElem?_cons_succ, List.set_cons_zero, List.set_cons_succ, ↓aNil_eq, ↓aCons_eq, ↓aTup_eq, ↓mPar_eq, ↓kPar_v, ↓gC_eq, ↓gaNil_eq, ↓gaCons_eq, ↓gTupE_eq, ↓gLst_eq, ↓gOp_eq, ↓gUn_eq, ↓gCall_eq, ↓gFn_eq, map_nilC, map_consC, lend_v, lend_o, lend_b, lend_t,
  ↓gTru_eq, ↓gTest_eq, oBl_b, oTru_v, oTru_o, oTru_b, truD_n, truD_b, truD_i, truD_t, mAnd_r, mOr_r, mAnd_t, mAnd_f, mOr_t, mOr_f, ↓gAnd_eq, ↓gOr_eq, ↓gNot_eq, mAndC_r, mAndC_f, mOrC_r, ↓gAndT_eq, ↓gOrT_eq, ↓gNotT_eq, ↓gIfE_eq, ↓gChain_eq, ↓gNo_eq, ↓gSome_eq, oInt?_i, ↓gSl_eq, oSl_t, oSl_b, ↓gSl2_eq, kSl2_t,
  ↓gIt_eq, ↓gItV_eq, kItV_v, kItV_b, kItV_o, itV_t, itV_s, itV_b, itV_o, itD_t, itD_s, itD_o, ↓gItR1_eq, ↓gItR2_eq, ↓gItR3_eq, itR3_i, itR1_i, itR2_i, ↓gLc_eq, wipe_n, wipe_c, ↓gYes_eq, ↓gR1_eq, kR1_i, ↓gR2_eq, kR2_i, ↓gLstRg_eq, ↓gTupRg_eq, ↓mFor_eq, ↓mForV_eq, ↓mForRev_eq, kForRev_o, kForRev_t, kForV_o, kForV_b, kForV_t, kForV_s, ↓mApp_eq, appAt_o, kApp_v,
  ↓fnU_eq, rp_0, rp_s, ap_n, ap_c, ms_n, ms_c, out_rt, out_nx, oAdd_i, oAdd_s, oAdd_t, oAdd_oo, oAdd_bo, oAdd_bb, oAdd_ob, oInt_v, oMul_i, oNeg_i, oEq_i, oNe_i, oEq_b, oNe_b, oEq_s, oNe_s, oIx_t, oIx_s, oIx_o, oIx_b, atD_0, atD_1, atD_2, atD_3, atD_4, atD_5, atD_6, atD_7, atD_8, datas_n, datas_v, mp_some, oTup_eq, oLst_eq, kTup_s, kLst_s, len_n, len_c,
  o1_v, o1_o, o1_b, lenD_t, lenD_l, lenD_s, absD_i, intD_i, intD_b, oMax2_i, oMin2_i, oGcd_i, oListC_t, oListC_o, oListC_b, oTupC_t, oTupC_o, oTupC_b, isi_bi, isi_ii, isi_ib, isi_bb, isi_ni, isi_ss, isi_nb, oIsi_v, tyD_b, tyD_i, tyD_s, tyD_n, oIsX_n, oIsX_b, isN_n, isN_i, isN_b, isN_s, isN_t, aUnl_o, aUnl_b, oIx_l, ↓gTRev_eq, oTRev_t, ↓gEnT_eq, enC_t, ↓gDZip_eq, kForV_l, truD_l, oSl_l, itD_l, itV_l, oListC_l, oTupC_l, kIdxL_l, oAdd_lo, oAdd_ol, oAdd_ll, oAdd_lb, oAdd_bl, ↓mFrz_eq, kFrz_o, kFrz_v, kFrz_b, kFrz_n, ↓gFrz_eq, frzC_o, frzC_v, ↓gItI_eq, itI_t, itI_l, itI_s, ↓gDcT_eq, ↓gLc2_eq, ↓gLock_eq, lockAt_o, lockC_v, lockC_o, ↓gKeys_eq, keysAt_b, ↓mDPut_eq, dputAt_T, dputAt_K, ↓gNewT_eq, ↓gNewK_eq, ↓gDGet1_eq, ↓mSetAt_eq, setAt_o, ↓mAugI_eq, augAt_i, kAug_i, ↓gZip_eq, zipD_t, ↓gIdxL_eq, kIdxL_b, kIdxL_o, idxA_v, ↓gIdxK_eq, ↓gSix_eq, kSix_s, oLtU_i, oLtU_s, oLtU_b, ↓gFnD_eq, ↓gFnK_eq, kFnK_21, mOrCt, mOrCf, mAndCt, mAndCf, ↓gF_eq, ↓gFt_eq, ↓mF_eq, oIsiX_v, tyX_b, tyX_i, tyX_s, tyX_n, tyX_t, isiX_ts, isiX_tb, isiX_ti, isiX_tt, isiX_st, isiX_sb, isiX_si, isiX_bs, isiX_bt, isiX_is, isiX_it, isiX_ns, isiX_nt, 
  lenOk, decide_eq_true_eq, Nat.reduceAdd, Nat.reduceLeDiff, Nat.reduceEqDiff, Int.reduceEq, Bool.false_xor, Bool.true_xor, Bool.false_or, Bool.or_false, Bool.true_or, Bool.or_true, Bool.true_and, Bool.and_true, Bool.false_and, Bool.and_false, Bool.not_false, Bool.not_true, Bool.false_eq_true, if_true, if_false, reduceIte, ↓reduceIte, decide_true, decide_false, List.length_cons, List.length_nil])
local macro_rules | `(tactic| walk_at "pr") => `(tactic| ((try walk_at "pl"); try rfl))
local macro_rules | `(tactic| walk_at "wk") => `(tactic| try walk_at "pl")
local macro_rules | `(tactic| walk_at "we") => `(tactic| try walk_at "pe")

theorem ch_rep4 : ∀ v : List Ch, (∀ c ∈ v, c.1 ≤ 1000) → plainAll (v.map chD) = true ∧ PyData.depthAll (v.map chD) ≤ 2 ∧ costAll (v.map chD) ≤ 4000 * v.length
  | [], _ => ⟨rfl, by simp [PyData.depthAll], by simp [costAll]⟩
  | c :: v, h => by
    obtain ⟨h1, h2, h3⟩ := ch_rep4 v fun d hd => h d (List.mem_cons_of_mem _ hd)
    have hc := h c List.mem_cons_self
    obtain ⟨i, s⟩ := c
    have p1 : plainD (chD (i, s)) = true := by
      simp only [chD, plainD, plainAll, Bool.and_true, Bool.and_eq_true]
      exact ⟨small_int (by omega) (by omega), by cases s <;> decide +kernel⟩
    refine ⟨?_, ?_, ?_⟩
    · rw [List.map_cons, plainAll, p1, h1]; rfl
    · rw [List.map_cons]
      simp only [PyData.depthAll, chD, PyData.depth]
      omega
    · rw [List.map_cons, List.length_cons]
      simp only [costAll, chD, cost]
      omega
theorem plat_rep {P : Pb} (hP : PbS P) {n : Nat} (hn : n < P.labs.length) {d : PyData} (h : PlAt P n d) : plainD d = true ∧ d.depth ≤ 4 ∧ cost d ≤ 700000 := by
  have nl := hP.nl
  rcases h with ⟨_, s, _, rfl⟩ | ⟨_, v, w, h1, h2, rfl⟩
  · refine ⟨by cases s <;> decide +kernel, by simp [PyData.depth], by simp only [cost]; omega⟩
  · have kl := kept_len P n
    have mem : n ∈ keptF P n ++ [n] := by simp
    have small : ∀ c : Ch, c.1 ∈ keptF P n ++ [n] → c.1 ≤ 1000 := fun c hc => by
      rcases List.mem_append.mp hc with z | z
      · have := kept_lt z; omega
      · rw [List.mem_singleton.mp z]; omega
    have hv := way_in (FirstWay.way h1) mem
    have hw := way_in (FirstWay.way h2) mem
    have vl := chain_small (s := (n, false)) mem (by rw [List.length_append, List.length_singleton]; omega) h1
    have wl := chain_small (s := (n, true)) mem (by rw [List.length_append, List.length_singleton]; omega) h2
    obtain ⟨v1, v2, v3⟩ := ch_rep4 v fun c hc => small c (hv c hc)
    obtain ⟨w1, w2, w3⟩ := ch_rep4 w fun c hc => small c (hw c hc)
    refine ⟨by simp only [plainD, plainAll, v1, w1]; rfl, by simp only [PyData.depth, PyData.depthAll]; omega, by simp only [cost, costAll]; omega⟩
theorem all_rep {c : Nat} : ∀ {ds : List PyData}, (∀ d ∈ ds, plainD d = true ∧ d.depth ≤ 4 ∧ cost d ≤ c) → plainAll ds = true ∧ PyData.depthAll ds ≤ 4 ∧ costAll ds ≤ (c + 2) * ds.length
  | [], _ => ⟨rfl, by simp [PyData.depthAll], by simp [costAll]⟩
  | d :: ds, h => by
    obtain ⟨h1, h2, h3⟩ := all_rep fun e he => h e (List.mem_cons_of_mem _ he)
    obtain ⟨k1, k2, k3⟩ := h d List.mem_cons_self
    refine ⟨by rw [plainAll, k1, h1]; rfl, by simp only [PyData.depthAll]; omega, ?_⟩
    simp only [costAll, List.length_cons, Nat.mul_succ]
    omega
theorem places_rep {P : Pb} (hP : PbS P) {ds : List PyData} (h : Places P P.labs.length ds) : RepOk (.tuple ds) := by
  have nl := hP.nl
  have each : ∀ d ∈ ds, plainD d = true ∧ d.depth ≤ 4 ∧ cost d ≤ 700000 := fun d hd => by
    obtain ⟨n, hn, e⟩ := List.getElem_of_mem hd
    rw [h.1] at hn
    obtain ⟨x, h1, h2⟩ := h.2 n hn
    rw [List.getElem?_eq_getElem (by rw [h.1]; exact hn), e] at h1
    cases h1
    exact plat_rep hP hn h2
  obtain ⟨h1, h2, h3⟩ := all_rep each
  have : (700000 + 2) * ds.length ≤ 700002 * 20 := Nat.mul_le_mul_left _ (by rw [h.1]; exact nl)
  refine ⟨by simp only [plainD]; exact h1, by simp only [PyData.depth]; omega, by simp only [cost]; rw [show sizeLine = 16777216 by decide]; omega⟩

/-! problems that are alike as far as freeness and overlapping go -/
section
variable {F F' : Ch → Bool} {O O' : Ch → Ch → Bool} {N : Nat}
theorem longer_cg (hF : ∀ c, c.1 < N → F c = F' c) (hO : ∀ c d, c.1 < N → d.1 < N → O c d = O' c d) {kept : List Nat} {n : Nat} (hk : ∀ i ∈ kept, i < N) (hn : n < N) (rows : List (List Bool)) : longer F O kept rows n = longer F' O' kept rows n := by
  unfold longer
  refine congrArg (fun f => rows.flatMap f) (funext fun row => ?_)
  refine congrArg _ (List.filter_congr fun s _ => ?_)
  unfold okS
  rw [hF (n, s) hn, Bool.eq_iff_iff, Bool.and_eq_true, Bool.and_eq_true, List.all_eq_true, List.all_eq_true]
  have e : ∀ c ∈ kept.zip row, (!O (n, s) c) = !O' (n, s) c := fun c hc => by rw [hO (n, s) c hn (hk _ (List.of_mem_zip hc).1)]
  exact ⟨fun ⟨a, b⟩ => ⟨a, fun c hc => by rw [← e c hc]; exact b c hc⟩, fun ⟨a, b⟩ => ⟨a, fun c hc => by rw [e c hc]; exact b c hc⟩⟩
theorem rowsF_cg (hF : ∀ c, c.1 < N → F c = F' c) (hO : ∀ c d, c.1 < N → d.1 < N → O c d = O' c d) : ∀ (L kept : List Nat) (rows : List (List Bool)), (∀ i ∈ kept, i < N) → (∀ i ∈ L, i < N) → rowsF F O kept rows L = rowsF F' O' kept rows L
  | [], _, _, _, _ => rfl
  | n :: L, kept, rows, hk, hl => by
    have hn := hl n List.mem_cons_self
    rw [rowsF, rowsF, longer_cg hF hO hk hn]
    exact rowsF_cg hF hO L _ _ (fun i hi => by
      rcases List.mem_append.mp hi with z | z
      · exact hk i z
      · rw [List.mem_singleton.mp z]; exact hn) fun i hi => hl i (List.mem_cons_of_mem _ hi)
theorem fo_cg (hF : ∀ c, c.1 < N → F c = F' c) (hO : ∀ c d, c.1 < N → d.1 < N → O c d = O' c d) {c d : Ch} (hc : c.1 < N) (hd : d.1 < N) : Fo F O c d = Fo F' O' c d := by
  unfold Fo
  rw [hF c hc, hO c (ng d) hc hd]
theorem way_cg {G G' : Ch → Ch → Bool} {A : List Nat} (h : ∀ c d : Ch, c.1 ∈ A → d.1 ∈ A → G c d = G' c d) {c d : Ch} {w : List Ch} (k : Way G (chs A) c d w) : c.1 ∈ A → Way G' (chs A) c d w := by
  induction k with
  | one c => intro _; exact .one c
  | @cons c x d w f hx _ ih =>
    intro hc
    have hxA := mem_chs.mp hx
    exact .cons (by rw [← h c x hc hxA]; exact f) hx (ih hxA)
end
structure Alike (P P' : Pb) : Prop where
  len : P.labs.length = P'.labs.length
  fr : ∀ c : Ch, c.1 < P.labs.length → Fr P c = Fr P' c
  ol : ∀ c d : Ch, c.1 < P.labs.length → d.1 < P.labs.length → Ol P c d = Ol P' c d
section
variable {P P' : Pb} (a : Alike P P')
include a
theorem Alike.symm : Alike P' P := ⟨a.len.symm, fun c hc => (a.fr c (by rw [a.len]; exact hc)).symm, fun c d hc hd => (a.ol c d (by rw [a.len]; exact hc) (by rw [a.len]; exact hd)).symm⟩
theorem Alike.rows {A : List Nat} (hA : InP P A) : rowsOf P A = rowsOf P' A := rowsF_cg a.fr a.ol A [] [[]] (fun i h => absurd h List.not_mem_nil) hA
theorem Alike.kept : ∀ n, n ≤ P.labs.length → keptF P n = keptF P' n
  | 0, _ => rfl
  | n + 1, h => by
    have ih := Alike.kept n (by omega)
    rw [keptF_s, keptF_s, ← ih, a.rows (snoc_in (by omega))]
theorem Alike.way {A : List Nat} (hA : InP P A) {c d : Ch} {w : List Ch} (hc : c.1 ∈ A) : Way (FoP P) (chs A) c d w ↔ Way (FoP P') (chs A) c d w :=
  ⟨fun k => way_cg (fun x y hx hy => fo_cg a.fr a.ol (hA _ hx) (hA _ hy)) k hc, fun k => way_cg (fun x y hx hy => (fo_cg a.fr a.ol (hA _ hx) (hA _ hy)).symm) k hc⟩
theorem Alike.chain {A : List Nat} (hA : InP P A) {c d : Ch} {r : Option (List Ch)} (hc : c.1 ∈ A) (h : IsChain P A c d r) : IsChain P' A c d r := by
  cases r with
  | none => exact fun w hw => h w ((a.way hA hc).mpr hw)
  | some v =>
    have h : FirstWay (FoP P) (chs A) c d v := h
    exact ⟨(a.way hA hc).mp h.way, fun w hw => h.short w ((a.way hA hc).mpr hw), fun w hw e => h.first w ((a.way hA hc).mpr hw) e⟩
theorem Alike.row : rowK P = rowK P' := by
  unfold rowK
  rw [a.rows (fun i hi => kept_lt hi), a.kept _ (Nat.le_refl _), a.len]
theorem Alike.plat {n : Nat} {d : PyData} (hn : n < P.labs.length) (h : PlAt P n d) : PlAt P' n d := by
  have ek := a.kept _ (Nat.le_refl _)
  rw [a.len] at ek
  unfold PlAt at h ⊢
  rw [a.len, ek, a.row] at h
  rcases h with h | ⟨h1, v, w, h2, h3, h4⟩
  · exact .inl h
  · refine .inr ⟨h1, v, w, ?_, ?_, h4⟩
    · rw [← a.kept n (by omega)]
      exact a.chain (snoc_in hn) (by simp) h2
    · rw [← a.kept n (by omega)]
      exact a.chain (snoc_in hn) (by simp) h3
theorem Alike.places {ds : List PyData} (h : Places P P.labs.length ds) : Places P' P'.labs.length ds := by
  refine ⟨h.1.trans a.len, fun n hn => ?_⟩
  rw [← a.len] at hn
  obtain ⟨d, h1, h2⟩ := h.2 n hn
  exact ⟨d, h1, a.plat hn h2⟩
end

theorem kept_all (P : Pb) : All (Fr P) (Ol P) (keptF P P.labs.length) (rowsOf P (keptF P P.labs.length)) := by
  have := all_rows (Fre := Fr P) (Ov := Ol P) (ol_sym P) (keptF P P.labs.length) [] [[]] (by simpa using kept_nd P P.labs.length) all_nil
  rwa [List.nil_append] at this
theorem kept_first (P : Pb) : ∃ σ, VP (Fr P) (Ol P) (keptF P P.labs.length) σ ∧ rowK P = (keptF P P.labs.length).map σ ∧ ∀ τ, VP (Fr P) (Ol P) (keptF P P.labs.length) τ → rowK P = (keptF P P.labs.length).map τ ∨ lx (rowK P) ((keptF P P.labs.length).map τ) := by
  have all := kept_all P
  have ne := (kept_range P P.labs.length).2
  unfold rowK
  cases e : rowsOf P (keptF P P.labs.length) with
  | nil => rw [e] at ne; cases ne
  | cons r rs =>
    rw [e] at all
    obtain ⟨σ, h1, h2⟩ := all.snd r List.mem_cons_self
    refine ⟨σ, h1, h2, fun τ hτ => ?_⟩
    rcases List.mem_cons.mp (all.cpl τ hτ) with z | z
    · exact .inl z.symm
    · exact .inr ((List.pairwise_cons.mp all.srt).1 _ z)
theorem sideIn_map : ∀ {A : List Nat} {σ : Nat → Bool} {n : Nat}, n ∈ A → sideIn A (A.map σ) n = some (σ n)
  | a :: A, σ, n, h => by
    rw [List.map_cons]
    unfold sideIn
    by_cases e : a = n
    · rw [if_pos e, e]
    · rw [if_neg e]
      rcases List.mem_cons.mp h with z | z
      · exact absurd z.symm e
      · exact sideIn_map z

theorem cutT_to {ds : List PyData} {k : Nat} (h : k ≤ ds.length) : cutD ds none (some (k : Int)) = ds.take k := by
  unfold cutD
  rw [HT.sIx_none, HT.sIx_nat, Nat.min_eq_left h, Nat.sub_zero]
  rfl
theorem cutT_from {ds : List PyData} {k : Nat} (h : k ≤ ds.length) : cutD ds (some (k : Int)) none = ds.drop k := by
  unfold cutD
  rw [HT.sIx_none, HT.sIx_nat, Nat.min_eq_left h, ← List.length_drop, List.take_length]
theorem pd0 {P : Pb} : oIx (.val P.d) (.val (.int 0)) = .ret (.val P.area.d) := by unfold Pb.d; walk_at "wk"
theorem pd1 {P : Pb} : oIx (.val P.d) (.val (.int 1)) = .ret (.val (.tuple (P.obs.map R.d))) := by unfold Pb.d; walk_at "wk"
theorem ad0 {r : R} : oIx (.val r.d) (.val (.int 0)) = .ret (.val (.int r.l)) := by unfold R.d; walk_at "wk"
theorem ad1 {r : R} : oIx (.val r.d) (.val (.int 1)) = .ret (.val (.int r.t)) := by unfold R.d; walk_at "wk"
theorem ad2 {r : R} : oIx (.val r.d) (.val (.int 2)) = .ret (.val (.int r.w)) := by unfold R.d; walk_at "wk"
theorem ad3 {r : R} : oIx (.val r.d) (.val (.int 3)) = .ret (.val (.int r.h)) := by unfold R.d; walk_at "wk"
theorem mIns_at {i : Nat} {gs : Ro → M (List C)} {ρ : Ro} {ds : List PyData} (h : ρ[i]? = some (some (.own (.lst ds)))) {j : Int} {d : PyData} (hg : gs ρ = .ret [.val (.int j), .val d]) (j0 : 0 ≤ j) (j1 : j < 1000000) (hl : ds.length < 1000000) : mIns i gs ρ = .ret (.nx (setOwn i (ds.take j.toNat ++ [d] ++ ds.drop j.toNat) ρ)) := by
  unfold mIns
  rw [h]
  show (gs ρ).bind _ = _
  rw [hg, retB]
  show (if (decide (0 ≤ j) && (decide (j < 9223372036854775808) && lenOk (ds.length + 1))) = true then _ else _) = _
  rw [decide_eq_true j0, decide_eq_true (show j < 9223372036854775808 by omega), show lenOk (ds.length + 1) = true from decide_eq_true (by omega)]
  rfl
theorem PlOk.at {P : Pb} {n : Nat} {p : Pl} (h : PlOk P n p) : PlAt P n (plD p) := by
  rcases h with ⟨h1, s, h2, rfl⟩ | ⟨h1, v, w, h2, h3, rfl⟩
  · exact .inl ⟨h1, s, h2, rfl⟩
  · exact .inr ⟨h1, v, w, h2, h3, rfl⟩
theorem places_of {P : Pb} {pls : List Pl} (hl : pls.length = P.labs.length) (h : ∀ k p, pls[k]? = some p → PlOk P k p) : Places P P.labs.length (pls.map plD) :=
  ⟨by rw [List.length_map, hl], fun n hn => by
    have e : pls[n]? = some (pls[n]'(by omega)) := List.getElem?_eq_getElem (by omega)
    exact ⟨plD (pls[n]'(by omega)), by rw [List.getElem?_map, e]; rfl, (h n _ e).at⟩⟩

local macro_rules | `(tactic| walk_at "pe") => `(tactic| simp (config := {maxSteps := 2000000}) only [bind_bind, bindR, retB, failB, anyB, iteB, wp_retE, wp_failE,
  ↓kSeq_nx, ↓kSeq_rt, ↓kSeq_bk, ↓kSeq_ct, ↓mNext_eq, ↓mBreak_eq, ↓mCont_eq, ↓mDrop_eq, ↓mRet_eq, ↓mRetN_eq, ↓mAsg_eq, ↓mIf_eq, ↓gVar_eq, gAt_v, gAt_o, gAt_b, gAt_t, ↓mRetV_eq, rAt_s, ↓asgR_eq, aAt_v, aAt_o,
  get_0, get_s, set_0', set_s', List.getElem?_cons_zero, List.getElem?_cons_succ, List.set_cons_zero, List.set_cons_succ, ↓aNil_eq, ↓aCons_eq, ↓aTup_eq, ↓mPar_eq, ↓kPar_v, ↓gC_eq, ↓gaNil_eq, ↓gaCons_eq, ↓gTupE_eq, ↓gLst_eq, ↓gOp_eq, ↓gUn_eq, ↓gCall_eq, ↓gFn_eq, map_nilC, map_consC, lend_v, lend_o, lend_b, lend_t,
  ↓gTru_eq, ↓gTest_eq, oBl_b, oTru_v, oTru_o, oTru_b, truD_n, truD_b, truD_i, truD_t, mAnd_r, mOr_r, mAnd_t, mAnd_f, mOr_t, mOr_f, ↓gAnd_eq, ↓gOr_eq, ↓gNot_eq, mAndC_r, mAndC_f, mOrC_r, ↓gAndT_eq, ↓gOrT_eq, ↓gNotT_eq, ↓gIfE_eq, ↓gChain_eq, ↓gNo_eq, ↓gSome_eq, oInt?_i, ↓gSl_eq, oSl_t, oSl_b, ↓gSl2_eq, kSl2_t,
  ↓gIt_eq, ↓gItV_eq, kItV_v, kItV_b, kItV_o, itV_t, itV_s, itV_b, itV_o, itD_t, itD_s, itD_o, ↓gItR1_eq, ↓gItR2_eq, ↓gItR3_eq, itR3_i, itR1_i, itR2_i, ↓gLc_eq, wipe_n, wipe_c, ↓gYes_eq, ↓gR1_eq, kR1_i, ↓gR2_eq, kR2_i, ↓gLstRg_eq, ↓gTupRg_eq, ↓mFor_eq, ↓mForV_eq, ↓mForRev_eq, kForRev_o, kForRev_t, kForV_o, kForV_b, kForV_t, kForV_s, ↓mApp_eq, appAt_o, kApp_v,
  ↓fnU_eq, rp_0, rp_s, ap_n, ap_c, ms_n, ms_c, out_rt, out_nx, oAdd_i, oAdd_s, oAdd_t, oAdd_oo, oAdd_bo, oAdd_bb, oAdd_ob, oInt_v, oMul_i, oNeg_i, oEq_i, oNe_i, oEq_b, oNe_b, oEq_s, oNe_s, oIx_t, oIx_s, oIx_o, oIx_b, atD_0, atD_1, atD_2, atD_3, atD_4, atD_5, atD_6, atD_7, atD_8, datas_n, datas_v, mp_some, oTup_eq, oLst_eq, kTup_s, kLst_s, len_n, len_c,
  o1_v, o1_o, o1_b, lenD_t, lenD_l, lenD_s, absD_i, intD_i, intD_b, oMax2_i, oMin2_i, oGcd_i, oListC_t, oListC_o, oListC_b, oTupC_t, oTupC_o, oTupC_b, isi_bi, isi_ii, isi_ib, isi_bb, isi_ni, isi_ss, isi_nb, oIsi_v, tyD_b, tyD_i, tyD_s, tyD_n, oIsX_n, oIsX_b, isN_n, isN_i, isN_b, isN_s, isN_t, aUnl_o, aUnl_b, oIx_l, ↓gTRev_eq, oTRev_t, ↓gEnT_eq, enC_t, ↓gDZip_eq, kForV_l, truD_l, oSl_l, itD_l, itV_l, oListC_l, oTupC_l, kIdxL_l, oAdd_lo, oAdd_ol, oAdd_ll, oAdd_lb, oAdd_bl, ↓mFrz_eq, kFrz_o, kFrz_v, kFrz_b, kFrz_n, ↓gFrz_eq, frzC_o, frzC_v, ↓gItI_eq, itI_t, itI_l, itI_s, ↓gDcT_eq, ↓gLc2_eq, ↓gLock_eq, lockAt_o, lockC_v, lockC_o, ↓gKeys_eq, keysAt_b, ↓mDPut_eq, dputAt_T, dputAt_K, ↓gNewT_eq, ↓gNewK_eq, ↓gDGet1_eq, ↓mSetAt_eq, setAt_o, ↓mAugI_eq, augAt_i, kAug_i, ↓gZip_eq, zipD_t, ↓gIdxL_eq, kIdxL_b, kIdxL_o, idxA_v, ↓gIdxK_eq, ↓gSix_eq, kSix_s, oLtU_i, oLtU_s, oLtU_b, ↓gFnD_eq, ↓gFnK_eq, kFnK_21, mOrCt, mOrCf, mAndCt, mAndCf, ↓gF_eq, ↓gFt_eq, ↓mF_eq, oIsiX_v, tyX_b, tyX_i, tyX_s, tyX_n, tyX_t, isiX_ts, isiX_tb, isiX_ti, isiX_tt, isiX_st, isiX_sb, isiX_si, isiX_bs, isiX_bt, isiX_is, isiX_it, isiX_ns, isiX_nt, 
  lenOk, decide_eq_true_eq, Nat.reduceAdd, Nat.reduceLeDiff, Nat.reduceEqDiff, Int.reduceEq, Bool.false_xor, Bool.true_xor, Bool.false_or, Bool.or_false, Bool.true_or, Bool.or_true, Bool.true_and, Bool.and_true, Bool.false_and, Bool.and_false, Bool.not_false, Bool.not_true, Bool.false_eq_true, if_true, if_false, reduceIte, ↓reduceIte, decide_true, decide_false, List.length_cons, List.length_nil])
local macro_rules | `(tactic| walk_at "pl") => `(tactic| simp (config := {maxSteps := 2000000}) only [bind_bind, bindR, retB, failB, anyB, iteB, wp_retE, wp_failE,
  ↓mSeq_eq, ↓kSeq_nx, ↓kSeq_rt, ↓kSeq_bk, ↓kSeq_ct, ↓mNext_eq, ↓mBreak_eq, ↓mCont_eq, ↓mDrop_eq, ↓mRet_eq, ↓mRetN_eq, ↓mAsg_eq, ↓mIf_eq, ↓gVar_eq, gAt_v, gAt_o, gAt_b, gAt_t, ↓mRetV_eq, rAt_s, ↓asgR_eq, aAt_v, aAt_o,
  get_0, get_s, set_0', set_s', List.getElem?_cons_zero, List.getElem?_cons_succ, List.set_cons_zero, List.set_cons_succ, ↓aNil_eq, ↓aCons_eq, ↓aTup_eq, ↓mPar_eq, ↓kPar_v, ↓gC_eq, ↓gaNil_eq, ↓gaCons_eq, ↓gTupE_eq, ↓gLst_eq, ↓gOp_eq, ↓gUn_eq, ↓gCall_eq, ↓gFn_eq, map_nilC, map_consC, lend_v, lend_o, lend_b, lend_t,
  ↓gTru_eq, ↓gTest_eq, oBl_b, oTru_v, oTru_o, oTru_b, truD_n, truD_b, truD_i, truD_t, mAnd_r, mOr_r, mAnd_t, mAnd_f, mOr_t, mOr_f, ↓gAnd_eq, ↓gOr_eq, ↓gNot_eq, mAndC_r, mAndC_f, mOrC_r, ↓gAndT_eq, ↓gOrT_eq, ↓gNotT_eq, ↓gIfE_eq, ↓gChain_eq, ↓gNo_eq, ↓gSome_eq, oInt?_i, ↓gSl_eq, oSl_t, oSl_b, ↓gSl2_eq, kSl2_t,
  ↓gIt_eq, ↓gItV_eq, kItV_v, kItV_b, kItV_o, itV_t, itV_s, itV_b, itV_o, itD_t, itD_s, itD_o, ↓gItR1_eq, ↓gItR2_eq, ↓gItR3_eq, itR3_i, itR1_i, itR2_i, ↓gLc_eq, wipe_n, wipe_c, ↓gYes_eq, ↓gR1_eq, kR1_i, ↓gR2_eq, kR2_i, ↓gLstRg_eq, ↓gTupRg_eq, ↓mFor_eq, ↓mForV_eq, ↓mForRev_eq, kForRev_o, kForRev_t, kForV_o, kForV_b, kForV_t, kForV_s, ↓mApp_eq, appAt_o, kApp_v,
  ↓fnU_eq, rp_0, rp_s, ap_n, ap_c, ms_n, ms_c, out_rt, out_nx, oAdd_i, oAdd_s, oAdd_t, oAdd_oo, oAdd_bo, oAdd_bb, oAdd_ob, oInt_v, oMul_i, oNeg_i, oEq_i, oNe_i, oEq_b, oNe_b, oEq_s, oNe_s, oIx_t, oIx_s, oIx_o, oIx_b, atD_0, atD_1, atD_2, atD_3, atD_4, atD_5, atD_6, atD_7, atD_8, datas_n, datas_v, mp_some, oTup_eq, oLst_eq, kTup_s, kLst_s, len_n, len_c,
  o1_v, o1_o, o1_b, lenD_t, lenD_l, lenD_s, absD_i, intD_i, intD_b, oMax2_i, oMin2_i, oGcd_i, oListC_t, oListC_o, oListC_b, oTupC_t, oTupC_o, oTupC_b, isi_bi, isi_ii, isi_ib, isi_bb, isi_ni, isi_ss, isi_nb, oIsi_v, tyD_b, tyD_i, tyD_s, tyD_n, oIsX_n, oIsX_b, isN_n, isN_i, isN_b, isN_s, isN_t, aUnl_o, aUnl_b, oIx_l, ↓gTRev_eq, oTRev_t, ↓gEnT_eq, enC_t, ↓gDZip_eq, kForV_l, truD_l, oSl_l, itD_l, itV_l, oListC_l, oTupC_l, kIdxL_l, oAdd_lo, oAdd_ol, oAdd_ll, oAdd_lb, oAdd_bl, ↓mFrz_eq, kFrz_o, kFrz_v, kFrz_b, kFrz_n, ↓gFrz_eq, frzC_o, frzC_v, ↓gItI_eq, itI_t, itI_l, itI_s, ↓gDcT_eq, ↓gLc2_eq, ↓gLock_eq, lockAt_o, lockC_v, lockC_o, ↓gKeys_eq, keysAt_b, ↓mDPut_eq, dputAt_T, dputAt_K, ↓gNewT_eq, ↓gNewK_eq, ↓gDGet1_eq, ↓mSetAt_eq, setAt_o, ↓mAugI_eq, augAt_i, kAug_i, ↓gZip_eq, zipD_t, ↓gIdxL_eq, kIdxL_b, kIdxL_o, idxA_v, ↓gIdxK_eq, ↓gSix_eq, kSix_s, oLtU_i, oLtU_s, oLtU_b, ↓gFnD_eq, ↓gFnK_eq, kFnK_21, mOrCt, mOrCf, mAndCt, mAndCf, ↓gF_eq, ↓gFt_eq, ↓mF_eq, oIsiX_v, tyX_b, tyX_i, tyX_s, tyX_n, tyX_t, isiX_ts, isiX_tb, isiX_ti, isiX_tt, isiX_st, isiX_sb, isiX_si, isiX_bs, isiX_bt, isiX_is, isiX_it, isiX_ns, isiX_nt, 
  lenOk, decide_eq_true_eq, Nat.reduceAdd, Nat.reduceLeDiff, Nat.reduceEqDiff, Int.reduceEq, Bool.false_xor, Bool.true_xor, Bool.false_or, Bool.or_false, Bool.true_or, Bool.or_true, Bool.true_and, Bool.and_true, Bool.false_and, Bool.and_false, Bool.not_false, Bool.not_true, Bool.false_eq_true, if_true, if_false, reduceIte, ↓reduceIte, decide_true, decide_false, List.length_cons, List.length_nil])
local macro_rules | `(tactic| walk_at "pr") => `(tactic| ((try walk_at "pl"); try rfl))
local macro_rules | `(tactic| walk_at "wk") => `(tactic| try walk_at "pl")
local macro_rules | `(tactic| walk_at "we") => `(tactic| try walk_at "pe")

/-! one label more, that hinders none -/
theorem kept_vp {P : Pb} {n : Nat} (hn : n < P.labs.length) : n ∈ keptF P P.labs.length ↔ ∃ σ, VP (Fr P) (Ol P) (keptF P n ++ [n]) σ := by
  rw [kept_mem hn]
  constructor
  · intro h
    have ne : rowsOf P (keptF P n ++ [n]) ≠ [] := fun e => by rw [e] at h; cases h
    obtain ⟨σ, v⟩ := rowsOf_some snoc_nd ne
    exact ⟨σ, (val_vp trivial).mp v⟩
  · rintro ⟨σ, v⟩
    cases e : (rowsOf P (keptF P n ++ [n])).isEmpty with
    | false => rfl
    | true => exact absurd ((val_vp trivial).mpr v) ((rowsOf_none snoc_nd).mp (List.isEmpty_iff.mp e) σ)
theorem kept_low {P : Pb} {n i : Nat} (hn : n ≤ P.labs.length) : i ∈ keptF P n ↔ i ∈ keptF P P.labs.length ∧ i < n := by
  rw [← kept_filter hn, List.mem_filter, decide_eq_true_eq]
def ext (a : Nat) (σ : Nat → Bool) (n : Nat) : Bool := if n = a then false else σ (if n < a then n else n - 1)
theorem phi_ne {a i : Nat} : phi a i ≠ a := by unfold phi; split <;> omega
theorem ext_at {a : Nat} {σ : Nat → Bool} : ext a σ a = false := if_pos rfl
theorem ext_phi {a i : Nat} {σ : Nat → Bool} : ext a σ (phi a i) = σ i := by
  unfold ext
  rw [if_neg phi_ne]
  unfold phi
  by_cases h : i < a
  · rw [if_pos h, if_pos h]
  · rw [if_neg h, if_neg (by omega)]; rfl
theorem phi_mono {a i j : Nat} : phi a i < phi a j ↔ i < j := by unfold phi; split <;> split <;> omega
theorem phi_sur {a k : Nat} (h : k ≠ a) : ∃ i, k = phi a i := by
  by_cases l : k < a
  · exact ⟨k, (if_pos l).symm⟩
  · exact ⟨k - 1, by unfold phi; rw [if_neg (by omega)]; omega⟩
structure Inst (P Q : Pb) (a : Nat) : Prop where
  ha : a ≤ P.labs.length
  len : Q.labs.length = P.labs.length + 1
  up : ∀ (K B : List Nat) (σ : Nat → Bool), (∀ i ∈ K, i < P.labs.length) → (∀ i ∈ B, i = a ∨ ∃ j ∈ K, i = phi a j) → VP (Fr P) (Ol P) K σ → VP (Fr Q) (Ol Q) B (ext a σ)
  dn : ∀ (K B : List Nat) (τ : Nat → Bool), (∀ i ∈ K, i < P.labs.length) → (∀ j ∈ K, phi a j ∈ B) → (a ∈ B ∨ ∀ j ∈ K, j < a) → VP (Fr Q) (Ol Q) B τ → VP (Fr P) (Ol P) K fun i => τ (phi a i)
theorem lx_at : ∀ {A : List Nat} {σ τ : Nat → Bool}, A.Pairwise (· < ·) → (lx (A.map σ) (A.map τ) ↔ ∃ i ∈ A, (∀ j ∈ A, j < i → σ j = τ j) ∧ σ i = false ∧ τ i = true)
  | [], _, _, _ => ⟨fun h => h.elim, fun ⟨i, h, _⟩ => absurd h List.not_mem_nil⟩
  | b :: A, σ, τ, srt => by
    obtain ⟨hb, hs⟩ := List.pairwise_cons.mp srt
    rw [List.map_cons, List.map_cons]
    constructor
    · rintro (⟨h1, h2⟩ | ⟨h1, h2⟩)
      · exact ⟨b, List.mem_cons_self, fun j hj l => by
          rcases List.mem_cons.mp hj with z | z
          · omega
          · have := hb j z; omega, h1, h2⟩
      · obtain ⟨i, hi, k1, k2, k3⟩ := (lx_at hs).mp h2
        refine ⟨i, List.mem_cons_of_mem _ hi, fun j hj l => ?_, k2, k3⟩
        rcases List.mem_cons.mp hj with z | z
        · rw [z]; exact h1
        · exact k1 j z l
    · rintro ⟨i, hi, k1, k2, k3⟩
      rcases List.mem_cons.mp hi with z | z
      · subst z; exact .inl ⟨k2, k3⟩
      · exact .inr ⟨k1 b List.mem_cons_self (hb i z), (lx_at hs).mpr ⟨i, z, fun j hj l => k1 j (List.mem_cons_of_mem _ hj) l, k2, k3⟩⟩
section
variable {P Q : Pb} {a : Nat} (I : Inst P Q a)
include I
theorem Inst.at' (h : ∀ j, j < a → (j ∈ keptF Q Q.labs.length ↔ j ∈ keptF P P.labs.length)) : a ∈ keptF Q Q.labs.length := by
  have ha := I.ha
  have hl := I.len
  obtain ⟨σ, v, _⟩ := kept_first P
  refine (kept_vp (by omega)).mpr ⟨ext a σ, I.up _ _ σ (fun i hi => kept_lt hi) (fun i hi => ?_) v⟩
  rcases List.mem_append.mp hi with z | z
  · obtain ⟨z1, z2⟩ := (kept_low (by omega)).mp z
    exact .inr ⟨i, (h i z2).mp z1, (if_pos z2).symm⟩
  · exact .inl (List.mem_singleton.mp z)
theorem Inst.same (n : Nat) : n < P.labs.length → (phi a n ∈ keptF Q Q.labs.length ↔ n ∈ keptF P P.labs.length) := by
  have ha := I.ha
  have hl := I.len
  induction n using Nat.strongRecOn with
  | ind n ih =>
    intro hn
    have hph : phi a n < Q.labs.length := by rw [hl]; unfold phi; split <;> omega
    constructor
    · intro h
      obtain ⟨τ, v⟩ := (kept_vp hph).mp h
      refine (kept_vp hn).mpr ⟨_, I.dn (keptF P n ++ [n]) _ τ (snoc_in hn) (fun j hj => ?_) ?_ v⟩
      · rcases List.mem_append.mp hj with z | z
        · obtain ⟨z1, z2⟩ := (kept_low (by omega)).mp z
          exact List.mem_append.mpr (.inl ((kept_low (by omega)).mpr ⟨(ih j z2 (by omega)).mpr z1, phi_mono.mpr z2⟩))
        · rw [List.mem_singleton.mp z]; simp
      · by_cases l : n < a
        · right
          intro j hj
          have := snoc_in hn j hj
          rcases List.mem_append.mp hj with z | z
          · have := kept_lt z; omega
          · rw [List.mem_singleton.mp z]; exact l
        · left
          refine List.mem_append.mpr (.inl ((kept_low (by omega)).mpr ⟨I.at' fun j hj => ?_, by unfold phi; rw [if_neg l]; omega⟩))
          have := ih j (by omega) (by omega)
          rwa [show phi a j = j from if_pos hj] at this
    · intro h
      obtain ⟨σ, v⟩ := (kept_vp hn).mp h
      refine (kept_vp hph).mpr ⟨_, I.up (keptF P n ++ [n]) _ σ (snoc_in hn) (fun i hi => ?_) v⟩
      rcases List.mem_append.mp hi with z | z
      · obtain ⟨z1, z2⟩ := (kept_low (by omega)).mp z
        by_cases e : i = a
        · exact .inl e
        · obtain ⟨j, rfl⟩ := phi_sur e
          have hj := phi_mono.mp z2
          exact .inr ⟨j, List.mem_append.mpr (.inl ((kept_low (by omega)).mpr ⟨(ih j hj (by omega)).mp z1, hj⟩)), rfl⟩
      · exact .inr ⟨n, by simp, List.mem_singleton.mp z⟩
theorem Inst.at : a ∈ keptF Q Q.labs.length := I.at' fun j hj => by
  have := I.same j (by have := I.ha; omega)
  rwa [show phi a j = j from if_pos hj] at this
theorem Inst.mem {i : Nat} : i ∈ keptF Q Q.labs.length ↔ i = a ∨ ∃ j ∈ keptF P P.labs.length, i = phi a j := by
  have hl := I.len
  constructor
  · intro h
    by_cases e : i = a
    · exact .inl e
    · obtain ⟨j, rfl⟩ := phi_sur e
      have := kept_lt h
      have hj : j < P.labs.length := by
        rw [hl] at this
        have ha := I.ha
        unfold phi at this
        split at this <;> omega
      exact .inr ⟨j, (I.same j hj).mp h, rfl⟩
  · rintro (rfl | ⟨j, hj, rfl⟩)
    · exact I.at
    · exact (I.same j (kept_lt hj)).mpr hj
theorem Inst.row : ∃ σ, rowK P = (keptF P P.labs.length).map σ ∧ rowK Q = (keptF Q Q.labs.length).map (ext a σ) := by
  obtain ⟨σ, v, eσ, least⟩ := kept_first P
  refine ⟨σ, eσ, ?_⟩
  obtain ⟨τ, vτ, eτ, leastQ⟩ := kept_first Q
  have up : VP (Fr Q) (Ol Q) (keptF Q Q.labs.length) (ext a σ) := I.up _ _ σ (fun i hi => kept_lt hi) (fun i hi => I.mem.mp hi) v
  have srtP : (keptF P P.labs.length).Pairwise (· < ·) := List.Pairwise.sublist (kept_range P _).1 List.pairwise_lt_range
  have srtQ : (keptF Q Q.labs.length).Pairwise (· < ·) := List.Pairwise.sublist (kept_range Q _).1 List.pairwise_lt_range
  rcases leastQ _ up with z | z
  · exact z
  · exfalso
    rw [eτ] at z
    obtain ⟨i, hi, k1, k2, k3⟩ := (lx_at srtQ).mp z
    have dn : VP (Fr P) (Ol P) (keptF P P.labs.length) fun i => τ (phi a i) := I.dn _ _ τ (fun i hi => kept_lt hi) (fun j hj => I.mem.mpr (.inr ⟨j, hj, rfl⟩)) (.inl I.at) vτ
    rcases I.mem.mp hi with rfl | ⟨j, hj, rfl⟩
    · rw [ext_at] at k3; cases k3
    · rw [ext_phi] at k3
      have back : lx ((keptF P P.labs.length).map fun i => τ (phi a i)) ((keptF P P.labs.length).map σ) := (lx_at srtP).mpr ⟨j, hj, fun j' hj' l => by
        have := k1 (phi a j') (I.mem.mpr (.inr ⟨j', hj', rfl⟩)) (phi_mono.mpr l)
        rwa [ext_phi] at this, k2, k3⟩
      rcases least _ dn with y | y
      · rw [eσ] at y
        have := List.map_inj_left.mp y j hj
        rw [k3, k2] at this
        cases this
      · rw [eσ] at y
        exact lx_asymm y back
end
def sideD : Pl → PyData
  | .put s => .int (sd s)
  | .out _ _ => .none
theorem Inst.sides {P Q : Pb} {a : Nat} (I : Inst P Q a) {n : Nat} (hn : n < P.labs.length) {p q : Pl} (h : PlOk P n p) (k : PlOk Q (phi a n) q) : sideD p = sideD q := by
  obtain ⟨σ, e1, e2⟩ := I.row
  have m := I.same n hn
  rcases h with ⟨h1, s, h2, rfl⟩ | ⟨h1, v, w, _, _, rfl⟩ <;> rcases k with ⟨k1, t, k2, rfl⟩ | ⟨k1, v', w', _, _, rfl⟩
  · rw [e1, sideIn_map h1] at h2
    rw [e2, sideIn_map k1, ext_phi] at k2
    rw [← Option.some.inj h2, ← Option.some.inj k2]
  · exact absurd (m.mpr h1) k1
  · exact absurd (m.mp k1) h1
  · rfl
theorem Inst.new {P Q : Pb} {a : Nat} (I : Inst P Q a) : PlOk Q a (.put false) := by
  obtain ⟨σ, e1, e2⟩ := I.row
  exact .inl ⟨I.at, false, by rw [e2, sideIn_map I.at, ext_at], rfl⟩
/-! chains pass by a label that none leads to -/
theorem avoid {G : Ch → Ch → Bool} {A : List Nat} {a : Nat} (d1 : ∀ c : Ch, c.1 ∈ A → c.1 ≠ a → G c (a, true) = false) (d2 : ∀ d : Ch, d.1 ∈ A → G (a, false) d = false) {c d : Ch} {w : List Ch} (h : Way G (chs A) c d w) : c.1 ∈ A → c.1 ≠ a → d.1 ≠ a → ∀ B : List Nat, (∀ i ∈ A, i ≠ a → i ∈ B) → Way G (chs B) c d w := by
  induction h with
  | one c => intro _ _ _ B _; exact .one c
  | @cons c x d w f hx h ih =>
    intro hc ca da B hB
    have hxA := mem_chs.mp hx
    have xa : x.1 ≠ a := fun e => by
      obtain ⟨i, s⟩ := x
      have e : i = a := e
      subst e
      cases s with
      | true => rw [d1 c hc ca] at f; cases f
      | false =>
        cases h with
        | one => exact da rfl
        | cons f' hx' _ => rw [d2 _ (mem_chs.mp hx')] at f'; cases f'
    exact .cons f (mem_chs.mpr (hB _ hxA xa)) (ih hxA xa da B hB)
theorem way_more {G : Ch → Ch → Bool} {A B : List Nat} (hAB : ∀ i ∈ A, i ∈ B) {c d : Ch} {w : List Ch} (h : Way G (chs A) c d w) : Way G (chs B) c d w := by
  induction h with
  | one c => exact .one c
  | cons f hx _ ih => exact .cons f (mem_chs.mpr (hAB _ (mem_chs.mp hx))) ih
theorem Inst.plok {P Q : Pb} {a : Nat} (I : Inst P Q a) (e : Emb P Q P.labs.length (phi a)) (d1 : ∀ c : Ch, c.1 < Q.labs.length → c.1 ≠ a → FoP Q c (a, true) = false) (d2 : ∀ d : Ch, d.1 < Q.labs.length → FoP Q (a, false) d = false)
    {n : Nat} (hn : n < P.labs.length) {p : Pl} (h : PlOk P n p) : PlOk Q (phi a n) (mvP (phi a) p) := by
  obtain ⟨σ, e1, e2⟩ := I.row
  have m := I.same n hn
  have hl := I.len
  have ha := I.ha
  have hph : phi a n < Q.labs.length := by rw [hl]; unfold phi; split <;> omega
  rcases h with ⟨h1, s, h2, rfl⟩ | ⟨h1, v, w, h2, h3, rfl⟩
  · refine .inl ⟨m.mpr h1, s, ?_, rfl⟩
    rw [e1, sideIn_map h1] at h2
    rw [e2, sideIn_map (m.mpr h1), ext_phi, h2]
  · have hA : ∀ i ∈ keptF P n ++ [n], i < P.labs.length := snoc_in hn
    have hB : ∀ i ∈ keptF Q (phi a n) ++ [phi a n], i < Q.labs.length := snoc_in hph
    have sub : ∀ i ∈ (keptF P n ++ [n]).map (phi a), i ∈ keptF Q (phi a n) ++ [phi a n] := fun i hi => by
      obtain ⟨j, hj, rfl⟩ := List.mem_map.mp hi
      rcases List.mem_append.mp hj with z | z
      · obtain ⟨z1, z2⟩ := (kept_low (by omega)).mp z
        exact List.mem_append.mpr (.inl ((kept_low (by omega)).mpr ⟨(I.same j (by omega)).mpr z1, phi_mono.mpr z2⟩))
      · rw [List.mem_singleton.mp z]; simp
    have sup : ∀ i ∈ keptF Q (phi a n) ++ [phi a n], i ≠ a → i ∈ (keptF P n ++ [n]).map (phi a) := fun i hi na => by
      refine List.mem_map.mpr ?_
      rcases List.mem_append.mp hi with z | z
      · obtain ⟨z1, z2⟩ := (kept_low (by omega)).mp z
        obtain ⟨j, rfl⟩ := phi_sur na
        have hj := phi_mono.mp z2
        exact ⟨j, List.mem_append.mpr (.inl ((kept_low (by omega)).mpr ⟨(I.same j (by omega)).mp z1, hj⟩)), rfl⟩
      · exact ⟨n, by simp, (List.mem_singleton.mp z).symm⟩
    have go : ∀ (s : Bool) (u : List Ch), IsChain P (keptF P n ++ [n]) (n, s) (n, !s) (some u) → IsChain Q (keptF Q (phi a n) ++ [phi a n]) (phi a n, s) (phi a n, !s) (some (u.map (mv (phi a)))) := fun s u hu => by
      have c : FirstWay (FoP Q) (chs ((keptF P n ++ [n]).map (phi a))) (phi a n, s) (phi a n, !s) (u.map (mv (phi a))) := e.chain hA (by simp) (by simp) hu
      have pull : ∀ w', Way (FoP Q) (chs (keptF Q (phi a n) ++ [phi a n])) (phi a n, s) (phi a n, !s) w' → Way (FoP Q) (chs ((keptF P n ++ [n]).map (phi a))) (phi a n, s) (phi a n, !s) w' := fun w' hw =>
        avoid (a := a) (fun c hc ca => d1 c (hB _ hc) ca) (fun d hd => d2 d (hB _ hd)) hw (by simp) phi_ne phi_ne _ sup
      exact ⟨way_more sub c.way, fun w' hw => c.short w' (pull w' hw), fun w' hw l => c.first w' (pull w' hw) l⟩
    exact .inr ⟨fun z => h1 (m.mp z), _, _, go false v h2, go true w h3, rfl⟩

local macro_rules | `(tactic| walk_at "pe") => `(tactic| simp (config := {maxSteps := 2000000}) only [bind_bind, bindR, retB, failB, anyB, iteB, wp_retE, wp_failE,
  ↓kSeq_nx, ↓kSeq_rt, ↓kSeq_bk, ↓kSeq_ct, ↓mNext_eq, ↓mBreak_eq, ↓mCont_eq, ↓mDrop_eq, ↓mRet_eq, ↓mRetN_eq, ↓mAsg_eq, ↓mIf_eq, ↓gVar_eq, gAt_v, gAt_o, gAt_b, gAt_t, ↓mRetV_eq, rAt_s, ↓asgR_eq, aAt_v, aAt_o,
  get_0, get_s, set_0', set_s', List.getElem?_cons_zero, List.getElem?_cons_succ, List.set_cons_zero, List.set_cons_succ, ↓aNil_eq, ↓aCons_eq, ↓aTup_eq, ↓mPar_eq, ↓kPar_v, ↓gC_eq, ↓gaNil_eq, ↓gaCons_eq, ↓gTupE_eq, ↓gLst_eq, ↓gOp_eq, ↓gUn_eq, ↓gCall_eq, ↓gFn_eq, map_nilC, map_consC, lend_v, lend_o, lend_b, lend_t,
  ↓gTru_eq, ↓gTest_eq, oBl_b, oTru_v, oTru_o, oTru_b, truD_n, truD_b, truD_i, truD_t, mAnd_r, mOr_r, mAnd_t, mAnd_f, mOr_t, mOr_f, ↓gAnd_eq, ↓gOr_eq, ↓gNot_eq, mAndC_r, mAndC_f, mOrC_r, ↓gAndT_eq, ↓gOrT_eq, ↓gNotT_eq, ↓gIfE_eq, ↓gChain_eq, ↓gNo_eq, ↓gSome_eq, oInt?_i, ↓gSl_eq, oSl_t, oSl_b, ↓gSl2_eq, kSl2_t,
  ↓gIt_eq, ↓gItV_eq, kItV_v, kItV_b, kItV_o, itV_t, itV_s, itV_b, itV_o, itD_t, itD_s, itD_o, ↓gItR1_eq, ↓gItR2_eq, ↓gItR3_eq, itR3_i, itR1_i, itR2_i, ↓gLc_eq, wipe_n, wipe_c, ↓gYes_eq, ↓gR1_eq, kR1_i, ↓gR2_eq, kR2_i, ↓gLstRg_eq, ↓gTupRg_eq, ↓mFor_eq, ↓mForV_eq, ↓mForRev_eq, kForRev_o, kForRev_t, kForV_o, kForV_b, kForV_t, kForV_s, ↓mApp_eq, appAt_o, kApp_v,
  ↓fnU_eq, rp_0, rp_s, ap_n, ap_c, ms_n, ms_c, out_rt, out_nx, oAdd_i, oAdd_s, oAdd_t, oAdd_oo, oAdd_bo, oAdd_bb, oAdd_ob, oInt_v, oMul_i, oNeg_i, oEq_i, oNe_i, oEq_b, oNe_b, oEq_s, oNe_s, oIx_t, oIx_s, oIx_o, oIx_b, atD_0, atD_1, atD_2, atD_3, atD_4, atD_5, atD_6, atD_7, atD_8, datas_n, datas_v, mp_some, oTup_eq, oLst_eq, kTup_s, kLst_s, len_n, len_c,
  o1_v, o1_o, o1_b, lenD_t, lenD_l, lenD_s, absD_i, intD_i, intD_b, oMax2_i, oMin2_i, oGcd_i, oListC_t, oListC_o, oListC_b, oTupC_t, oTupC_o, oTupC_b, isi_bi, isi_ii, isi_ib, isi_bb, isi_ni, isi_ss, isi_nb, oIsi_v, tyD_b, tyD_i, tyD_s, tyD_n, oIsX_n, oIsX_b, isN_n, isN_i, isN_b, isN_s, isN_t, aUnl_o, aUnl_b, oIx_l, ↓gTRev_eq, oTRev_t, ↓gEnT_eq, enC_t, ↓gDZip_eq, kForV_l, truD_l, oSl_l, itD_l, itV_l, oListC_l, oTupC_l, kIdxL_l, oAdd_lo, oAdd_ol, oAdd_ll, oAdd_lb, oAdd_bl, ↓mFrz_eq, kFrz_o, kFrz_v, kFrz_b, kFrz_n, ↓gFrz_eq, frzC_o, frzC_v, ↓gItI_eq, itI_t, itI_l, itI_s, ↓gDcT_eq, ↓gLc2_eq, ↓gLock_eq, lockAt_o, lockC_v, lockC_o, ↓gKeys_eq, keysAt_b, ↓mDPut_eq, dputAt_T, dputAt_K, ↓gNewT_eq, ↓gNewK_eq, ↓gDGet1_eq, ↓mSetAt_eq, setAt_o, ↓mAugI_eq, augAt_i, kAug_i, ↓gZip_eq, zipD_t, ↓gIdxL_eq, kIdxL_b, kIdxL_o, idxA_v, ↓gIdxK_eq, ↓gSix_eq, kSix_s, oLtU_i, oLtU_s, oLtU_b, ↓gFnD_eq, ↓gFnK_eq, kFnK_21, mOrCt, mOrCf, mAndCt, mAndCf, ↓gF_eq, ↓gFt_eq, ↓mF_eq, oIsiX_v, tyX_b, tyX_i, tyX_s, tyX_n, tyX_t, isiX_ts, isiX_tb, isiX_ti, isiX_tt, isiX_st, isiX_sb, isiX_si, isiX_bs, isiX_bt, isiX_is, isiX_it, isiX_ns, isiX_nt, 
  lenOk, decide_eq_true_eq, Nat.reduceAdd, Nat.reduceLeDiff, Nat.reduceEqDiff, Int.reduceEq, Bool.false_xor, Bool.true_xor, Bool.false_or, Bool.or_false, Bool.true_or, Bool.or_true, Bool.true_and, Bool.and_true, Bool.false_and, Bool.and_false, Bool.not_false, Bool.not_true, Bool.false_eq_true, if_true, if_false, reduceIte, ↓reduceIte, decide_true, decide_false, List.length_cons, List.length_nil])
local macro_rules | `(tactic| walk_at "pl") => `(tactic| simp (config := {maxSteps := 2000000}) only [bind_bind, bindR, retB, failB, anyB, iteB, wp_retE, wp_failE,
  ↓mSeq_eq, ↓kSeq_nx, ↓kSeq_rt, ↓kSeq_bk, ↓kSeq_ct, ↓mNext_eq, ↓mBreak_eq, ↓mCont_eq, ↓mDrop_eq, ↓mRet_eq, ↓mRetN_eq, ↓mAsg_eq, ↓mIf_eq, ↓gVar_eq, gAt_v, gAt_o, gAt_b, gAt_t, ↓mRetV_eq, rAt_s, ↓asgR_eq, aAt_v, aAt_o,
  get_0, get_s, set_0', set_s', List.getElem?_cons_zero, List.getElem?_cons_succ, List.set_cons_zero, List.set_cons_succ, ↓aNil_eq, ↓aCons_eq, ↓aTup_eq, ↓mPar_eq, ↓kPar_v, ↓gC_eq, ↓gaNil_eq, ↓gaCons_eq, ↓gTupE_eq, ↓gLst_eq, ↓gOp_eq, ↓gUn_eq, ↓gCall_eq, ↓gFn_eq, map_nilC, map_consC, lend_v, lend_o, lend_b, lend_t,
  ↓gTru_eq, ↓gTest_eq, oBl_b, oTru_v, oTru_o, oTru_b, truD_n, truD_b, truD_i, truD_t, mAnd_r, mOr_r, mAnd_t, mAnd_f, mOr_t, mOr_f, ↓gAnd_eq, ↓gOr_eq, ↓gNot_eq, mAndC_r, mAndC_f, mOrC_r, ↓gAndT_eq, ↓gOrT_eq, ↓gNotT_eq, ↓gIfE_eq, ↓gChain_eq, ↓gNo_eq, ↓gSome_eq, oInt?_i, ↓gSl_eq, oSl_t, oSl_b, ↓gSl2_eq, kSl2_t,
  ↓gIt_eq, ↓gItV_eq, kItV_v, kItV_b, kItV_o, itV_t, itV_s, itV_b, itV_o, itD_t, itD_s, itD_o, ↓gItR1_eq, ↓gItR2_eq, ↓gItR3_eq, itR3_i, itR1_i, itR2_i, ↓gLc_eq, wipe_n, wipe_c, ↓gYes_eq, ↓gR1_eq, kR1_i, ↓gR2_eq, kR2_i, ↓gLstRg_eq, ↓gTupRg_eq, ↓mFor_eq, ↓mForV_eq, ↓mForRev_eq, kForRev_o, kForRev_t, kForV_o, kForV_b, kForV_t, kForV_s, ↓mApp_eq, appAt_o, kApp_v,
  ↓fnU_eq, rp_0, rp_s, ap_n, ap_c, ms_n, ms_c, out_rt, out_nx, oAdd_i, oAdd_s, oAdd_t, oAdd_oo, oAdd_bo, oAdd_bb, oAdd_ob, oInt_v, oMul_i, oNeg_i, oEq_i, oNe_i, oEq_b, oNe_b, oEq_s, oNe_s, oIx_t, oIx_s, oIx_o, oIx_b, atD_0, atD_1, atD_2, atD_3, atD_4, atD_5, atD_6, atD_7, atD_8, datas_n, datas_v, mp_some, oTup_eq, oLst_eq, kTup_s, kLst_s, len_n, len_c,
  o1_v, o1_o, o1_b, lenD_t, lenD_l, lenD_s, absD_i, intD_i, intD_b, oMax2_i, oMin2_i, oGcd_i, oListC_t, oListC_o, oListC_b, oTupC_t, oTupC_o, oTupC_b, isi_bi, isi_ii, isi_ib, isi_bb, isi_ni, isi_ss, isi_nb, oIsi_v, tyD_b, tyD_i, tyD_s, tyD_n, oIsX_n, oIsX_b, isN_n, isN_i, isN_b, isN_s, isN_t, aUnl_o, aUnl_b, oIx_l, ↓gTRev_eq, oTRev_t, ↓gEnT_eq, enC_t, ↓gDZip_eq, kForV_l, truD_l, oSl_l, itD_l, itV_l, oListC_l, oTupC_l, kIdxL_l, oAdd_lo, oAdd_ol, oAdd_ll, oAdd_lb, oAdd_bl, ↓mFrz_eq, kFrz_o, kFrz_v, kFrz_b, kFrz_n, ↓gFrz_eq, frzC_o, frzC_v, ↓gItI_eq, itI_t, itI_l, itI_s, ↓gDcT_eq, ↓gLc2_eq, ↓gLock_eq, lockAt_o, lockC_v, lockC_o, ↓gKeys_eq, keysAt_b, ↓mDPut_eq, dputAt_T, dputAt_K, ↓gNewT_eq, ↓gNewK_eq, ↓gDGet1_eq, ↓mSetAt_eq, setAt_o, ↓mAugI_eq, augAt_i, kAug_i, ↓gZip_eq, zipD_t, ↓gIdxL_eq, kIdxL_b, kIdxL_o, idxA_v, ↓gIdxK_eq, ↓gSix_eq, kSix_s, oLtU_i, oLtU_s, oLtU_b, ↓gFnD_eq, ↓gFnK_eq, kFnK_21, mOrCt, mOrCf, mAndCt, mAndCf, ↓gF_eq, ↓gFt_eq, ↓mF_eq, oIsiX_v, tyX_b, tyX_i, tyX_s, tyX_n, tyX_t, isiX_ts, isiX_tb, isiX_ti, isiX_tt, isiX_st, isiX_sb, isiX_si, isiX_bs, isiX_bt, isiX_is, isiX_it, isiX_ns, isiX_nt, 
  lenOk, decide_eq_true_eq, Nat.reduceAdd, Nat.reduceLeDiff, Nat.reduceEqDiff, Int.reduceEq, Bool.false_xor, Bool.true_xor, Bool.false_or, Bool.or_false, Bool.true_or, Bool.or_true, Bool.true_and, Bool.and_true, Bool.false_and, Bool.and_false, Bool.not_false, Bool.not_true, Bool.false_eq_true, if_true, if_false, reduceIte, ↓reduceIte, decide_true, decide_false, List.length_cons, List.length_nil])
local macro_rules | `(tactic| walk_at "pr") => `(tactic| ((try walk_at "pl"); try rfl))
local macro_rules | `(tactic| walk_at "wk") => `(tactic| try walk_at "pl")
local macro_rules | `(tactic| walk_at "we") => `(tactic| try walk_at "pe")

theorem in_iff {a b : R} : In a b = true ↔ b.l ≤ a.l ∧ b.t ≤ a.t ∧ a.l + a.w ≤ b.l + b.w ∧ a.t + a.h ≤ b.t + b.h := by
  unfold In
  simp only [Bool.and_eq_true, decide_eq_true_eq]
theorem ov_far {a b : R} (h : b.l + b.w ≤ a.l) : ov a b = false := by
  rw [ov_iff, Bool.eq_false_iff]
  simp only [ne_eq, Bool.and_eq_true, decide_eq_true_eq]
  omega
theorem fr_iff {P : Pb} {c : Ch} : Fr P c = true ↔ In (side (lab P c.1) c.2) P.area = true ∧ ∀ o ∈ P.obs, ov (side (lab P c.1) c.2) o = false := by
  unfold Fr freeB
  rw [Bool.and_eq_true, Bool.not_eq_true', List.any_eq_false]
  exact ⟨fun ⟨a, b⟩ => ⟨a, fun o ho => by simpa using b o ho⟩, fun ⟨a, b⟩ => ⟨a, fun o ho => by rw [b o ho]; decide⟩⟩
/-! a label far away -/
section
variable {P : Pb} {a : Nat} {fu : R × R} (ha : a ≤ P.labs.length) (inA : In fu.1 P.area = true) (fo : ∀ o ∈ P.obs, o.l + o.w ≤ fu.1.l) (fl : ∀ p ∈ P.labs, p.1.l + p.1.w ≤ fu.1.l ∧ p.2.l + p.2.w ≤ fu.1.l)
include ha
theorem lab_ins : lab (insP P a fu) a = fu := by rw [lab_get]; unfold insP; rw [ins_at ha]; rfl
include inA fo fl
theorem far_free : Fr (insP P a fu) (a, false) = true := fr_iff.mpr ⟨by rw [lab_ins ha]; exact inA, fun o ho => by rw [lab_ins ha]; exact ov_far (fo o ho)⟩
theorem far_ol {j : Nat} (hj : j < P.labs.length) (s : Bool) : Ol (insP P a fu) (a, false) (phi a j, s) = false := by
  have e : lab (insP P a fu) (phi a j) = lab P j := by rw [lab_get, lab_get]; unfold insP; rw [ins_get ha]
  unfold Ol
  rw [show ((a, false) : Ch).1 = a from rfl, show ((phi a j, s) : Ch).1 = phi a j from rfl, lab_ins ha, e]
  have m : lab P j ∈ P.labs := List.mem_of_getElem? (lab_at hj)
  obtain ⟨h1, h2⟩ := fl _ m
  cases s
  · exact ov_far h1
  · exact ov_far h2
theorem far_inst : Inst P (insP P a fu) a := by
  have e := ins_emb (fu := fu) ha
  refine ⟨ha, ins_len ha, fun K B σ hK hB v => ?_, fun K B τ hK hB _ v => ?_⟩
  · refine ⟨fun i hi => ?_, fun i hi j hj d => ?_⟩
    · rcases hB i hi with rfl | ⟨k, hk, rfl⟩
      · rw [ext_at]; exact far_free ha inA fo fl
      · rw [ext_phi]
        have := v.1 k hk
        rw [e.fr (k, σ k) (hK k hk)] at this
        exact this
    · rcases hB i hi with rfl | ⟨k, hk, rfl⟩ <;> rcases hB j hj with rfl | ⟨l, hl, rfl⟩
      · exact absurd rfl d
      · rw [ext_at]; exact far_ol ha inA fo fl (hK l hl) _
      · rw [ext_at, ol_sym]; exact far_ol ha inA fo fl (hK k hk) _
      · rw [ext_phi, ext_phi]
        have := v.2 k hk l hl fun z => d (by rw [z])
        rw [e.ol (k, σ k) (l, σ l) (hK k hk) (hK l hl)] at this
        exact this
  · refine ⟨fun i hi => ?_, fun i hi j hj d => ?_⟩
    · rw [e.fr (i, τ (phi a i)) (hK i hi)]
      exact v.1 _ (hB i hi)
    · rw [e.ol (i, τ (phi a i)) (j, τ (phi a j)) (hK i hi) (hK j hj)]
      exact v.2 _ (hB i hi) _ (hB j hj) fun z => d (e.inj (hK i hi) (hK j hj) z)
theorem far_d1 (c : Ch) (hc : c.1 < (insP P a fu).labs.length) (na : c.1 ≠ a) : FoP (insP P a fu) c (a, true) = false := by
  obtain ⟨i, s⟩ := c
  obtain ⟨j, e⟩ := phi_sur na
  have e : i = phi a j := e
  subst e
  have hj : j < P.labs.length := by
    have hc : phi a j < (insP P a fu).labs.length := hc
    rw [ins_len ha] at hc
    unfold phi at hc
    split at hc <;> omega
  unfold FoP Fo
  rw [if_neg na, ol_sym]
  exact far_ol ha inA fo fl hj s
theorem far_d2 (d : Ch) (hd : d.1 < (insP P a fu).labs.length) : FoP (insP P a fu) (a, false) d = false := by
  unfold FoP Fo
  by_cases e : a = d.1
  · rw [if_pos e, far_free ha inA fo fl]; simp
  · rw [if_neg e]
    obtain ⟨i, s⟩ := d
    obtain ⟨j, e'⟩ := phi_sur (a := a) (k := i) fun z => e z.symm
    subst e'
    have hj : j < P.labs.length := by
      have hd : phi a j < (insP P a fu).labs.length := hd
      rw [ins_len ha] at hd
      unfold phi at hd
      split at hd <;> omega
    exact far_ol ha inA fo fl hj (!s)
end
/-! the obstacles in another order -/
def obsP (P : Pb) (os : List R) : Pb := ⟨P.area, os, P.labs⟩
theorem obs_alike {P : Pb} {os : List R} (h : ∀ o, o ∈ os ↔ o ∈ P.obs) : Alike P (obsP P os) := by
  have e : ∀ i, lab (obsP P os) i = lab P i := fun i => rfl
  refine ⟨rfl, fun c _ => ?_, fun c d _ _ => rfl⟩
  rw [Bool.eq_iff_iff, fr_iff, fr_iff, e]
  exact ⟨fun ⟨a, b⟩ => ⟨a, fun o ho => b o ((h o).mp ho)⟩, fun ⟨a, b⟩ => ⟨a, fun o ho => b o ((h o).mpr ho)⟩⟩
/-! an obstacle as a label -/
def blkP (P : Pb) (os : List R) (b : R) : Pb := ⟨P.area, os, (b, b) :: P.labs⟩
theorem blk_inst {P : Pb} {os : List R} {b : R} (h : ∀ o, o ∈ P.obs ↔ o ∈ os ∨ o = b) (hb : In b P.area = true) (ho : ∀ o ∈ os, ov b o = false) : Inst P (blkP P os b) 0 := by
  have e0 : lab (blkP P os b) 0 = (b, b) := rfl
  have es : ∀ i, lab (blkP P os b) (phi 0 i) = lab P i := fun i => by rw [lab_get, lab_get, show phi 0 i = i + 1 from rfl]; rfl
  have s0 : ∀ s, side (b, b) s = b := fun s => by cases s <;> rfl
  have f0 : ∀ s, Fr (blkP P os b) (0, s) = true := fun s => fr_iff.mpr ⟨by show In (side (lab (blkP P os b) 0) s) _ = true; rw [e0, s0]; exact hb, fun o h => by show ov (side (lab (blkP P os b) 0) s) o = false; rw [e0, s0]; exact ho o h⟩
  have o0 : ∀ s i t, Ol (blkP P os b) (0, s) (phi 0 i, t) = ov b (side (lab P i) t) := fun s i t => by
    show ov (side (lab (blkP P os b) 0) s) (side (lab (blkP P os b) (phi 0 i)) t) = _
    rw [e0, s0, es]
  have fi : ∀ i t, Fr P (i, t) = true ↔ Fr (blkP P os b) (phi 0 i, t) = true ∧ ov b (side (lab P i) t) = false := fun i t => by
    rw [fr_iff, fr_iff]
    show (In (side (lab P i) t) P.area = true ∧ ∀ o ∈ P.obs, ov (side (lab P i) t) o = false) ↔ (In (side (lab (blkP P os b) (phi 0 i)) t) P.area = true ∧ ∀ o ∈ os, ov (side (lab (blkP P os b) (phi 0 i)) t) o = false) ∧ _
    rw [es]
    constructor
    · rintro ⟨h1, h2⟩
      exact ⟨⟨h1, fun o m => h2 o ((h o).mpr (.inl m))⟩, by rw [ov_comm]; exact h2 b ((h b).mpr (.inr rfl))⟩
    · rintro ⟨⟨h1, h2⟩, h3⟩
      refine ⟨h1, fun o m => ?_⟩
      rcases (h o).mp m with z | rfl
      · exact h2 o z
      · rw [ov_comm]; exact h3
  have oi : ∀ i s j t, Ol P (i, s) (j, t) = Ol (blkP P os b) (phi 0 i, s) (phi 0 j, t) := fun i s j t => by
    show _ = ov (side (lab (blkP P os b) (phi 0 i)) s) (side (lab (blkP P os b) (phi 0 j)) t)
    rw [es, es]
    rfl
  refine ⟨Nat.zero_le _, rfl, fun K B σ hK hB v => ⟨fun i hi => ?_, fun i hi j hj d => ?_⟩, fun K B τ hK hB h0 v => ⟨fun i hi => ?_, fun i hi j hj d => ?_⟩⟩
  · rcases hB i hi with rfl | ⟨k, hk, rfl⟩
    · exact f0 _
    · rw [ext_phi]; exact ((fi k _).mp (v.1 k hk)).1
  · rcases hB i hi with rfl | ⟨k, hk, rfl⟩ <;> rcases hB j hj with rfl | ⟨l, hl, rfl⟩
    · exact absurd rfl d
    · rw [o0, ext_phi]; exact ((fi l _).mp (v.1 l hl)).2
    · rw [ol_sym, o0, ext_phi]; exact ((fi k _).mp (v.1 k hk)).2
    · rw [ext_phi, ext_phi, ← oi]; exact v.2 k hk l hl fun z => d (by rw [z])
  · have z : 0 ∈ B := h0.resolve_right fun z => absurd (z i hi) (by omega)
    refine (fi i _).mpr ⟨v.1 _ (hB i hi), ?_⟩
    have := v.2 0 z (phi 0 i) (hB i hi) (by unfold phi; rw [if_neg (by omega)]; omega)
    rwa [o0] at this
  · rw [oi]
    exact v.2 _ (hB i hi) _ (hB j hj) fun z => d (by unfold phi at z; rw [if_neg (by omega), if_neg (by omega)] at z; omega)

local macro_rules | `(tactic| walk_at "pe") => `(tactic| simp (config := {maxSteps := 2000000}) only [bind_bind, bindR, retB, failB, anyB, iteB, wp_retE, wp_failE,
  ↓kSeq_nx, ↓kSeq_rt, ↓kSeq_bk, ↓kSeq_ct, ↓mNext_eq, ↓mBreak_eq, ↓mCont_eq, ↓mDrop_eq, ↓mRet_eq, ↓mRetN_eq, ↓mAsg_eq, ↓mIf_eq, ↓gVar_eq, gAt_v, gAt_o, gAt_b, gAt_t, ↓mRetV_eq, rAt_s, ↓asgR_eq, aAt_v, aAt_o,
  get_0, get_s, set_0', set_s', List.getElem?_cons_zero, List.getElem?_cons_succ, List.set_cons_zero, List.set_cons_succ, ↓aNil_eq, ↓aCons_eq, ↓aTup_eq, ↓mPar_eq, ↓kPar_v, ↓gC_eq, ↓gaNil_eq, ↓gaCons_eq, ↓gTupE_eq, ↓gLst_eq, ↓gOp_eq, ↓gUn_eq, ↓gCall_eq, ↓gFn_eq, map_nilC, map_consC, lend_v, lend_o, lend_b, lend_t,
  ↓gTru_eq, ↓gTest_eq, oBl_b, oTru_v, oTru_o, oTru_b, truD_n, truD_b, truD_i, truD_t, mAnd_r, mOr_r, mAnd_t, mAnd_f, mOr_t, mOr_f, ↓gAnd_eq, ↓gOr_eq, ↓gNot_eq, mAndC_r, mAndC_f, mOrC_r, ↓gAndT_eq, ↓gOrT_eq, ↓gNotT_eq, ↓gIfE_eq, ↓gChain_eq, ↓gNo_eq, ↓gSome_eq, oInt?_i, ↓gSl_eq, oSl_t, oSl_b, ↓gSl2_eq, kSl2_t,
  ↓gIt_eq, ↓gItV_eq, kItV_v, kItV_b, kItV_o, itV_t, itV_s, itV_b, itV_o, itD_t, itD_s, itD_o, ↓gItR1_eq, ↓gItR2_eq, ↓gItR3_eq, itR3_i, itR1_i, itR2_i, ↓gLc_eq, wipe_n, wipe_c, ↓gYes_eq, ↓gR1_eq, kR1_i, ↓gR2_eq, kR2_i, ↓gLstRg_eq, ↓gTupRg_eq, ↓mFor_eq, ↓mForV_eq, ↓mForRev_eq, kForRev_o, kForRev_t, kForV_o, kForV_b, kForV_t, kForV_s, ↓mApp_eq, appAt_o, kApp_v,
  ↓fnU_eq, rp_0, rp_s, ap_n, ap_c, ms_n, ms_c, out_rt, out_nx, oAdd_i, oAdd_s, oAdd_t, oAdd_oo, oAdd_bo, oAdd_bb, oAdd_ob, oInt_v, oMul_i, oNeg_i, oEq_i, oNe_i, oEq_b, oNe_b, oEq_s, oNe_s, oIx_t, oIx_s, oIx_o, oIx_b, atD_0, atD_1, atD_2, atD_3, atD_4, atD_5, atD_6, atD_7, atD_8, datas_n, datas_v, mp_some, oTup_eq, oLst_eq, kTup_s, kLst_s, len_n, len_c,
  o1_v, o1_o, o1_b, lenD_t, lenD_l, lenD_s, absD_i, intD_i, intD_b, oMax2_i, oMin2_i, oGcd_i, oListC_t, oListC_o, oListC_b, oTupC_t, oTupC_o, oTupC_b, isi_bi, isi_ii, isi_ib, isi_bb, isi_ni, isi_ss, isi_nb, oIsi_v, tyD_b, tyD_i, tyD_s, tyD_n, oIsX_n, oIsX_b, isN_n, isN_i, isN_b, isN_s, isN_t, aUnl_o, aUnl_b, oIx_l, ↓gTRev_eq, oTRev_t, ↓gEnT_eq, enC_t, ↓gDZip_eq, kForV_l, truD_l, oSl_l, itD_l, itV_l, oListC_l, oTupC_l, kIdxL_l, oAdd_lo, oAdd_ol, oAdd_ll, oAdd_lb, oAdd_bl, ↓mFrz_eq, kFrz_o, kFrz_v, kFrz_b, kFrz_n, ↓gFrz_eq, frzC_o, frzC_v, ↓gItI_eq, itI_t, itI_l, itI_s, ↓gDcT_eq, ↓gLc2_eq, ↓gLock_eq, lockAt_o, lockC_v, lockC_o, ↓gKeys_eq, keysAt_b, ↓mDPut_eq, dputAt_T, dputAt_K, ↓gNewT_eq, ↓gNewK_eq, ↓gDGet1_eq, ↓mSetAt_eq, setAt_o, ↓mAugI_eq, augAt_i, kAug_i, ↓gZip_eq, zipD_t, ↓gIdxL_eq, kIdxL_b, kIdxL_o, idxA_v, ↓gIdxK_eq, ↓gSix_eq, kSix_s, oLtU_i, oLtU_s, oLtU_b, ↓gFnD_eq, ↓gFnK_eq, kFnK_21, mOrCt, mOrCf, mAndCt, mAndCf, ↓gF_eq, ↓gFt_eq, ↓mF_eq, oIsiX_v, tyX_b, tyX_i, tyX_s, tyX_n, tyX_t, isiX_ts, isiX_tb, isiX_ti, isiX_tt, isiX_st, isiX_sb, isiX_si, isiX_bs, isiX_bt, isiX_is, isiX_it, isiX_ns, isiX_nt, 
  lenOk, decide_eq_true_eq, Nat.reduceAdd, Nat.reduceLeDiff, Nat.reduceEqDiff, Int.reduceEq, Bool.false_xor, Bool.true_xor, Bool.false_or, Bool.or_false, Bool.true_or, Bool.or_true, Bool.true_and, Bool.and_true, Bool.false_and, Bool.and_false, Bool.not_false, Bool.not_true, Bool.false_eq_true, if_true, if_false, reduceIte, ↓reduceIte, decide_true, decide_false, List.length_cons, List.length_nil])
local macro_rules | `(tactic| walk_at "pl") => `(tactic| simp (config := {maxSteps := 2000000}) only [bind_bind, bindR, retB, failB, anyB, iteB, wp_retE, wp_failE,
  ↓mSeq_eq, ↓kSeq_nx, ↓kSeq_rt, ↓kSeq_bk, ↓kSeq_ct, ↓mNext_eq, ↓mBreak_eq, ↓mCont_eq, ↓mDrop_eq, ↓mRet_eq, ↓mRetN_eq, ↓mAsg_eq, ↓mIf_eq, ↓gVar_eq, gAt_v, gAt_o, gAt_b, gAt_t, ↓mRetV_eq, rAt_s, ↓asgR_eq, aAt_v, aAt_o,
  get_0, get_s, set_0', set_s', List.getElem?_cons_zero, List.getElem?_cons_succ, List.set_cons_zero, List.set_cons_succ, ↓aNil_eq, ↓aCons_eq, ↓aTup_eq, ↓mPar_eq, ↓kPar_v, ↓gC_eq, ↓gaNil_eq, ↓gaCons_eq, ↓gTupE_eq, ↓gLst_eq, ↓gOp_eq, ↓gUn_eq, ↓gCall_eq, ↓gFn_eq, map_nilC, map_consC, lend_v, lend_o, lend_b, lend_t,
  ↓gTru_eq, ↓gTest_eq, oBl_b, oTru_v, oTru_o, oTru_b, truD_n, truD_b, truD_i, truD_t, mAnd_r, mOr_r, mAnd_t, mAnd_f, mOr_t, mOr_f, ↓gAnd_eq, ↓gOr_eq, ↓gNot_eq, mAndC_r, mAndC_f, mOrC_r, ↓gAndT_eq, ↓gOrT_eq, ↓gNotT_eq, ↓gIfE_eq, ↓gChain_eq, ↓gNo_eq, ↓gSome_eq, oInt?_i, ↓gSl_eq, oSl_t, oSl_b, ↓gSl2_eq, kSl2_t,
  ↓gIt_eq, ↓gItV_eq, kItV_v, kItV_b, kItV_o, itV_t, itV_s, itV_b, itV_o, itD_t, itD_s, itD_o, ↓gItR1_eq, ↓gItR2_eq, ↓gItR3_eq, itR3_i, itR1_i, itR2_i, ↓gLc_eq, wipe_n, wipe_c, ↓gYes_eq, ↓gR1_eq, kR1_i, ↓gR2_eq, kR2_i, ↓gLstRg_eq, ↓gTupRg_eq, ↓mFor_eq, ↓mForV_eq, ↓mForRev_eq, kForRev_o, kForRev_t, kForV_o, kForV_b, kForV_t, kForV_s, ↓mApp_eq, appAt_o, kApp_v,
  ↓fnU_eq, rp_0, rp_s, ap_n, ap_c, ms_n, ms_c, out_rt, out_nx, oAdd_i, oAdd_s, oAdd_t, oAdd_oo, oAdd_bo, oAdd_bb, oAdd_ob, oInt_v, oMul_i, oNeg_i, oEq_i, oNe_i, oEq_b, oNe_b, oEq_s, oNe_s, oIx_t, oIx_s, oIx_o, oIx_b, atD_0, atD_1, atD_2, atD_3, atD_4, atD_5, atD_6, atD_7, atD_8, datas_n, datas_v, mp_some, oTup_eq, oLst_eq, kTup_s, kLst_s, len_n, len_c,
  o1_v, o1_o, o1_b, lenD_t, lenD_l, lenD_s, absD_i, intD_i, intD_b, oMax2_i, oMin2_i, oGcd_i, oListC_t, oListC_o, oListC_b, oTupC_t, oTupC_o, oTupC_b, isi_bi, isi_ii, isi_ib, isi_bb, isi_ni, isi_ss, isi_nb, oIsi_v, tyD_b, tyD_i, tyD_s, tyD_n, oIsX_n, oIsX_b, isN_n, isN_i, isN_b, isN_s, isN_t, aUnl_o, aUnl_b, oIx_l, ↓gTRev_eq, oTRev_t, ↓gEnT_eq, enC_t, ↓gDZip_eq, kForV_l, truD_l, oSl_l, itD_l, itV_l, oListC_l, oTupC_l, kIdxL_l, oAdd_lo, oAdd_ol, oAdd_ll, oAdd_lb, oAdd_bl, ↓mFrz_eq, kFrz_o, kFrz_v, kFrz_b, kFrz_n, ↓gFrz_eq, frzC_o, frzC_v, ↓gItI_eq, itI_t, itI_l, itI_s, ↓gDcT_eq, ↓gLc2_eq, ↓gLock_eq, lockAt_o, lockC_v, lockC_o, ↓gKeys_eq, keysAt_b, ↓mDPut_eq, dputAt_T, dputAt_K, ↓gNewT_eq, ↓gNewK_eq, ↓gDGet1_eq, ↓mSetAt_eq, setAt_o, ↓mAugI_eq, augAt_i, kAug_i, ↓gZip_eq, zipD_t, ↓gIdxL_eq, kIdxL_b, kIdxL_o, idxA_v, ↓gIdxK_eq, ↓gSix_eq, kSix_s, oLtU_i, oLtU_s, oLtU_b, ↓gFnD_eq, ↓gFnK_eq, kFnK_21, mOrCt, mOrCf, mAndCt, mAndCf, ↓gF_eq, ↓gFt_eq, ↓mF_eq, oIsiX_v, tyX_b, tyX_i, tyX_s, tyX_n, tyX_t, isiX_ts, isiX_tb, isiX_ti, isiX_tt, isiX_st, isiX_sb, isiX_si, isiX_bs, isiX_bt, isiX_is, isiX_it, isiX_ns, isiX_nt, 
  lenOk, decide_eq_true_eq, Nat.reduceAdd, Nat.reduceLeDiff, Nat.reduceEqDiff, Int.reduceEq, Bool.false_xor, Bool.true_xor, Bool.false_or, Bool.or_false, Bool.true_or, Bool.or_true, Bool.true_and, Bool.and_true, Bool.false_and, Bool.and_false, Bool.not_false, Bool.not_true, Bool.false_eq_true, if_true, if_false, reduceIte, ↓reduceIte, decide_true, decide_false, List.length_cons, List.length_nil])
local macro_rules | `(tactic| walk_at "pr") => `(tactic| ((try walk_at "pl"); try rfl))
local macro_rules | `(tactic| walk_at "wk") => `(tactic| try walk_at "pl")
local macro_rules | `(tactic| walk_at "we") => `(tactic| try walk_at "pe")

theorem Inst.new_side {P Q : Pb} {a : Nat} (I : Inst P Q a) {q : Pl} (k : PlOk Q a q) : q = .put false := by
  obtain ⟨σ, e1, e2⟩ := I.row
  rcases k with ⟨k1, t, k2, rfl⟩ | ⟨k1, v', w', _, _, rfl⟩
  · rw [e2, sideIn_map I.at, ext_at] at k2
    rw [← Option.some.inj k2]
  · exact absurd I.at k1
theorem sides_wp' {pls : List Pl} (hl : pls.length ≤ 30) {α : Type} {k : C → M α} {Q : α → Prop} (q : wp (k (.own (.lst (pls.map sideD)))) Q) : wp ((f_law_sides [.val (.tuple (pls.map plD))]).bind k) Q := by
  refine wp_call (fun c => c = .own (.lst (pls.map sideD))) ?_ (by rintro c rfl; exact q)
  unfold f_law_sides
  refine wp_fn rfl ?_
  walk_at "wk"
  rw [List.length_map, if_pos (by omega)]
  rw [lcL_map plD sideD pls [] fun p hp => ⟨_, by walk_at "pr", rfl, by
    walk_at "wk"
    rw [plT]
    cases p with
    | put s => walk_at "wk"; rfl
    | out v w => walk_at "wk"; rfl⟩]
  walk_at "wk"
  rfl
theorem sides_rep : ∀ pls : List Pl, plainAll (pls.map sideD) = true ∧ PyData.depthAll (pls.map sideD) ≤ 1 ∧ costAll (pls.map sideD) ≤ 4000 * pls.length
  | [] => ⟨rfl, by simp [PyData.depthAll], by simp [costAll]⟩
  | p :: pls => by
    obtain ⟨h1, h2, h3⟩ := sides_rep pls
    have hp : plainD (sideD p) = true ∧ (sideD p).depth ≤ 0 ∧ cost (sideD p) ≤ 2000 := by
      cases p with
      | put s => exact ⟨by cases s <;> decide +kernel, by simp [sideD, PyData.depth], by simp only [sideD, cost]; omega⟩
      | out v w => exact ⟨rfl, by simp [sideD, PyData.depth], by simp only [sideD, cost]; omega⟩
    obtain ⟨k1, k2, k3⟩ := hp
    refine ⟨by rw [List.map_cons, plainAll, k1, h1]; rfl, by rw [List.map_cons]; simp only [PyData.depthAll]; omega, ?_⟩
    rw [List.map_cons, List.length_cons]
    simp only [costAll]
    omega
theorem sides_ok {pls : List Pl} (h : pls.length ≤ 30) : RepOk (.list (pls.map sideD)) := by
  obtain ⟨h1, h2, h3⟩ := sides_rep pls
  exact ⟨by simp only [plainD]; exact h1, by simp only [PyData.depth]; omega, by simp only [cost]; rw [show sizeLine = 16777216 by decide]; omega⟩
theorem cut1 {ds : List PyData} : cutD ds none (some 1) = ds.take 1 := by
  cases ds with
  | nil => rfl
  | cons d ds => exact cutT_to (k := 1) (by simp)
def wideP (P : Pb) : Pb := ⟨⟨P.area.l, P.area.t, P.area.w + 110, P.area.h⟩, P.obs, P.labs⟩
def oth (P : Pb) (k : Nat) : List R := P.obs.take k ++ P.obs.drop (k + 1)
theorem oth_mem {P : Pb} {k : Nat} {b : R} (h : P.obs[k]? = some b) (o : R) : o ∈ P.obs ↔ o ∈ oth P k ∨ o = b := by
  obtain ⟨hk, e⟩ := List.getElem?_eq_some_iff.mp h
  have key : P.obs = P.obs.take k ++ (b :: P.obs.drop (k + 1)) := by
    conv => lhs; rw [← List.take_append_drop k P.obs]
    rw [List.drop_eq_getElem_cons hk, e]
  unfold oth
  constructor
  · intro m
    rw [key] at m
    rcases List.mem_append.mp m with z | z
    · exact .inl (List.mem_append.mpr (.inl z))
    · rcases List.mem_cons.mp z with z | z
      · exact .inr z
      · exact .inl (List.mem_append.mpr (.inr z))
  · rintro (m | rfl)
    · rcases List.mem_append.mp m with z | z
      · exact List.mem_of_mem_take z
      · exact List.mem_of_mem_drop z
    · exact List.mem_of_getElem? h
theorem oth_len {P : Pb} {k : Nat} : (oth P k).length ≤ P.obs.length + 0 + P.obs.length := by
  unfold oth
  rw [List.length_append, List.length_take, List.length_drop]
  omega
theorem oth_d {P : Pb} {k : Nat} (hk : k < P.obs.length) : cutD (P.obs.map R.d) none (some (k : Int)) ++ cutD (P.obs.map R.d) (some ((k + 1 : Nat) : Int)) none = (oth P k).map R.d := by
  rw [cutT_to (by rw [List.length_map]; omega), cutT_from (by rw [List.length_map]; omega)]
  unfold oth
  rw [List.map_append, List.map_take, List.map_drop]
theorem alone_wp {P : Pb} {k : Nat} {b : R} (h : P.obs[k]? = some b) (no : P.obs.length ≤ 100) {α : Type} {kk : C → M α} {Q : α → Prop} (q : wp (kk (.val (.bool (freeB ⟨P.area, oth P k, []⟩ b)))) Q) : wp ((f_law_alone [.val P.d, .val (.int (k : Int))]).bind kk) Q := by
  obtain ⟨hk, _⟩ := List.getElem?_eq_some_iff.mp h
  refine wp_call (fun c => c = .val (.bool (freeB ⟨P.area, oth P k, []⟩ b))) ?_ (by rintro c rfl; exact q)
  unfold f_law_alone
  refine wp_fn rfl ?_
  refine wp_seqJ (fun ρ => ρ = [some (.val P.d), some (.val (.int (k : Int))), some (.val (.tuple ((oth P k).map R.d)))]) ?_ ?_
  · walk_at "wk"
    rw [pd1]
    walk_at "wk"
    rw [show ((k : Int) + 1) = ((k + 1 : Nat) : Int) by omega]
    try rw [if_pos (by rw [cutT_to (by rw [List.length_map]; omega), cutT_from (by rw [List.length_map]; omega), List.length_take, List.length_drop, List.length_map]; omega)]
    rw [oth_d hk]
    walk_at "wk"
    rfl
  rintro ρ rfl
  walk_at "wk"
  rw [pd0]
  walk_at "wk"
  rw [pd1]
  walk_at "wk"
  rw [show atD (P.obs.map R.d) (k : Int) = .ret (.val b.d) from atD_get (by rw [List.getElem?_map, h]; rfl)]
  walk_at "wk"
  rw [show PyData.tuple [P.area.d, .tuple ((oth P k).map R.d), .tuple []] = (⟨P.area, oth P k, []⟩ : Pb).d from rfl, law_free_eq]
  walk_at "wk"
  try rfl
theorem law_true : wp (m_law ([none, some .tape] ++ List.replicate 15 none)) (fun r => r = .rt (.val (.bool true))) := by
  unfold m_law
  refine wp_seqJ (fun ρ => ∃ P, PbOk P ∧ (P.labs.length : Int) ≤ 7 ∧ ρ = [none, some .tape, some (.val P.d), none, none, none, none, none, none, none, none, none, none, none, none, none, none]) ?_ ?_
  · walk_at "wk"
    refine problem_wp (by decide) (by decide) fun P hP hm => ?_
    walk_at "wk"
    exact ⟨P, hP, hm, rfl⟩
  rintro ρ ⟨P, hPo, m7, rfl⟩
  have h50 := hPo.ar.h2
  have nl := hPo.nl
  have no : P.obs.length ≤ 10 := hPo.no
  have h7 := hPo.h7
  have w0 := hPo.ar.w1
  have pW : PbS (wideP P) := ⟨nl, by show P.obs.length ≤ 100; omega⟩
  refine wp_seqJ (fun ρ => ρ = [none, some .tape, some (.val P.d), some (.val (.tuple (P.labs.map labD))), none, none, none, none, none, none, none, none, none, none, none, none, none]) ?_ ?_
  · walk_at "wk"
    rw [pd2]
    walk_at "wk"
    rfl
  rintro ρ rfl
  refine wp_seqJ (fun ρ => ρ = [none, some .tape, some (.val P.d), some (.val (.tuple (P.labs.map labD))), some (.val (wideP P).d), none, none, none, none, none, none, none, none, none, none, none, none]) ?_ ?_
  · walk_at "wk"
    rw [pd0, pd1]
    walk_at "wk"
    rw [ad0, ad1, ad2, ad3]
    walk_at "wk"
    rfl
  rintro ρ rfl
  refine wp_seqJ (fun ρ => ∃ pls : List Pl, pls.length = P.labs.length ∧ (∀ k p, pls[k]? = some p → PlOk (wideP P) k p) ∧ Places (wideP P) (wideP P).labs.length (pls.map plD) ∧ ρ = [none, some .tape, some (.val P.d), some (.val (.tuple (P.labs.map labD))), some (.val (wideP P).d), some (.val (.tuple (pls.map plD))), none, none, none, none, none, none, none, none, none, none, none]) ?_ ?_
  · walk_at "wk"
    refine place_wp pW fun ds h => ?_
    walk_at "wk"
    obtain ⟨pls, rfl, h1, h2⟩ := h.pls
    exact ⟨pls, h1, h2, h, rfl⟩
  rintro ρ ⟨pls, hl, ok, hpl, rfl⟩
  have rpT := places_rep pW hpl
  refine wp_seqJ (fun ρ => ∃ a : Nat, a ≤ P.labs.length ∧ ρ = [none, some .tape, some (.val P.d), some (.val (.tuple (P.labs.map labD))), some (.val (wideP P).d), some (.val (.tuple (pls.map plD))), some (.val (.int (a : Int))), none, none, none, none, none, none, none, none, none, none]) ?_ ?_
  · walk_at "wk"
    refine wp_drawn (by rw [List.length_map]; omega) fun a a0 a1 => ?_
    rw [List.length_map] at a1
    walk_at "wk"
    exact ⟨a.toNat, by omega, by rw [Int.toNat_of_nonneg a0]⟩
  rintro ρ ⟨a, ha, rfl⟩
  refine wp_seqJ (fun ρ => ∃ x : Int, P.area.l + P.area.w + 100 ≤ x ∧ x ≤ P.area.l + P.area.w + 104 ∧ ρ = [none, some .tape, some (.val P.d), some (.val (.tuple (P.labs.map labD))), some (.val (wideP P).d), some (.val (.tuple (pls.map plD))), some (.val (.int (a : Int))), some (.val (.int x)), none, none, none, none, none, none, none, none, none]) ?_ ?_
  · walk_at "wk"
    rw [pd0]
    walk_at "wk"
    rw [ad0, ad2]
    walk_at "wk"
    refine wp_drawn (by decide) fun v v0 v1 => ?_
    walk_at "wk"
    exact ⟨_, by omega, by omega, rfl⟩
  rintro ρ ⟨x, x0, x1, rfl⟩
  refine wp_seqJ (fun ρ => ∃ f : R, f.l = x ∧ In f (wideP P).area = true ∧ ρ = [none, some .tape, some (.val P.d), some (.val (.tuple (P.labs.map labD))), some (.val (wideP P).d), some (.val (.tuple (pls.map plD))), some (.val (.int (a : Int))), some (.val (.int x)), some (.val f.d), none, none, none, none, none, none, none, none]) ?_ ?_
  · walk_at "wk"
    rw [pd0]
    walk_at "wk"
    rw [ad1, ad3]
    walk_at "wk"
    refine wp_drawn (by omega) fun v v0 v1 => ?_
    walk_at "wk"
    refine wp_drawn (by decide) fun u u0 u1 => ?_
    walk_at "wk"
    refine ⟨⟨x, P.area.t + v, u, 6⟩, rfl, in_iff.mpr ?_, rfl⟩
    show P.area.l ≤ x ∧ P.area.t ≤ P.area.t + v ∧ x + u ≤ P.area.l + (P.area.w + 110) ∧ P.area.t + v + 6 ≤ P.area.t + P.area.h
    omega
  rintro ρ ⟨f, fx, fin, rfl⟩
  refine wp_seqJ (fun ρ => ∃ r : R, ρ = [none, some .tape, some (.val P.d), some (.val (.tuple (P.labs.map labD))), some (.val (wideP P).d), some (.val (.tuple (pls.map plD))), some (.val (.int (a : Int))), some (.val (.int x)), some (.val f.d), some (.val r.d), none, none, none, none, none, none, none]) ?_ ?_
  · walk_at "wk"
    rw [pd0]
    walk_at "wk"
    refine wp_drawn (by decide) fun v v0 v1 => ?_
    walk_at "wk"
    refine wp_drawn (by decide) fun u u0 u1 => ?_
    walk_at "wk"
    refine rect_wp hPo.ar (by omega) (by omega) (by omega) (by omega) fun r hr hr1 hr2 => ?_
    walk_at "wk"
    exact ⟨r, rfl⟩
  rintro ρ ⟨r0, rfl⟩
  refine wp_seqJ (fun ρ => ∃ r : R, ρ = [none, some .tape, some (.val P.d), some (.val (.tuple (P.labs.map labD))), some (.val (wideP P).d), some (.val (.tuple (pls.map plD))), some (.val (.int (a : Int))), some (.val (.int x)), some (.val f.d), some (.val r.d), none, none, none, none, none, none, none]) ?_ ?_
  · walk_at "wk"
    by_cases hn : P.labs = []
    · rw [hn, show (!(List.map labD []).isEmpty) = false from rfl]
      walk_at "wk"
      exact ⟨r0, rfl⟩
    · have hpos := List.length_pos_iff.mpr hn
      rw [show (!(List.map labD P.labs).isEmpty) = true by cases e : P.labs with | nil => exact absurd e hn | cons _ _ => rfl]
      walk_at "wk"
      refine wp_drawn (by decide) fun n n0 n1 => ?_
      walk_at "wk"
      refine wp_ite (fun h => ?_) (fun h => ?_)
      · refine wp_drawn (by rw [List.length_map]; omega) fun m m0 m1 => ?_
        rw [List.length_map] at m1
        walk_at "wk"
        refine wp_pick m0 (by rw [List.length_map]; omega) fun d hd => ?_
        obtain ⟨z, hz, rfl⟩ := List.mem_map.mp hd
        walk_at "wk"
        refine wp_drawn (by decide) fun w w0 w1 => ?_
        walk_at "wk"
        have : w = 0 ∨ w = 1 := by omega
        rcases this with rfl | rfl
        · rw [lab0]
          walk_at "wk"
          exact ⟨z.1, rfl⟩
        · rw [lab1]
          walk_at "wk"
          exact ⟨z.2, rfl⟩
      · walk_at "wk"
        exact ⟨r0, rfl⟩
  rintro ρ ⟨r, rfl⟩
  refine wp_seqJ (fun ρ => ρ = [none, some .tape, some (.val P.d), some (.val (.tuple (P.labs.map labD))), some (.val (wideP P).d), some (.val (.tuple (pls.map plD))), some (.val (.int (a : Int))), some (.val (.int x)), some (.val f.d), some (.val r.d), some (.own (.lst ((pls.map (mvP (phi a))).map plD))), none, none, none, none, none, none]) ?_ ?_
  · walk_at "wk"
    refine ren_wp (by omega) (fun v w h => ?_) ?_
    · obtain ⟨k, hk, ek⟩ := List.getElem_of_mem h
      have := (ok k _ (by rw [List.getElem?_eq_getElem hk, ek])).small (by show k < P.labs.length; omega) (show (wideP P).labs.length ≤ 20 from nl)
      omega
    walk_at "wk"
    rfl
  rintro ρ rfl
  generalize hN : Pl.put false = nw
  have ml : a ≤ (pls.map (mvP (phi a))).length := by rw [List.length_map]; omega
  generalize hD : (pls.map (mvP (phi a))).take a ++ [nw] ++ (pls.map (mvP (phi a))).drop a = due
  refine wp_seqJ (fun ρ => ρ = [none, some .tape, some (.val P.d), some (.val (.tuple (P.labs.map labD))), some (.val (wideP P).d), some (.val (.tuple (pls.map plD))), some (.val (.int (a : Int))), some (.val (.int x)), some (.val f.d), some (.val r.d), some (.own (.lst (due.map plD))), none, none, none, none, none, none]) ?_ ?_
  · walk_at "wk"
    rw [mIns_at (ds := (pls.map (mvP (phi a))).map plD) (j := (a : Int)) (d := plD nw) rfl (by walk_at "wk"; rw [← hN]; rfl) (by omega) (by omega) (by rw [List.length_map, List.length_map]; omega)]
    rw [Int.toNat_natCast, ← List.map_take, ← List.map_drop, ← List.map_singleton, ← List.map_append, ← List.map_append, hD]
    walk_at "wk"
    rfl
  rintro ρ rfl
  have haW : a ≤ (wideP P).labs.length := ha
  have fo : ∀ o ∈ (wideP P).obs, o.l + o.w ≤ f.l := fun o ho => by have := (hPo.obs o ho).2; omega
  have fl : ∀ p ∈ (wideP P).labs, p.1.l + p.1.w ≤ f.l ∧ p.2.l + p.2.w ≤ f.l := fun p hp => by
    obtain ⟨q1, q2⟩ := hPo.labs p hp
    have := q1.2
    have := q2.2
    omega
  have I := far_inst (fu := (f, r)) haW fin fo fl
  have dl : due.length = (insP (wideP P) a (f, r)).labs.length := by
    rw [← hD, ins_len haW, List.length_append, List.length_append, List.length_take, List.length_drop, List.length_singleton, List.length_map]
    show _ = P.labs.length + 1
    omega
  have dp : Places (insP (wideP P) a (f, r)) (insP (wideP P) a (f, r)).labs.length (due.map plD) := places_of dl fun k p hp => by
    by_cases hk : k = a
    · subst hk
      rw [← hD, ins_at ml] at hp
      rw [← Option.some.inj hp, ← hN]
      exact I.new
    · have hk' : k < P.labs.length + 1 := by
        have := (List.getElem?_eq_some_iff.mp hp).1
        rw [dl, ins_len haW] at this
        exact this
      obtain ⟨n, rfl⟩ := phi_sur hk
      have hn : n < P.labs.length := by unfold phi at hk'; split at hk' <;> omega
      rw [← hD, ins_get ml, List.getElem?_map] at hp
      cases hq2 : pls[n]? with
      | none => rw [hq2] at hp; cases hp
      | some q =>
        rw [hq2] at hp
        cases hp
        exact I.plok (ins_emb haW) (far_d1 haW fin fo fl) (far_d2 haW fin fo fl) hn (ok n q hq2)
  have l7 : P.labs.length ≤ 19 := by omega
  have pI : PbS (insP (wideP P) a (f, r)) := ⟨by rw [ins_len haW]; show P.labs.length + 1 ≤ 20; omega, by show P.obs.length ≤ 100; omega⟩
  have rp := places_rep pI dp
  have aw : oIx (.val (wideP P).d) (.val (.int 0)) = .ret (.val (wideP P).area.d) := pd0
  have ow : oIx (.val (wideP P).d) (.val (.int 1)) = .ret (.val (.tuple (P.obs.map R.d))) := pd1
  refine wp_seqJ (fun ρ => ρ = [none, some .tape, some (.val P.d), some (.val (.tuple (P.labs.map labD))), some (.val (wideP P).d), some (.val (.tuple (pls.map plD))), some (.val (.int (a : Int))), some (.val (.int x)), some (.val f.d), some (.val r.d), some (.own (.lst (due.map plD))), some (.val (insP (wideP P) a (f, r)).d), none, none, none, none, none]) ?_ ?_
  · walk_at "wk"
    rw [aw, ow]
    walk_at "wk"
    rw [cutT_to (by rw [List.length_map]; exact ha), cutT_from (by rw [List.length_map]; exact ha)]
    rw [if_pos (by rw [List.length_take]; omega), if_pos (by rw [List.length_append, List.length_take, List.length_drop, List.length_map, List.length_singleton]; omega)]
    rw [show PyData.tuple [(wideP P).area.d, .tuple (P.obs.map R.d), .tuple ((P.labs.map labD).take a ++ [PyData.tuple [f.d, r.d]] ++ (P.labs.map labD).drop a)] = (insP (wideP P) a (f, r)).d by unfold insP Pb.d; rw [List.map_append, List.map_append, List.map_take, List.map_drop]; rfl]
    walk_at "wk"
    rfl
  rintro ρ rfl
  refine wp_seqJ (fun ρ => ρ = [none, some .tape, some (.val P.d), some (.val (.tuple (P.labs.map labD))), some (.val (wideP P).d), some (.val (.tuple (pls.map plD))), some (.val (.int (a : Int))), some (.val (.int x)), some (.val f.d), some (.val r.d), some (.own (.lst (due.map plD))), some (.val (insP (wideP P) a (f, r)).d), none, none, none, none, none]) ?_ ?_
  · walk_at "wk"
    refine place_wp pI fun ds h => ?_
    cases h.one dp
    walk_at "wk"
    rw [repr_ok rp]
    walk_at "wk"
    try rw [repr_ok rp]
    walk_at "wk"
    try rw [ne_same]
    walk_at "wk"
    rfl
  rintro ρ rfl
  refine wp_seqJ (fun ρ => ρ = [none, some .tape, some (.val P.d), some (.val (.tuple (P.labs.map labD))), some (.val (wideP P).d), some (.val (.tuple (pls.map plD))), some (.val (.int (a : Int))), some (.val (.int x)), some (.val f.d), some (.val r.d), some (.own (.lst (due.map plD))), some (.val (insP (wideP P) a (f, r)).d), some (.val (.tuple ((P.obs.reverse ++ P.obs.take 1).map R.d))), none, none, none, none]) ?_ ?_
  · walk_at "wk"
    rw [ow]
    walk_at "wk"
    rw [cut1, if_pos (by rw [List.length_reverse, List.length_take, List.length_map]; omega), ← List.map_reverse, ← List.map_take, ← List.map_append]
    walk_at "wk"
    rfl
  rintro ρ rfl
  have al := obs_alike (P := wideP P) (os := P.obs.reverse ++ P.obs.take 1) fun o => by
    rw [List.mem_append, List.mem_reverse]
    exact ⟨fun h => h.elim id fun h => List.mem_of_mem_take h, .inl⟩
  refine wp_seqJ (fun ρ => ρ = [none, some .tape, some (.val P.d), some (.val (.tuple (P.labs.map labD))), some (.val (wideP P).d), some (.val (.tuple (pls.map plD))), some (.val (.int (a : Int))), some (.val (.int x)), some (.val f.d), some (.val r.d), some (.own (.lst (due.map plD))), some (.val (insP (wideP P) a (f, r)).d), some (.val (.tuple ((P.obs.reverse ++ P.obs.take 1).map R.d))), none, none, none, none]) ?_ ?_
  · walk_at "wk"
    rw [aw]
    walk_at "wk"
    rw [show PyData.tuple [(wideP P).area.d, .tuple ((P.obs.reverse ++ P.obs.take 1).map R.d), .tuple (P.labs.map labD)] = (obsP (wideP P) (P.obs.reverse ++ P.obs.take 1)).d from rfl]
    refine place_wp (P := obsP (wideP P) (P.obs.reverse ++ P.obs.take 1)) ⟨nl, by show (P.obs.reverse ++ P.obs.take 1).length ≤ 100; rw [List.length_append, List.length_reverse, List.length_take]; omega⟩ fun ds h => ?_
    cases h.one (al.places hpl)
    walk_at "wk"
    rw [repr_ok rpT]
    walk_at "wk"
    try rw [repr_ok rpT]
    walk_at "wk"
    try rw [ne_same]
    walk_at "wk"
    rfl
  rintro ρ rfl
  refine wp_seqJ (fun ρ => ∃ z13 z14 z15 z16 : Option C, ρ = [none, some .tape, some (.val P.d), some (.val (.tuple (P.labs.map labD))), some (.val (wideP P).d), some (.val (.tuple (pls.map plD))), some (.val (.int (a : Int))), some (.val (.int x)), some (.val f.d), some (.val r.d), some (.own (.lst (due.map plD))), some (.val (insP (wideP P) a (f, r)).d), some (.val (.tuple ((P.obs.reverse ++ P.obs.take 1).map R.d))), z13, z14, z15, z16]) ?_ ?_
  · walk_at "wk"
    rw [ow]
    walk_at "wk"
    rw [List.length_map, if_pos (rngOk_ok (by omega) (by omega))]
    walk_at "wk"
    refine wp_turns (n := (P.obs.length : Int).toNat) (fun i ρ => ∃ z13 z14 z15 z16 : Option C, ρ = [none, some .tape, some (.val P.d), some (.val (.tuple (P.labs.map labD))), some (.val (wideP P).d), some (.val (.tuple (pls.map plD))), some (.val (.int (a : Int))), some (.val (.int x)), some (.val f.d), some (.val r.d), some (.own (.lst (due.map plD))), some (.val (insP (wideP P) a (f, r)).d), some (.val (.tuple ((P.obs.reverse ++ P.obs.take 1).map R.d))), z13, z14, z15, z16]) (fun ρ h => h) ?_ ⟨none, none, none, none, rfl⟩
    rintro i es ρ hi ⟨z13, z14, z15, z16, rfl⟩
    have hi' : i < P.obs.length := by omega
    rw [show (PyData.int (0 + (i : Int) * 1)) = .int (i : Int) by congr 1; omega]
    rw [show (asgR 13 (.val (.int (i : Int))) [none, some .tape, some (.val P.d), some (.val (.tuple (P.labs.map labD))), some (.val (wideP P).d), some (.val (.tuple (pls.map plD))), some (.val (.int (a : Int))), some (.val (.int x)), some (.val f.d), some (.val r.d), some (.own (.lst (due.map plD))), some (.val (insP (wideP P) a (f, r)).d), some (.val (.tuple ((P.obs.reverse ++ P.obs.take 1).map R.d))), z13, z14, z15, z16]) = .ret [none, some .tape, some (.val P.d), some (.val (.tuple (P.labs.map labD))), some (.val (wideP P).d), some (.val (.tuple (pls.map plD))), some (.val (.int (a : Int))), some (.val (.int x)), some (.val f.d), some (.val r.d), some (.own (.lst (due.map plD))), some (.val (insP (wideP P) a (f, r)).d), some (.val (.tuple ((P.obs.reverse ++ P.obs.take 1).map R.d))), some (.val (.int (i : Int))), z14, z15, z16] from rfl, retB]
    obtain ⟨b, hb⟩ : ∃ b, P.obs[i]? = some b := ⟨_, List.getElem?_eq_getElem hi'⟩
    walk_at "wk"
    refine alone_wp (P := wideP P) hb (by show P.obs.length ≤ 100; omega) ?_
    walk_at "wk"
    cases hfr : freeB ⟨(wideP P).area, oth (wideP P) i, []⟩ b with
    | false =>
      walk_at "wk"
      exact ⟨_, _, _, _, rfl⟩
    | true =>
      unfold freeB at hfr
      rw [Bool.and_eq_true, Bool.not_eq_true', List.any_eq_false] at hfr
      have J := blk_inst (P := wideP P) (os := oth (wideP P) i) (b := b) (oth_mem hb) hfr.1 fun o ho => by simpa using hfr.2 o ho
      have pB : PbS (blkP (wideP P) (oth (wideP P) i) b) := ⟨by rw [J.len]; show P.labs.length + 1 ≤ 20; omega, by
        show (oth (wideP P) i).length ≤ 100
        have := oth_len (P := wideP P) (k := i)
        have : (wideP P).obs.length ≤ 10 := no
        omega⟩
      have oc : cutD (P.obs.map R.d) none (some (i : Int)) ++ cutD (P.obs.map R.d) (some ((i : Int) + 1)) none = (oth (wideP P) i).map R.d := oth_d (P := wideP P) hi'
      have ol1 : (cutD (P.obs.map R.d) none (some (i : Int))).length + (cutD (P.obs.map R.d) (some ((i : Int) + 1)) none).length ≤ 16777216 := by
        have e := congrArg List.length oc
        rw [List.length_append, List.length_map] at e
        have := oth_len (P := wideP P) (k := i)
        have : (wideP P).obs.length ≤ 10 := no
        omega
      rw [if_pos rfl, ow]
      walk_at "wk"
      rw [show atD (P.obs.map R.d) (i : Int) = .ret (.val b.d) from atD_get (by rw [List.getElem?_map, hb]; rfl)]
      walk_at "wk"
      rw [ow]
      walk_at "wk"
      rw [if_pos ol1, oc]
      walk_at "wk"
      rw [aw]
      walk_at "wk"
      rw [if_pos (by rw [List.length_map]; omega)]
      rw [show PyData.tuple [(wideP P).area.d, .tuple ((oth (wideP P) i).map R.d), .tuple ([PyData.tuple [b.d, b.d]] ++ P.labs.map labD)] = (blkP (wideP P) (oth (wideP P) i) b).d from rfl]
      refine place_wp pB fun ds h => ?_
      obtain ⟨tls, rfl, t1, t2⟩ := h.pls
      have tl : tls.length = P.labs.length + 1 := by rw [t1, J.len]; rfl
      have same : tls.map sideD = .int 0 :: pls.map sideD := by
        refine List.ext_getElem? fun j => ?_
        by_cases hj : j < P.labs.length + 1
        · obtain ⟨q, hq⟩ : ∃ q, tls[j]? = some q := ⟨_, List.getElem?_eq_getElem (by omega)⟩
          have oq := t2 j q hq
          cases j with
          | zero =>
            rw [List.getElem?_map, hq, J.new_side oq]
            rfl
          | succ n =>
            obtain ⟨p, hp⟩ : ∃ p, pls[n]? = some p := ⟨_, List.getElem?_eq_getElem (by omega)⟩
            rw [List.getElem?_map, hq, List.getElem?_cons_succ, List.getElem?_map, hp, Option.map_some, Option.map_some, J.sides (n := n) (show n < P.labs.length by omega) (ok n p hp) oq]
        · rw [List.getElem?_eq_none (by rw [List.length_map]; omega), List.getElem?_eq_none (by rw [List.length_cons, List.length_map]; omega)]
      have rpS : RepOk (.list (tls.map sideD)) := sides_ok (by omega)
      walk_at "wk"
      refine sides_wp' (by omega) ?_
      walk_at "wk"
      try rw [repr_ok rpS]
      walk_at "wk"
      refine sides_wp' (by omega) ?_
      walk_at "wk"
      rw [List.length_map, if_pos (by omega), show [PyData.int 0] ++ pls.map sideD = tls.map sideD from same.symm, repr_ok rpS]
      walk_at "wk"
      try rw [oEq_s, decide_eq_true rfl]
      walk_at "wk"
      try rfl
  rintro ρ ⟨z13, z14, z15, z16, rfl⟩
  walk_at "wk"

section
variable {P : Program} {w : World} {K : PySem.W.Frag} {mg : Str → Option Value} {base : Heap}
theorem fn_law {f : Addr} {fd : FuncData} (M : Blt mg) (F : Fun K "law" "law" s_law f fd) (D_law_tape : Df P w K mg base 1 "_law_tape" ["script"] (sp_law_tape K)) (D_law_problem : Df P w K mg base 5 "_law_problem" ["tape", "most"] (spU K f_law_problem)) (D_place_labels : Df P w K mg base 9 "place_labels" ["problem"] (spU K f_place_labels)) (D_law_draw : Df P w K mg base 1 "_law_draw" ["tape", "many"] (sp_law_draw K)) (D_law_rectangle : Df P w K mg base 3 "_law_rectangle" ["tape", "area", "size"] (spU K f_law_rectangle)) (D_law_renumbered : Df P w K mg base 1 "_law_renumbered" ["placement", "at"] (spU K f_law_renumbered)) (D_law_alone : Df P w K mg base 3 "_law_alone" ["problem", "at"] (spU K f_law_alone)) (D_law_sides : Df P w K mg base 1 "_law_sides" ["placement"] (spU K f_law_sides)) : FnG P w K mg base 10 f fd ["script"] (spLaw K) := by
  have nd := sc_law.nd
  refine FnG.of F sc_law (fun vs H Q E h => ?_) (fun cdv A out s H vs Q E hr hgd h => ?_)
  · obtain ⟨a, ns, rfl, _⟩ := h
    rfl
  · obtain ⟨a, ns, rfl, hS, hlen, q⟩ := h
    refine ⟨_, pss_cons (ps_set (i := 1) nd rfl (Or.inl rfl) (pe_df D_law_tape (hr.mono (by decide)) hgd rfl (pa_cons (pv 0) pa_nil)))
      (pss_cons (ps_set (i := 2) nd rfl (Or.inl rfl) (pe_df D_law_problem (hr.mono (by decide)) hgd rfl (pa_cons (pv 1) (pa_cons pe_int pa_nil))))
      (pss_cons (ps_set (i := 3) nd rfl (Or.inl rfl) (pe_ix (ixU K) (pv 2) pe_int (fun _ _ => rfl)))
      (pss_cons (ps_set (i := 4) nd rfl (Or.inl rfl) (pe_tup (pa_cons (pe_tup (pa_cons (pe_ix (ixU K) (pe_ix (ixU K) (pv 2) pe_int (fun _ _ => rfl)) pe_int (fun _ _ => rfl)) (pa_cons (pe_ix (ixU K) (pe_ix (ixU K) (pv 2) pe_int (fun _ _ => rfl)) pe_int (fun _ _ => rfl)) (pa_cons (pe_op (opAdd K) (pe_ix (ixU K) (pe_ix (ixU K) (pv 2) pe_int (fun _ _ => rfl)) pe_int (fun _ _ => rfl)) pe_int) (pa_cons (pe_ix (ixU K) (pe_ix (ixU K) (pv 2) pe_int (fun _ _ => rfl)) pe_int (fun _ _ => rfl)) pa_nil))))) (pa_cons (pe_ix (ixU K) (pv 2) pe_int (fun _ _ => rfl)) (pa_cons (pv 3) pa_nil)))))
      (pss_cons (ps_set (i := 5) nd rfl (Or.inl rfl) (pe_df D_place_labels (hr.mono (by decide)) hgd rfl (pa_cons (pv 4) pa_nil)))
      (pss_cons (ps_set (i := 6) nd rfl (Or.inl rfl) (pe_df D_law_draw (hr.mono (by decide)) hgd rfl (pa_cons (pv 1) (pa_cons (pe_op (opAdd K) (pe_callB (lenK K) (by rfl) M.len (by decide +kernel) (pa_cons (pv 3) pa_nil)) pe_int) pa_nil))))
      (pss_cons (ps_set (i := 7) nd rfl (Or.inl rfl) (pe_op (opAdd K) (pe_op (opAdd K) (pe_op (opAdd K) (pe_ix (ixU K) (pe_ix (ixU K) (pv 2) pe_int (fun _ _ => rfl)) pe_int (fun _ _ => rfl)) (pe_ix (ixU K) (pe_ix (ixU K) (pv 2) pe_int (fun _ _ => rfl)) pe_int (fun _ _ => rfl))) pe_int) (pe_df D_law_draw (hr.mono (by decide)) hgd rfl (pa_cons (pv 1) (pa_cons pe_int pa_nil)))))
      (pss_cons (ps_set (i := 8) nd rfl (Or.inl rfl) (pe_tup (pa_cons (pv 7) (pa_cons (pe_op (opAdd K) (pe_ix (ixU K) (pe_ix (ixU K) (pv 2) pe_int (fun _ _ => rfl)) pe_int (fun _ _ => rfl)) (pe_df D_law_draw (hr.mono (by decide)) hgd rfl (pa_cons (pv 1) (pa_cons (pe_op op_sub (pe_ix (ixU K) (pe_ix (ixU K) (pv 2) pe_int (fun _ _ => rfl)) pe_int (fun _ _ => rfl)) pe_int) pa_nil)))) (pa_cons (pe_df D_law_draw (hr.mono (by decide)) hgd rfl (pa_cons (pv 1) (pa_cons pe_int pa_nil))) (pa_cons pe_int pa_nil))))))
      (pss_cons (ps_set (i := 9) nd rfl (Or.inl rfl) (pe_df D_law_rectangle (hr.mono (by decide)) hgd rfl (pa_cons (pv 1) (pa_cons (pe_ix (ixU K) (pv 2) pe_int (fun _ _ => rfl)) (pa_cons (pe_tup (pa_cons (pe_df D_law_draw (hr.mono (by decide)) hgd rfl (pa_cons (pv 1) (pa_cons pe_int pa_nil))) (pa_cons (pe_df D_law_draw (hr.mono (by decide)) hgd rfl (pa_cons (pv 1) (pa_cons pe_int pa_nil))) pa_nil))) pa_nil)))))
      (pss_cons (ps_if (PW.pt (pw_and (truK K (pv 3)) (pw_and1 (pt_cmpR (opEq K hr.units) (pe_df D_law_draw (hr.mono (by decide)) hgd rfl (pa_cons (pv 1) (pa_cons pe_int pa_nil))) pe_int (nomark _))))) (pss_one (ps_set (i := 9) nd rfl (Or.inl rfl) (pe_ix (ixU K) (pe_ix (ixU K) (pv 3) (pe_df D_law_draw (hr.mono (by decide)) hgd rfl (pa_cons (pv 1) (pa_cons (pe_callB (lenK K) (by rfl) M.len (by decide +kernel) (pa_cons (pv 3) pa_nil)) pa_nil))) (fun _ _ => rfl)) (pe_df D_law_draw (hr.mono (by decide)) hgd rfl (pa_cons (pv 1) (pa_cons pe_int pa_nil))) (fun _ _ => rfl)))) pss_nil)
      (pss_cons (ps_set (i := 10) nd rfl (Or.inl rfl) (pe_df D_law_renumbered (hr.mono (by decide)) hgd rfl (pa_cons (pv 5) (pa_cons (pv 6) pa_nil))))
      (pss_cons (ps_expr (pe_bm PySem.F.plainAttrs_list PySem.F.slot_list_insert PySem.F.type_list_insert mt_ins (pv 10) (pa_cons (pv 6) (pa_cons pe_int pa_nil))))
      (pss_cons (ps_set (i := 11) nd rfl (Or.inl rfl) (pe_tup (pa_cons (pe_ix (ixU K) (pv 4) pe_int (fun _ _ => rfl)) (pa_cons (pe_ix (ixU K) (pv 4) pe_int (fun _ _ => rfl)) (pa_cons (pe_op (opAdd K) (pe_op (opAdd K) (pe_slice (slU K) (pv 3) po_none (po_some (pv 6))) (pe_tup (pa_cons (pe_tup (pa_cons (pv 8) (pa_cons (pv 9) pa_nil))) pa_nil))) (pe_slice (slU K) (pv 3) (po_some (pv 6)) po_none)) pa_nil)))))
      (pss_cons (ps_if (pt_cmpR (opNe K hr.units) (pe_callB (reprK K hr.units hgd) (by rfl) M.repr (by decide +kernel) (pa_cons (pe_df D_place_labels (hr.mono (by decide)) hgd rfl (pa_cons (pv 11) pa_nil)) pa_nil)) (pe_callB (reprK K hr.units hgd) (by rfl) M.repr (by decide +kernel) (pa_cons (pe_callTy (tupK K) (by rfl) M.tuple (by decide +kernel) (pa_cons (pv 10) pa_nil)) pa_nil)) (nomark _)) (pss_one (ps_ret pe_bl)) pss_nil)
      (pss_cons (ps_set (i := 12) nd rfl (Or.inl rfl) (pe_op (opAdd K) (pe_trev rfl rfl M.tuple rfl M.reversed (pe_ix (ixU K) (pv 4) pe_int (fun _ _ => rfl))) (pe_slice (slU K) (pe_ix (ixU K) (pv 4) pe_int (fun _ _ => rfl)) po_none (po_some pe_int))))
      (pss_cons (ps_if (pt_cmpR (opNe K hr.units) (pe_callB (reprK K hr.units hgd) (by rfl) M.repr (by decide +kernel) (pa_cons (pe_df D_place_labels (hr.mono (by decide)) hgd rfl (pa_cons (pe_tup (pa_cons (pe_ix (ixU K) (pv 4) pe_int (fun _ _ => rfl)) (pa_cons (pv 12) (pa_cons (pv 3) pa_nil)))) pa_nil)) pa_nil)) (pe_callB (reprK K hr.units hgd) (by rfl) M.repr (by decide +kernel) (pa_cons (pv 5) pa_nil)) (nomark _)) (pss_one (ps_ret pe_bl)) pss_nil)
      (pss_cons (ps_for PassesOwn.never rfl (pi_range1 rfl M.range (pa_cons (pe_callB (lenK K) (by rfl) M.len (by decide +kernel) (pa_cons (pe_ix (ixU K) (pv 4) pe_int (fun _ _ => rfl)) pa_nil)) pa_nil)) (pg_name (i := 13) nd rfl (Or.inl rfl)) (pss_one (ps_if (truK K (pe_df D_law_alone (hr.mono (by decide)) hgd rfl (pa_cons (pv 4) (pa_cons (pv 13) pa_nil)))) (pss_cons (ps_set (i := 14) nd rfl (Or.inl rfl) (pe_ix (ixU K) (pe_ix (ixU K) (pv 4) pe_int (fun _ _ => rfl)) (pv 13) (fun _ _ => rfl)))
      (pss_cons (ps_set (i := 15) nd rfl (Or.inl rfl) (pe_op (opAdd K) (pe_slice (slU K) (pe_ix (ixU K) (pv 4) pe_int (fun _ _ => rfl)) po_none (po_some (pv 13))) (pe_slice (slU K) (pe_ix (ixU K) (pv 4) pe_int (fun _ _ => rfl)) (po_some (pe_op (opAdd K) (pv 13) pe_int)) po_none)))
      (pss_cons (ps_set (i := 16) nd rfl (Or.inl rfl) (pe_df D_place_labels (hr.mono (by decide)) hgd rfl (pa_cons (pe_tup (pa_cons (pe_ix (ixU K) (pv 4) pe_int (fun _ _ => rfl)) (pa_cons (pv 15) (pa_cons (pe_op (opAdd K) (pe_tup (pa_cons (pe_tup (pa_cons (pv 14) (pa_cons (pv 14) pa_nil))) pa_nil)) (pv 3)) pa_nil)))) pa_nil)))
      (pss_one (ps_ret (pe_cmpR (opEq K hr.units) (pe_callB (reprK K hr.units hgd) (by rfl) M.repr (by decide +kernel) (pa_cons (pe_df D_law_sides (hr.mono (by decide)) hgd rfl (pa_cons (pv 16) pa_nil)) pa_nil)) (pe_callB (reprK K hr.units hgd) (by rfl) M.repr (by decide +kernel) (pa_cons (pe_op (opAdd K) (pe_lst (pa_cons pe_int pa_nil)) (pe_df D_law_sides (hr.mono (by decide)) hgd rfl (pa_cons (pv 5) pa_nil))) pa_nil)) (nomark _))))))) pss_nil)))
      (pss_one (ps_ret pe_bl)))))))))))))))))), at_start (σ := [some (.ref a), none] ++ List.replicate 15 none) rfl ?_⟩
    exact law_go (k := 15) (m := m_law) (ns := ns)
      (rs_seq (rs_asg (re_fn (ra_cons (re_var (i := 1)) (ra_cons re_int ra_nil))) (rg_name (i := 2)))
      (rs_seq (rs_asg (re_op os_ix (re_var (i := 2)) re_int) (rg_name (i := 3)))
      (rs_seq (rs_asg (re_tup (ra_cons (re_tup (ra_cons (re_op os_ix (re_op os_ix (re_var (i := 2)) re_int) re_int) (ra_cons (re_op os_ix (re_op os_ix (re_var (i := 2)) re_int) re_int) (ra_cons (re_op os_add (re_op os_ix (re_op os_ix (re_var (i := 2)) re_int) re_int) re_int) (ra_cons (re_op os_ix (re_op os_ix (re_var (i := 2)) re_int) re_int) ra_nil))))) (ra_cons (re_op os_ix (re_var (i := 2)) re_int) (ra_cons (re_var (i := 3)) ra_nil)))) (rg_name (i := 4)))
      (rs_seq (rs_asg (re_fn (ra_cons (re_var (i := 4)) ra_nil)) (rg_name (i := 5)))
      (rs_seq (rs_asg (re_draw (ra_cons (re_var (i := 1)) (ra_cons (re_op os_add (re_call cs_len (ra_cons (re_var (i := 3)) ra_nil)) re_int) ra_nil))) (rg_name (i := 6)))
      (rs_seq (rs_asg (re_op os_add (re_op os_add (re_op os_add (re_op os_ix (re_op os_ix (re_var (i := 2)) re_int) re_int) (re_op os_ix (re_op os_ix (re_var (i := 2)) re_int) re_int)) re_int) (re_draw (ra_cons (re_var (i := 1)) (ra_cons re_int ra_nil)))) (rg_name (i := 7)))
      (rs_seq (rs_asg (re_tup (ra_cons (re_var (i := 7)) (ra_cons (re_op os_add (re_op os_ix (re_op os_ix (re_var (i := 2)) re_int) re_int) (re_draw (ra_cons (re_var (i := 1)) (ra_cons (re_op os_sub (re_op os_ix (re_op os_ix (re_var (i := 2)) re_int) re_int) re_int) ra_nil)))) (ra_cons (re_draw (ra_cons (re_var (i := 1)) (ra_cons re_int ra_nil))) (ra_cons re_int ra_nil))))) (rg_name (i := 8)))
      (rs_seq (rs_asg (re_fn (ra_cons (re_var (i := 1)) (ra_cons (re_op os_ix (re_var (i := 2)) re_int) (ra_cons (re_tup (ra_cons (re_draw (ra_cons (re_var (i := 1)) (ra_cons re_int ra_nil))) (ra_cons (re_draw (ra_cons (re_var (i := 1)) (ra_cons re_int ra_nil))) ra_nil))) ra_nil)))) (rg_name (i := 9)))
      (rs_seq (rs_if (rt_and (rt_tru (re_var (i := 3))) (rt_test (re_op os_eq (re_draw (ra_cons (re_var (i := 1)) (ra_cons re_int ra_nil))) re_int))) (rs_asg (re_op os_ix (re_op os_ix (re_var (i := 3)) (re_draw (ra_cons (re_var (i := 1)) (ra_cons (re_call cs_len (ra_cons (re_var (i := 3)) ra_nil)) ra_nil)))) (re_draw (ra_cons (re_var (i := 1)) (ra_cons re_int ra_nil)))) (rg_name (i := 9))) rs_next)
      (rs_seq (rs_asg (re_fn (ra_cons (re_var (i := 5)) (ra_cons (re_var (i := 6)) ra_nil))) (rg_name (i := 10)))
      (rs_seq (rs_ins (i := 10) (ra_cons (re_var (i := 6)) (ra_cons re_int ra_nil)))
      (rs_seq (rs_asg (re_tup (ra_cons (re_op os_ix (re_var (i := 4)) re_int) (ra_cons (re_op os_ix (re_var (i := 4)) re_int) (ra_cons (re_op os_add (re_op os_add (re_sl (re_var (i := 3)) ro_no (ro_some (re_var (i := 6)))) (re_tup (ra_cons (re_tup (ra_cons (re_var (i := 8)) (ra_cons (re_var (i := 9)) ra_nil))) ra_nil))) (re_sl (re_var (i := 3)) (ro_some (re_var (i := 6))) ro_no)) ra_nil)))) (rg_name (i := 11)))
      (rs_seq (rs_if (rt_test (re_op os_ne (re_call cs_repr (ra_cons (re_fn (ra_cons (re_var (i := 11)) ra_nil)) ra_nil)) (re_call cs_repr (ra_cons (re_call cs_tuple (ra_cons (re_var (i := 10)) ra_nil)) ra_nil)))) (rs_ret re_bl) rs_next)
      (rs_seq (rs_asg (re_op os_add (re_trev (re_op os_ix (re_var (i := 4)) re_int)) (re_sl (re_op os_ix (re_var (i := 4)) re_int) ro_no (ro_some re_int))) (rg_name (i := 12)))
      (rs_seq (rs_if (rt_test (re_op os_ne (re_call cs_repr (ra_cons (re_fn (ra_cons (re_tup (ra_cons (re_op os_ix (re_var (i := 4)) re_int) (ra_cons (re_var (i := 12)) (ra_cons (re_var (i := 3)) ra_nil)))) ra_nil)) ra_nil)) (re_call cs_repr (ra_cons (re_var (i := 5)) ra_nil)))) (rs_ret re_bl) rs_next)
      (rs_seq (rs_for (ri_rng1 (s := true) (ra_cons (re_call cs_len (ra_cons (re_op os_ix (re_var (i := 4)) re_int) ra_nil)) ra_nil)) (rg_name (i := 13)) (rs_if (rt_tru (re_fn (ra_cons (re_var (i := 4)) (ra_cons (re_var (i := 13)) ra_nil)))) (rs_seq (rs_asg (re_op os_ix (re_op os_ix (re_var (i := 4)) re_int) (re_var (i := 13))) (rg_name (i := 14)))
      (rs_seq (rs_asg (re_op os_add (re_sl (re_op os_ix (re_var (i := 4)) re_int) ro_no (ro_some (re_var (i := 13)))) (re_sl (re_op os_ix (re_var (i := 4)) re_int) (ro_some (re_op os_add (re_var (i := 13)) re_int)) ro_no)) (rg_name (i := 15)))
      (rs_seq (rs_asg (re_fn (ra_cons (re_tup (ra_cons (re_op os_ix (re_var (i := 4)) re_int) (ra_cons (re_var (i := 15)) (ra_cons (re_op os_add (re_tup (ra_cons (re_tup (ra_cons (re_var (i := 14)) (ra_cons (re_var (i := 14)) ra_nil))) ra_nil)) (re_var (i := 3))) ra_nil)))) ra_nil)) (rg_name (i := 16)))
      (rs_ret (re_op os_eq (re_call cs_repr (ra_cons (re_fn (ra_cons (re_var (i := 16)) ra_nil)) ra_nil)) (re_call cs_repr (ra_cons (re_op os_add (re_lst (ra_cons re_int ra_nil)) (re_fn (ra_cons (re_var (i := 5)) ra_nil))) ra_nil))))))) rs_next))
      (rs_ret re_bl)))))))))))))))))
      hS hlen (wp_out law_true) q
end

theorem all_mk {l : PySem.W.OpenLaw} {w : World} {K : PySem.W.Frag} {h : Heap} {mg : Str → Option Value} {fa : Addr} (X : K.In h) (G : h.Ns mainGlobals mg) (hfa : mg "law" = some (.ref fa))
    {f_overlap f_inside f_common f_edges f_chosen_rectangle f_is_free f_forces f_other_choice f_overlap_chosen f_shortest_chain f_reason_of f_forced_choices f_chains_from f_together f_kept_labels f_place_labels f_agree f_law_tape f_law_draw f_law_inside f_law_overlap f_law_spot f_law_rectangle f_law_label f_law_problem f_law_free f_law_renumbered f_law_sides f_law_alone f_law : Addr}
    {od_overlap an_overlap : Option Addr} {sl_overlap : Array (Option Value)} {oc_overlap kV_overlap dc_overlap pm_overlap cd_overlap ct_overlap : Value}
    {od_inside an_inside : Option Addr} {sl_inside : Array (Option Value)} {oc_inside kV_inside dc_inside pm_inside cd_inside ct_inside : Value}
    {od_common an_common : Option Addr} {sl_common : Array (Option Value)} {oc_common kV_common dc_common pm_common cd_common ct_common : Value}
    {od_edges an_edges : Option Addr} {sl_edges : Array (Option Value)} {oc_edges kV_edges dc_edges pm_edges cd_edges ct_edges : Value}
    {od_chosen_rectangle an_chosen_rectangle : Option Addr} {sl_chosen_rectangle : Array (Option Value)} {oc_chosen_rectangle kV_chosen_rectangle dc_chosen_rectangle pm_chosen_rectangle cd_chosen_rectangle ct_chosen_rectangle : Value}
    {od_is_free an_is_free : Option Addr} {sl_is_free : Array (Option Value)} {oc_is_free kV_is_free dc_is_free pm_is_free cd_is_free ct_is_free : Value}
    {od_forces an_forces : Option Addr} {sl_forces : Array (Option Value)} {oc_forces kV_forces dc_forces pm_forces cd_forces ct_forces : Value}
    {od_other_choice an_other_choice : Option Addr} {sl_other_choice : Array (Option Value)} {oc_other_choice kV_other_choice dc_other_choice pm_other_choice cd_other_choice ct_other_choice : Value}
    {od_overlap_chosen an_overlap_chosen : Option Addr} {sl_overlap_chosen : Array (Option Value)} {oc_overlap_chosen kV_overlap_chosen dc_overlap_chosen pm_overlap_chosen cd_overlap_chosen ct_overlap_chosen : Value}
    {od_shortest_chain an_shortest_chain : Option Addr} {sl_shortest_chain : Array (Option Value)} {oc_shortest_chain kV_shortest_chain dc_shortest_chain pm_shortest_chain cd_shortest_chain ct_shortest_chain : Value}
    {od_reason_of an_reason_of : Option Addr} {sl_reason_of : Array (Option Value)} {oc_reason_of kV_reason_of dc_reason_of pm_reason_of cd_reason_of ct_reason_of : Value}
    {od_forced_choices an_forced_choices : Option Addr} {sl_forced_choices : Array (Option Value)} {oc_forced_choices kV_forced_choices dc_forced_choices pm_forced_choices cd_forced_choices ct_forced_choices : Value}
    {od_chains_from an_chains_from : Option Addr} {sl_chains_from : Array (Option Value)} {oc_chains_from kV_chains_from dc_chains_from pm_chains_from cd_chains_from ct_chains_from : Value}
    {od_together an_together : Option Addr} {sl_together : Array (Option Value)} {oc_together kV_together dc_together pm_together cd_together ct_together : Value}
    {od_kept_labels an_kept_labels : Option Addr} {sl_kept_labels : Array (Option Value)} {oc_kept_labels kV_kept_labels dc_kept_labels pm_kept_labels cd_kept_labels ct_kept_labels : Value}
    {od_place_labels an_place_labels : Option Addr} {sl_place_labels : Array (Option Value)} {oc_place_labels kV_place_labels dc_place_labels pm_place_labels cd_place_labels ct_place_labels : Value}
    {od_agree an_agree : Option Addr} {sl_agree : Array (Option Value)} {oc_agree kV_agree dc_agree pm_agree cd_agree ct_agree : Value}
    {od_law_tape an_law_tape : Option Addr} {sl_law_tape : Array (Option Value)} {oc_law_tape kV_law_tape dc_law_tape pm_law_tape cd_law_tape ct_law_tape : Value}
    {od_law_draw an_law_draw : Option Addr} {sl_law_draw : Array (Option Value)} {oc_law_draw kV_law_draw dc_law_draw pm_law_draw cd_law_draw ct_law_draw : Value}
    {od_law_inside an_law_inside : Option Addr} {sl_law_inside : Array (Option Value)} {oc_law_inside kV_law_inside dc_law_inside pm_law_inside cd_law_inside ct_law_inside : Value}
    {od_law_overlap an_law_overlap : Option Addr} {sl_law_overlap : Array (Option Value)} {oc_law_overlap kV_law_overlap dc_law_overlap pm_law_overlap cd_law_overlap ct_law_overlap : Value}
    {od_law_spot an_law_spot : Option Addr} {sl_law_spot : Array (Option Value)} {oc_law_spot kV_law_spot dc_law_spot pm_law_spot cd_law_spot ct_law_spot : Value}
    {od_law_rectangle an_law_rectangle : Option Addr} {sl_law_rectangle : Array (Option Value)} {oc_law_rectangle kV_law_rectangle dc_law_rectangle pm_law_rectangle cd_law_rectangle ct_law_rectangle : Value}
    {od_law_label an_law_label : Option Addr} {sl_law_label : Array (Option Value)} {oc_law_label kV_law_label dc_law_label pm_law_label cd_law_label ct_law_label : Value}
    {od_law_problem an_law_problem : Option Addr} {sl_law_problem : Array (Option Value)} {oc_law_problem kV_law_problem dc_law_problem pm_law_problem cd_law_problem ct_law_problem : Value}
    {od_law_free an_law_free : Option Addr} {sl_law_free : Array (Option Value)} {oc_law_free kV_law_free dc_law_free pm_law_free cd_law_free ct_law_free : Value}
    {od_law_renumbered an_law_renumbered : Option Addr} {sl_law_renumbered : Array (Option Value)} {oc_law_renumbered kV_law_renumbered dc_law_renumbered pm_law_renumbered cd_law_renumbered ct_law_renumbered : Value}
    {od_law_sides an_law_sides : Option Addr} {sl_law_sides : Array (Option Value)} {oc_law_sides kV_law_sides dc_law_sides pm_law_sides cd_law_sides ct_law_sides : Value}
    {od_law_alone an_law_alone : Option Addr} {sl_law_alone : Array (Option Value)} {oc_law_alone kV_law_alone dc_law_alone pm_law_alone cd_law_alone ct_law_alone : Value}
    {od_law an_law : Option Addr} {sl_law : Array (Option Value)} {oc_law kV_law dc_law pm_law cd_law ct_law : Value}
    (a_overlap : PySem.W.nsIn K mainGlobals "overlap" = some (some (.ref f_overlap))) (l_overlap : K.lookup f_overlap = some ⟨oc_overlap, od_overlap, .func (PySem.W.fnOf "overlap" "overlap" (defArgs s_overlap) (defBody s_overlap) (defScope s_overlap) .none kV_overlap dc_overlap pm_overlap an_overlap cd_overlap ct_overlap), sl_overlap⟩) (c_overlap : PySem.W.codeIn K cd_overlap "overlap" = true) (k_overlap : PySem.W.keepIn K (.ref f_overlap) = true)
    (a_inside : PySem.W.nsIn K mainGlobals "inside" = some (some (.ref f_inside))) (l_inside : K.lookup f_inside = some ⟨oc_inside, od_inside, .func (PySem.W.fnOf "inside" "inside" (defArgs s_inside) (defBody s_inside) (defScope s_inside) .none kV_inside dc_inside pm_inside an_inside cd_inside ct_inside), sl_inside⟩) (c_inside : PySem.W.codeIn K cd_inside "inside" = true) (k_inside : PySem.W.keepIn K (.ref f_inside) = true)
    (a_common : PySem.W.nsIn K mainGlobals "common" = some (some (.ref f_common))) (l_common : K.lookup f_common = some ⟨oc_common, od_common, .func (PySem.W.fnOf "common" "common" (defArgs s_common) (defBody s_common) (defScope s_common) .none kV_common dc_common pm_common an_common cd_common ct_common), sl_common⟩) (c_common : PySem.W.codeIn K cd_common "common" = true) (k_common : PySem.W.keepIn K (.ref f_common) = true)
    (a_edges : PySem.W.nsIn K mainGlobals "edges" = some (some (.ref f_edges))) (l_edges : K.lookup f_edges = some ⟨oc_edges, od_edges, .func (PySem.W.fnOf "edges" "edges" (defArgs s_edges) (defBody s_edges) (defScope s_edges) .none kV_edges dc_edges pm_edges an_edges cd_edges ct_edges), sl_edges⟩) (c_edges : PySem.W.codeIn K cd_edges "edges" = true) (k_edges : PySem.W.keepIn K (.ref f_edges) = true)
    (a_chosen_rectangle : PySem.W.nsIn K mainGlobals "chosen_rectangle" = some (some (.ref f_chosen_rectangle))) (l_chosen_rectangle : K.lookup f_chosen_rectangle = some ⟨oc_chosen_rectangle, od_chosen_rectangle, .func (PySem.W.fnOf "chosen_rectangle" "chosen_rectangle" (defArgs s_chosen_rectangle) (defBody s_chosen_rectangle) (defScope s_chosen_rectangle) .none kV_chosen_rectangle dc_chosen_rectangle pm_chosen_rectangle an_chosen_rectangle cd_chosen_rectangle ct_chosen_rectangle), sl_chosen_rectangle⟩) (c_chosen_rectangle : PySem.W.codeIn K cd_chosen_rectangle "chosen_rectangle" = true) (k_chosen_rectangle : PySem.W.keepIn K (.ref f_chosen_rectangle) = true)
    (a_is_free : PySem.W.nsIn K mainGlobals "is_free" = some (some (.ref f_is_free))) (l_is_free : K.lookup f_is_free = some ⟨oc_is_free, od_is_free, .func (PySem.W.fnOf "is_free" "is_free" (defArgs s_is_free) (defBody s_is_free) (defScope s_is_free) .none kV_is_free dc_is_free pm_is_free an_is_free cd_is_free ct_is_free), sl_is_free⟩) (c_is_free : PySem.W.codeIn K cd_is_free "is_free" = true) (k_is_free : PySem.W.keepIn K (.ref f_is_free) = true)
    (a_forces : PySem.W.nsIn K mainGlobals "forces" = some (some (.ref f_forces))) (l_forces : K.lookup f_forces = some ⟨oc_forces, od_forces, .func (PySem.W.fnOf "forces" "forces" (defArgs s_forces) (defBody s_forces) (defScope s_forces) .none kV_forces dc_forces pm_forces an_forces cd_forces ct_forces), sl_forces⟩) (c_forces : PySem.W.codeIn K cd_forces "forces" = true) (k_forces : PySem.W.keepIn K (.ref f_forces) = true)
    (a_other_choice : PySem.W.nsIn K mainGlobals "other_choice" = some (some (.ref f_other_choice))) (l_other_choice : K.lookup f_other_choice = some ⟨oc_other_choice, od_other_choice, .func (PySem.W.fnOf "other_choice" "other_choice" (defArgs s_other_choice) (defBody s_other_choice) (defScope s_other_choice) .none kV_other_choice dc_other_choice pm_other_choice an_other_choice cd_other_choice ct_other_choice), sl_other_choice⟩) (c_other_choice : PySem.W.codeIn K cd_other_choice "other_choice" = true) (k_other_choice : PySem.W.keepIn K (.ref f_other_choice) = true)
    (a_overlap_chosen : PySem.W.nsIn K mainGlobals "overlap_chosen" = some (some (.ref f_overlap_chosen))) (l_overlap_chosen : K.lookup f_overlap_chosen = some ⟨oc_overlap_chosen, od_overlap_chosen, .func (PySem.W.fnOf "overlap_chosen" "overlap_chosen" (defArgs s_overlap_chosen) (defBody s_overlap_chosen) (defScope s_overlap_chosen) .none kV_overlap_chosen dc_overlap_chosen pm_overlap_chosen an_overlap_chosen cd_overlap_chosen ct_overlap_chosen), sl_overlap_chosen⟩) (c_overlap_chosen : PySem.W.codeIn K cd_overlap_chosen "overlap_chosen" = true) (k_overlap_chosen : PySem.W.keepIn K (.ref f_overlap_chosen) = true)
    (a_shortest_chain : PySem.W.nsIn K mainGlobals "shortest_chain" = some (some (.ref f_shortest_chain))) (l_shortest_chain : K.lookup f_shortest_chain = some ⟨oc_shortest_chain, od_shortest_chain, .func (PySem.W.fnOf "shortest_chain" "shortest_chain" (defArgs s_shortest_chain) (defBody s_shortest_chain) (defScope s_shortest_chain) .none kV_shortest_chain dc_shortest_chain pm_shortest_chain an_shortest_chain cd_shortest_chain ct_shortest_chain), sl_shortest_chain⟩) (c_shortest_chain : PySem.W.codeIn K cd_shortest_chain "shortest_chain" = true) (k_shortest_chain : PySem.W.keepIn K (.ref f_shortest_chain) = true)
    (a_reason_of : PySem.W.nsIn K mainGlobals "reason_of" = some (some (.ref f_reason_of))) (l_reason_of : K.lookup f_reason_of = some ⟨oc_reason_of, od_reason_of, .func (PySem.W.fnOf "reason_of" "reason_of" (defArgs s_reason_of) (defBody s_reason_of) (defScope s_reason_of) .none kV_reason_of dc_reason_of pm_reason_of an_reason_of cd_reason_of ct_reason_of), sl_reason_of⟩) (c_reason_of : PySem.W.codeIn K cd_reason_of "reason_of" = true) (k_reason_of : PySem.W.keepIn K (.ref f_reason_of) = true)
    (a_forced_choices : PySem.W.nsIn K mainGlobals "forced_choices" = some (some (.ref f_forced_choices))) (l_forced_choices : K.lookup f_forced_choices = some ⟨oc_forced_choices, od_forced_choices, .func (PySem.W.fnOf "forced_choices" "forced_choices" (defArgs s_forced_choices) (defBody s_forced_choices) (defScope s_forced_choices) .none kV_forced_choices dc_forced_choices pm_forced_choices an_forced_choices cd_forced_choices ct_forced_choices), sl_forced_choices⟩) (c_forced_choices : PySem.W.codeIn K cd_forced_choices "forced_choices" = true) (k_forced_choices : PySem.W.keepIn K (.ref f_forced_choices) = true)
    (a_chains_from : PySem.W.nsIn K mainGlobals "chains_from" = some (some (.ref f_chains_from))) (l_chains_from : K.lookup f_chains_from = some ⟨oc_chains_from, od_chains_from, .func (PySem.W.fnOf "chains_from" "chains_from" (defArgs s_chains_from) (defBody s_chains_from) (defScope s_chains_from) .none kV_chains_from dc_chains_from pm_chains_from an_chains_from cd_chains_from ct_chains_from), sl_chains_from⟩) (c_chains_from : PySem.W.codeIn K cd_chains_from "chains_from" = true) (k_chains_from : PySem.W.keepIn K (.ref f_chains_from) = true)
    (a_together : PySem.W.nsIn K mainGlobals "together" = some (some (.ref f_together))) (l_together : K.lookup f_together = some ⟨oc_together, od_together, .func (PySem.W.fnOf "together" "together" (defArgs s_together) (defBody s_together) (defScope s_together) .none kV_together dc_together pm_together an_together cd_together ct_together), sl_together⟩) (c_together : PySem.W.codeIn K cd_together "together" = true) (k_together : PySem.W.keepIn K (.ref f_together) = true)
    (a_kept_labels : PySem.W.nsIn K mainGlobals "kept_labels" = some (some (.ref f_kept_labels))) (l_kept_labels : K.lookup f_kept_labels = some ⟨oc_kept_labels, od_kept_labels, .func (PySem.W.fnOf "kept_labels" "kept_labels" (defArgs s_kept_labels) (defBody s_kept_labels) (defScope s_kept_labels) .none kV_kept_labels dc_kept_labels pm_kept_labels an_kept_labels cd_kept_labels ct_kept_labels), sl_kept_labels⟩) (c_kept_labels : PySem.W.codeIn K cd_kept_labels "kept_labels" = true) (k_kept_labels : PySem.W.keepIn K (.ref f_kept_labels) = true)
    (a_place_labels : PySem.W.nsIn K mainGlobals "place_labels" = some (some (.ref f_place_labels))) (l_place_labels : K.lookup f_place_labels = some ⟨oc_place_labels, od_place_labels, .func (PySem.W.fnOf "place_labels" "place_labels" (defArgs s_place_labels) (defBody s_place_labels) (defScope s_place_labels) .none kV_place_labels dc_place_labels pm_place_labels an_place_labels cd_place_labels ct_place_labels), sl_place_labels⟩) (c_place_labels : PySem.W.codeIn K cd_place_labels "place_labels" = true) (k_place_labels : PySem.W.keepIn K (.ref f_place_labels) = true)
    (a_agree : PySem.W.nsIn K mainGlobals "agree" = some (some (.ref f_agree))) (l_agree : K.lookup f_agree = some ⟨oc_agree, od_agree, .func (PySem.W.fnOf "agree" "agree" (defArgs s_agree) (defBody s_agree) (defScope s_agree) .none kV_agree dc_agree pm_agree an_agree cd_agree ct_agree), sl_agree⟩) (c_agree : PySem.W.codeIn K cd_agree "agree" = true) (k_agree : PySem.W.keepIn K (.ref f_agree) = true)
    (a_law_tape : PySem.W.nsIn K mainGlobals "_law_tape" = some (some (.ref f_law_tape))) (l_law_tape : K.lookup f_law_tape = some ⟨oc_law_tape, od_law_tape, .func (PySem.W.fnOf "_law_tape" "_law_tape" (defArgs s_law_tape) (defBody s_law_tape) (defScope s_law_tape) .none kV_law_tape dc_law_tape pm_law_tape an_law_tape cd_law_tape ct_law_tape), sl_law_tape⟩) (c_law_tape : PySem.W.codeIn K cd_law_tape "_law_tape" = true) (k_law_tape : PySem.W.keepIn K (.ref f_law_tape) = true)
    (a_law_draw : PySem.W.nsIn K mainGlobals "_law_draw" = some (some (.ref f_law_draw))) (l_law_draw : K.lookup f_law_draw = some ⟨oc_law_draw, od_law_draw, .func (PySem.W.fnOf "_law_draw" "_law_draw" (defArgs s_law_draw) (defBody s_law_draw) (defScope s_law_draw) .none kV_law_draw dc_law_draw pm_law_draw an_law_draw cd_law_draw ct_law_draw), sl_law_draw⟩) (c_law_draw : PySem.W.codeIn K cd_law_draw "_law_draw" = true) (k_law_draw : PySem.W.keepIn K (.ref f_law_draw) = true)
    (a_law_inside : PySem.W.nsIn K mainGlobals "_law_inside" = some (some (.ref f_law_inside))) (l_law_inside : K.lookup f_law_inside = some ⟨oc_law_inside, od_law_inside, .func (PySem.W.fnOf "_law_inside" "_law_inside" (defArgs s_law_inside) (defBody s_law_inside) (defScope s_law_inside) .none kV_law_inside dc_law_inside pm_law_inside an_law_inside cd_law_inside ct_law_inside), sl_law_inside⟩) (c_law_inside : PySem.W.codeIn K cd_law_inside "_law_inside" = true) (k_law_inside : PySem.W.keepIn K (.ref f_law_inside) = true)
    (a_law_overlap : PySem.W.nsIn K mainGlobals "_law_overlap" = some (some (.ref f_law_overlap))) (l_law_overlap : K.lookup f_law_overlap = some ⟨oc_law_overlap, od_law_overlap, .func (PySem.W.fnOf "_law_overlap" "_law_overlap" (defArgs s_law_overlap) (defBody s_law_overlap) (defScope s_law_overlap) .none kV_law_overlap dc_law_overlap pm_law_overlap an_law_overlap cd_law_overlap ct_law_overlap), sl_law_overlap⟩) (c_law_overlap : PySem.W.codeIn K cd_law_overlap "_law_overlap" = true) (k_law_overlap : PySem.W.keepIn K (.ref f_law_overlap) = true)
    (a_law_spot : PySem.W.nsIn K mainGlobals "_law_spot" = some (some (.ref f_law_spot))) (l_law_spot : K.lookup f_law_spot = some ⟨oc_law_spot, od_law_spot, .func (PySem.W.fnOf "_law_spot" "_law_spot" (defArgs s_law_spot) (defBody s_law_spot) (defScope s_law_spot) .none kV_law_spot dc_law_spot pm_law_spot an_law_spot cd_law_spot ct_law_spot), sl_law_spot⟩) (c_law_spot : PySem.W.codeIn K cd_law_spot "_law_spot" = true) (k_law_spot : PySem.W.keepIn K (.ref f_law_spot) = true)
    (a_law_rectangle : PySem.W.nsIn K mainGlobals "_law_rectangle" = some (some (.ref f_law_rectangle))) (l_law_rectangle : K.lookup f_law_rectangle = some ⟨oc_law_rectangle, od_law_rectangle, .func (PySem.W.fnOf "_law_rectangle" "_law_rectangle" (defArgs s_law_rectangle) (defBody s_law_rectangle) (defScope s_law_rectangle) .none kV_law_rectangle dc_law_rectangle pm_law_rectangle an_law_rectangle cd_law_rectangle ct_law_rectangle), sl_law_rectangle⟩) (c_law_rectangle : PySem.W.codeIn K cd_law_rectangle "_law_rectangle" = true) (k_law_rectangle : PySem.W.keepIn K (.ref f_law_rectangle) = true)
    (a_law_label : PySem.W.nsIn K mainGlobals "_law_label" = some (some (.ref f_law_label))) (l_law_label : K.lookup f_law_label = some ⟨oc_law_label, od_law_label, .func (PySem.W.fnOf "_law_label" "_law_label" (defArgs s_law_label) (defBody s_law_label) (defScope s_law_label) .none kV_law_label dc_law_label pm_law_label an_law_label cd_law_label ct_law_label), sl_law_label⟩) (c_law_label : PySem.W.codeIn K cd_law_label "_law_label" = true) (k_law_label : PySem.W.keepIn K (.ref f_law_label) = true)
    (a_law_problem : PySem.W.nsIn K mainGlobals "_law_problem" = some (some (.ref f_law_problem))) (l_law_problem : K.lookup f_law_problem = some ⟨oc_law_problem, od_law_problem, .func (PySem.W.fnOf "_law_problem" "_law_problem" (defArgs s_law_problem) (defBody s_law_problem) (defScope s_law_problem) .none kV_law_problem dc_law_problem pm_law_problem an_law_problem cd_law_problem ct_law_problem), sl_law_problem⟩) (c_law_problem : PySem.W.codeIn K cd_law_problem "_law_problem" = true) (k_law_problem : PySem.W.keepIn K (.ref f_law_problem) = true)
    (a_law_free : PySem.W.nsIn K mainGlobals "_law_free" = some (some (.ref f_law_free))) (l_law_free : K.lookup f_law_free = some ⟨oc_law_free, od_law_free, .func (PySem.W.fnOf "_law_free" "_law_free" (defArgs s_law_free) (defBody s_law_free) (defScope s_law_free) .none kV_law_free dc_law_free pm_law_free an_law_free cd_law_free ct_law_free), sl_law_free⟩) (c_law_free : PySem.W.codeIn K cd_law_free "_law_free" = true) (k_law_free : PySem.W.keepIn K (.ref f_law_free) = true)
    (a_law_renumbered : PySem.W.nsIn K mainGlobals "_law_renumbered" = some (some (.ref f_law_renumbered))) (l_law_renumbered : K.lookup f_law_renumbered = some ⟨oc_law_renumbered, od_law_renumbered, .func (PySem.W.fnOf "_law_renumbered" "_law_renumbered" (defArgs s_law_renumbered) (defBody s_law_renumbered) (defScope s_law_renumbered) .none kV_law_renumbered dc_law_renumbered pm_law_renumbered an_law_renumbered cd_law_renumbered ct_law_renumbered), sl_law_renumbered⟩) (c_law_renumbered : PySem.W.codeIn K cd_law_renumbered "_law_renumbered" = true) (k_law_renumbered : PySem.W.keepIn K (.ref f_law_renumbered) = true)
    (a_law_sides : PySem.W.nsIn K mainGlobals "_law_sides" = some (some (.ref f_law_sides))) (l_law_sides : K.lookup f_law_sides = some ⟨oc_law_sides, od_law_sides, .func (PySem.W.fnOf "_law_sides" "_law_sides" (defArgs s_law_sides) (defBody s_law_sides) (defScope s_law_sides) .none kV_law_sides dc_law_sides pm_law_sides an_law_sides cd_law_sides ct_law_sides), sl_law_sides⟩) (c_law_sides : PySem.W.codeIn K cd_law_sides "_law_sides" = true) (k_law_sides : PySem.W.keepIn K (.ref f_law_sides) = true)
    (a_law_alone : PySem.W.nsIn K mainGlobals "_law_alone" = some (some (.ref f_law_alone))) (l_law_alone : K.lookup f_law_alone = some ⟨oc_law_alone, od_law_alone, .func (PySem.W.fnOf "_law_alone" "_law_alone" (defArgs s_law_alone) (defBody s_law_alone) (defScope s_law_alone) .none kV_law_alone dc_law_alone pm_law_alone an_law_alone cd_law_alone ct_law_alone), sl_law_alone⟩) (c_law_alone : PySem.W.codeIn K cd_law_alone "_law_alone" = true) (k_law_alone : PySem.W.keepIn K (.ref f_law_alone) = true)
    (a_law : PySem.W.nsIn K mainGlobals "law" = some (some (.ref f_law))) (l_law : K.lookup f_law = some ⟨oc_law, od_law, .func (PySem.W.fnOf "law" "law" (defArgs s_law) (defBody s_law) (defScope s_law) .none kV_law dc_law pm_law an_law cd_law ct_law), sl_law⟩) (c_law : PySem.W.codeIn K cd_law "law" = true) (k_law : PySem.W.keepIn K (.ref f_law) = true)
    (z_abs : PySem.W.nsIn K mainGlobals "abs" = some none) (z_any : PySem.W.nsIn K mainGlobals "any" = some none) (z_dict : PySem.W.nsIn K mainGlobals "dict" = some none) (z_int : PySem.W.nsIn K mainGlobals "int" = some none) (z_isinstance : PySem.W.nsIn K mainGlobals "isinstance" = some none) (z_len : PySem.W.nsIn K mainGlobals "len" = some none) (z_list : PySem.W.nsIn K mainGlobals "list" = some none) (z_max : PySem.W.nsIn K mainGlobals "max" = some none) (z_min : PySem.W.nsIn K mainGlobals "min" = some none) (z_range : PySem.W.nsIn K mainGlobals "range" = some none) (z_repr : PySem.W.nsIn K mainGlobals "repr" = some none) (z_reversed : PySem.W.nsIn K mainGlobals "reversed" = some none) (z_sorted : PySem.W.nsIn K mainGlobals "sorted" = some none) (z_tuple : PySem.W.nsIn K mainGlobals "tuple" = some none) (z_zip : PySem.W.nsIn K mainGlobals "zip" = some none) :
    ∃ fd : FuncData, (∀ (s : Shared) (v : Value), BindsTo s fd ⟨[v], []⟩ [("script", v)]) ∧ ∀ base : Heap, K.In base → base.Ns mainGlobals mg → FnG l.prog w K mg base 10 fa fd ["script"] (spLaw K) := by
  have e := hfa.symm.trans (PySem.W.mg_of X G a_law)
  cases e
  have MB : Blt mg := ⟨PySem.W.mg_none_of X G z_abs, PySem.W.mg_none_of X G z_any, PySem.W.mg_none_of X G z_dict, PySem.W.mg_none_of X G z_int, PySem.W.mg_none_of X G z_isinstance, PySem.W.mg_none_of X G z_len, PySem.W.mg_none_of X G z_list, PySem.W.mg_none_of X G z_max, PySem.W.mg_none_of X G z_min, PySem.W.mg_none_of X G z_range, PySem.W.mg_none_of X G z_repr, PySem.W.mg_none_of X G z_reversed, PySem.W.mg_none_of X G z_sorted, PySem.W.mg_none_of X G z_tuple, PySem.W.mg_none_of X G z_zip⟩
  have A_overlap : At K mg "overlap" s_overlap := ⟨_, _, PySem.W.mg_of X G a_overlap, fun_mk (st := s_overlap) l_overlap c_overlap k_overlap⟩
  have A_inside : At K mg "inside" s_inside := ⟨_, _, PySem.W.mg_of X G a_inside, fun_mk (st := s_inside) l_inside c_inside k_inside⟩
  have A_common : At K mg "common" s_common := ⟨_, _, PySem.W.mg_of X G a_common, fun_mk (st := s_common) l_common c_common k_common⟩
  have A_edges : At K mg "edges" s_edges := ⟨_, _, PySem.W.mg_of X G a_edges, fun_mk (st := s_edges) l_edges c_edges k_edges⟩
  have A_chosen_rectangle : At K mg "chosen_rectangle" s_chosen_rectangle := ⟨_, _, PySem.W.mg_of X G a_chosen_rectangle, fun_mk (st := s_chosen_rectangle) l_chosen_rectangle c_chosen_rectangle k_chosen_rectangle⟩
  have A_is_free : At K mg "is_free" s_is_free := ⟨_, _, PySem.W.mg_of X G a_is_free, fun_mk (st := s_is_free) l_is_free c_is_free k_is_free⟩
  have A_forces : At K mg "forces" s_forces := ⟨_, _, PySem.W.mg_of X G a_forces, fun_mk (st := s_forces) l_forces c_forces k_forces⟩
  have A_other_choice : At K mg "other_choice" s_other_choice := ⟨_, _, PySem.W.mg_of X G a_other_choice, fun_mk (st := s_other_choice) l_other_choice c_other_choice k_other_choice⟩
  have A_overlap_chosen : At K mg "overlap_chosen" s_overlap_chosen := ⟨_, _, PySem.W.mg_of X G a_overlap_chosen, fun_mk (st := s_overlap_chosen) l_overlap_chosen c_overlap_chosen k_overlap_chosen⟩
  have A_shortest_chain : At K mg "shortest_chain" s_shortest_chain := ⟨_, _, PySem.W.mg_of X G a_shortest_chain, fun_mk (st := s_shortest_chain) l_shortest_chain c_shortest_chain k_shortest_chain⟩
  have A_reason_of : At K mg "reason_of" s_reason_of := ⟨_, _, PySem.W.mg_of X G a_reason_of, fun_mk (st := s_reason_of) l_reason_of c_reason_of k_reason_of⟩
  have A_forced_choices : At K mg "forced_choices" s_forced_choices := ⟨_, _, PySem.W.mg_of X G a_forced_choices, fun_mk (st := s_forced_choices) l_forced_choices c_forced_choices k_forced_choices⟩
  have A_chains_from : At K mg "chains_from" s_chains_from := ⟨_, _, PySem.W.mg_of X G a_chains_from, fun_mk (st := s_chains_from) l_chains_from c_chains_from k_chains_from⟩
  have A_together : At K mg "together" s_together := ⟨_, _, PySem.W.mg_of X G a_together, fun_mk (st := s_together) l_together c_together k_together⟩
  have A_kept_labels : At K mg "kept_labels" s_kept_labels := ⟨_, _, PySem.W.mg_of X G a_kept_labels, fun_mk (st := s_kept_labels) l_kept_labels c_kept_labels k_kept_labels⟩
  have A_place_labels : At K mg "place_labels" s_place_labels := ⟨_, _, PySem.W.mg_of X G a_place_labels, fun_mk (st := s_place_labels) l_place_labels c_place_labels k_place_labels⟩
  have A_agree : At K mg "agree" s_agree := ⟨_, _, PySem.W.mg_of X G a_agree, fun_mk (st := s_agree) l_agree c_agree k_agree⟩
  have A_law_tape : At K mg "_law_tape" s_law_tape := ⟨_, _, PySem.W.mg_of X G a_law_tape, fun_mk (st := s_law_tape) l_law_tape c_law_tape k_law_tape⟩
  have A_law_draw : At K mg "_law_draw" s_law_draw := ⟨_, _, PySem.W.mg_of X G a_law_draw, fun_mk (st := s_law_draw) l_law_draw c_law_draw k_law_draw⟩
  have A_law_inside : At K mg "_law_inside" s_law_inside := ⟨_, _, PySem.W.mg_of X G a_law_inside, fun_mk (st := s_law_inside) l_law_inside c_law_inside k_law_inside⟩
  have A_law_overlap : At K mg "_law_overlap" s_law_overlap := ⟨_, _, PySem.W.mg_of X G a_law_overlap, fun_mk (st := s_law_overlap) l_law_overlap c_law_overlap k_law_overlap⟩
  have A_law_spot : At K mg "_law_spot" s_law_spot := ⟨_, _, PySem.W.mg_of X G a_law_spot, fun_mk (st := s_law_spot) l_law_spot c_law_spot k_law_spot⟩
  have A_law_rectangle : At K mg "_law_rectangle" s_law_rectangle := ⟨_, _, PySem.W.mg_of X G a_law_rectangle, fun_mk (st := s_law_rectangle) l_law_rectangle c_law_rectangle k_law_rectangle⟩
  have A_law_label : At K mg "_law_label" s_law_label := ⟨_, _, PySem.W.mg_of X G a_law_label, fun_mk (st := s_law_label) l_law_label c_law_label k_law_label⟩
  have A_law_problem : At K mg "_law_problem" s_law_problem := ⟨_, _, PySem.W.mg_of X G a_law_problem, fun_mk (st := s_law_problem) l_law_problem c_law_problem k_law_problem⟩
  have A_law_free : At K mg "_law_free" s_law_free := ⟨_, _, PySem.W.mg_of X G a_law_free, fun_mk (st := s_law_free) l_law_free c_law_free k_law_free⟩
  have A_law_renumbered : At K mg "_law_renumbered" s_law_renumbered := ⟨_, _, PySem.W.mg_of X G a_law_renumbered, fun_mk (st := s_law_renumbered) l_law_renumbered c_law_renumbered k_law_renumbered⟩
  have A_law_sides : At K mg "_law_sides" s_law_sides := ⟨_, _, PySem.W.mg_of X G a_law_sides, fun_mk (st := s_law_sides) l_law_sides c_law_sides k_law_sides⟩
  have A_law_alone : At K mg "_law_alone" s_law_alone := ⟨_, _, PySem.W.mg_of X G a_law_alone, fun_mk (st := s_law_alone) l_law_alone c_law_alone k_law_alone⟩
  have A_law : At K mg "law" s_law := ⟨_, _, PySem.W.mg_of X G a_law, fun_mk (st := s_law) l_law c_law k_law⟩
  refine ⟨PySem.W.fnOf "law" "law" (defArgs s_law) (defBody s_law) (defScope s_law) .none kV_law dc_law pm_law an_law cd_law ct_law, fun s v => .of_eq rfl, fun base _ _ => ?_⟩
  have D_edges := df_edges (P := l.prog) (w := w) (base := base) MB A_edges
  have D_inside := df_inside (P := l.prog) (w := w) (base := base) MB A_inside D_edges
  have D_common := df_common (P := l.prog) (w := w) (base := base) MB A_common D_edges
  have D_overlap := df_overlap (P := l.prog) (w := w) (base := base) MB A_overlap D_common
  have D_chosen_rectangle := df_chosen_rectangle (P := l.prog) (w := w) (base := base) MB A_chosen_rectangle
  have D_is_free := df_is_free (P := l.prog) (w := w) (base := base) MB A_is_free D_chosen_rectangle D_inside D_overlap
  have D_other_choice := df_other_choice (P := l.prog) (w := w) (base := base) MB A_other_choice
  have D_overlap_chosen := df_overlap_chosen (P := l.prog) (w := w) (base := base) MB A_overlap_chosen D_overlap D_chosen_rectangle
  have D_forces := df_forces (P := l.prog) (w := w) (base := base) MB A_forces D_overlap_chosen D_other_choice D_is_free
  have D_forced_choices := df_forced_choices (P := l.prog) (w := w) (base := base) MB A_forced_choices D_forces
  have D_chains_from := df_chains_from (P := l.prog) (w := w) (base := base) MB A_chains_from
  have D_shortest_chain := df_shortest_chain (P := l.prog) (w := w) (base := base) MB A_shortest_chain D_chains_from D_forced_choices
  have D_reason_of := df_reason_of (P := l.prog) (w := w) (base := base) MB A_reason_of D_shortest_chain
  have D_agree := df_agree (P := l.prog) (w := w) (base := base) MB A_agree D_chains_from
  have D_together := df_together (P := l.prog) (w := w) (base := base) MB A_together D_forced_choices D_agree
  have D_kept_labels := df_kept_labels (P := l.prog) (w := w) (base := base) MB A_kept_labels D_together
  have D_place_labels := df_place_labels (P := l.prog) (w := w) (base := base) MB A_place_labels D_kept_labels D_together D_reason_of
  have D_law_tape := df_law_tape (P := l.prog) (w := w) (base := base) MB A_law_tape
  have D_law_draw := df_law_draw (P := l.prog) (w := w) (base := base) MB A_law_draw
  have D_law_inside := df_law_inside (P := l.prog) (w := w) (base := base) MB A_law_inside
  have D_law_overlap := df_law_overlap (P := l.prog) (w := w) (base := base) MB A_law_overlap
  have D_law_spot := df_law_spot (P := l.prog) (w := w) (base := base) MB A_law_spot D_law_draw
  have D_law_rectangle := df_law_rectangle (P := l.prog) (w := w) (base := base) MB A_law_rectangle D_law_spot
  have D_law_label := df_law_label (P := l.prog) (w := w) (base := base) MB A_law_label D_law_rectangle D_law_draw
  have D_law_problem := df_law_problem (P := l.prog) (w := w) (base := base) MB A_law_problem D_law_draw D_law_rectangle D_law_label
  have D_law_free := df_law_free (P := l.prog) (w := w) (base := base) MB A_law_free D_law_inside D_law_overlap
  have D_law_renumbered := df_law_renumbered (P := l.prog) (w := w) (base := base) MB A_law_renumbered
  have D_law_sides := df_law_sides (P := l.prog) (w := w) (base := base) MB A_law_sides
  have D_law_alone := df_law_alone (P := l.prog) (w := w) (base := base) MB A_law_alone D_law_free
  exact fn_law MB (fun_mk (st := s_law) l_law c_law k_law) D_law_tape D_law_problem D_place_labels D_law_draw D_law_rectangle D_law_renumbered D_law_alone D_law_sides

end Cs
open PySem PySem.W PyProof.Rows
set_option maxRecDepth 100000 in
set_option maxHeartbeats 0 in
theorem PySem.Challenge.cw_chartspec_k74_labels_in_the_clear_and_ob_holds : PySem.Challenge.rw_chartspec_k74_labels_in_the_clear_and_ob.Holds := by
  w_on; o_law; k_head; (case hw => w_witness2)
  k_fill
  refine Cs.walkG (k := 10) (x := "script") (sp := Cs.spLaw) (l := PySem.Challenge.rw_chartspec_k74_labels_in_the_clear_and_ob) rfl (by decide) rfl ⟨rfl, by decide, by decide⟩ (fun w h Y => PySem.W.kIn_of Y) ?F Cs.law_start
  case F =>
    intro w mg fa h KX G hmg
    refine' Cs.all_mk KX G hmg ?a_overlap ?l_overlap ?c_overlap ?k_overlap ?a_inside ?l_inside ?c_inside ?k_inside ?a_common ?l_common ?c_common ?k_common ?a_edges ?l_edges ?c_edges ?k_edges ?a_chosen_rectangle ?l_chosen_rectangle ?c_chosen_rectangle ?k_chosen_rectangle ?a_is_free ?l_is_free ?c_is_free ?k_is_free ?a_forces ?l_forces ?c_forces ?k_forces ?a_other_choice ?l_other_choice ?c_other_choice ?k_other_choice ?a_overlap_chosen ?l_overlap_chosen ?c_overlap_chosen ?k_overlap_chosen ?a_shortest_chain ?l_shortest_chain ?c_shortest_chain ?k_shortest_chain ?a_reason_of ?l_reason_of ?c_reason_of ?k_reason_of ?a_forced_choices ?l_forced_choices ?c_forced_choices ?k_forced_choices ?a_chains_from ?l_chains_from ?c_chains_from ?k_chains_from ?a_together ?l_together ?c_together ?k_together ?a_kept_labels ?l_kept_labels ?c_kept_labels ?k_kept_labels ?a_place_labels ?l_place_labels ?c_place_labels ?k_place_labels ?a_agree ?l_agree ?c_agree ?k_agree ?a_law_tape ?l_law_tape ?c_law_tape ?k_law_tape ?a_law_draw ?l_law_draw ?c_law_draw ?k_law_draw ?a_law_inside ?l_law_inside ?c_law_inside ?k_law_inside ?a_law_overlap ?l_law_overlap ?c_law_overlap ?k_law_overlap ?a_law_spot ?l_law_spot ?c_law_spot ?k_law_spot ?a_law_rectangle ?l_law_rectangle ?c_law_rectangle ?k_law_rectangle ?a_law_label ?l_law_label ?c_law_label ?k_law_label ?a_law_problem ?l_law_problem ?c_law_problem ?k_law_problem ?a_law_free ?l_law_free ?c_law_free ?k_law_free ?a_law_renumbered ?l_law_renumbered ?c_law_renumbered ?k_law_renumbered ?a_law_sides ?l_law_sides ?c_law_sides ?k_law_sides ?a_law_alone ?l_law_alone ?c_law_alone ?k_law_alone ?a_law ?l_law ?c_law ?k_law  ?z_abs ?z_any ?z_dict ?z_int ?z_isinstance ?z_len ?z_list ?z_max ?z_min ?z_range ?z_repr ?z_reversed ?z_sorted ?z_tuple ?z_zip
    (case a_overlap => k_is)
    (case l_overlap => k_is)
    (case c_overlap => k_is)
    (case k_overlap => k_is)
    (case a_inside => k_is)
    (case l_inside => k_is)
    (case c_inside => k_is)
    (case k_inside => k_is)
    (case a_common => k_is)
    (case l_common => k_is)
    (case c_common => k_is)
    (case k_common => k_is)
    (case a_edges => k_is)
    (case l_edges => k_is)
    (case c_edges => k_is)
    (case k_edges => k_is)
    (case a_chosen_rectangle => k_is)
    (case l_chosen_rectangle => k_is)
    (case c_chosen_rectangle => k_is)
    (case k_chosen_rectangle => k_is)
    (case a_is_free => k_is)
    (case l_is_free => k_is)
    (case c_is_free => k_is)
    (case k_is_free => k_is)
    (case a_forces => k_is)
    (case l_forces => k_is)
    (case c_forces => k_is)
    (case k_forces => k_is)
    (case a_other_choice => k_is)
    (case l_other_choice => k_is)
    (case c_other_choice => k_is)
    (case k_other_choice => k_is)
    (case a_overlap_chosen => k_is)
    (case l_overlap_chosen => k_is)
    (case c_overlap_chosen => k_is)
    (case k_overlap_chosen => k_is)
    (case a_shortest_chain => k_is)
    (case l_shortest_chain => k_is)
    (case c_shortest_chain => k_is)
    (case k_shortest_chain => k_is)
    (case a_reason_of => k_is)
    (case l_reason_of => k_is)
    (case c_reason_of => k_is)
    (case k_reason_of => k_is)
    (case a_forced_choices => k_is)
    (case l_forced_choices => k_is)
    (case c_forced_choices => k_is)
    (case k_forced_choices => k_is)
    (case a_chains_from => k_is)
    (case l_chains_from => k_is)
    (case c_chains_from => k_is)
    (case k_chains_from => k_is)
    (case a_together => k_is)
    (case l_together => k_is)
    (case c_together => k_is)
    (case k_together => k_is)
    (case a_kept_labels => k_is)
    (case l_kept_labels => k_is)
    (case c_kept_labels => k_is)
    (case k_kept_labels => k_is)
    (case a_place_labels => k_is)
    (case l_place_labels => k_is)
    (case c_place_labels => k_is)
    (case k_place_labels => k_is)
    (case a_agree => k_is)
    (case l_agree => k_is)
    (case c_agree => k_is)
    (case k_agree => k_is)
    (case a_law_tape => k_is)
    (case l_law_tape => k_is)
    (case c_law_tape => k_is)
    (case k_law_tape => k_is)
    (case a_law_draw => k_is)
    (case l_law_draw => k_is)
    (case c_law_draw => k_is)
    (case k_law_draw => k_is)
    (case a_law_inside => k_is)
    (case l_law_inside => k_is)
    (case c_law_inside => k_is)
    (case k_law_inside => k_is)
    (case a_law_overlap => k_is)
    (case l_law_overlap => k_is)
    (case c_law_overlap => k_is)
    (case k_law_overlap => k_is)
    (case a_law_spot => k_is)
    (case l_law_spot => k_is)
    (case c_law_spot => k_is)
    (case k_law_spot => k_is)
    (case a_law_rectangle => k_is)
    (case l_law_rectangle => k_is)
    (case c_law_rectangle => k_is)
    (case k_law_rectangle => k_is)
    (case a_law_label => k_is)
    (case l_law_label => k_is)
    (case c_law_label => k_is)
    (case k_law_label => k_is)
    (case a_law_problem => k_is)
    (case l_law_problem => k_is)
    (case c_law_problem => k_is)
    (case k_law_problem => k_is)
    (case a_law_free => k_is)
    (case l_law_free => k_is)
    (case c_law_free => k_is)
    (case k_law_free => k_is)
    (case a_law_renumbered => k_is)
    (case l_law_renumbered => k_is)
    (case c_law_renumbered => k_is)
    (case k_law_renumbered => k_is)
    (case a_law_sides => k_is)
    (case l_law_sides => k_is)
    (case c_law_sides => k_is)
    (case k_law_sides => k_is)
    (case a_law_alone => k_is)
    (case l_law_alone => k_is)
    (case c_law_alone => k_is)
    (case k_law_alone => k_is)
    (case a_law => k_is)
    (case l_law => k_is)
    (case c_law => k_is)
    (case k_law => k_is)
    (case z_abs => k_is)
    (case z_any => k_is)
    (case z_dict => k_is)
    (case z_int => k_is)
    (case z_isinstance => k_is)
    (case z_len => k_is)
    (case z_list => k_is)
    (case z_max => k_is)
    (case z_min => k_is)
    (case z_range => k_is)
    (case z_repr => k_is)
    (case z_reversed => k_is)
    (case z_sorted => k_is)
    (case z_tuple => k_is)
    (case z_zip => k_is)
#print axioms PySem.Challenge.cw_chartspec_k74_labels_in_the_clear_and_ob_holds

