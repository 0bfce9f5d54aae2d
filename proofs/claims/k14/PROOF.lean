import PyProof.Rows.All
import Wide.All
import OpenK.AllK
import Wide.FinOn
import PyProof.ReprRoads
import PyProof.ReprLen
import KE.GoesMore
import HandS.Base
import HandS.Call
import HandS.List
import HandS.Comp
import HandS.Ends
import HandS.Dict
import HandS.Iter
import HandS.Text
import HandS.Words
import HandS.WordsList
import HandS.WordsDict
import HandS.Walk
import HandS.Style
import HandS.Zip
import HandS.TupAny
import HandS.SortInts
import HandS.Wide
import HandS.Star
import KE.GoesZip
import HandS.Zip0
import HandS.TupMul
import HandS.RaiseMore
import HandS.TupSets
import HandS.DictTup
import HandS.Conv
import KE.KDictCopyH
import PySem.Challenge.RW_wakedenough_k14_whole_works_of_slots
set_option Elab.async false
set_option linter.all false
set_option maxRecDepth 100000
namespace WK
open PySem PySem.Spec PyProof.Rows L2

/-! ### a def that may ask for repr: what is printed around the call is known to be nothing -/
abbrev NoE : XK := fun _ _ _ => False
structure FnG (P : Program) (w : World) (K : PySem.W.Frag) (mg : Str → Option Value) (base : Heap) (k : Nat) (f : Addr) (fd : FuncData) (ps : List Str) (sp : Sp) : Prop where
  go : ∀ (A : Around) (outer : List Env) (s : Shared) (H : Hp) (args : Args) (us : List Value) (vs : List V) (Q : VK),
    A.guards = some [] → Room k A → Env0 P w K mg base A outer s H →
    BindsTo s fd args (ps.zip us) → Vals vs us → vs.length = ps.length → sp vs H Q NoE →
    codeAny (model P w) A (.call (.ref f) args) (CR CX0 outer P w H s Q NoE) s

theorem guards_deeper {A : Around} {env : Env} (h : A.guards = some []) : (A.deeper env).guards = some [] := h

section
variable {P : Program} {w : World} {K : PySem.W.Frag} {mg : Str → Option Value} {base : Heap}
theorem okG {x qual : Str} {st : Stmt} {f : Addr} {fd : FuncData} {N ps : List Str} {k : Nat} {sp : Sp}
    (F : Fun K x qual st f fd) (S : FnScope N ps (defScope st))
    (bd : ∀ (cdv : Value) (A : Around) (outer : List Env) (s : Shared) (H : Hp) (vs : List V) (Q : VK),
      Room k (A.deeper (envOfC qual (defScope st) s.heap.objs.size f cdv)) → A.guards = some [] → sp vs H Q NoE →
      ∃ t, PSs (cxOf CX0 P w K mg base N qual (defScope st) f cdv A outer s H NoE).nox (defBody st) t ∧
        t { nx := fun _ G => Q .non G, rt := Q } (start N vs) H) :
    FnG P w K mg base (k + 1) f fd ps sp := by
  obtain ⟨oc, od, kV, doc, pm, an, cdv, ct, osl, rfl, lk, hcd⟩ := F.ex
  constructor
  intro A outer s H args us vs Q gd room env bind rel hl hsp
  have inK : K.In s.heap := env.mod.kin.keeps (fun b o e => (env.bs b o e).1)
  have noLim : s.heap.NoLimit := env.mod.nolimit.keeps (fun b o e => (env.bs b o e).1)
  have kinds : ∀ y ∈ ps.zip us,
      (defScope st).names.lookup y.1 = some .local ∨
      ((defScope st).names.lookup y.1 = some .cell ∧
        ((cellsFrom (s.heap.objs.size + 1) (defScope st).names []).lookup y.1).isSome = true) := by
    rintro ⟨n, v⟩ hy
    cases S.par n (List.of_mem_zip hy).1 with
    | inl q => exact Or.inl q
    | inr q => exact Or.inr ⟨q, PySem.W.cellsFrom_some _ _ _ (Or.inl q)⟩
  refine codeAny_call_function room.depth
    (inK _ _ lk) rfl S.co S.gen rfl
    (PySem.W.codeRec_of inK hcd) (bind _ _ _ _ ?_)
  refine wpAny_newFunctionEnv_cells S.kind kinds ?_
  intro e1 he s1 ic
  subst he
  refine ⟨noLim.keeps ic.toInCall.keep, ?_⟩
  apply codeAny_func
  obtain ⟨t, ht, hq⟩ := bd cdv A outer s H vs Q (room.deeper _) gd hsp
  have I0 := inv_start (CX := CX0) (P := P) (w := w) (K := K) (mg := mg) (base := base) (E := NoE) S room.hd env hl rel ic
  refine wpAny_mono (ht.nox.run [] s1 (start N vs) H _ I0 hq) ?_ (fun _ _ z => z)
  intro fl s2 hs
  cases fl with
  | brk => obtain ⟨_, _, _, q⟩ := hs; exact q.elim
  | cont => obtain ⟨_, _, _, q⟩ := hs; exact q.elim
  | ret u =>
    obtain ⟨v, σ', H', J, rv, q⟩ := hs
    exact ⟨v, H', J.os, J.bare, J.base, J.hok, rv, q⟩
  | next =>
    obtain ⟨σ', H', J, q⟩ := hs
    exact ⟨V.non, H', J.os, J.bare, J.base, J.hok, rfl, q⟩
end
end WK
set_option Elab.async false
set_option linter.all false
set_option maxRecDepth 100000
namespace WK
open PySem PySem.Spec PyProof.Rows L2

/-! ### repr of data -/
mutual
theorem dp_nodict {K : PySem.W.Frag} {H : Hp} : ∀ (d : PyData) (v : V), Dp K H v d → d.hasDict = false
  | .none, _, _ => rfl
  | .bool _, _, _ => rfl
  | .int _, _, _ => rfl
  | .str _, _, _ => rfl
  | .list ds, _, h => by
    cases h with
    | lst _ q => simpa only [PyData.hasDict] using dp_nodictAll ds _ q
  | .tuple ds, _, h => by
    cases h with
    | tup _ q => simpa only [PyData.hasDict] using dp_nodictAll ds _ q
  | .dict _, _, h => by cases h
theorem dp_nodictAll {K : PySem.W.Frag} {H : Hp} : ∀ (ds : List PyData) (vs : List V), DpAll K H vs ds → PyData.hasDictAll ds = false
  | [], _, _ => rfl
  | d :: ds, _, h => by
    cases h with
    | cons a b => simp only [PyData.hasDictAll, dp_nodict d _ a, dp_nodictAll ds _ b, Bool.or_self]
end

/-- data that repr shows in room -/
structure Shows (d : PyData) : Prop where
  ok : d.showable = true
  dep : d.depth ≤ 20
  len : d.shown.length ≤ sizeLine

def rRepr (K : PySem.W.Frag) : List V → Hp → VK → Prop := fun xs H Q => ∃ (a : Addr) (d : PyData), xs = [.ref a] ∧ Dp K H (.ref a) d ∧ Shows d ∧ Q (.str d.shown) H
theorem call_reprD {X : Cx} (hg : X.A.guards = some []) (hu : X.A.units + 64 < cLine) : CallR X (.builtin "repr") (rRepr X.K) := by
  rintro pins s σ H xs us Q I r ⟨a, d, rfl, hd, sh, q⟩
  obtain ⟨u, rfl, ru⟩ := vals1 r
  cases ru
  obtain ⟨as, r1⟩ := Dp.reads I d _ _ hd rfl
  have hdep := sh.dep
  exact repr_of_reads' r1 sh.ok (PyData.noDict_hsm (dp_nodict d _ hd)) hg (by omega) (fun _ _ e => e)
    (fun h' u tk hk => ⟨.str d.shown, H, I.kept hk, ⟨u, rfl⟩, q⟩) sh.len

/-! ### the law's call, where nothing is printed around it -/
theorem law_callG {P : Program} {w : World} {K : PySem.W.Frag} {mg mb : Str → Option Value} {k : Nat} {fa a : Addr} {fd : FuncData} {x : Str} {sp : Sp} {s₁ : Shared} {vs : List Value} {ns : List Int}
    (KX : K.In s₁.heap) (hns : s₁.heap.Ns mainGlobals mg) (hb : s₁.heap.Ns builtinsNs mb) (hbb : ∀ x : Str, x ≠ "__name__" → mb x = bootBuiltins x) (hlim : s₁.heap.NoLimit) (hg : s₁.gens = #[])
    (ha : s₁.heap.get? a = some { cls := .type "list", data := .seq vs.toArray }) (hi : IntsAre vs ns) (hl : ns.length ≤ sizeLine) (hr : Room k callerA)
    (F : ∀ base : Heap, K.In base → base.Ns mainGlobals mg → FnG P w K mg base k fa fd [x] sp)
    (hbind : ∀ (s : Shared) (u : Value), BindsTo s fd ⟨[u], []⟩ [(x, u)])
    (hsp : ∀ H : Hp, Only H → SqL K H a (ns.map V.int) → sp [.ref a] H (fun v _ => v = .bl true) NoE) :
    codeAny (model P w) callerA (.call (.ref fa) ⟨[.ref a], []⟩)
      (fun r s' => r = .ok (.ret (.bool true)) ∧ OldK s₁.heap s'.heap ∧ s'.os = s₁.os ∧ AllBare s'.gens) s₁ := by
  have main : ∀ H : Hp, Only H → SqL K H a (ns.map V.int) → HOk P w H s₁.heap →
      (∀ b, H b ≠ none → b = a) → (H a ≠ none → K.lookup a = none) →
      codeAny (model P w) callerA (.call (.ref fa) ⟨[.ref a], []⟩)
        (fun r s' => r = .ok (.ret (.bool true)) ∧ OldK s₁.heap s'.heap ∧ s'.os = s₁.os ∧ AllBare s'.gens) s₁ := by
    intro H only seq hok justA notK
    have isA : ∀ {b : Addr} {u : HO}, H b = some u → b = a := by
      intro b u q
      exact justA b (by simp [q])
    have hid : ∀ {b : Addr} {o : Obj}, s₁.heap.get? b = some o → H b = none → (hidT s₁.heap H).get? b = some o :=
      fun e n => hidT_get e n
    have dictFree : ∀ {b : Addr} {o : Obj} {es : Array DictEntry} {ep : Nat}, s₁.heap.get? b = some o → o.data = .dict es ep → H b = none := by
      intro b o es ep e d
      match q : H b with
      | none => rfl
      | some u =>
        have := isA q
        subst this
        rw [ha] at e
        injection e with e
        subst e
        exact nomatch d
    have spaces : ∀ {b : Addr} {m : Str → Option Value}, s₁.heap.Ns b m → (hidT s₁.heap H).Ns b m := by
      rintro b m ⟨o, es, ep, e, d, rest⟩
      exact ⟨o, es, ep, hid e (dictFree e d), d, rest⟩
    have inK : K.In (hidT s₁.heap H) := by
      intro b o e
      refine hid (KX b o e) ?_
      match q : H b with
      | none => rfl
      | some u =>
        have := isA q
        subst this
        have z := notK (by simp [q])
        rw [e] at z
        exact nomatch z
    have md : Mod K mg (hidT s₁.heap H) := by
      obtain ⟨mc, l1, l2⟩ := hlim
      exact ⟨inK, spaces hns, ⟨mb, spaces hb, hbb⟩, ⟨mc, spaces l1, l2⟩⟩
    have none0 : ∀ b : Addr, ¬ b ∈ ([] : List Addr) := fun b z => nomatch z
    have env : Env0 P w K mg (hidT s₁.heap H) callerA [] s₁ H :=
      { frames := rfl, mod := md, bs := fun b o e => of_hidT e, bsz := Nat.le_of_eq (hidT_size _ _), funs := trivial,
        frf := fun b z => absurd z (none0 b), hok := hok, bare := .of_eq hg }
    have run := (F _ inK (spaces hns)).go callerA [] s₁ H ⟨[.ref a], []⟩ [.ref a] [.ref a] (fun v _ => v = .bl true) rfl hr env
      (hbind s₁ (.ref a)) (.cons rfl .nil) rfl (hsp H only seq)
    refine codeAny_mono run ?_
    intro r s' h
    match r, h with
    | .error e, h => exact False.elim h
    | .ok .next, h => exact False.elim h
    | .ok .brk, h => exact False.elim h
    | .ok .cont, h => exact False.elim h
    | .ok (.ret u), h =>
      obtain ⟨v, H', os, bare, un, hok', rel, ev⟩ := h
      have ev : v = .bl true := ev
      subst ev
      have eu : u = Value.bool true := rel
      subst eu
      refine ⟨rfl, OldK.of_keep ?_, os, bare⟩
      intro b o e
      match q : H b with
      | none => exact un.keep b o e q (none0 b) (none0 b)
      | some v =>
        cases only b with
        | inl z => rw [q] at z; exact nomatch z
        | inr z =>
          obtain ⟨ob, xs, z⟩ := z
          have here := (hok b _ z).1
          have there := (hok' b _ (un.frzs b ob _ z)).1
          rw [e] at here
          injection here with here
          subst here
          exact there
  have rel := vals_ints hi
  match hk : K.lookup a with
  | some o =>
    have e := KX a o hk
    rw [ha] at e
    injection e with e
    subst e
    refine main (fun _ => none) (fun _ => Or.inl rfl) (Or.inr ⟨_, vs.toArray, _, hk, rfl, rfl, rfl, ?_, ?_⟩) ?_ (fun b z => absurd rfl z) (fun z => absurd rfl z)
    · rw [List.size_toArray, hi.length]; exact hl
    · simpa using rel
    · intro b u z; exact nomatch z
  | none =>
    let H0 : Hp := fun b => if b = a then some (.frz { cls := .type "list", data := .seq vs.toArray } (.lst (ns.map V.int))) else none
    have atA : H0 a = some (.frz { cls := .type "list", data := .seq vs.toArray } (.lst (ns.map V.int))) := if_pos rfl
    have off : ∀ b, b ≠ a → H0 b = none := fun b n => if_neg n
    refine main H0 ?_ (Or.inl (Or.inr ⟨_, atA⟩)) ?_ ?_ (fun _ => hk)
    · intro b
      by_cases e : b = a
      · subst e; exact Or.inr ⟨_, _, atA⟩
      · exact Or.inl (off b e)
    · intro b u z
      by_cases e : b = a
      · subst e
        rw [atA] at z
        injection z with z
        subst z
        exact ⟨ha, by rw [List.length_map]; exact hl, vs, _, rel, ha⟩
      · rw [off b e] at z; exact nomatch z
    · intro b z
      by_cases e : b = a
      · exact e
      · exact absurd (off b e) z

theorem walk_ofG {l : PySem.W.OpenLaw} {n k : Nat} {q : Program} {loose : List Str} {XP : (Str → Option Value) → Heap → Prop} {YP : World → Heap → Prop} {d : DefRec} {K : Params → PySem.W.Frag} {sp : World → Sp} {x : Str}
    (hn : l.most = some n) (hn2 : n ≤ sizeLine) (hdf : d.params.defaults = []) (hr : Room k callerA)
    (hY : ∀ (w : World) (h : Heap), YP w h → (K w.params).In h)
    (F : ∀ (w : World) (mg : Str → Option Value) (fa : Addr) (h : Heap), (K w.params).In h → h.Ns mainGlobals mg → mg d.name = some (.ref fa) →
      ∃ fd : FuncData, (∀ (s : Shared) (u : Value), BindsTo s fd ⟨[u], []⟩ [(x, u)]) ∧
        ∀ base : Heap, (K w.params).In base → base.Ns mainGlobals mg → FnG l.prog w (K w.params) mg base k fa fd [x] (sp w))
    (hsp : ∀ (w : World) (H : Hp) (a : Addr) (ns : List Int), ns.length ≤ n → Only H → SqL (K w.params) H a (ns.map V.int) → sp w [.ref a] H (fun v _ => v = .bl true) NoE) :
    PySem.W.WalkO q loose XP YP l.row.toRowW d [] (fun f vs => PySem.call f vs) := by
  apply Att.attach_call hn hdf
  intro w s₀ s₁ mg mb fa o pm cd doc a vs ns G Y ho hd hcd hmg hobj hints hlen hg
  obtain ⟨fd, hb, hF⟩ := F w mg fa _ (hY w _ Y) G.T.g hmg
  exact law_callG (hY w _ Y) G.T.g G.T.b G.T.builtins G.T.nolimit hg hobj hints (Nat.le_trans hlen hn2) hr hF hb
    (fun H hO hS => hsp w H a ns hlen hO hS)
end WK
set_option Elab.async false
set_option linter.all false
set_option maxRecDepth 100000
namespace WK
open PySem PySem.Spec PyProof.Rows L2

/-! ### heaps that go on -/
/-- all but p and c stays -/
def Off (p c : Addr) (H H' : Hp) : Prop := ∀ b o, b ≠ p → b ≠ c → H b = some o → H' b = some o
theorem Off.refl (p c : Addr) (H : Hp) : Off p c H H := fun _ _ _ _ h => h
theorem Off.trans {p c : Addr} {H H1 H2 : Hp} (a : Off p c H H1) (b : Off p c H1 H2) : Off p c H H2 := fun x o h1 h2 e => b x o h1 h2 (a x o h1 h2 e)
theorem Same.off {p c : Addr} {H H' : Hp} (a : Same H H') : Off p c H H' := fun b o _ _ e => a b o e
theorem same_new {H : Hp} {p : Addr} {o : HO} (h : H p = none) : Same H (upd H p o) := fun b x e => by
  rw [upd_ne (ne_of_none e h)]
  exact e
/-- a new object stands at p: go on with any heap that holds all that was, and it -/
theorem fresh {H : Hp} {p : Addr} {o : HO} {G : Hp → Prop} (np : H p = none) (k : ∀ H1, Same H H1 → H1 p = some o → G H1) : G (upd H p o) := k _ (same_new np) upd_same
theorem Off.at_p {p c : Addr} {H : Hp} {o : HO} : Off p c H (upd H p o) := fun b x h1 _ e => by
  rw [upd_ne h1]
  exact e
theorem Off.at_c {p c : Addr} {H : Hp} {o : HO} : Off p c H (upd H c o) := fun b x _ h2 e => by
  rw [upd_ne h2]
  exact e

/-! ### the source of draws -/
def srcK (c : Addr) (l m t : Int) : List (Key × V) := [(.inr "cells", .ref c), (.inr "left", .int l), (.inr "mixed", .int m), (.inr "turn", .int t)]
theorem k12 : ¬ (("cells" : Str) = "left") := by decide +kernel
theorem k13 : ¬ (("cells" : Str) = "mixed") := by decide +kernel
theorem k14 : ¬ (("cells" : Str) = "turn") := by decide +kernel
theorem k23 : ¬ (("left" : Str) = "mixed") := by decide +kernel
theorem k24 : ¬ (("left" : Str) = "turn") := by decide +kernel
theorem k34 : ¬ (("mixed" : Str) = "turn") := by decide +kernel
theorem kne {a b : Str} (h : ¬ a = b) : ¬ ((.inr a : Key) = .inr b) := fun e => h (Sum.inr.inj e)
section
variable {c : Addr} {l m t x : Int}
theorem src_cells : valV (srcK c l m t) (.inr "cells") = some (.ref c) := valV_pos rfl
theorem src_left : valV (srcK c l m t) (.inr "left") = some (.int l) := (valV_neg (kne k12)).trans (valV_pos rfl)
theorem src_mixed : valV (srcK c l m t) (.inr "mixed") = some (.int m) := (valV_neg (kne k13)).trans ((valV_neg (kne k23)).trans (valV_pos rfl))
theorem src_turn : valV (srcK c l m t) (.inr "turn") = some (.int t) := (valV_neg (kne k14)).trans ((valV_neg (kne k24)).trans ((valV_neg (kne k34)).trans (valV_pos rfl)))
theorem put_left : putK (srcK c l m t) (.inr "left") (.int x) = srcK c x m t := by
  simp [putK, srcK, k12, k13, k14, k23, k24, k34, Ne.symm k23, Ne.symm k24, Ne.symm k34]
theorem put_mixed : putK (srcK c l m t) (.inr "mixed") (.int x) = srcK c l x t := by
  simp [putK, srcK, k12, k13, k14, k23, k24, k34, Ne.symm k23, Ne.symm k24, Ne.symm k34]
theorem put_turn : putK (srcK c l m t) (.inr "turn") (.int x) = srcK c l m x := by
  simp [putK, srcK, k12, k13, k14, k23, k24, k34, Ne.symm k23, Ne.symm k24, Ne.symm k34]
end
/-- the source at p, its cells at c -/
structure Src (H : Hp) (p c : Addr) : Prop where
  ex : ∃ (cells : List Int) (l m t : Int), H p = some (.dK (srcK c l m t)) ∧ H c = some (.lst (cells.map V.int))
theorem Src.ne {H : Hp} {p c : Addr} (S : Src H p c) : p ≠ c := by
  obtain ⟨_, _, _, _, a, b⟩ := S.ex
  exact ne_of a b (by intro z; cases z)
theorem Src.same {H H' : Hp} {p c : Addr} (S : Src H p c) (s : Same H H') : Src H' p c := by
  obtain ⟨cells, l, m, t, a, b⟩ := S.ex
  exact ⟨cells, l, m, t, s _ _ a, s _ _ b⟩
theorem Src.ne_p {H : Hp} {p c a : Addr} (S : Src H p c) (n : H a = none) : a ≠ p := by
  obtain ⟨_, _, _, _, q, _⟩ := S.ex
  exact (ne_of_none q n).symm
theorem Src.ne_c {H : Hp} {p c a : Addr} (S : Src H p c) (n : H a = none) : a ≠ c := by
  obtain ⟨_, _, _, _, _, q⟩ := S.ex
  exact (ne_of_none q n).symm
theorem Src.tup_ne {H : Hp} {p c a : Addr} {xs : List V} (S : Src H p c) (n : H a = some (.tup xs)) : a ≠ p ∧ a ≠ c := by
  obtain ⟨_, _, _, _, q1, q2⟩ := S.ex
  exact ⟨ne_of n q1 (by intro z; cases z), ne_of n q2 (by intro z; cases z)⟩
theorem Off.tup {H H' : Hp} {p c a : Addr} {xs : List V} (o : Off p c H H') (S : Src H p c) (n : H a = some (.tup xs)) : H' a = some (.tup xs) :=
  o a _ (S.tup_ne n).1 (S.tup_ne n).2 n

/-! ### what the helpers promise -/
def spSource (K : PySem.W.Frag) : Sp := fun vs H Q _ => ∃ (a : Addr) (ns : List Int), vs = [.ref a] ∧ SqL K H a (ns.map V.int) ∧ ns.length ≤ 63 ∧
  ∀ H' p c, Src H' p c → Same H H' → H p = none → H c = none → Q (.ref p) H'
def spPick : Sp := fun vs H Q _ => ∃ (p c : Addr) (many : Int), vs = [.ref p, .int many] ∧ Src H p c ∧ many < 1073741824 ∧
  ∀ H' r, Src H' p c → Off p c H H' → 0 ≤ r → (r < many ∨ r = 0) → Q (.int r) H'
def spOf (K : PySem.W.Frag) : Sp := fun vs H Q _ => ∃ (p c l : Addr) (xs : List V), vs = [.ref p, .ref l] ∧ Src H p c ∧ (∀ H', Off p c H H' → SqL K H' l xs ∨ SqT K H' l xs) ∧ xs ≠ [] ∧ xs.length ≤ 100000 ∧
  ∀ H' x, x ∈ xs → Src H' p c → Off p c H H' → Q x H'

/-! ### data and heaps -/
mutual
theorem dp_same {K : PySem.W.Frag} {H H' : Hp} (s : Same H H') : ∀ (d : PyData) (v : V), Dp K H v d → Dp K H' v d
  | .none, _, h => by cases h; exact .non
  | .bool _, _, h => by cases h; exact .bl _
  | .int _, _, h => by cases h; exact .int _
  | .str _, _, h => by cases h; exact .str _
  | .list ds, _, h => by
    cases h with
    | lst a q => exact .lst (s.seq a) (dp_sameAll s ds _ q)
  | .tuple ds, _, h => by
    cases h with
    | tup a q =>
      refine .tup ?_ (dp_sameAll s ds _ q)
      rcases a with (a | ⟨o, a⟩) | a
      · exact .inl (.inl (s _ _ a))
      · exact .inl (.inr ⟨o, s _ _ a⟩)
      · exact .inr a
  | .dict _, _, h => by cases h
theorem dp_sameAll {K : PySem.W.Frag} {H H' : Hp} (s : Same H H') : ∀ (ds : List PyData) (vs : List V), DpAll K H vs ds → DpAll K H' vs ds
  | [], _, h => by cases h; exact .nil
  | d :: ds, _, h => by
    cases h with
    | cons a b => exact .cons (dp_same s d _ a) (dp_sameAll s ds _ b)
end
theorem dp_ints {K : PySem.W.Frag} {H : Hp} : ∀ ns : List Int, DpAll K H (ns.map V.int) (ns.map PyData.int)
  | [] => .nil
  | n :: ns => .cons (.int n) (dp_ints ns)
theorem dp_snoc {K : PySem.W.Frag} {H : Hp} : ∀ {vs : List V} {ds : List PyData} {v : V} {d : PyData}, DpAll K H vs ds → Dp K H v d → DpAll K H (vs ++ [v]) (ds ++ [d])
  | _, _, _, _, .nil, h => .cons h .nil
  | _, _, _, _, .cons a b, h => .cons a (dp_snoc b h)
theorem dp_len {K : PySem.W.Frag} {H : Hp} : ∀ {vs : List V} {ds : List PyData}, DpAll K H vs ds → vs.length = ds.length
  | _, _, .nil => rfl
  | _, _, .cons _ b => congrArg (· + 1) (dp_len b)
/-! ### small things -/
theorem int_at {ns : List Int} {i : Nat} {x : V} (h : (ns.map V.int)[i]? = some x) : ∃ z, ns[i]? = some z ∧ x = .int z := by
  rw [List.getElem?_map] at h
  obtain ⟨z, e, r⟩ := Option.map_eq_some_iff.mp h
  exact ⟨z, e, r.symm⟩
theorem mulr {i j : Int} (h : -(2 ^ 64) < j ∧ j < 2 ^ 64) : CMul i j := .inr h
theorem mull {i j : Int} (h : -(2 ^ 64) < i ∧ i < 2 ^ 64) : CMul i j := .inl h
theorem new_of {H H2 : Hp} {p : Addr} {o : HO} (e : upd H p o = H2) (np : H p = none) : Same H H2 ∧ H2 p = some o := by
  subst e
  exact ⟨same_new np, upd_same⟩
theorem chg {H H2 : Hp} {p : Addr} {o : HO} (e : upd H p o = H2) : H2 p = some o ∧ ∀ b, b ≠ p → H2 b = H b := by
  subst e
  exact ⟨upd_same, fun b h => upd_ne h⟩
theorem small63 {n : Nat} (h : n ≤ 63) : n < sizeLine := Nat.lt_of_le_of_lt h (by decide)
theorem abs_eq (z : Int) : (if z < 0 then -z else z) = (z.natAbs : Int) := by split <;> omega
theorem take_snoc {α β : Type} {xs : List α} {i : Nat} {z : α} (h : xs[i]? = some z) (f : α → β) : ((xs.take (i + 1)).map f) = (xs.take i).map f ++ [f z] := by
  rw [List.take_add_one, h, List.map_append]
  rfl
theorem yesT {σ : L2.St} {H : Hp} {A B : Bool → Hp → Prop} {s t : L2.St} (e : s = t) (h : A true H) : s = t ∧ tYes σ H fun b G => if b = true then A b G else B b G := ⟨e, h⟩
theorem ifT {A B : Prop} {c : Bool} (e : c = true) (h : A) : if c = true then A else B := by
  subst e
  exact h
theorem while3 {c : TT} {tb : TS} {D : Ends} {σ : L2.St} {H : Hp} (Pv : Nat → L2.St → Hp → Prop) (n : Nat) (h0 : Pv n σ H) (after : ∀ m σ H, Pv m σ H → D.nx σ H)
    (turn : (∀ m σ H, Pv m σ H → D.nx σ H) → ∀ m σ H, Pv m σ H → c σ H fun b H1 => if b = true then
      ∃ N : L2.St → Hp → Prop, (∀ σ' H', N σ' H' → ∃ m', m' < m ∧ Pv m' σ' H') ∧ tb { D with nx := N, ct := N, bk := D.nx } σ H1 else D.nx σ H1) : tWhile c tb D σ H :=
  ⟨Pv, ⟨n, h0⟩, turn after⟩
theorem src_get {H : Hp} {p : Addr} {kvs : List (Key × V)} {x : Str} {v : V} (h : H p = some (.dK kvs)) (e : valV kvs (.inr x) = some v) : DGet H p (.str x) (some v) := .inl ⟨kvs, .inr x, .inl h, rfl, e.symm⟩
theorem src_put {H H' : Hp} {p : Addr} {kvs kvs' : List (Key × V)} {x : Str} {v : V} (h : H p = some (.dK kvs)) (l : kvs.length = 4) (e : putK kvs (.inr x) v = kvs') (hH : H' = upd H p (.dK kvs')) : DPut H p (.str x) v H' :=
  .inl ⟨kvs, .inr x, h, rfl, by rw [l]; decide, by rw [e]; exact hH⟩
theorem fmod_bounds {a b : Int} (h : 0 < b) : 0 ≤ a.fmod b ∧ a.fmod b < b := by
  rw [Int.fmod_eq_emod_of_nonneg a (by omega)]
  exact ⟨Int.emod_nonneg _ (by omega), Int.emod_lt_of_pos _ h⟩
end WK
set_option Elab.async false
set_option linter.all false
set_option maxRecDepth 100000
namespace WK
open PySem PySem.Spec PyProof.Rows L2

/-! ### data that repr shows, and how long that is -/
mutual
def Lil : PyData → Prop
  | .none => True
  | .bool _ => True
  | .int i => i.natAbs < 10 ^ 150
  | .str x => ∀ c ∈ x.cps.toList, c < 16 ^ 8
  | .list xs => LilAll xs
  | .tuple xs => LilAll xs
  | .dict _ => False
def LilAll : List PyData → Prop
  | [] => True
  | x :: xs => Lil x ∧ LilAll xs
end
mutual
def cost : PyData → Nat
  | .none => 5
  | .bool _ => 5
  | .int _ => 151
  | .str x => 10 * x.length + 4
  | .list xs => costAll xs + 3
  | .tuple xs => costAll xs + 3
  | .dict _ => 0
def costAll : List PyData → Nat
  | [] => 0
  | x :: xs => cost x + 2 + costAll xs
end
theorem lil_int {i : Int} (h : i.natAbs < 10 ^ 150) : i.natAbs.log2 < 1920 := by
  by_cases h0 : i.natAbs = 0
  · rw [h0]; decide
  · exact (Nat.log2_lt h0).mpr (Nat.lt_of_lt_of_le h (by decide +kernel))
theorem shown_int {i : Int} (h : i.natAbs < 10 ^ 150) : (PyData.shown (.int i)).length ≤ 151 := by
  have e : PyData.shown (.int i) = Str.ofString (toString i) := rfl
  rw [e, PySem.ofString_length]
  exact int_text_length_le10 (k := 150) (by decide) h
mutual
theorem lil_show : ∀ d : PyData, Lil d → d.showable = true ∧ d.shown.length ≤ cost d
  | .none, _ => ⟨rfl, by decide⟩
  | .bool b, _ => ⟨rfl, by cases b <;> decide⟩
  | .int i, h => ⟨by simpa only [PyData.showable, decide_eq_true_eq] using lil_int (by simpa only [Lil] using h), shown_int (by simpa only [Lil] using h)⟩
  | .str x, h => ⟨rfl, by
      have e := StrLaws.reprText_len x (by simpa only [Lil] using h)
      simp only [PyData.shown, cost]
      omega⟩
  | .list xs, h => by
    obtain ⟨a, b⟩ := lil_showAll xs (by simpa only [Lil] using h)
    have l := listText_len_le (PyData.shownAll xs)
    have n := PyData.shownAll_length xs
    refine ⟨by simpa only [PyData.showable] using a, ?_⟩
    simp only [PyData.shown, cost]
    omega
  | .tuple xs, h => by
    obtain ⟨a, b⟩ := lil_showAll xs (by simpa only [Lil] using h)
    have l := tupleText_len_le (PyData.shownAll xs)
    have n := PyData.shownAll_length xs
    refine ⟨by simpa only [PyData.showable] using a, ?_⟩
    simp only [PyData.shown, cost]
    omega
  | .dict _, h => by simp only [Lil] at h
theorem lil_showAll : ∀ xs : List PyData, LilAll xs → PyData.showableAll xs = true ∧ ((PyData.shownAll xs).map (·.length)).sum + 2 * xs.length ≤ costAll xs
  | [], _ => ⟨rfl, by simp [PyData.shownAll, costAll]⟩
  | x :: xs, h => by
    have h' : Lil x ∧ LilAll xs := by simpa only [LilAll] using h
    obtain ⟨a, b⟩ := lil_show x h'.1
    obtain ⟨c, d⟩ := lil_showAll xs h'.2
    refine ⟨by simp only [PyData.showableAll, a, c, Bool.and_self], ?_⟩
    simp only [PyData.shownAll, costAll, List.map_cons, List.sum_cons, List.length_cons]
    omega
end
theorem shows_of {d : PyData} (h : Lil d) (hd : d.depth ≤ 20) (hc : cost d ≤ sizeLine) : Shows d :=
  ⟨(lil_show d h).1, hd, Nat.le_trans (lil_show d h).2 hc⟩
theorem lilAll_iff : ∀ {xs : List PyData}, LilAll xs ↔ ∀ x ∈ xs, Lil x
  | [] => by simp [LilAll]
  | x :: xs => by simp [LilAll, lilAll_iff (xs := xs)]
theorem costAll_le {c : Nat} : ∀ {xs : List PyData}, (∀ x ∈ xs, cost x ≤ c) → costAll xs ≤ xs.length * (c + 2)
  | [], _ => by simp [costAll]
  | x :: xs, h => by
    have h1 := h x (List.mem_cons_self ..)
    have h2 := costAll_le (xs := xs) fun y hy => h y (List.mem_cons_of_mem _ hy)
    simp only [costAll, List.length_cons, Nat.add_mul]
    omega
theorem depthAll_le {c : Nat} : ∀ {xs : List PyData}, (∀ x ∈ xs, x.depth ≤ c) → PyData.depthAll xs ≤ c
  | [], _ => by simp [PyData.depthAll]
  | x :: xs, h => by
    have h1 := h x (List.mem_cons_self ..)
    have h2 := depthAll_le (xs := xs) fun y hy => h y (List.mem_cons_of_mem _ hy)
    simp only [PyData.depthAll]
    omega
theorem canLayAll_iff : ∀ {xs : List PyData}, PyData.canLayAll0 xs = true ↔ ∀ x ∈ xs, x.canLay0 = true
  | [] => by simp [PyData.canLayAll0]
  | x :: xs => by simp [PyData.canLayAll0, canLayAll_iff (xs := xs)]
/-- a row of ints as data -/
abbrev intsD (ns : List Int) : List PyData := ns.map PyData.int
theorem lil_ints {ns : List Int} (h : ∀ n ∈ ns, n.natAbs < 10 ^ 150) : LilAll (intsD ns) := by
  rw [lilAll_iff]
  intro x hx
  obtain ⟨n, hn, rfl⟩ := List.mem_map.mp hx
  simpa only [Lil] using h n hn
theorem cost_ints {ns : List Int} : costAll (intsD ns) ≤ ns.length * 153 := by
  have := costAll_le (c := 151) (xs := intsD ns) (fun x hx => by
    obtain ⟨n, hn, rfl⟩ := List.mem_map.mp hx
    simp only [cost]
    omega)
  rw [List.length_map] at this
  exact this
theorem depth_ints {ns : List Int} : PyData.depthAll (intsD ns) = 0 := by
  have := depthAll_le (c := 0) (xs := intsD ns) (fun x hx => by
    obtain ⟨n, hn, rfl⟩ := List.mem_map.mp hx
    simp only [PyData.depth]
    omega)
  omega
theorem lay_ints {ns : List Int} : PyData.canLayAll0 (intsD ns) = true := by
  rw [canLayAll_iff]
  intro x hx
  obtain ⟨n, hn, rfl⟩ := List.mem_map.mp hx
  rfl
theorem shaped_list_ints {ns : List Int} : SeqAt.shaped (.list (intsD ns)) = true := by
  simp only [SeqAt.shaped, PyData.canLay0, lay_ints, PyData.depth, depth_ints]
  decide
theorem shaped_tup_ints {ns : List Int} : SeqAt.shaped (.tuple (intsD ns)) = true := by
  simp only [SeqAt.shaped, PyData.canLay0, lay_ints, PyData.depth, depth_ints]
  decide
theorem eqv_nil {ns : List Int} : PyData.eqv (.list (intsD ns)) (.list []) = decide (ns = []) := by
  cases ns with
  | nil => simp [PyData.eqv, PyData.eqvAll]
  | cons n ns => simp [PyData.eqv, PyData.eqvAll]
theorem nul_ints {K : PySem.W.Frag} {H : Hp} {a : Addr} {ns : List Int} (h : H a = some (.lst (ns.map V.int))) : Dp K H (.ref a) (.list (intsD ns)) := .lst (.inl (.inl h)) (dp_ints ns)

/-! ### slices -/
theorem cut_take {xs : List V} {k : Nat} : cutV xs none (some (k : Int)) = xs.take k := by
  unfold cutV
  rw [HT.sIx_nat, HT.sIx_none, List.drop_zero, Nat.sub_zero, List.take_eq_take_iff]
  omega
theorem cut_drop1 {xs : List V} : cutV xs (some 1) none = xs.drop 1 := by
  unfold cutV
  rw [show HT.sIx xs.length 0 (some 1) = min 1 xs.length from HT.sIx_nat xs.length 0 1, HT.sIx_none]
  cases xs with
  | nil => rfl
  | cons x r =>
    have e : min 1 (x :: r).length = 1 := by simp only [List.length_cons]; omega
    rw [e, List.drop_one, List.tail_cons, List.length_cons, Nat.add_sub_cancel, List.take_length]
theorem Off.new {p c a : Addr} {H H1 : Hp} {o : HO} (s : Off p c H H1) (n : H a = none) : Off p c H (upd H1 a o) := fun b x h1 h2 e => by
  rw [upd_ne (ne_of_none e n)]
  exact s b x h1 h2 e
theorem Off.free {p c a : Addr} {H H1 : Hp} (s : Off p c H H1) (n : H1 a = none) (h1 : a ≠ p) (h2 : a ≠ c) : H a = none := by
  match q : H a with
  | none => rfl
  | some o =>
    have := s a o h1 h2 q
    rw [n] at this
    exact nomatch this
theorem Src.free {p c a : Addr} {H H1 : Hp} (s : Off p c H H1) (S : Src H1 p c) (n : H1 a = none) : H a = none := s.free n (S.ne_p n) (S.ne_c n)
theorem Src.upd_new {p c a : Addr} {H : Hp} {o : HO} (S : Src H p c) (h1 : a ≠ p) (h2 : a ≠ c) : Src (upd H a o) p c := by
  obtain ⟨cells, l, m, t, e1, e2⟩ := S.ex
  exact ⟨cells, l, m, t, by rw [upd_ne h1.symm]; exact e1, by rw [upd_ne h2.symm]; exact e2⟩
def spDraw : Sp := fun vs H Q _ => ∃ (p c : Addr) (ticks : Nat) (most : Int), vs = [.ref p, .int ticks, .int most] ∧ Src H p c ∧ ticks ≤ 1000 ∧ 1 ≤ most ∧ most < 1000000000 ∧
  ∀ (H' : Hp) (t : Addr) (ns : List Int), Src H' p c → Off p c H H' → H' t = some (.tup (ns.map V.int)) → H t = none → ns.length = ticks → (∀ z ∈ ns, 0 ≤ z ∧ z ≤ most) → Q (.ref t) H'
theorem while4 {c : TT} {tb : TS} {D : Ends} {σ : L2.St} {H : Hp} (Pv : Nat → L2.St → Hp → Prop) (Pa : L2.St → Hp → Prop) (n : Nat) (h0 : Pv n σ H) (after : ∀ σ H, Pa σ H → D.nx σ H)
    (turn : (∀ σ H, Pa σ H → D.nx σ H) → ∀ m σ H, Pv m σ H → c σ H fun b H1 => if b = true then
      ∃ N : L2.St → Hp → Prop, (∀ σ' H', N σ' H' → ∃ m', m' < m ∧ Pv m' σ' H') ∧ tb { D with nx := N, ct := N, bk := D.nx } σ H1 else D.nx σ H1) : tWhile c tb D σ H :=
  ⟨Pv, ⟨n, h0⟩, turn after⟩
theorem rep1 {z : Int} : ∀ {k : Nat}, (List.replicate k [V.int z]).flatten = (List.replicate k z).map V.int
  | 0 => rfl
  | k + 1 => by
    rw [List.replicate_succ, List.flatten_cons, rep1, List.replicate_succ, List.map_cons]
    rfl
theorem many_small {n : Nat} (h : n ≤ 100000) : n < sizeLine := Nat.lt_of_le_of_lt h (by decide)
theorem tif_R {t : TT} {ta tb : TE} {σ : L2.St} {H : Hp} {Q : VK} (R : V → Hp → Prop) (key : ∀ v H, R v H → Q v H) (h : ∀ Q' : VK, (∀ v H, R v H → Q' v H) → tIf t ta tb σ H Q') : tIf t ta tb σ H Q := h Q key
end WK
set_option Elab.async false
set_option linter.all false
set_option maxRecDepth 100000
namespace WK
open PySem PySem.Spec PyProof.Rows L2
open AutoSeq1 (wpAny_loadPart')

/-! ### enumerate of a tuple -/
def it_obj (t : Addr) : Obj := { cls := .type "tuple_iterator", data := .fields #[.ref t, .int 0 0] }
def en_obj (i : Addr) : Obj := { cls := .type "enumerate", data := .fields #[.none, .bool false, .ref i, rawInt 0, .none, .none] }
def enum_heap (h : Heap) (t : Addr) : Heap := (h.push (it_obj t)).push (en_obj h.objs.size)
theorem enum_make (t : Addr) (its : Array Value) (n : Nat) (dct : Option Addr) (sl : Array (Option Value)) :
    Meets (Builtin.«enumerate.__new__» ⟨[.type "enumerate", .ref t], []⟩)
      (fun _ R s => s.heap.get? t = some { cls := .type "tuple", dict := dct, data := .seq its n, slots := sl } ∧
        R (.ok (.ret (.ref (s.heap.push (it_obj t)).objs.size)))
          { s with heap := enum_heap s.heap t }) :=
  .of_wp fun prog w A R s h => by
    obtain ⟨hp, g, d, tk, os⟩ := s
    obtain ⟨ht, h⟩ := h
    have hsub := sub_enumerate
    have tup : Heap.IsTuple (Shared.heap ⟨hp, g, d, tk, os⟩) t its := ⟨_, ht, rfl, n, rfl⟩
    wp_walk using wpAny_loadPart' ht
    refine wpAny_stack_any fun st => wpAny_pure ?_
    split
    · rename_i c _ _ _ _ _
      cases (c == Value.type "enumerate")
      · wp_walk using wpAny_loadPart' ht, wpAny_pyIter_tuple tup
        exact ⟨_, rfl, h⟩
      · wp_walk using wpAny_loadPart' ht, wpAny_pyIter_tuple tup
        exact ⟨_, rfl, h⟩
    · wp_walk using wpAny_loadPart' ht, wpAny_pyIter_tuple tup
      exact ⟨_, rfl, h⟩
section
variable {prog : Program} {w : World} {A : Around} {E : Value → Shared → Prop} {s : Shared}
theorem call_enumT {t : Addr} {its : Array Value} {Q : Value → Shared → Prop} (tup : s.heap.IsTuple t its)
    (h : ∀ h', IsEnum h' (s.heap.objs.size + 1) s.heap.objs.size 0 .none → h'.IsTupleIter s.heap.objs.size t 0 →
      (∀ b o, s.heap.get? b = some o → h'.get? b = some o) → Q (.ref (s.heap.objs.size + 1)) { s with heap := h' }) :
    wpAny (model prog w) A (call (.type "enumerate") [.ref t]) Q E s := by
  obtain ⟨⟨c, dct, dt, sl⟩, ht, hc, n, hd⟩ := tup
  have hc : c = .type "tuple" := hc
  have hd : dt = .seq its n := hd
  subst hc
  subst hd
  have size1 : (s.heap.push (it_obj t)).objs.size = s.heap.objs.size + 1 := Heap.size_push ..
  have en : (enum_heap s.heap t).get? (s.heap.objs.size + 1) = some (en_obj s.heap.objs.size) := by
    have := Heap.get?_push_size (s.heap.push (it_obj t)) (o := en_obj s.heap.objs.size) rfl
    rw [size1] at this
    exact this
  refine callType_new F.called_enumerate (by decide) (F.typeCall_enumerate_1 _) (F.newCall_enumerate_1 _)
    (fun obj => F.args_object_init_2 obj _) F.entry_enumerate_new (enum_make t its n dct sl) ⟨ht, ?_⟩
  show _ ∧ _
  rw [size1]
  refine ⟨⟨_, en, rfl⟩, h _ en ?_ ?_⟩
  · exact ⟨_, Heap.get?_push_of_some _ (Heap.get?_push_size _ rfl), rfl, rfl⟩
  · intro b o x
    exact Heap.get?_push_of_some _ (Heap.get?_push_of_some _ x)
end

/-- the tuple at a as it stands, each item with its number in a new pair -/
def IteT (K : PySem.W.Frag) (a : Addr) : It :=
  ⟨fun i H => ∃ (xs : List V) (x : V), SqT K H a xs ∧ xs[i]? = some x,
   fun i H v H' => ∃ T x, v = .ref T ∧ H T = none ∧ H' = upd H T (.tup [.int (i : Nat), x]) ∧ ∀ xs, SqT K H a xs → xs[i]? = some x,
   fun i H => ∃ xs : List V, SqT K H a xs ∧ xs.length ≤ i⟩
theorem turn_enumT {P : Program} {w : World} {K : PySem.W.Frag} {elts : List Expr} {kk : Nat} {tpos : Pos} (a e it : Addr) :
    Turn P w K (.Tuple elts kk tpos) (IteT K a) [e, it] e
      (fun i h => (∃ old, IsEnum h e it ((i : Nat) : Int) old) ∧ h.IsTupleIter it a i ∧ e ≠ it) where
  mem := by simp
  obj := by
    rintro i h ⟨⟨old, he⟩, ⟨o, ho, hc, hd⟩, _⟩ b hb
    rcases List.mem_cons.mp hb with z | z
    · rw [z]
      exact ⟨_, he, fun v q => nomatch q⟩
    · rw [List.mem_singleton.mp z]
      exact ⟨o, ho, fun v q => by rw [hd] at q; exact nomatch q⟩
  keep := by
    rintro i h h' ⟨⟨old, he⟩, hi, hne⟩ k
    exact ⟨⟨old, k e (by simp) _ he⟩, hi.at (fun o q => k it (by simp) o q), hne⟩
  item := by
    intro X hP hw hK hc i pins s σ H E I hf st hg
    subst hP hw hK
    obtain ⟨⟨old, he⟩, hit, hne⟩ := st
    obtain ⟨xs, x, hq, hx⟩ := hg
    obtain ⟨its, rv, tp, _⟩ := I.tuple hq
    obtain ⟨u, hu, ru⟩ := rv.get hx
    have le : e < s.heap.objs.size := Heap.lt_size he
    have li : it < s.heap.objs.size := by
      obtain ⟨_, q, _⟩ := hit
      exact Heap.lt_size q
    have ait : a ≠ it := by
      rintro rfl
      obtain ⟨o1, q1, c1, _⟩ := tp
      obtain ⟨o2, q2, c2, _⟩ := hit
      rw [q1] at q2
      injection q2 with q2
      subst q2
      rw [c1] at c2
      injection c2 with c2
      exact absurd c2 (by decide)
    have ae : e ≠ a := by
      rintro rfl
      obtain ⟨o1, q1, c1, _⟩ := tp
      have he' : s.heap.get? e = some _ := he
      rw [he'] at q1
      injection q1 with q1
      subst q1
      injection c1 with c1
      exact absurd c1 (by decide)
    have szI : i < its.toArray.size := by
      rw [List.size_toArray]
      exact (List.getElem?_eq_some_iff.mp hu).1
    refine wpAny_pyNext_enum_itemD (Draws.tuple (A := X.A.in1) (I.ok.hd hc) it a ait its.toArray) he ⟨hit, tp⟩ szI hne (by simp [hne, ae]) ?_
    intro x' h' tk px out st' hT hsz hk
    have hxx : its.toArray[i]? = some x' := px
    have exu : x' = u := by
      rw [List.getElem?_toArray, hu] at hxx
      injection hxx with z
      exact z.symm
    subst exu
    refine ⟨_, rfl, wpAny_letOwnedTupleGo_enum (s := { s with heap := h', toks := tk + 1 }) out ?_⟩
    intro h'' he' sb
    have T2 : h''.get? s.heap.objs.size = some { cls := .type "tuple", data := .seq #[.int i tk, x'] } := (sb.2 _ (Nat.ne_of_gt le)).trans hT
    have new : ObjOk X.prog X.w (upd H s.heap.objs.size (.tup [.int (i : Nat), x])) h'' s.heap.objs.size (.tup [.int (i : Nat), x]) := by
      refine ⟨by show 2 ≤ sizeLine; decide, [.int i tk, x'], .cons ⟨_, rfl⟩ (.cons ru .nil), ⟨_, T2, rfl, _, rfl⟩⟩
    have I1 : Inv X pins σ (upd H s.heap.objs.size (.tup [.int (i : Nat), x])) { s with heap := h'', toks := tk + 1 } := by
      refine I.turnedNew (ch := [e, it]) ?_ hf (Nat.le_refl _) new
      intro b o hb q
      have b1 : b ≠ e := fun z => hb (by simp [z])
      have b2 : b ≠ it := fun z => hb (by simp [z])
      exact (sb.2 b b1).trans (hk b o b1 b2 q)
    refine ⟨.ref s.heap.objs.size, _, I1, rfl, ?_, ⟨⟨x', ?_⟩, ?_, hne⟩, ?_⟩
    · refine ⟨_, x, rfl, I.hok.fresh (Nat.le_refl _), rfl, ?_⟩
      intro ys hy
      rw [I.tuple_inj hy hq]
      exact hx
    · have e1 : ((i + 1 : Nat) : Int) = (i : Int) + 1 := by omega
      rw [e1]
      exact he'
    · exact st'.1.at fun o q => (sb.2 it (Ne.symm hne)).trans q
    · intro b hb
      have lb : b < s.heap.objs.size := by
        rcases List.mem_cons.mp hb with z | z
        · rw [z]; exact le
        · rw [List.mem_singleton.mp z]; exact li
      rw [upd_ne (Nat.ne_of_lt lb)]
      exact (hf b hb).1
  done := by
    intro X hP hw hK hc i pins s σ H E I hf st hg
    subst hP hw hK
    obtain ⟨⟨old, he⟩, hit, hne⟩ := st
    obtain ⟨xs, hq, hx⟩ := hg
    obtain ⟨its, rv, tp, _⟩ := I.tuple hq
    have hl := rv.length
    have over : its.toArray[i + 0]? = none := by
      rw [List.getElem?_toArray]
      exact List.getElem?_eq_none_iff.mpr (by omega)
    have D0 : Draws X.prog X.w X.A.in1 it [it, a] 0 (fun _ _ => False) (fun j h => h.IsTupleIter it a (i + j) ∧ h.IsTuple a its.toArray) :=
      { live := fun _ _ z => by
          obtain ⟨o, ho, _⟩ := z.1
          exact ⟨o, ho⟩
        frame := fun _ _ _ z hk => ⟨z.1.at (fun o e => hk it (by simp) o e), z.2.at (fun o e => hk a (by simp) o e)⟩
        item := fun _ _ _ _ z => absurd z (Nat.not_lt_zero _)
        done := fun s Q E z hE => wpAny_nextOf_tuple_end (I.ok.hd hc) z.1 z.2 over hE }
    obtain ⟨f0, f1, f2, f3, f4, f5⟩ := hf it (by simp)
    refine wpAny_pyNext_enum_endD D0 he ⟨hit, tp⟩ ?_
    intro h' eb
    exact ⟨rfl, I.turned (t' := s.toks) (fun b o hb q => eb b o hb q) f0 f1 f3 f4 f5⟩
  self := fun A i s Q E st h => by
    obtain ⟨⟨_, he⟩, _⟩ := st
    exact wpAny_pyIter_enum he h
def iEnumT (K : PySem.W.Frag) (ta : TA) : TI := fun σ H R => ta σ H fun vs H1 => ∃ a xs, vs = [.ref a] ∧ SqT K H1 a xs ∧ R (IteT K a) H1
theorem pi_enumT {X : Cx} {e : Expr} {ta : TA} {p pos tpos : Pos} {elts : List Expr} {kk : Nat} (hg : Gl X "enumerate") (hm : X.mg "enumerate" = none) (ha : PA X [e] ta)
    (hs : starEach [e] X.env = [(false, eval e X.env)] := by rfl) :
    PI X (.Tuple elts kk tpos) (.Call (.Name "enumerate" p) [e] [] pos) (iEnumT X.K ta) := by
  constructor
  intro pins s σ H R I h
  have go := ha.run pos pins s σ H _ I h
  refine Call_ (ld_blt I hg hm boot_enumerate (PyProof.Rows.callWith_type1 (thn go ?_) hs rfl))
  rintro us s1 ⟨vs, H1, I1, r1, a, xs, rfl, hq, q⟩
  obtain ⟨u, rfl, r⟩ := vals1 r1
  cases r
  obtain ⟨its, rv, tp, _⟩ := I1.tuple hq
  refine call_enumT tp ?_
  intro h' en hit hk
  refine wpAny_pyIter_enum en ?_
  have I2 : Inv X pins σ H1 { s1 with heap := h' } := I1.kept (t' := s1.toks) hk
  refine ⟨s1.heap.objs.size + 1, [s1.heap.objs.size + 1, s1.heap.objs.size], _, _, H1, rfl, I2,
    turn_enumT a (s1.heap.objs.size + 1) s1.heap.objs.size, ⟨⟨.none, en⟩, hit, Nat.succ_ne_self _⟩, ?_, q⟩
  intro b hb
  have le : s1.heap.objs.size ≤ b := by
    rcases List.mem_cons.mp hb with z | z
    · rw [z]; exact Nat.le_add_right _ _
    · rw [List.mem_singleton.mp z]; exact Nat.le_refl _
  exact I1.fpOk le (I1.hok.fresh le)
theorem walk_enumT {K : PySem.W.Frag} {a : Addr} {xs : List V} : Walk (IteT K a) xs.length (fun H => SqT K H a xs) (YPair (fun i => some (.int (i : Nat))) (fun i => xs[i]?)) := by
  constructor
  · intro i H hi q
    exact ⟨xs, xs[i], q, by simp [hi]⟩
  · intro H q
    exact ⟨xs, q, Nat.le_refl _⟩
  · rintro i H v H' _ q ⟨T, x, h1, h2, h3, h4⟩
    exact ⟨T, .int (i : Nat), x, h1, h2, h3, rfl, h4 xs q⟩
end WK
set_option Elab.async false
set_option linter.all false
set_option maxRecDepth 100000
namespace WK
open PySem PySem.Spec PyProof.Rows L2
/-! ### layers and gaps -/
def layerL (ns : List Int) (k : Int) : List Int := ns.map fun x => if k ≤ x then 1 else 0
def onL (ns : List Int) (k : Int) (i : Nat) : List Int := ((List.range i).filter fun t => decide (k ≤ ns.getD t 0)).map fun (t : Nat) => (t : Int)
def pairsL (os : List Int) (i : Nat) : List (Int × Int) := ((List.range i).filter fun j => decide (1 < os.getD (j + 1) 0 - os.getD j 0)).map fun j => (os.getD j 0 + 1, os.getD (j + 1) 0 - os.getD j 0 - 1)
def prD (p : Int × Int) : PyData := .tuple [.int p.1, .int p.2]
def gapsL (ns : List Int) (k : Int) : List (Int × Int) := pairsL (onL ns k ns.length) ((onL ns k ns.length).length - 1)
theorem getD_of {ns : List Int} {i : Nat} {x : Int} (h : ns[i]? = some x) : ns.getD i 0 = x := by
  rw [List.getD_eq_getElem?_getD, h]
  rfl
theorem onL_yes {ns : List Int} {k x : Int} {i : Nat} (h : ns[i]? = some x) (hk : k ≤ x) : onL ns k (i + 1) = onL ns k i ++ [(i : Int)] := by
  unfold onL
  rw [List.range_succ, List.filter_append, List.map_append, List.filter_cons, if_pos (by rw [getD_of h]; exact decide_eq_true hk)]
  rfl
theorem onL_no {ns : List Int} {k x : Int} {i : Nat} (h : ns[i]? = some x) (hk : ¬ k ≤ x) : onL ns k (i + 1) = onL ns k i := by
  unfold onL
  rw [List.range_succ, List.filter_append, List.map_append, List.filter_cons, if_neg (by rw [getD_of h]; simpa using hk)]
  simp
theorem onL_len {ns : List Int} {k : Int} {i : Nat} : (onL ns k i).length ≤ i := by
  unfold onL
  rw [List.length_map]
  refine Nat.le_trans (List.length_filter_le _ (List.range i)) ?_
  rw [List.length_range]
  exact Nat.le_refl _
theorem pairsL_yes {os : List Int} {a b : Int} {i : Nat} (h : os[i]? = some a) (h1 : os[i + 1]? = some b) (hk : 1 < b - a) : pairsL os (i + 1) = pairsL os i ++ [(a + 1, b - a - 1)] := by
  unfold pairsL
  rw [List.range_succ, List.filter_append, List.map_append, List.filter_cons, if_pos (by rw [getD_of h, getD_of h1]; exact decide_eq_true hk)]
  simp only [List.filter_nil, List.map_cons, List.map_nil, getD_of h, getD_of h1]
theorem pairsL_no {os : List Int} {a b : Int} {i : Nat} (h : os[i]? = some a) (h1 : os[i + 1]? = some b) (hk : ¬ 1 < b - a) : pairsL os (i + 1) = pairsL os i := by
  unfold pairsL
  rw [List.range_succ, List.filter_append, List.map_append, List.filter_cons, if_neg (by rw [getD_of h, getD_of h1]; simpa using hk)]
  simp
theorem pairsL_len {os : List Int} {i : Nat} : (pairsL os i).length ≤ i := by
  unfold pairsL
  rw [List.length_map]
  refine Nat.le_trans (List.length_filter_le _ (List.range i)) ?_
  rw [List.length_range]
  exact Nat.le_refl _
/-- pairs stand, whatever list is stored -/
theorem dp_pairs_upd {K : PySem.W.Frag} {H : Hp} {a : Addr} {xs ys : List V} : ∀ {ps : List (Int × Int)} {ws : List V}, DpAll K H ws (ps.map prD) → H a = some (.lst xs) → DpAll K (upd H a (.lst ys)) ws (ps.map prD)
  | [], _, h, _ => by
    cases h
    exact .nil
  | p :: ps, _, h, ha => by
    cases h with
    | cons h1 h2 =>
      refine .cons ?_ (dp_pairs_upd h2 ha)
      cases h1 with
      | @tup a' xs' ds' h3 h4 =>
        have h5 : DpAll K (upd H a (.lst ys)) xs' [PyData.int p.1, PyData.int p.2] := by
          cases h4 with
          | cons q1 q2 =>
            cases q1
            cases q2 with
            | cons q3 q4 =>
              cases q3
              cases q4
              exact .cons (.int _) (.cons (.int _) .nil)
        refine .tup ?_ h5
        rcases h3 with (h3 | ⟨o, h3⟩) | h3
        · exact .inl (.inl (by rw [upd_ne (ne_of h3 ha (by intro z; cases z))]; exact h3))
        · exact .inl (.inr ⟨o, by rw [upd_ne (ne_of h3 ha (by intro z; cases z))]; exact h3⟩)
        · exact .inr h3
def spLayer : Sp := fun vs H Q _ => ∃ (t : Addr) (k : Int) (ns : List Int), vs = [.ref t, .int k] ∧ H t = some (.tup (ns.map V.int)) ∧ ns.length ≤ 5000 ∧
  ∀ H' u, Same H H' → H u = none → H' u = some (.tup ((layerL ns k).map V.int)) → Q (.ref u) H'
def spGaps (K : PySem.W.Frag) : Sp := fun vs H Q _ => ∃ (t : Addr) (k : Int) (ns : List Int), vs = [.ref t, .int k] ∧ H t = some (.tup (ns.map V.int)) ∧ ns.length ≤ 5000 ∧
  ∀ H' g ws, Same H H' → H g = none → H' g = some (.lst ws) → DpAll K H' ws ((gapsL ns k).map prD) → Q (.ref g) H'
end WK
namespace WK
open PySem PySem.Spec PyProof.Rows L2
def lgD (ns : List Int) (k : Int) : PyData := .list [.tuple (intsD (layerL ns k)), .list ((gapsL ns k).map prD)]
theorem layerL_len {ns : List Int} {k : Int} : (layerL ns k).length = ns.length := List.length_map ..
theorem layerL_small {ns : List Int} {k : Int} : ∀ z ∈ layerL ns k, z.natAbs < 10 ^ 150 := by
  intro z hz
  obtain ⟨x, _, rfl⟩ := List.mem_map.mp hz
  have e : (1 : Nat) < 10 ^ 150 := by decide +kernel
  split <;> omega
theorem onL_mem {ns : List Int} {k : Int} {i : Nat} : ∀ z ∈ onL ns k i, 0 ≤ z ∧ z < i := by
  intro z hz
  obtain ⟨t, ht, rfl⟩ := List.mem_map.mp hz
  have := List.mem_range.mp (List.mem_filter.mp ht).1
  omega
theorem getD_mem {os : List Int} {j : Nat} {n : Nat} (h : ∀ z ∈ os, 0 ≤ z ∧ z < (n : Int)) : 0 ≤ os.getD j 0 ∧ os.getD j 0 ≤ n := by
  rw [List.getD_eq_getElem?_getD]
  match e : os[j]? with
  | none => exact ⟨Int.le_refl _, Int.natCast_nonneg _⟩
  | some z =>
    have := h z (List.mem_of_getElem? e)
    exact ⟨this.1, Int.le_of_lt this.2⟩
theorem gapsL_small {ns : List Int} {k : Int} (hl : ns.length ≤ 5000) : ∀ p ∈ gapsL ns k, p.1.natAbs < 10 ^ 150 ∧ p.2.natAbs < 10 ^ 150 := by
  intro p hp
  obtain ⟨j, _, rfl⟩ := List.mem_map.mp hp
  have a := getD_mem (j := j) (onL_mem (ns := ns) (k := k) (i := ns.length))
  have b := getD_mem (j := j + 1) (onL_mem (ns := ns) (k := k) (i := ns.length))
  have e : (20000 : Nat) < 10 ^ 150 := by decide +kernel
  constructor <;> (show Int.natAbs _ < _) <;> omega
theorem gapsL_len {ns : List Int} {k : Int} : (gapsL ns k).length ≤ ns.length := by
  refine Nat.le_trans pairsL_len ?_
  have := onL_len (ns := ns) (k := k) (i := ns.length)
  omega
theorem lil_pairs {ps : List (Int × Int)} (h : ∀ p ∈ ps, p.1.natAbs < 10 ^ 150 ∧ p.2.natAbs < 10 ^ 150) : LilAll (ps.map prD) := by
  rw [lilAll_iff]
  intro x hx
  obtain ⟨p, hp, rfl⟩ := List.mem_map.mp hx
  simpa only [prD, Lil, LilAll, and_true] using h p hp
theorem cost_pairs {ps : List (Int × Int)} : costAll (ps.map prD) ≤ ps.length * 311 := by
  have := costAll_le (c := 309) (xs := ps.map prD) (fun x hx => by
    obtain ⟨p, hp, rfl⟩ := List.mem_map.mp hx
    simp only [prD, cost, costAll]
    omega)
  rw [List.length_map] at this
  exact this
theorem depth_pairs {ps : List (Int × Int)} : PyData.depthAll (ps.map prD) ≤ 1 :=
  depthAll_le fun x hx => by
    obtain ⟨p, hp, rfl⟩ := List.mem_map.mp hx
    simp only [prD, PyData.depth, PyData.depthAll]
    omega
theorem lg_shows {ns : List Int} {k : Int} (hl : ns.length ≤ 1000) : Shows (lgD ns k) := by
  have dp := depth_pairs (ps := gapsL ns k)
  have ci := cost_ints (ns := layerL ns k)
  have cp := cost_pairs (ps := gapsL ns k)
  have l1 := layerL_len (ns := ns) (k := k)
  have l2 := gapsL_len (ns := ns) (k := k)
  refine shows_of ?_ ?_ ?_
  · simp only [lgD, Lil, LilAll, and_true]
    exact ⟨lil_ints layerL_small, lil_pairs (gapsL_small (by omega))⟩
  · simp only [lgD, PyData.depth, PyData.depthAll, depth_ints]
    omega
  · simp only [lgD, cost, costAll]
    rw [l1] at ci
    refine Nat.le_trans (show _ ≤ 500000 by omega) (by decide)
theorem lg_dp {K : PySem.W.Frag} {H : Hp} {l u g : Addr} {ns : List Int} {k : Int} {ws : List V} (hl : H l = some (.lst [.ref u, .ref g])) (hu : H u = some (.tup ((layerL ns k).map V.int)))
    (hg : H g = some (.lst ws)) (hw : DpAll K H ws ((gapsL ns k).map prD)) : Dp K H (.ref l) (lgD ns k) :=
  .lst (.inl (.inl hl)) (.cons (.tup (.inl (.inl hu)) (dp_ints _)) (.cons (.lst (.inl (.inl hg)) hw) .nil))
theorem shows_row {ns : List Int} (h : ∀ z ∈ ns, z.natAbs < 10 ^ 150) (hl : ns.length ≤ 5000) : Shows (.tuple (intsD ns)) := by
  have ci := cost_ints (ns := ns)
  refine shows_of (by simpa only [Lil] using lil_ints h) ?_ ?_
  · simp only [PyData.depth, depth_ints]
    omega
  · simp only [cost]
    refine Nat.le_trans (show _ ≤ 1000000 by omega) (by decide)
theorem row_dp {K : PySem.W.Frag} {H : Hp} {t : Addr} {ns : List Int} (h : H t = some (.tup (ns.map V.int))) : Dp K H (.ref t) (.tuple (intsD ns)) := .tup (.inl (.inl h)) (dp_ints _)
end WK
namespace WK
open PySem PySem.Spec PyProof.Rows L2
/-- the heap without what stands at D -/
def era (H : Hp) (D : Addr) : Hp := fun b => if b = D then none else H b
theorem era_ne {H : Hp} {D b : Addr} (h : b ≠ D) : era H D b = H b := if_neg h
theorem era_some {H : Hp} {D b : Addr} {o : HO} (h : era H D b = some o) : H b = some o := by
  by_cases e : b = D
  · have : era H D b = none := if_pos e
    rw [this] at h
    exact nomatch h
  · exact (era_ne (H := H) e).symm.trans h
theorem era_same (H : Hp) (D : Addr) : Same (era H D) H := fun _ _ h => era_some h
theorem era_upd {H : Hp} {D : Addr} {o : HO} : era (upd H D o) D = era H D := by
  funext b
  by_cases e : b = D
  · rw [e]; exact (if_pos rfl).trans (if_pos rfl).symm
  · rw [era_ne e, era_ne e, upd_ne e]
theorem era_mono {H H' : Hp} {D : Addr} (s : Same H H') : Same (era H D) (era H' D) := fun b o h => by
  by_cases e : b = D
  · have : era H D b = none := if_pos e
    rw [this] at h
    exact nomatch h
  · rw [era_ne e] at h ⊢
    exact s _ _ h
theorem dp_pairs_era {K : PySem.W.Frag} {H : Hp} {a : Addr} {xs : List V} : ∀ {ps : List (Int × Int)} {ws : List V}, DpAll K H ws (ps.map prD) → H a = some (.lst xs) → DpAll K (era H a) ws (ps.map prD)
  | [], _, h, _ => by
    cases h
    exact .nil
  | p :: ps, _, h, ha => by
    cases h with
    | cons h1 h2 =>
      refine .cons ?_ (dp_pairs_era h2 ha)
      cases h1 with
      | @tup a' xs' ds' h3 h4 =>
        have h5 : DpAll K (era H a) xs' [PyData.int p.1, PyData.int p.2] := by
          cases h4 with
          | cons q1 q2 =>
            cases q1
            cases q2 with
            | cons q3 q4 =>
              cases q3
              cases q4
              exact .cons (.int _) (.cons (.int _) .nil)
        refine .tup ?_ h5
        rcases h3 with (h3 | ⟨o, h3⟩) | h3
        · exact .inl (.inl ((era_ne (ne_of h3 ha (by intro z; cases z))).trans h3))
        · exact .inl (.inr ⟨o, (era_ne (ne_of h3 ha (by intro z; cases z))).trans h3⟩)
        · exact .inr h3
end WK
set_option Elab.async false
set_option linter.all false
set_option maxRecDepth 100000
namespace WK
open PySem PySem.Spec PyProof.Rows L2

/-! ### sum of a tuple -/
def rSumT (K : PySem.W.Frag) : List V → Hp → VK → Prop := fun vs H Q => ∃ (a : Addr) (ns : List Int), vs = [V.ref a] ∧ SqT K H a (ns.map V.int) ∧ Q (.int ns.sum) H
theorem cr_sumT {X : Cx} (hc : X.calm = true) : CallR X (.builtin "sum") (rSumT X.K) := by
  rintro pins s σ H vs us Q I r ⟨a, ns, rfl, hs, q⟩
  obtain ⟨its, rv, tp, _⟩ := I.tuple hs
  rw [Vals.ref1 r]
  have hi := rv.ints
  obtain ⟨xs, e⟩ := hi.allInts.items
  have hn : numsOf (intItems xs).toList = ns := by
    rw [← e]
    exact hi.numsOf
  rw [nums_intItems] at hn
  rw [e] at tp
  have tp' : s.heap.IsTuple a (intItems xs) := tp
  have lt : a < s.heap.objs.size := by
    obtain ⟨_, g, _⟩ := tp
    exact Heap.lt_size g
  refine call_sum_walkG (wpAny_pyIter_tuple tp' ?_)
  refine ⟨s.heap.objs.size, [s.heap.objs.size, a], [s.heap.objs.size], _, _, _, numAt xs, rfl,
    Walks.tuple (A := X.A.in1) (I.ok.hd hc) s.heap.objs.size a (Nat.ne_of_lt lt) (intItems xs),
    ⟨⟨_, Heap.get?_push_size _ rfl, rfl, rfl⟩, tp'.push _⟩, ?_, fun _ _ => intItems_at, ?_⟩
  · intro b hb
    show b < (s.heap.push _).objs.size
    rw [Heap.size_push]
    rcases List.mem_cons.mp hb with z | z
    · rw [z]; exact Nat.lt_succ_self _
    · rw [List.mem_singleton.mp z]; exact Nat.lt_succ_of_lt lt
  · intro h' tk t' hk
    have k : ∀ b o, s.heap.get? b = some o → h'.get? b = some o := by
      intro b o x
      refine hk b o (fun z => ?_) (Heap.get?_push_of_some _ x)
      rw [List.mem_singleton.mp z] at x
      exact absurd (Heap.lt_size x) (Nat.lt_irrefl _)
    have ev : preSum (numAt xs) (intItems xs).size = ns.sum := by
      rw [preSum_eq, List.take_of_length_le (by simp [intItems]), hn]
    rw [ev]
    exact ⟨.int ns.sum, H, I.kept k, ⟨t', rfl⟩, q⟩

/-! ### zip of a list and a tuple -/
def z1 (h : Heap) (l : Addr) : Heap := h.push { cls := .type "list_iterator", data := .fields #[.ref l, .int 0 0] }
def z2 (h : Heap) (l t : Addr) : Heap := (z1 h l).push { cls := .type "tuple_iterator", data := .fields #[.ref t, .int 0 0] }
def z3 (h : Heap) (l t : Addr) : Heap := (z2 h l t).push { cls := .type "tuple", data := .seq #[.ref h.objs.size, .ref (z1 h l).objs.size] }
def z4 (h : Heap) (l t : Addr) : Heap := (z3 h l t).push { cls := .type "tuple", data := .seq #[.none, .none] }
def z5 (h : Heap) (l t : Addr) : Heap := (z4 h l t).push { cls := .type "zip", data := .fields #[.none, .bool false, .bool false, .ref (z2 h l t).objs.size, .ref (z3 h l t).objs.size] }
theorem zipM_make (l t : Addr) (xs ys : Array Value) :
    Meets (Builtin.«zip.__new__» ⟨[.type "zip", .ref l, .ref t], []⟩)
      (fun _ R s => s.heap.IsList l xs ∧ s.heap.IsTuple t ys ∧ R (.ok (.ret (.ref (z4 s.heap l t).objs.size))) { s with heap := z5 s.heap l t }) :=
  .of_wp fun prog w A R s h => by
    obtain ⟨hp, g, d, tk, os⟩ := s
    obtain ⟨hl, ht, h⟩ := h
    have hsub := sub_zip
    have a1 : Heap.IsList (Shared.heap ⟨hp, g, d, tk, os⟩) l xs := hl
    have a2 : Heap.IsTuple (Shared.heap ⟨hp.push { cls := .type "list_iterator", data := .fields #[.ref l, .int 0 0] }, g, d, tk, os⟩) t ys := Heap.IsTuple.push ht _
    wp_walk using wpAny_pyIter_list a1, wpAny_pyIter_tuple a2
    exact ⟨_, rfl, h⟩
section
variable {prog : Program} {w : World} {A : Around} {E : Value → Shared → Prop} {s : Shared}
theorem call_zipM {l t : Addr} {xs ys : Array Value} {Q : Value → Shared → Prop} (hl : s.heap.IsList l xs) (ht : s.heap.IsTuple t ys)
    (h : ∀ h', IsZip h' (s.heap.objs.size + 4) (s.heap.objs.size + 2) (s.heap.objs.size + 3) .none →
      PySem.IsPair h' (s.heap.objs.size + 2) (.ref s.heap.objs.size) (.ref (s.heap.objs.size + 1)) → PySem.IsPair h' (s.heap.objs.size + 3) .none .none →
      h'.IsListIter s.heap.objs.size l 0 → h'.IsTupleIter (s.heap.objs.size + 1) t 0 →
      (∀ c o, s.heap.get? c = some o → h'.get? c = some o) → Q (.ref (s.heap.objs.size + 4)) { s with heap := h' }) :
    wpAny (model prog w) A (call (.type "zip") [.ref l, .ref t]) Q E s := by
  refine callType_new F.called_zip (by decide) (F.typeCall_zip_2 _ _) (F.newCall_zip_2 _ _)
    (fun obj => F.args_object_init_3 obj _ _) F.entry_zip_new (zipM_make l t xs ys) ⟨hl, ht, ?_⟩
  have n1 : (z1 s.heap l).objs.size = s.heap.objs.size + 1 := Heap.size_push ..
  have n2 : (z2 s.heap l t).objs.size = s.heap.objs.size + 2 := (Heap.size_push ..).trans (congrArg (· + 1) n1)
  have n3 : (z3 s.heap l t).objs.size = s.heap.objs.size + 3 := (Heap.size_push ..).trans (congrArg (· + 1) n2)
  have n4 : (z4 s.heap l t).objs.size = s.heap.objs.size + 4 := (Heap.size_push ..).trans (congrArg (· + 1) n3)
  have p5 : (z5 s.heap l t).get? (z4 s.heap l t).objs.size = some _ := Heap.get?_push_size _ rfl
  have p4 : (z5 s.heap l t).get? (z3 s.heap l t).objs.size = some _ := Heap.get?_push_of_some _ (Heap.get?_push_size _ rfl)
  have p3 : (z5 s.heap l t).get? (z2 s.heap l t).objs.size = some _ :=
    Heap.get?_push_of_some _ (Heap.get?_push_of_some _ (Heap.get?_push_size _ rfl))
  have p2 : (z5 s.heap l t).get? (z1 s.heap l).objs.size = some _ :=
    Heap.get?_push_of_some _ (Heap.get?_push_of_some _ (Heap.get?_push_of_some _ (Heap.get?_push_size _ rfl)))
  have p1 : (z5 s.heap l t).get? s.heap.objs.size = some _ :=
    Heap.get?_push_of_some _ (Heap.get?_push_of_some _ (Heap.get?_push_of_some _ (Heap.get?_push_of_some _ (Heap.get?_push_size _ rfl))))
  show _ ∧ _
  rw [n2, n3, n4] at p5
  rw [n1, n2] at p3
  rw [n3] at p4
  rw [n1] at p2
  rw [n4]
  refine ⟨⟨_, p5, rfl⟩, h _ p5 p3 p4 ⟨_, p1, rfl, rfl⟩ ⟨_, p2, rfl, rfl⟩ ?_⟩
  intro c o x
  exact Heap.get?_push_of_some _ (Heap.get?_push_of_some _ (Heap.get?_push_of_some _ (Heap.get?_push_of_some _ (Heap.get?_push_of_some _ x))))
end
/-- the list at a and the tuple at b as they stand, the items in new pairs -/
def ItzM (K : PySem.W.Frag) (a b : Addr) : It :=
  ⟨fun i H => ∃ (xs ys : List V) (x y : V), SqL K H a xs ∧ SqT K H b ys ∧ xs[i]? = some x ∧ ys[i]? = some y,
   fun i H v H' => ∃ T x y, v = .ref T ∧ H T = none ∧ H' = upd H T (.tup [x, y]) ∧ (∀ xs, SqL K H a xs → xs[i]? = some x) ∧ ∀ ys, SqT K H b ys → ys[i]? = some y,
   fun i H => ∃ xs ys : List V, SqL K H a xs ∧ SqT K H b ys ∧ (i = xs.length ∧ i ≤ ys.length ∨ i = ys.length ∧ i ≤ xs.length)⟩
theorem sep_of {z TI TO i1 i2 a b : Addr} (D : ZipApart z TI TO i1 i2 a b) : ZipSep2 z TI TO i1 i2 [i1, a] [i2, b] := by
  refine ⟨D.TIz, D.TOz, D.TITO, D.TIi1, by simp, ?_, ?_, D.TIi2, by simp, ?_, ?_, ?_, ?_⟩
  · simp [D.i1z.symm, D.l1z.symm]
  · simp [D.TOi1, D.l1TO.symm]
  · simp [D.i2z.symm, D.l2z.symm]
  · simp [D.TOi2, D.l2TO.symm]
  · simp [D.i12, D.l2i1.symm]
  · simp [D.i12.symm, D.l1i2.symm]
theorem turn_zipM {P : Program} {w : World} {K : PySem.W.Frag} {elts : List Expr} {kk : Nat} {tpos : Pos} {a b z TI TO i1 i2 : Addr} (D : ZipApart z TI TO i1 i2 a b) :
    Turn P w K (.Tuple elts kk tpos) (ItzM K a b) [z, TI, TO, i1, i2] z
      (fun i h => IsZip h z TI TO .none ∧ PySem.IsPair h TI (.ref i1) (.ref i2) ∧ (∃ x y, PySem.IsPair h TO x y) ∧ h.IsListIter i1 a i ∧ h.IsTupleIter i2 b i) where
  mem := by simp
  obj := by
    rintro i h ⟨hz, hTI, ⟨x, y, hTO⟩, ⟨o1, e1, _, d1⟩, ⟨o2, e2, _, d2⟩⟩ c hc
    have e' : c = z ∨ c = TI ∨ c = TO ∨ c = i1 ∨ c = i2 := by simpa using hc
    rcases e' with rfl | rfl | rfl | rfl | rfl
    · exact ⟨_, hz, fun v q => nomatch q⟩
    · exact ⟨_, hTI, fun v q => nomatch q⟩
    · exact ⟨_, hTO, fun v q => nomatch q⟩
    · exact ⟨o1, e1, fun v q => by rw [d1] at q; exact nomatch q⟩
    · exact ⟨o2, e2, fun v q => by rw [d2] at q; exact nomatch q⟩
  keep := by
    rintro i h h' ⟨hz, hTI, ⟨x, y, hTO⟩, q1, q2⟩ k
    exact ⟨k z (by simp) _ hz, k TI (by simp) _ hTI, ⟨x, y, k TO (by simp) _ hTO⟩, q1.at (fun o q => k i1 (by simp) o q), q2.at (fun o q => k i2 (by simp) o q)⟩
  item := by
    intro X hP hw hK hc i pins s σ H E I hf st hg
    subst hP hw hK
    obtain ⟨hz, hTI, ⟨x0, y0, hTO⟩, q1, q2⟩ := st
    obtain ⟨xs, ys, x, y, hqx, hqy, hx, hy⟩ := hg
    obtain ⟨its, rv, pl, _⟩ := I.list hqx
    obtain ⟨jts, rv2, tp, _⟩ := I.tuple hqy
    obtain ⟨u, hu, ru⟩ := rv.get hx
    obtain ⟨u2, hu2, ru2⟩ := rv2.get hy
    have hzl : z < s.heap.objs.size := Heap.lt_size hz
    have s1 : i < its.toArray.size := by
      rw [List.size_toArray]
      exact (List.getElem?_eq_some_iff.mp hu).1
    have s2 : i < jts.toArray.size := by
      rw [List.size_toArray]
      exact (List.getElem?_eq_some_iff.mp hu2).1
    have tp' : s.heap.IsTuple b jts.toArray := tp
    refine wpAny_pyNext_zipD2_item (sep_of D) (Draws.list (A := X.A.in1) (I.ok.hd hc) i1 a D.l1i1 its.toArray) (Draws.tuple (A := X.A.in1) (I.ok.hd hc) i2 b D.l2i2 jts.toArray)
      hz hTI hTO ⟨q1, pl.isList⟩ ⟨q2, tp'⟩ s1 s2 ?_
    intro v1 v2 h' tk e1 e2 hz' hTO' st1 st2 hT hsz hk
    have e1 : its.toArray[i]? = some v1 := e1
    have e2 : jts.toArray[i]? = some v2 := e2
    rw [List.getElem?_toArray, hu] at e1
    rw [List.getElem?_toArray, hu2] at e2
    injection e1 with e1
    injection e2 with e2
    subst e1
    subst e2
    refine ⟨_, rfl, wpAny_letOwnedTupleGo_zip (s := { s with heap := h', toks := tk }) hz' ?_⟩
    intro h'' hz'' sb
    have T2 : h''.get? s.heap.objs.size = some { cls := .type "tuple", data := .seq #[u, u2] } := (sb.2 _ (Nat.ne_of_gt hzl)).trans hT
    have new : ObjOk X.prog X.w (upd H s.heap.objs.size (.tup [x, y])) h'' s.heap.objs.size (.tup [x, y]) :=
      ⟨by show 2 ≤ sizeLine; decide, [u, u2], .cons ru (.cons ru2 .nil), ⟨_, T2, rfl, _, rfl⟩⟩
    have I1 : Inv X pins σ (upd H s.heap.objs.size (.tup [x, y])) { s with heap := h'', toks := tk } := by
      refine I.turnedNew (ch := [z, TI, TO, i1, i2]) ?_ hf (Nat.le_refl _) new
      intro c o hb q
      have c1 : c ≠ z := fun e => hb (by simp [e])
      have c2 : c ≠ TO := fun e => hb (by simp [e])
      have c3 : c ≠ i1 := fun e => hb (by simp [e])
      have c4 : c ≠ i2 := fun e => hb (by simp [e])
      exact (sb.2 c c1).trans (hk c o c1 c2 c3 c4 q)
    refine ⟨.ref s.heap.objs.size, _, I1, rfl, ⟨_, x, y, rfl, I.hok.fresh (Nat.le_refl _), rfl, ?_, ?_⟩, ⟨hz'', ?_, ⟨u, u2, ?_⟩, ?_, ?_⟩, ?_⟩
    · intro l hl
      rw [I.list_inj hl hqx]
      exact hx
    · intro l hl
      rw [I.tuple_inj hl hqy]
      exact hy
    · exact (sb.2 _ D.TIz).trans (hk _ _ D.TIz D.TITO D.TIi1 D.TIi2 hTI)
    · exact (sb.2 _ D.TOz).trans hTO'
    · exact st1.1.at fun o q => (sb.2 _ D.i1z).trans q
    · exact st2.1.at fun o q => (sb.2 _ D.i2z).trans q
    · intro c hcm
      obtain ⟨o1, g1, _⟩ := q1
      obtain ⟨o2, g2, _⟩ := q2
      have lt : c < s.heap.objs.size := by
        have e' : c = z ∨ c = TI ∨ c = TO ∨ c = i1 ∨ c = i2 := by simpa using hcm
        rcases e' with rfl | rfl | rfl | rfl | rfl
        · exact hzl
        · exact Heap.lt_size hTI
        · exact Heap.lt_size hTO
        · exact Heap.lt_size g1
        · exact Heap.lt_size g2
      rw [upd_ne (Nat.ne_of_lt lt)]
      exact (hf c hcm).1
  done := by
    intro X hP hw hK hc i pins s σ H E I hf st hg
    subst hP hw hK
    obtain ⟨hz, hTI, ⟨x0, y0, hTO⟩, q1, q2⟩ := st
    obtain ⟨xs, ys, hqx, hqy, hend⟩ := hg
    obtain ⟨its, rv, pl, _⟩ := I.list hqx
    obtain ⟨jts, rv2, tp, _⟩ := I.tuple hqy
    have l1 := rv.length
    have l2 := rv2.length
    have tp' : s.heap.IsTuple b jts.toArray := tp
    refine wpAny_pyNext_zipD2_end (i := i) (sep_of D) (Draws.list (A := X.A.in1) (I.ok.hd hc) i1 a D.l1i1 its.toArray) (Draws.tuple (A := X.A.in1) (I.ok.hd hc) i2 b D.l2i2 jts.toArray)
      hz hTI hTO ⟨q1, pl.isList⟩ ⟨q2, tp'⟩ ?_ ?_ ?_ ?_
    · rw [List.size_toArray]; omega
    · rw [List.size_toArray]; omega
    · rw [List.size_toArray, List.size_toArray]; omega
    · intro h' tk hk
      refine ⟨rfl, I.turnedL (t' := tk) (ch := [z, TI, TO, i1, i2]) ?_ hf⟩
      intro c o hb q
      exact hk c o (fun e => hb (by simp [e])) (fun e => hb (by simp [e])) (fun e => hb (by simp [e])) (fun e => hb (by simp [e])) q
  self := fun A i s Q E st h => wpAny_pyIter_zip st.1 h
def iZipM (K : PySem.W.Frag) (ta : TA) : TI := fun σ H R => ta σ H fun vs H1 => ∃ a b xs ys, vs = [.ref a, .ref b] ∧ SqL K H1 a xs ∧ SqT K H1 b ys ∧ R (ItzM K a b) H1
theorem pi_zipM {X : Cx} {e e2 : Expr} {ta : TA} {p pos tpos : Pos} {elts : List Expr} {kk : Nat} (hg : Gl X "zip") (hm : X.mg "zip" = none) (ha : PA X [e, e2] ta)
    (hs : starEach [e, e2] X.env = (false, eval e X.env) :: starEach [e2] X.env := by rfl) (hpl : (backTo pos (starEach [e2] X.env)).any (·.1) = false := by rfl) :
    PI X (.Tuple elts kk tpos) (.Call (.Name "zip" p) [e, e2] [] pos) (iZipM X.K ta) := by
  constructor
  intro pins s σ H R I h
  have go := ha.run pos pins s σ H _ I h
  refine Call_ (ld_blt I hg hm PyProof.Rows.boot_zip (PyProof.Rows.callWith_type1 (thn go ?_) hs hpl))
  rintro us s1 ⟨vs, H1, I1, r1, a, b, xs, ys, rfl, hqx, hqy, q⟩
  obtain ⟨u1, u2, rfl, r, r'⟩ := vals2 r1
  cases r
  cases r'
  obtain ⟨its, rv, pl, _⟩ := I1.list hqx
  obtain ⟨jts, rv2, tp, _⟩ := I1.tuple hqy
  have tp' : s1.heap.IsTuple b jts.toArray := tp
  have la : a < s1.heap.objs.size := pl.lt
  have lb : b < s1.heap.objs.size := by
    obtain ⟨_, g, _⟩ := tp
    exact Heap.lt_size g
  refine call_zipM pl.isList tp' ?_
  intro h' hz hTI hTO q1 q2 hk
  refine wpAny_pyIter_zip hz ?_
  have I2 : Inv X pins σ H1 { s1 with heap := h' } := I1.kept (t' := s1.toks) hk
  refine ⟨s1.heap.objs.size + 4, [s1.heap.objs.size + 4, s1.heap.objs.size + 2, s1.heap.objs.size + 3, s1.heap.objs.size, s1.heap.objs.size + 1], _, _, H1, rfl, I2,
    turn_zipM (PySem.W.ktu_apart s1.heap.objs.size a b la lb), ⟨hz, hTI, ⟨_, _, hTO⟩, q1, q2⟩, ?_, q⟩
  intro c hcm
  have hle : s1.heap.objs.size ≤ c := by
    have e' : c = s1.heap.objs.size + 4 ∨ c = s1.heap.objs.size + 2 ∨ c = s1.heap.objs.size + 3 ∨ c = s1.heap.objs.size ∨ c = s1.heap.objs.size + 1 := by simpa using hcm
    rcases e' with e | e | e | e | e <;> rw [e]
    · exact Nat.le_add_right _ 4
    · exact Nat.le_add_right _ 2
    · exact Nat.le_add_right _ 3
    · exact Nat.le_refl _
    · exact Nat.le_add_right _ 1
  exact I1.fpOk hle (I1.hok.fresh hle)
theorem walk_zipM {K : PySem.W.Frag} {a b : Addr} {xs ys : List V} {n : Nat} (hn : n = min xs.length ys.length) :
    Walk (ItzM K a b) n (fun H => SqL K H a xs ∧ SqT K H b ys) (YPair (fun i => xs[i]?) (fun i => ys[i]?)) := by
  subst hn
  constructor
  · rintro i H hi ⟨q1, q2⟩
    have h1 : i < xs.length := by omega
    have h2 : i < ys.length := by omega
    exact ⟨xs, ys, xs[i], ys[i], q1, q2, by simp [h1], by simp [h2]⟩
  · rintro H ⟨q1, q2⟩
    exact ⟨xs, ys, q1, q2, by omega⟩
  · rintro i H v H' _ ⟨q1, q2⟩ ⟨T, x, y, h1, h2, h3, h4, h5⟩
    exact ⟨T, x, y, h1, h2, h3, h4 xs q1, h5 ys q2⟩
/-- zip of two tuples -/
theorem walk_zipT {K : PySem.W.Frag} {a b : Addr} {xs ys : List V} {n : Nat} (hn : n = min xs.length ys.length) :
    Walk (RZ.ItzT K a b) n (fun H => SqT K H a xs ∧ SqT K H b ys) (YPair (fun i => xs[i]?) (fun i => ys[i]?)) := by
  subst hn
  constructor
  · rintro i H hi ⟨q1, q2⟩
    have h1 : i < xs.length := by omega
    have h2 : i < ys.length := by omega
    exact ⟨xs, ys, xs[i], ys[i], q1, q2, by simp [h1], by simp [h2]⟩
  · rintro H ⟨q1, q2⟩
    exact ⟨xs, ys, q1, q2, by omega⟩
  · rintro i H v H' _ ⟨q1, q2⟩ ⟨T, x, y, h1, h2, h3, h4, h5⟩
    exact ⟨T, x, y, h1, h2, h3, h4 xs q1, h5 ys q2⟩
end WK
set_option Elab.async false
set_option linter.all false
set_option maxRecDepth 100000
namespace WK
open PySem PySem.Spec PyProof.Rows L2
structure Blt (mg : Str → Option Value) : Prop where
  int : mg "int" = none
  abs : mg "abs" = none
  len : mg "len" = none
  max : mg "max" = none
  min : mg "min" = none
  tuple : mg "tuple" = none
  range : mg "range" = none
  zip : mg "zip" = none
  enumerate : mg "enumerate" = none
  repr : mg "repr" = none
  sum : mg "sum" = none
  all : mg "all" = none
  any : mg "any" = none
  sorted : mg "sorted" = none
  list : mg "list" = none
/-! ### tuples stay -/
def Tups (H H' : Hp) : Prop := ∀ b xs, H b = some (.tup xs) → H' b = some (.tup xs)
theorem Tups.refl (H : Hp) : Tups H H := fun _ _ h => h
theorem Tups.trans {H H1 H2 : Hp} (a : Tups H H1) (b : Tups H1 H2) : Tups H H2 := fun x xs h => b x xs (a x xs h)
theorem Same.tups {H H' : Hp} (s : Same H H') : Tups H H' := fun b xs h => s b _ h
theorem Off.tups {H H' : Hp} {p c : Addr} (o : Off p c H H') (S : Src H p c) : Tups H H' := fun b xs h => o.tup S h
theorem tups_upd {H : Hp} {a : Addr} {xs : List V} {o : HO} (h : H a = some (.lst xs)) : Tups H (upd H a o) := fun b ys e => by
  rw [upd_ne (ne_of e h (by intro z; cases z))]
  exact e
/-! ### slots -/
structure Slt where
  need : Int
  most : Int
  first : Int
  slopes : List Int
def SltAt (H : Hp) (v : V) (s : Slt) : Prop := ∃ t u, v = .ref t ∧ H t = some (.tup [.int s.need, .int s.most, .int s.first, .ref u]) ∧ H u = some (.tup (s.slopes.map V.int))
theorem SltAt.mono {H H' : Hp} {v : V} {s : Slt} (k : Tups H H') (h : SltAt H v s) : SltAt H' v s := by
  obtain ⟨t, u, e, a, b⟩ := h
  exact ⟨t, u, e, k _ _ a, k _ _ b⟩
abbrev SltsAt (H : Hp) : List V → List Slt → Prop := Paired (SltAt H)
theorem SltsAt.mono {H H' : Hp} (k : Tups H H') : ∀ {vs : List V} {ss : List Slt}, SltsAt H vs ss → SltsAt H' vs ss
  | _, _, .nil => .nil
  | _, _, .cons a b => .cons (a.mono k) (SltsAt.mono k b)
theorem SltsAt.len {H : Hp} : ∀ {vs : List V} {ss : List Slt}, SltsAt H vs ss → vs.length = ss.length
  | _, _, .nil => rfl
  | _, _, .cons _ b => congrArg (· + 1) (SltsAt.len b)
theorem SltsAt.snoc {H : Hp} : ∀ {vs : List V} {ss : List Slt} {v : V} {s : Slt}, SltsAt H vs ss → SltAt H v s → SltsAt H (vs ++ [v]) (ss ++ [s])
  | _, _, _, _, .nil, h => .cons h .nil
  | _, _, _, _, .cons a b, h => .cons a (SltsAt.snoc b h)
theorem SltsAt.get {H : Hp} : ∀ {vs : List V} {ss : List Slt} {i : Nat} {v : V}, SltsAt H vs ss → vs[i]? = some v → ∃ s, ss[i]? = some s ∧ SltAt H v s
  | _, _, _, _, .nil, e => by simp at e
  | _, _, 0, v, .cons a _, e => by
    have e : _ = v := Option.some.inj e
    subst e
    exact ⟨_, rfl, a⟩
  | _, _, i + 1, v, .cons _ b, e => SltsAt.get (i := i) b e
/-- a slot of the document, within bounds: m its greatest number, b how steep, f its first cost's bound -/
structure Slt.Ok (s : Slt) (m b f : Int) : Prop where
  lo : 0 ≤ s.need
  mid : s.need ≤ s.most
  hi : s.most ≤ m
  len : (s.slopes.length : Int) = s.most - s.need
  steep : ∀ z ∈ s.slopes, -b ≤ z ∧ z ≤ b
  asc : s.slopes.Pairwise (· ≤ ·)
  pos : ∀ k, 0 ≤ s.first + (s.slopes.take k).sum
  fst : s.first ≤ f
def costAt (s : Slt) (x : Int) : Int := s.first + (s.slopes.take (x - s.need).toNat).sum
theorem sum_bounds {b : Int} : ∀ {l : List Int}, (∀ z ∈ l, -b ≤ z ∧ z ≤ b) → -(b * l.length) ≤ l.sum ∧ l.sum ≤ b * l.length
  | [], _ => by simp
  | z :: l, h => by
    have h1 := h z (List.mem_cons_self ..)
    have h2 := sum_bounds (l := l) fun y hy => h y (List.mem_cons_of_mem _ hy)
    rw [List.sum_cons, List.length_cons, Int.natCast_add, Int.mul_add]
    omega
/-- the sums of the first ones -/
def sumsL (l : List Int) (i : Nat) : List Int := (List.range i).map fun k => (l.take (k + 1)).sum
theorem sumsL_succ {l : List Int} {i : Nat} : sumsL l (i + 1) = sumsL l i ++ [(l.take (i + 1)).sum] := by
  unfold sumsL
  rw [List.range_succ, List.map_append]
  rfl
theorem sumsL_len {l : List Int} {i : Nat} : (sumsL l i).length = i := by
  unfold sumsL
  rw [List.length_map, List.length_range]
theorem low_le {l : List Int} {m : Int} (h : ∀ y ∈ (0 :: sumsL l l.length), m ≤ y) (k : Nat) : m ≤ (l.take k).sum := by
  have h0 : m ≤ 0 := h 0 (List.mem_cons_self ..)
  have step : ∀ j, j < l.length → m ≤ (l.take (j + 1)).sum := fun j hj =>
    h _ (List.mem_cons_of_mem _ (List.mem_map.mpr ⟨j, List.mem_range.mpr hj, rfl⟩))
  by_cases hk : k ≤ l.length
  · cases k with
    | zero => simpa using h0
    | succ j => exact step j (by omega)
  · rw [List.take_of_length_le (by omega)]
    by_cases hz : l.length = 0
    · have : l = [] := List.length_eq_zero_iff.mp hz
      subst this
      simpa using h0
    · have := step (l.length - 1) (by omega)
      rw [show l.length - 1 + 1 = l.length by omega, List.take_length] at this
      exact this
theorem low_ge {l : List Int} {m b : Int} (hb : 0 ≤ b) (hl : ∀ z ∈ l, -b ≤ z ∧ z ≤ b) (h : m ∈ (0 :: sumsL l l.length)) : -(b * l.length) ≤ m := by
  rcases List.mem_cons.mp h with e | e
  · subst e
    have : 0 ≤ b * (l.length : Int) := Int.mul_nonneg hb (Int.natCast_nonneg _)
    omega
  · obtain ⟨k, hk, rfl⟩ := List.mem_map.mp e
    have hk := List.mem_range.mp hk
    have s := sum_bounds (l := l.take (k + 1)) (b := b) fun z hz => hl z (List.mem_of_mem_take hz)
    rw [List.length_take, Nat.min_eq_left (by omega)] at s
    have le : b * ((k + 1 : Nat) : Int) ≤ b * (l.length : Int) := Int.mul_le_mul_of_nonneg_left (by omega) hb
    omega
def spSlots : Sp := fun vs H Q _ => ∃ (p c : Addr) (ticks : Nat) (most : Int), vs = [.ref p, .int ticks, .int most] ∧ Src H p c ∧ ticks ≤ 1000 ∧ 0 ≤ most ∧ most ≤ 1000 ∧
  ∀ (H' : Hp) (t : Addr) (ws : List V) (ss : List Slt), Src H' p c → Off p c H H' → H' t = some (.tup ws) → H t = none → SltsAt H' ws ss → ss.length = ticks → (∀ s ∈ ss, s.Ok most 8 (3 + 8 * most)) → Q (.ref t) H'
def spGreat : Sp := fun vs H Q _ => ∃ (p c : Addr) (ticks : Nat) (most : Int), vs = [.ref p, .int ticks, .int most] ∧ Src H p c ∧ ticks ≤ 1000 ∧ 0 ≤ most ∧ most ≤ 1000 ∧
  ∀ (H' : Hp) (t : Addr) (ws : List V) (ss : List Slt), Src H' p c → Off p c H H' → H' t = some (.tup ws) → H t = none → SltsAt H' ws ss → ss.length = ticks →
    (∀ s ∈ ss, s.Ok 1000000 80000000000 (10000000000 * (3 + 8 * most)) ∧ s.most - s.need ≤ most) → Q (.ref t) H'
theorem mul_sum {b : Int} : ∀ {l : List Int}, (l.map (· * b)).sum = l.sum * b
  | [] => by simp
  | z :: l => by
    rw [List.map_cons, List.sum_cons, List.sum_cons, mul_sum, Int.add_mul]
theorem Slt.Ok.great {s : Slt} {m f far by1 : Int} (h : s.Ok m 8 f) (h0 : 0 ≤ far) (hf : far + m ≤ 1000000) (b1 : 1 ≤ by1) (b2 : by1 ≤ 10000000000) (f0 : 0 ≤ f) :
    Slt.Ok ⟨s.need + far, s.most + far, s.first * by1, s.slopes.map (· * by1)⟩ 1000000 80000000000 (10000000000 * f) := by
  constructor
  · show 0 ≤ s.need + far
    have := h.lo
    omega
  · show s.need + far ≤ s.most + far
    have := h.mid
    omega
  · show s.most + far ≤ 1000000
    have := h.hi
    omega
  · show ((s.slopes.map (· * by1)).length : Int) = s.most + far - (s.need + far)
    rw [List.length_map, h.len]
    omega
  · intro z hz
    obtain ⟨y, hy, rfl⟩ := List.mem_map.mp hz
    obtain ⟨a, b⟩ := h.steep y hy
    show -80000000000 ≤ y * by1 ∧ y * by1 ≤ 80000000000
    have u : y * by1 ≤ 8 * by1 := Int.mul_le_mul_of_nonneg_right b (by omega)
    have l : -8 * by1 ≤ y * by1 := Int.mul_le_mul_of_nonneg_right a (by omega)
    omega
  · show (s.slopes.map (· * by1)).Pairwise (· ≤ ·)
    rw [List.pairwise_map]
    exact h.asc.imp fun {a b} z => Int.mul_le_mul_of_nonneg_right z (by omega)
  · intro k
    show 0 ≤ s.first * by1 + ((s.slopes.map (· * by1)).take k).sum
    rw [← List.map_take, mul_sum, ← Int.add_mul]
    exact Int.mul_nonneg (h.pos k) (by omega)
  · show s.first * by1 ≤ 10000000000 * f
    have p0 : 0 ≤ s.first := by simpa using h.pos 0
    have a : s.first * by1 ≤ f * by1 := Int.mul_le_mul_of_nonneg_right h.fst (by omega)
    have b : f * by1 ≤ f * 10000000000 := Int.mul_le_mul_of_nonneg_left b2 f0
    omega
end WK
set_option Elab.async false
set_option linter.all false
set_option maxRecDepth 100000
namespace WK
open PySem PySem.Spec PyProof.Rows L2
theorem slA {K : PySem.W.Frag} {lo hi : Option Int} {H : Hp} {Q : VK} {a : Addr} {xs : List V} (ht : H a = some (.tup xs))
    (k : ∀ p H', Same H H' → H' p = some (.tup (cutV xs lo hi)) → Q (.ref p) H') : rSlA K (.ref a) lo hi H Q := by
  refine ⟨a, xs, rfl, .inl (.inl ht), fun w => k a H (Same.refl _) ?_, fun _ p np => k p _ (same_new np) upd_same⟩
  rw [ht]
  unfold cutV
  rw [w.1, w.2, List.drop_zero, Nat.sub_zero, List.take_length]
theorem cut_int {xs : List V} {z : Int} (h : 0 ≤ z) : cutV xs none (some z) = xs.take z.toNat := by
  obtain ⟨n, rfl⟩ := Int.eq_ofNat_of_zero_le h
  rw [Int.toNat_natCast]
  exact cut_take
theorem cut_drop {xs : List V} {n : Nat} : cutV xs (some (n : Int)) none = xs.drop n := by
  unfold cutV
  rw [HT.sIx_nat, HT.sIx_none]
  by_cases h : n ≤ xs.length
  · rw [Nat.min_eq_left h, List.take_of_length_le (by rw [List.length_drop]; exact Nat.le_refl _)]
  · rw [Nat.min_eq_right (by omega), List.drop_of_length_le (by omega), List.drop_of_length_le (by omega), List.take_nil]
/-! ### rows of slots -/
def fitB (s : Slt) (x : Int) : Bool := decide (s.need ≤ x) && decide (x ≤ s.most)
def costV (s : Slt) (x : Int) : V := if fitB s x = true then .int (costAt s x) else .non
def s0 : Slt := ⟨0, 0, 0, []⟩
def servesB (ss : List Slt) (xs : List Int) (i : Nat) : List Bool := (List.range i).map fun t => fitB (ss.getD t s0) (xs.getD t 0)
def up (d : Int) : Int := if d > 0 then d else 0
def startsT (xs : List Int) (i : Nat) : List Int := (List.range i).map fun t => up (xs.getD t 0 - (0 :: xs).getD t 0)
def stopsT (xs : List Int) (i : Nat) : List Int := (List.range i).map fun t => up ((0 :: xs).getD t 0 - xs.getD t 0)
def runT (ss : List Slt) (xs : List Int) (i : Nat) : List Int := (List.range i).map fun t => costAt (ss.getD t s0) (xs.getD t 0)
def servesL (ss : List Slt) (xs : List Int) : Bool := (servesB ss xs xs.length).all id
def startsL (xs : List Int) : Int := (startsT xs xs.length).sum
def stopsL (xs : List Int) : Int := (stopsT xs xs.length).sum
def runL (ss : List Slt) (xs : List Int) : Int := (runT ss xs xs.length).sum
theorem mapr_succ {α : Type} {f : Nat → α} {i : Nat} : (List.range (i + 1)).map f = (List.range i).map f ++ [f i] := by
  rw [List.range_succ, List.map_append]
  rfl
theorem getD_at {α : Type} {l : List α} {i : Nat} {x d : α} (h : l[i]? = some x) : l.getD i d = x := by
  rw [List.getD_eq_getElem?_getD, h]
  rfl
theorem mapr_len {α : Type} {f : Nat → α} {i : Nat} : ((List.range i).map f).length = i := by
  rw [List.length_map, List.length_range]
def spCost : Sp := fun vs H Q _ => ∃ (t : V) (x : Int) (s : Slt), vs = [t, .int x] ∧ SltAt H t s ∧ ∀ H', Same H H' → Q (costV s x) H'
def spServes : Sp := fun vs H Q _ => ∃ (a b : Addr) (ws : List V) (ss : List Slt) (xs : List Int), vs = [.ref a, .ref b] ∧ H a = some (.tup ws) ∧ SltsAt H ws ss ∧ H b = some (.tup (xs.map V.int)) ∧ xs.length = ss.length ∧ xs.length ≤ 5000 ∧
  ∀ H', Same H H' → Q (.bl (servesL ss xs)) H'
def spStarts : Sp := fun vs H Q _ => ∃ (b : Addr) (xs : List Int), vs = [.ref b] ∧ H b = some (.tup (xs.map V.int)) ∧ xs.length ≤ 5000 ∧ ∀ H', Same H H' → Q (.int (startsL xs)) H'
def spStops : Sp := fun vs H Q _ => ∃ (b : Addr) (xs : List Int), vs = [.ref b] ∧ H b = some (.tup (xs.map V.int)) ∧ xs.length ≤ 5000 ∧ ∀ H', Same H H' → Q (.int (stopsL xs)) H'
def spRunning : Sp := fun vs H Q _ => ∃ (a b : Addr) (ws : List V) (ss : List Slt) (xs : List Int), vs = [.ref a, .ref b] ∧ H a = some (.tup ws) ∧ SltsAt H ws ss ∧ H b = some (.tup (xs.map V.int)) ∧ xs.length = ss.length ∧ xs.length ≤ 5000 ∧
  ∀ H', Same H H' → Q (if servesL ss xs = true then .int (runL ss xs) else .non) H'
def spRowCost : Sp := fun vs H Q _ => ∃ (a b : Addr) (B : Int) (ws : List V) (ss : List Slt) (xs : List Int), vs = [.ref a, .int B, .ref b] ∧ -(2 ^ 64) < B ∧ B < 2 ^ 64 ∧ H a = some (.tup ws) ∧ SltsAt H ws ss ∧ H b = some (.tup (xs.map V.int)) ∧ xs.length = ss.length ∧ xs.length ≤ 5000 ∧
  ∀ H', Same H H' → Q (if servesL ss xs = true then .int (runL ss xs + B * startsL xs) else .non) H'
/-- what is served is served at each tick -/
theorem serves_at {ss : List Slt} {xs : List Int} (h : servesL ss xs = true) {i : Nat} {s : Slt} {x : Int} (hs : ss[i]? = some s) (hx : xs[i]? = some x) : fitB s x = true := by
  have hi : i < xs.length := (List.getElem?_eq_some_iff.mp hx).1
  have hm : fitB s x ∈ servesB ss xs xs.length := by
    refine List.mem_map.mpr ⟨i, List.mem_range.mpr hi, ?_⟩
    rw [getD_at hs, getD_at hx]
  exact List.all_eq_true.mp h _ hm
end WK
set_option Elab.async false
set_option linter.all false
set_option maxRecDepth 100000
namespace WK
open PySem PySem.Spec PyProof.Rows L2
/-! ### the costs of slots, told in dicts -/
def costK (s : Slt) (n : Nat) : List (Key × V) := (List.range n).map fun (k : Nat) => (Sum.inl (s.need + k), V.int (s.first + (s.slopes.take k).sum))
theorem costK_succ {s : Slt} {n : Nat} : costK s (n + 1) = costK s n ++ [(Sum.inl (s.need + n), V.int (s.first + (s.slopes.take n).sum))] := by
  unfold costK
  rw [mapr_succ]
theorem costK_val {s : Slt} : ∀ {n : Nat} {z : Int}, valV (costK s n) (.inl z) = if s.need ≤ z ∧ z < s.need + n then some (.int (s.first + (s.slopes.take (z - s.need).toNat).sum)) else none
  | 0, z => by
    rw [if_neg (by omega)]
    rfl
  | n + 1, z => by
    have h0 : valV (costK s n) (Sum.inl (s.need + n) : Key) = none := by
      rw [costK_val, if_neg (by omega)]
    rw [costK_succ, valV_snoc _ _ _ _ h0, costK_val]
    by_cases e : z = s.need + n
    · subst e
      rw [if_pos rfl, if_pos (by omega), show (s.need + (n : Int) - s.need).toNat = n by omega]
    · rw [if_neg (fun q => e (Sum.inl.inj q))]
      by_cases h : s.need ≤ z ∧ z < s.need + n
      · rw [if_pos h, if_pos (by omega)]
      · rw [if_neg h, if_neg (by omega)]
theorem costK_put {s : Slt} {n : Nat} : putK (costK s n) (.inl (s.need + n)) (.int (s.first + (s.slopes.take n).sum)) = costK s (n + 1) := by
  rw [putK_new _ (by rw [costK_val, if_neg (by omega)]), costK_succ]
theorem costK_len {s : Slt} {n : Nat} : (costK s n).length = n := mapr_len
def CostAt (H : Hp) (v : V) (s : Slt) : Prop := ∃ d, v = .ref d ∧ H d = some (.dK (costK s (s.slopes.length + 1)))
abbrev CostsAt (H : Hp) : List V → List Slt → Prop := Paired (CostAt H)
theorem CostsAt.mono {H H' : Hp} (k : ∀ b kvs, H b = some (.dK kvs) → H' b = some (.dK kvs)) : ∀ {vs : List V} {ss : List Slt}, CostsAt H vs ss → CostsAt H' vs ss
  | _, _, .nil => .nil
  | _, _, .cons a b => by
    obtain ⟨d, e, h⟩ := a
    exact .cons ⟨d, e, k _ _ h⟩ (CostsAt.mono k b)
theorem CostsAt.len {H : Hp} : ∀ {vs : List V} {ss : List Slt}, CostsAt H vs ss → vs.length = ss.length
  | _, _, .nil => rfl
  | _, _, .cons _ b => congrArg (· + 1) (CostsAt.len b)
theorem CostsAt.snoc {H : Hp} : ∀ {vs : List V} {ss : List Slt} {v : V} {s : Slt}, CostsAt H vs ss → CostAt H v s → CostsAt H (vs ++ [v]) (ss ++ [s])
  | _, _, _, _, .nil, h => .cons h .nil
  | _, _, _, _, .cons a b, h => .cons a (CostsAt.snoc b h)
theorem CostsAt.get {H : Hp} : ∀ {vs : List V} {ss : List Slt} {i : Nat} {v : V}, CostsAt H vs ss → vs[i]? = some v → ∃ s, ss[i]? = some s ∧ CostAt H v s
  | _, _, _, _, .nil, e => by simp at e
  | _, _, 0, v, .cons a _, e => by
    have e : _ = v := Option.some.inj e
    subst e
    exact ⟨_, rfl, a⟩
  | _, _, i + 1, v, .cons _ b, e => CostsAt.get (i := i) b e
theorem dks_upd {H : Hp} {a : Addr} {xs : List V} {o : HO} (h : H a = some (.lst xs)) : ∀ b kvs, H b = some (.dK kvs) → upd H a o b = some (.dK kvs) := fun b ys e => by
  rw [upd_ne (ne_of e h (by intro z; cases z))]
  exact e
theorem take_sum {l : List Int} {i : Nat} {z : Int} (h : l[i]? = some z) : (l.take (i + 1)).sum = (l.take i).sum + z := by
  rw [List.take_add_one, h, List.sum_append]
  simp
def spSlotCosts : Sp := fun vs H Q _ => ∃ (a : Addr) (ws : List V) (ss : List Slt), vs = [.ref a] ∧ H a = some (.tup ws) ∧ SltsAt H ws ss ∧ ss.length ≤ 5000 ∧ (∀ s ∈ ss, s.slopes.length ≤ 5000) ∧
  ∀ (H' : Hp) (l : Addr) (vs' : List V), Same H H' → H l = none → H' l = some (.lst vs') → CostsAt H' vs' ss → (∀ v ∈ vs', ∃ d, v = .ref d ∧ H d = none) → Q (.ref l) H'
theorem CostsAt.off {H H' : Hp} {p c : Addr} (o : Off p c H H') : ∀ {vs : List V} {ss : List Slt}, CostsAt H vs ss → (∀ v ∈ vs, ∃ d, v = .ref d ∧ d ≠ p ∧ d ≠ c) → CostsAt H' vs ss
  | _, _, .nil, _ => .nil
  | _, _, .cons a b, h => by
    obtain ⟨d, e, hd⟩ := a
    obtain ⟨d', e', n1, n2⟩ := h _ (List.mem_cons_self ..)
    rw [e] at e'
    injection e' with e'
    subst e'
    exact .cons ⟨d, e, o _ _ n1 n2 hd⟩ (CostsAt.off o b fun v hv => h v (List.mem_cons_of_mem _ hv))
def spSomeRow : Sp := fun vs H Q _ => ∃ (p c a : Addr) (ws : List V) (ss : List Slt), vs = [.ref p, .ref a] ∧ Src H p c ∧ H a = some (.tup ws) ∧ SltsAt H ws ss ∧ ss.length ≤ 5000 ∧ (∀ s ∈ ss, s.need ≤ s.most ∧ s.most - s.need ≤ 1000) ∧
  ∀ (H' : Hp) (t : Addr) (xs : List Int), Src H' p c → Off p c H H' → H t = none → H' t = some (.tup (xs.map V.int)) → xs.length = ss.length → (∀ (i : Nat) (s : Slt) (x : Int), ss[i]? = some s → xs[i]? = some x → s.need ≤ x ∧ x ≤ s.most) → Q (.ref t) H'
/-- what a price is -/
def priceD (ss : List Slt) (xs : List Int) (B : Int) : List Int := if servesL ss xs = true then [runL ss xs + B * startsL xs] else []
def spPrice : Sp := fun vs H Q _ => ∃ (l b : Addr) (B : Int) (us : List V) (ss : List Slt) (xs : List Int), vs = [.ref l, .ref b, .int B] ∧ -(2 ^ 64) < B ∧ B < 2 ^ 64 ∧ H l = some (.lst us) ∧ CostsAt H us ss ∧ (∀ s ∈ ss, (s.slopes.length : Int) = s.most - s.need ∧ s.need ≤ s.most) ∧ H b = some (.tup (xs.map V.int)) ∧ xs.length = ss.length ∧ xs.length ≤ 5000 ∧
  ∀ (H' : Hp) (t : Addr), Same H H' → H t = none → H' t = some (.lst ((priceD ss xs B).map V.int)) → Q (.ref t) H'
end WK
namespace WK
open PySem PySem.Spec PyProof.Rows L2
def badL (ss : List Slt) (xs : List Int) (i : Nat) : List Int := ((List.range i).filter fun t => !fitB (ss.getD t s0) (xs.getD t 0)).map fun (t : Nat) => (t : Int)
theorem badL_yes {ss : List Slt} {xs : List Int} {i : Nat} {s : Slt} {x : Int} (hs : ss[i]? = some s) (hx : xs[i]? = some x) (h : fitB s x = false) : badL ss xs (i + 1) = badL ss xs i ++ [(i : Int)] := by
  unfold badL
  rw [List.range_succ, List.filter_append, List.map_append, List.filter_cons, if_pos (by rw [getD_at hs, getD_at hx, h]; rfl)]
  rfl
theorem badL_no {ss : List Slt} {xs : List Int} {i : Nat} {s : Slt} {x : Int} (hs : ss[i]? = some s) (hx : xs[i]? = some x) (h : fitB s x = true) : badL ss xs (i + 1) = badL ss xs i := by
  unfold badL
  rw [List.range_succ, List.filter_append, List.map_append, List.filter_cons, if_neg (by rw [getD_at hs, getD_at hx, h]; simp)]
  simp
theorem badL_len {ss : List Slt} {xs : List Int} {i : Nat} : (badL ss xs i).length ≤ i := by
  unfold badL
  rw [List.length_map]
  refine Nat.le_trans (List.length_filter_le _ (List.range i)) ?_
  rw [List.length_range]
  exact Nat.le_refl _
theorem badL_iff {ss : List Slt} {xs : List Int} : badL ss xs xs.length = [] ↔ servesL ss xs = true := by
  unfold badL servesL servesB
  rw [List.map_eq_nil_iff, List.filter_eq_nil_iff, List.all_eq_true]
  constructor
  · intro h b hb
    obtain ⟨t, ht, rfl⟩ := List.mem_map.mp hb
    have := h t ht
    simpa using this
  · intro h t ht
    have := h _ (List.mem_map.mpr ⟨t, ht, rfl⟩)
    simpa using this
theorem cost_in {s : Slt} {x : Int} (hl : (s.slopes.length : Int) = s.most - s.need) : (valV (costK s (s.slopes.length + 1)) (.inl x)).isSome = fitB s x := by
  rw [costK_val]
  unfold fitB
  by_cases h : s.need ≤ x ∧ x ≤ s.most
  · rw [if_pos (by omega), decide_eq_true h.1, decide_eq_true h.2]
    rfl
  · rw [if_neg (by omega)]
    by_cases h1 : s.need ≤ x
    · rw [decide_eq_true h1, decide_eq_false (fun z => h ⟨h1, z⟩)]
      rfl
    · rw [decide_eq_false h1]
      rfl
theorem cost_of {s : Slt} {x : Int} (hl : (s.slopes.length : Int) = s.most - s.need) (h : fitB s x = true) : valV (costK s (s.slopes.length + 1)) (.inl x) = some (.int (costAt s x)) := by
  have h' : s.need ≤ x ∧ x ≤ s.most := by simpa [fitB] using h
  rw [costK_val, if_pos (by omega)]
  rfl
end WK
set_option Elab.async false
set_option linter.all false
set_option maxRecDepth 100000
namespace WK
open PySem PySem.Spec PyProof.Rows L2
theorem seq_R {t u : TS} {D : Ends} {σ : L2.St} {H : Hp} (R : L2.St → Hp → Prop) (key : ∀ σ H, R σ H → u D σ H) (h : ∀ D' : Ends, (∀ σ H, R σ H → D'.nx σ H) → t D' σ H) : tSeq t u D σ H := h _ key
theorem catA {K : PySem.W.Frag} {H : Hp} {Q : VK} {a b : Addr} {xs ys : List V} (ha : H a = some (.tup xs)) (hb : H b = some (.tup ys)) (hl : xs.length + ys.length ≤ sizeLine)
    (k : ∀ p H', Same H H' → H' p = some (.tup (xs ++ ys)) → Q (.ref p) H') : rCatA K (.ref a) (.ref b) H Q := by
  refine ⟨a, b, xs, ys, rfl, rfl, .inl (.inl ha), .inl (.inl hb), hl, fun e => ?_, fun _ e => ?_, fun _ _ p np => k p _ (same_new np) upd_same⟩
  · subst e
    exact k b H (Same.refl _) hb
  · subst e
    refine k a H (Same.refl _) ?_
    rw [List.append_nil]
    exact ha
def within (m : Int) (xs : List Int) : Prop := ∀ x ∈ xs, -m ≤ x ∧ x ≤ m
theorem within_getD {m : Int} {xs : List Int} (h : within m xs) (h0 : 0 ≤ m) (i : Nat) : -m ≤ xs.getD i 0 ∧ xs.getD i 0 ≤ m := by
  rw [List.getD_eq_getElem?_getD]
  match e : xs[i]? with
  | none =>
    show -m ≤ 0 ∧ 0 ≤ m
    omega
  | some z => exact h z (List.mem_of_getElem? e)
theorem up_within {d m : Int} (h : -m ≤ d ∧ d ≤ m) : -m ≤ up d ∧ up d ≤ m := by
  unfold up
  split <;> omega
theorem startsL_b {m : Int} {xs : List Int} (h : within m xs) (h0 : 0 ≤ m) : -(2 * m * xs.length) ≤ startsL xs ∧ startsL xs ≤ 2 * m * xs.length := by
  have := sum_bounds (b := 2 * m) (l := startsT xs xs.length) (fun z hz => by
    obtain ⟨t, _, rfl⟩ := List.mem_map.mp hz
    have a := within_getD h h0 t
    have b := within_getD (m := m) (xs := 0 :: xs) (fun x hx => by
      rcases List.mem_cons.mp hx with e | e
      · rw [e]; omega
      · exact h x e) h0 t
    exact up_within (by omega))
  rw [show (startsT xs xs.length).length = xs.length from mapr_len] at this
  exact this
theorem stopsL_b {m : Int} {xs : List Int} (h : within m xs) (h0 : 0 ≤ m) : -(2 * m * xs.length) ≤ stopsL xs ∧ stopsL xs ≤ 2 * m * xs.length := by
  have := sum_bounds (b := 2 * m) (l := stopsT xs xs.length) (fun z hz => by
    obtain ⟨t, _, rfl⟩ := List.mem_map.mp hz
    have a := within_getD h h0 t
    have b := within_getD (m := m) (xs := 0 :: xs) (fun x hx => by
      rcases List.mem_cons.mp hx with e | e
      · rw [e]; omega
      · exact h x e) h0 t
    exact up_within (by omega))
  rw [show (stopsT xs xs.length).length = xs.length from mapr_len] at this
  exact this
theorem runL_b {B : Int} {ss : List Slt} {xs : List Int} (h : ∀ s ∈ ss, ∀ x, -B ≤ costAt s x ∧ costAt s x ≤ B) (hl : xs.length = ss.length) : -(B * xs.length) ≤ runL ss xs ∧ runL ss xs ≤ B * xs.length := by
  have := sum_bounds (b := B) (l := runT ss xs xs.length) (fun z hz => by
    obtain ⟨t, ht, rfl⟩ := List.mem_map.mp hz
    have ht : t < ss.length := by rw [← hl]; exact List.mem_range.mp ht
    rw [getD_at (List.getElem?_eq_getElem ht)]
    exact h _ (List.getElem_mem ht) _)
  rw [show (runT ss xs xs.length).length = xs.length from mapr_len] at this
  exact this
theorem cost_b {s : Slt} {m b f : Int} (h : s.Ok m b f) (hw : s.most - s.need ≤ 1000) (b0 : 0 ≤ b) (x : Int) : -(f + b * 1000) ≤ costAt s x ∧ costAt s x ≤ f + b * 1000 := by
  have p := h.pos (x - s.need).toNat
  have f1 := h.fst
  have sb := sum_bounds (b := b) (l := s.slopes.take (x - s.need).toNat) fun z hz => h.steep z (List.mem_of_mem_take hz)
  have ll : ((s.slopes.take (x - s.need).toNat).length : Int) ≤ 1000 := by
    rw [List.length_take]
    have := h.len
    omega
  have u : b * ((s.slopes.take (x - s.need).toNat).length : Int) ≤ b * 1000 := Int.mul_le_mul_of_nonneg_left ll b0
  have f0 : 0 ≤ f := by
    have := h.pos 0
    simp only [List.take_zero, List.sum_nil] at this
    omega
  have u0 : 0 ≤ b * 1000 := Int.mul_nonneg b0 (by decide)
  show -(f + b * 1000) ≤ s.first + _ ∧ s.first + _ ≤ f + b * 1000
  omega
/-- what is told of a row -/
def rowD (sv : Bool) (st sp run cost : Int) : PyData := .list [.bool sv, .int st, .int sp, if sv = true then .int run else .none, if sv = true then .int cost else .none]
theorem rowD_shows {sv : Bool} {st sp run cst : Int} (h1 : st.natAbs < 10 ^ 150) (h2 : sp.natAbs < 10 ^ 150) (h3 : run.natAbs < 10 ^ 150) (h4 : cst.natAbs < 10 ^ 150) : Shows (rowD sv st sp run cst) := by
  cases sv with
  | true =>
    refine shows_of ?_ ?_ ?_
    · simp only [rowD, Lil, LilAll, and_true, true_and, if_true]
      exact ⟨h1, h2, h3, h4⟩
    · simp [rowD, PyData.depth, PyData.depthAll]
    · simp only [rowD, WK.cost, costAll, if_true]
      decide
  | false =>
    refine shows_of ?_ ?_ ?_
    · simp only [rowD, Lil, LilAll, and_true, true_and, Bool.false_eq_true, if_false]
      exact ⟨h1, h2⟩
    · simp [rowD, PyData.depth, PyData.depthAll]
    · simp only [rowD, WK.cost, costAll, Bool.false_eq_true, if_false]
      decide
theorem cutset {k : Nat} {xs : List Int} {z : Int} (hk : k < xs.length) : (xs.take k ++ [z] ++ xs.drop (k + 1)).length = xs.length := by
  rw [List.length_append, List.length_append, List.length_take, List.length_drop, List.length_singleton]
  omega
theorem cutset_within {k : Nat} {xs : List Int} {z m m' : Int} (h : within m xs) (hm : m ≤ m') (hz : -m' ≤ z ∧ z ≤ m') : within m' (xs.take k ++ [z] ++ xs.drop (k + 1)) := by
  intro x hx
  rcases List.mem_append.mp hx with hx | hx
  · rcases List.mem_append.mp hx with hx | hx
    · have := h x (List.mem_of_mem_take hx)
      omega
    · rw [List.mem_singleton.mp hx]
      exact hz
  · have := h x (List.mem_of_mem_drop hx)
    omega
end WK
set_option Elab.async false
set_option linter.all false
set_option maxRecDepth 100000
set_option maxHeartbeats 4000000
namespace WK
open PySem PySem.Spec PyProof.Rows L2
/-! ### tuple * int, any number -/
theorem tuple_mul1 (l : Addr) (items : Array Value) (n : Nat) (dd : Option Addr) (sl : Array (Option Value)) (x : Int) (u : Tok) (c0 : (decide (x < -(2 ^ 63)) || decide (x ≥ 2 ^ 63)) = false) (c1 : (items.isEmpty || x == 1) = true) :
    Meets (Builtin.«tuple.__mul__» ⟨[.ref l, .int x u], []⟩) (fun _ R s => s.heap.get? l = some { cls := .type "tuple", dict := dd, data := .seq items n, slots := sl } ∧
      R (.ok (.ret (Value.ref l))) { s with heap := s.heap, toks := s.toks }) :=
  .of_wp fun prog w A R s h => by
    obtain ⟨hp, g, d, tk, os⟩ := s
    obtain ⟨hl, h⟩ := h
    have f1 := AutoSeq1.idx_int
    wp_walk using wpAny_loadPart' hl
    repeat (first
      | (refine wpAny_ite_false (decide_eq_false (by rw [c0]; exact Bool.false_ne_true)) ?_; wp_walk using wpAny_loadPart' hl)
      | (refine wpAny_ite_true (decide_eq_true c1) ?_; wp_walk using wpAny_loadPart' hl))
    exact ⟨_, rfl, h⟩
theorem tuple_mul0 (l : Addr) (items : Array Value) (n : Nat) (dd : Option Addr) (sl : Array (Option Value)) (x : Int) (u : Tok) (c0 : (decide (x < -(2 ^ 63)) || decide (x ≥ 2 ^ 63)) = false) (c1 : (items.isEmpty || x == 1) = false) (c2 : (decide (x ≤ 0) || items.isEmpty) = true) :
    Meets (Builtin.«tuple.__mul__» ⟨[.ref l, .int x u], []⟩) (fun _ R s => s.heap.get? l = some { cls := .type "tuple", dict := dd, data := .seq items n, slots := sl } ∧
      R (.ok (.ret (Value.ref s.heap.objs.size))) { s with heap := s.heap.push { cls := Value.type "tuple", data := Data.seq #[] }, toks := s.toks }) :=
  .of_wp fun prog w A R s h => by
    obtain ⟨hp, g, d, tk, os⟩ := s
    obtain ⟨hl, h⟩ := h
    have f1 := AutoSeq1.idx_int
    wp_walk using wpAny_loadPart' hl
    repeat (first
      | (refine wpAny_ite_false (decide_eq_false (by rw [c0]; exact Bool.false_ne_true)) ?_; wp_walk using wpAny_loadPart' hl)
      | (refine wpAny_ite_false (decide_eq_false (by rw [c1]; exact Bool.false_ne_true)) ?_; wp_walk using wpAny_loadPart' hl)
      | (refine wpAny_ite_true (decide_eq_true c2) ?_; wp_walk using wpAny_loadPart' hl))
    exact ⟨_, rfl, h⟩
def rRepA (K : PySem.W.Frag) : R2 := fun x y H Q => ∃ l k xs, x = .ref l ∧ y = .int k ∧ SqT K H l xs ∧ -(2 ^ 62) ≤ k ∧ k ≤ 1000 ∧ xs.length ≤ 1000 ∧ ((k = 1 ∨ xs = []) → Q (.ref l) H) ∧
  (¬ (k = 1 ∨ xs = []) → ∀ p, H p = none → Q (.ref p) (upd H p (.tup (List.replicate k.toNat xs).flatten)))
section
variable {X : Cx}
theorem op_repA : OpR X (binaryOp .Mult) (rRepA X.K) := by
  intro pins s σ H x y v u Q I rx ry h
  obtain ⟨l, k, xs, rfl, rfl, hT, h1, h2, hz, q1, q2⟩ := h
  by_cases hk : 2 ≤ k ∧ xs ≠ []
  · exact op_repT pins s σ H _ _ v u Q I rx ry ⟨l, k, xs, rfl, rfl, hT, hk.2, hk.1, h2, hz, q2 (fun e => by
      rcases e with e | e
      · omega
      · exact hk.2 e)⟩
  cases rx
  obtain ⟨t, rfl⟩ := ry
  obtain ⟨its, r, ⟨⟨cls, dd, data, sl⟩, ho, hc, n, hd⟩, hs⟩ := I.tuple hT
  simp only at hc hd
  subst hc hd
  have hle : its.length = xs.length := r.length.symm
  have c0 : (decide (k < -(2 ^ 63)) || decide (k ≥ 2 ^ 63)) = false := by
    rw [decide_eq_false (by omega), decide_eq_false (by omega)] <;> rfl
  by_cases e : k = 1 ∨ xs = []
  · have c1 : (its.toArray.isEmpty || k == 1) = true := by
      rcases e with e | e
      · rw [e, beq_self_eq_true, Bool.or_true]
      · rw [e] at hle
        rw [List.eq_nil_of_length_eq_zero hle]
        rfl
    exact wpAny_binaryOp_repeat_ref (T := "tuple") (U := "int") (by decide) ⟨_, ho, rfl⟩ (fun s' => typeIs_int s' k t) noFill_tuple_mul F.fills_int_mul F.slot_int_rmul repeat_tuple F.slot_int_index.lookup
      (call_meets F.slot_int_rmul (typeIs_int s k t) F.entry_int_rmul (F.args_int_rmul_2 _ _) (int_rmul_tuple k t l its.toArray n dd sl)
        ⟨ho, rfl, ⟨_, ho, rfl⟩, call_meets F.slot_tuple_mul ⟨_, ho, rfl⟩ F.entry_tuple_mul (F.args_tuple_mul_2 _ _) (tuple_mul1 l its.toArray n dd sl k t c0 c1) ⟨ho, ⟨.ref l, H, I, rfl, q1 e⟩⟩⟩)
  · have hne : xs ≠ [] := fun z => e (.inr z)
    have hk1 : k ≠ 1 := fun z => e (.inl z)
    have hk0 : k ≤ 0 := by
      by_cases z : 2 ≤ k
      · exact absurd ⟨z, hne⟩ hk
      · omega
    have hi : its.toArray.isEmpty = false := by
      cases its with
      | nil =>
        cases xs with
        | nil => exact absurd rfl hne
        | cons a b => cases hle
      | cons a b => rfl
    have c1 : (its.toArray.isEmpty || k == 1) = false := by
      rw [hi, Bool.false_or]
      exact beq_eq_false_iff_ne.mpr hk1
    have c2 : (decide (k ≤ 0) || its.toArray.isEmpty) = true := by
      rw [hi, Bool.or_false]
      exact decide_eq_true hk0
    refine wpAny_binaryOp_repeat_ref (T := "tuple") (U := "int") (by decide) ⟨_, ho, rfl⟩ (fun s' => typeIs_int s' k t) noFill_tuple_mul F.fills_int_mul F.slot_int_rmul repeat_tuple F.slot_int_index.lookup
      (call_meets F.slot_int_rmul (typeIs_int s k t) F.entry_int_rmul (F.args_int_rmul_2 _ _) (int_rmul_tuple k t l its.toArray n dd sl)
        ⟨ho, rfl, ⟨_, ho, rfl⟩, call_meets F.slot_tuple_mul ⟨_, ho, rfl⟩ F.entry_tuple_mul (F.args_tuple_mul_2 _ _) (tuple_mul0 l its.toArray n dd sl k t c0 c1 c2) ⟨ho, ?_⟩⟩)
    have e0 : (List.replicate k.toNat xs).flatten = [] := by
      rw [Int.toNat_of_nonpos hk0]
      rfl
    refine ⟨.ref s.heap.objs.size, _, I.laid (t' := s.toks) (o := .tup (List.replicate k.toNat xs).flatten) (fun b ob q => Heap.get?_push_of_some _ q) (Nat.le_refl _) ?_, rfl, q2 e _ (I.hok.fresh (Nat.le_refl _))⟩
    rw [e0]
    exact ⟨by show 0 ≤ sizeLine; decide, [], .nil, IsTup.new _ _⟩
end
end WK
set_option Elab.async false
set_option linter.all false
set_option maxRecDepth 100000
namespace WK
open PySem PySem.Spec PyProof.Rows L2
theorem sq_same {K : PySem.W.Frag} {H H' : Hp} {a : Addr} {xs : List V} (e : Same H H') (h : SqT K H a xs) : SqT K H' a xs := by
  rcases h with (h | ⟨o, h⟩) | h
  · exact .inl (.inl (e _ _ h))
  · exact .inl (.inr ⟨o, e _ _ h⟩)
  · exact .inr h
theorem sq_of {K : PySem.W.Frag} {H : Hp} {a : Addr} {xs : List V} (h : H a = some (.tup xs)) : SqT K H a xs := .inl (.inl h)
theorem slB {K : PySem.W.Frag} {lo hi : Option Int} {H : Hp} {Q : VK} {a : Addr} {xs : List V} (ht : SqT K H a xs)
    (k : ∀ p H', Same H H' → SqT K H' p (cutV xs lo hi) → Q (.ref p) H') : rSlA K (.ref a) lo hi H Q := by
  refine ⟨a, xs, rfl, ht, fun w => k a H (Same.refl _) ?_, fun _ p np => k p _ (same_new np) (sq_of upd_same)⟩
  have e : cutV xs lo hi = xs := by
    unfold cutV
    rw [w.1, w.2, List.drop_zero, Nat.sub_zero, List.take_length]
  rw [e]
  exact ht
theorem catB {K : PySem.W.Frag} {H : Hp} {Q : VK} {a b : Addr} {xs ys : List V} (ha : SqT K H a xs) (hb : SqT K H b ys) (hl : xs.length + ys.length ≤ sizeLine)
    (k : ∀ p H', Same H H' → SqT K H' p (xs ++ ys) → Q (.ref p) H') : rCatA K (.ref a) (.ref b) H Q := by
  refine ⟨a, b, xs, ys, rfl, rfl, ha, hb, hl, fun e => ?_, fun _ e => ?_, fun _ _ p np => k p _ (same_new np) (sq_of upd_same)⟩
  · subst e
    exact k b H (Same.refl _) hb
  · subst e
    refine k a H (Same.refl _) ?_
    rw [List.append_nil]
    exact ha
theorem repB {K : PySem.W.Frag} {H : Hp} {Q : VK} {a : Addr} {z k : Int} (ha : SqT K H a [.int z]) (h1 : -(2 ^ 62) ≤ k) (h2 : k ≤ 1000)
    (q : ∀ p H', Same H H' → SqT K H' p ((List.replicate k.toNat z).map V.int) → Q (.ref p) H') : rRepA K (.ref a) (.int k) H Q := by
  refine ⟨a, k, [.int z], rfl, rfl, ha, h1, h2, by show 1 ≤ 1000; decide, fun e => ?_, fun _ p np => q p _ (same_new np) ?_⟩
  · rcases e with rfl | e
    · exact q a H (Same.refl _) ha
    · cases e
  · rw [rep1]
    exact sq_of upd_same
/-! ### slots and works, also where they stand in the module -/
def SltK (K : PySem.W.Frag) (H : Hp) (v : V) (s : Slt) : Prop := ∃ t u, v = .ref t ∧ SqT K H t [.int s.need, .int s.most, .int s.first, .ref u] ∧ SqT K H u (s.slopes.map V.int)
theorem SltK.same {K : PySem.W.Frag} {H H' : Hp} {v : V} {s : Slt} (e : Same H H') (h : SltK K H v s) : SltK K H' v s := by
  obtain ⟨t, u, rfl, a, b⟩ := h
  exact ⟨t, u, rfl, sq_same e a, sq_same e b⟩
theorem SltK.of {K : PySem.W.Frag} {H : Hp} {v : V} {s : Slt} (h : SltAt H v s) : SltK K H v s := by
  obtain ⟨t, u, rfl, a, b⟩ := h
  exact ⟨t, u, rfl, sq_of a, sq_of b⟩
inductive SltsK (K : PySem.W.Frag) (H : Hp) : List V → List Slt → Prop
  | nil : SltsK K H [] []
  | cons {v : V} {vs : List V} {s : Slt} {ss : List Slt} : SltK K H v s → SltsK K H vs ss → SltsK K H (v :: vs) (s :: ss)
theorem SltsK.same {K : PySem.W.Frag} {H H' : Hp} (e : Same H H') : ∀ {vs : List V} {ss : List Slt}, SltsK K H vs ss → SltsK K H' vs ss
  | _, _, .nil => .nil
  | _, _, .cons a b => .cons (a.same e) (SltsK.same e b)
theorem SltsK.len {K : PySem.W.Frag} {H : Hp} : ∀ {vs : List V} {ss : List Slt}, SltsK K H vs ss → vs.length = ss.length
  | _, _, .nil => rfl
  | _, _, .cons _ b => congrArg (· + 1) (SltsK.len b)
theorem SltsK.snoc {K : PySem.W.Frag} {H : Hp} : ∀ {vs : List V} {ss : List Slt} {v : V} {s : Slt}, SltsK K H vs ss → SltK K H v s → SltsK K H (vs ++ [v]) (ss ++ [s])
  | _, _, _, _, .nil, h => .cons h .nil
  | _, _, _, _, .cons a b, h => .cons a (SltsK.snoc b h)
theorem SltsK.app {K : PySem.W.Frag} {H : Hp} : ∀ {vs ws : List V} {ss ts : List Slt}, SltsK K H vs ss → SltsK K H ws ts → SltsK K H (vs ++ ws) (ss ++ ts)
  | _, _, _, _, .nil, h => h
  | _, _, _, _, .cons a b, h => .cons a (SltsK.app b h)
theorem SltsK.get {K : PySem.W.Frag} {H : Hp} : ∀ {vs : List V} {ss : List Slt} {i : Nat} {v : V}, SltsK K H vs ss → vs[i]? = some v → ∃ s, ss[i]? = some s ∧ SltK K H v s
  | _, _, _, _, .nil, e => by simp at e
  | _, _, 0, v, .cons a _, e => by
    have e : _ = v := Option.some.inj e
    subst e
    exact ⟨_, rfl, a⟩
  | _, _, i + 1, v, .cons _ b, e => by
    rw [List.getElem?_cons_succ] at e ⊢
    exact SltsK.get b e
def mx (i j : Int) : Int := if j > i then j else i
def mn (i j : Int) : Int := if j < i then j else i
theorem mx_eq (i j : Int) : mx i j = max i j := by
  unfold mx
  split <;> omega
theorem mn_eq (i j : Int) : mn i j = min i j := by
  unfold mn
  split <;> omega
structure Slt.Len (s : Slt) : Prop where
  len : (s.slopes.length : Int) = s.most - s.need
  mid : s.need ≤ s.most
  wide : s.most - s.need ≤ 1000
/-- slopes from low to high -/
def winL (s : Slt) (lo hi : Int) : List Int := (s.slopes.drop (lo - s.need).toNat).take ((hi - s.need).toNat - (lo - s.need).toNat)
theorem winL_len {s : Slt} {lo hi : Int} (h : s.Len) (h1 : s.need ≤ lo) (h2 : lo ≤ hi) (h3 : hi ≤ s.most) : ((winL s lo hi).length : Int) = hi - lo := by
  have := h.len
  unfold winL
  rw [List.length_take, List.length_drop]
  omega
theorem cut_win {s : Slt} {lo hi : Int} (h : s.Len) (h1 : s.need ≤ lo) (h2 : lo ≤ hi) (h3 : hi ≤ s.most) : cutV (s.slopes.map V.int) (some (lo - s.need)) (some (hi - s.need)) = (winL s lo hi).map V.int := by
  have hl := h.len
  obtain ⟨m, hm⟩ := Int.eq_ofNat_of_zero_le (show 0 ≤ lo - s.need by omega)
  obtain ⟨n, hn⟩ := Int.eq_ofNat_of_zero_le (show 0 ≤ hi - s.need by omega)
  unfold cutV winL
  rw [hm, hn, HT.sIx_nat, HT.sIx_nat, List.length_map, Int.toNat_natCast, Int.toNat_natCast, Nat.min_eq_left (by omega), Nat.min_eq_left (by omega), List.map_take, List.map_drop]
def addL (a b : List Int) : List Int := List.zipWith (· + ·) a b
/-- two works, added -/
def sumW (a b : Slt) : Option Slt :=
  if mx a.need b.need > mn a.most b.most then none
  else some ⟨mx a.need b.need, mn a.most b.most, costAt a (mx a.need b.need) + costAt b (mx a.need b.need), addL (winL a (mx a.need b.need) (mn a.most b.most)) (winL b (mx a.need b.need) (mn a.most b.most))⟩
def lowW (s : Slt) : Int := s.need + ((s.slopes.filter fun z => decide (z < 0)).length : Nat)
def highW (s : Slt) (b : Int) : Int := s.need + ((s.slopes.filter fun z => decide (z ≤ b)).length : Nat)
def leastW (s : Slt) : Int := costAt s (lowW s)
def clampL (l : List Int) (b : Int) : List Int := l.map fun z => mn (mx 0 z) b
def heldWorth (s : Slt) (b x : Int) : Int := leastW s + ((clampL s.slopes b).take (mx 0 (x - s.need)).toNat).sum + b * mx 0 (x - s.most)
def heldMid (s : Slt) (b lo hi : Int) : List Int := ((clampL s.slopes b).drop (mx 0 (lo - s.need)).toNat).take ((mx 0 (hi - s.need)).toNat - (mx 0 (lo - s.need)).toNat)
def heldSlopes (s : Slt) (b lo hi : Int) : List Int := List.replicate (mx 0 (mn hi s.need - lo)).toNat 0 ++ heldMid s b lo hi ++ List.replicate (mx 0 (hi - mx lo s.most)).toNat b
def heldW (s : Slt) (b lo hi : Int) : Slt := ⟨lo, hi, heldWorth s b lo, heldSlopes s b lo hi⟩
theorem heldW_len {s : Slt} {b lo hi : Int} (h : s.Len) (h1 : lo ≤ hi) (h2 : hi - lo ≤ 1000) : (heldW s b lo hi).Len := by
  refine ⟨?_, h1, h2⟩
  have hl := h.len
  have hm := h.mid
  show ((heldSlopes s b lo hi).length : Int) = hi - lo
  unfold heldSlopes heldMid clampL
  rw [List.length_append, List.length_append, List.length_replicate, List.length_replicate, List.length_take, List.length_drop, List.length_map]
  simp only [mx_eq, mn_eq]
  omega
theorem sumW_len {a b c : Slt} (ha : a.Len) (hb : b.Len) (h : sumW a b = some c) : c.Len := by
  unfold sumW at h
  split at h
  · cases h
  · rename_i hle
    have h := Option.some.inj h
    subst h
    have hle : mx a.need b.need ≤ mn a.most b.most := by omega
    have e1 : a.need ≤ mx a.need b.need ∧ b.need ≤ mx a.need b.need := by rw [mx_eq]; omega
    have e2 : mn a.most b.most ≤ a.most ∧ mn a.most b.most ≤ b.most := by rw [mn_eq]; omega
    refine ⟨?_, hle, by have := ha.wide; show mn a.most b.most - mx a.need b.need ≤ 1000; omega⟩
    show ((addL _ _).length : Int) = _
    unfold addL
    rw [List.length_zipWith]
    have l1 := winL_len ha e1.1 hle e2.1
    have l2 := winL_len hb e1.2 hle e2.2
    show ((min _ _ : Nat) : Int) = mn a.most b.most - mx a.need b.need
    omega
theorem low_in {s : Slt} (h : s.Len) : s.need ≤ lowW s ∧ lowW s ≤ s.most := by
  have hl := h.len
  have := List.length_filter_le (fun z => decide (z < 0)) s.slopes
  unfold lowW
  omega
end WK
namespace WK
open PySem PySem.Spec PyProof.Rows L2
def spCostK (K : PySem.W.Frag) : Sp := fun vs H Q _ => ∃ (t : V) (x : Int) (s : Slt), vs = [t, .int x] ∧ SltK K H t s ∧ ∀ H', Same H H' → Q (costV s x) H'
def spWithin (K : PySem.W.Frag) : Sp := fun vs H Q _ => ∃ (t : V) (lo hi : Int) (s : Slt), vs = [t, .int lo, .int hi] ∧ SltK K H t s ∧ s.Len ∧ s.need ≤ lo ∧ lo ≤ hi ∧ hi ≤ s.most ∧
  ∀ H' p, Same H H' → SqT K H' p ((winL s lo hi).map V.int) → Q (.ref p) H'
def spSum (K : PySem.W.Frag) : Sp := fun vs H Q _ => ∃ (t u : V) (a b : Slt), vs = [t, u] ∧ SltK K H t a ∧ SltK K H u b ∧ a.Len ∧ b.Len ∧ (sumW a b = none → ∀ H', Same H H' → Q .non H') ∧
  ∀ c, sumW a b = some c → ∀ H' v, Same H H' → SltK K H' v c → Q v H'
def spLow (K : PySem.W.Frag) : Sp := fun vs H Q _ => ∃ (t : V) (s : Slt), vs = [t] ∧ SltK K H t s ∧ s.slopes.length ≤ 1000 ∧ ∀ H', Same H H' → Q (.int (lowW s)) H'
def spHigh (K : PySem.W.Frag) : Sp := fun vs H Q _ => ∃ (t : V) (b : Int) (s : Slt), vs = [t, .int b] ∧ SltK K H t s ∧ s.slopes.length ≤ 1000 ∧ ∀ H', Same H H' → Q (.int (highW s b)) H'
def spLeast (K : PySem.W.Frag) : Sp := fun vs H Q _ => ∃ (t : V) (s : Slt), vs = [t] ∧ SltK K H t s ∧ s.Len ∧ ∀ H', Same H H' → Q (.int (leastW s)) H'
def spBounded (K : PySem.W.Frag) : Sp := fun vs H Q _ => ∃ (p : Addr) (b : Int) (l : List Int), vs = [.ref p, .int b] ∧ SqT K H p (l.map V.int) ∧ l.length ≤ 1000 ∧ ∀ H' q, Same H H' → SqT K H' q ((clampL l b).map V.int) → Q (.ref q) H'
def spHW (K : PySem.W.Frag) : Sp := fun vs H Q _ => ∃ (t : V) (b x : Int) (s : Slt), vs = [t, .int b, .int x] ∧ SltK K H t s ∧ s.Len ∧ -(2 ^ 64) < b ∧ b < 2 ^ 64 ∧ ∀ H', Same H H' → Q (.int (heldWorth s b x)) H'
def spHS (K : PySem.W.Frag) : Sp := fun vs H Q _ => ∃ (t : V) (b lo hi : Int) (s : Slt), vs = [t, .int b, .int lo, .int hi] ∧ SltK K H t s ∧ s.Len ∧ lo ≤ hi ∧ hi - lo ≤ 1000 ∧
  ∀ H' p, Same H H' → SqT K H' p ((heldSlopes s b lo hi).map V.int) → Q (.ref p) H'
def spHeld (K : PySem.W.Frag) : Sp := fun vs H Q _ => ∃ (t : V) (b lo hi : Int) (s : Slt), vs = [t, .int b, .int lo, .int hi] ∧ SltK K H t s ∧ s.Len ∧ -(2 ^ 64) < b ∧ b < 2 ^ 64 ∧ lo ≤ hi ∧ hi - lo ≤ 1000 ∧
  ∀ H' v, Same H H' → SltK K H' v (heldW s b lo hi) → Q v H'
def afterW (a s : Slt) (b : Int) : Slt := (sumW s (heldW a b s.need s.most)).getD s0
theorem after_some {a s : Slt} {b : Int} (h : s.Len) : sumW s (heldW a b s.need s.most) = some (afterW a s b) := by
  have e : ¬ mx s.need s.need > mn s.most s.most := by
    have := h.mid
    rw [mx_eq, mn_eq]
    omega
  unfold afterW sumW
  show (if mx s.need s.need > mn s.most s.most then none else _) = some ((if mx s.need s.need > mn s.most s.most then none else _).getD s0)
  rw [if_neg e]
  rfl
theorem after_len {a s : Slt} {b : Int} (ha : a.Len) (h : s.Len) : (afterW a s b).Len := sumW_len h (heldW_len ha h.mid h.wide) (after_some h)
def spAfter (K : PySem.W.Frag) : Sp := fun vs H Q _ => ∃ (t u : V) (b : Int) (a s : Slt), vs = [t, u, .int b] ∧ SltK K H t a ∧ SltK K H u s ∧ a.Len ∧ s.Len ∧ -(2 ^ 64) < b ∧ b < 2 ^ 64 ∧
  ∀ H' v, Same H H' → SltK K H' v (afterW a s b) → Q v H'
/-- nothing yet -/
def w0 : Slt := ⟨0, 0, 0, []⟩
theorem w0_len : w0.Len := ⟨rfl, by decide, by decide⟩
def worksW (a : Slt) (b : Int) : List Slt → List Slt
  | [] => []
  | s :: ss => afterW a s b :: worksW (afterW a s b) b ss
theorem worksW_len {a : Slt} {b : Int} : ∀ {ss : List Slt}, (worksW a b ss).length = ss.length
  | [] => rfl
  | _ :: _ => congrArg (· + 1) worksW_len
theorem worksW_Len {b : Int} : ∀ {ss : List Slt} {a : Slt}, a.Len → (∀ s ∈ ss, s.Len) → ∀ x ∈ worksW a b ss, x.Len
  | [], _, _, _, x, hx => by cases hx
  | s :: ss, a, ha, hs, x, hx => by
    have hl := after_len (b := b) ha (hs s (List.mem_cons_self ..))
    rcases List.mem_cons.mp hx with e | e
    · rw [e]; exact hl
    · exact worksW_Len hl (fun s' h => hs s' (List.mem_cons_of_mem _ h)) x e
/-- the last work -/
def lastW (a : Slt) (b : Int) (ss : List Slt) : Slt := ss.foldl (fun w s => afterW w s b) a
theorem worksW_snoc {b : Int} : ∀ {ss : List Slt} {a s : Slt}, worksW a b (ss ++ [s]) = worksW a b ss ++ [afterW (lastW a b ss) s b]
  | [], _, _ => rfl
  | t :: ts, a, s => by
    show afterW a t b :: worksW (afterW a t b) b (ts ++ [s]) = afterW a t b :: (worksW (afterW a t b) b ts ++ [afterW (lastW (afterW a t b) b ts) s b])
    rw [worksW_snoc]
theorem lastW_len {b : Int} : ∀ {ss : List Slt} {a : Slt}, a.Len → (∀ s ∈ ss, s.Len) → (lastW a b ss).Len
  | [], _, ha, _ => ha
  | s :: ss, a, ha, hs => lastW_len (ss := ss) (after_len ha (hs s (List.mem_cons_self ..))) (fun s' h => hs s' (List.mem_cons_of_mem _ h))
def spWorks (K : PySem.W.Frag) : Sp := fun vs H Q _ => ∃ (p : Addr) (b : Int) (us : List V) (ss : List Slt), vs = [.ref p, .int b] ∧ SqT K H p us ∧ SltsK K H us ss ∧ (∀ s ∈ ss, s.Len) ∧ ss.length ≤ 5000 ∧ -(2 ^ 64) < b ∧ b < 2 ^ 64 ∧
  ∀ H' l ws, Same H H' → H' l = some (.lst ws) → SltsK K H' ws (worksW w0 b ss) → Q (.ref l) H'
def spLeasts (K : PySem.W.Frag) : Sp := fun vs H Q _ => ∃ (p : Addr) (b : Int) (us : List V) (ss : List Slt), vs = [.ref p, .int b] ∧ SqT K H p us ∧ SltsK K H us ss ∧ (∀ s ∈ ss, s.Len) ∧ ss.length ≤ 5000 ∧ -(2 ^ 64) < b ∧ b < 2 ^ 64 ∧
  ∀ H' l, Same H H' → H' l = some (.lst (((worksW w0 b ss).map leastW).map V.int)) → Q (.ref l) H'
def spLeastC (K : PySem.W.Frag) : Sp := fun vs H Q _ => ∃ (p : Addr) (b : Int) (us : List V) (ss : List Slt), vs = [.ref p, .int b] ∧ SqT K H p us ∧ SltsK K H us ss ∧ (∀ s ∈ ss, s.Len) ∧ ss.length ≤ 5000 ∧ -(2 ^ 64) < b ∧ b < 2 ^ 64 ∧
  ∀ H', Same H H' → Q (.int (leastW (lastW w0 b ss))) H'
def plainW (need most price : Int) : Slt := ⟨need, most, need * price, List.replicate (most - need).toNat price⟩
theorem plainW_len {need most price : Int} (h : need ≤ most) (h2 : most - need ≤ 1000) : (plainW need most price).Len := by
  refine ⟨?_, h, h2⟩
  show ((List.replicate _ _).length : Int) = most - need
  rw [List.length_replicate]
  omega
def spPlain (K : PySem.W.Frag) : Sp := fun vs H Q _ => ∃ (need most price : Int), vs = [.int need, .int most, .int price] ∧ need ≤ most ∧ most - need ≤ 1000 ∧ -(2 ^ 64) < price ∧ price < 2 ^ 64 ∧
  ∀ H' v, Same H H' → SltK K H' v (plainW need most price) → Q v H'
theorem cut_mid {xs : List V} {m n : Nat} : cutV xs (some (m : Int)) (some (n : Int)) = (xs.drop m).take (n - m) := by
  unfold cutV
  rw [HT.sIx_nat, HT.sIx_nat]
  by_cases h : m ≤ xs.length
  · rw [Nat.min_eq_left h]
    by_cases h2 : n ≤ xs.length
    · rw [Nat.min_eq_left h2]
    · rw [Nat.min_eq_right (by omega), List.take_of_length_le (by rw [List.length_drop]; omega), List.take_of_length_le (by rw [List.length_drop]; omega)]
  · rw [Nat.min_eq_right (a := m) (by omega), List.drop_of_length_le (by omega), List.drop_of_length_le (by omega), List.take_nil, List.take_nil]
end WK
namespace WK
open PySem PySem.Spec PyProof.Rows L2
theorem filt_yes {p : Int → Bool} {l : List Int} {i : Nat} {z : Int} (h : l[i]? = some z) (c : p z = true) : ((l.take (i + 1)).filter p).map V.int = ((l.take i).filter p).map V.int ++ [.int z] := by
  obtain ⟨hi, e⟩ := List.getElem?_eq_some_iff.mp h
  rw [List.take_succ_eq_append_getElem hi, List.filter_append, e, List.filter_cons, if_pos c, List.map_append]
  rfl
theorem filt_no {p : Int → Bool} {l : List Int} {i : Nat} {z : Int} (h : l[i]? = some z) (c : ¬ p z = true) : ((l.take (i + 1)).filter p).map V.int = ((l.take i).filter p).map V.int := by
  obtain ⟨hi, e⟩ := List.getElem?_eq_some_iff.mp h
  rw [List.take_succ_eq_append_getElem hi, List.filter_append, e, List.filter_cons, if_neg c, List.filter_nil, List.append_nil]
theorem filt_len {p : Int → Bool} {l : List Int} {i : Nat} : ((l.take i).filter p).length ≤ l.length :=
  Nat.le_trans (List.length_filter_le _ _) (by rw [List.length_take]; exact Nat.min_le_right _ _)
end WK
namespace WK
open PySem PySem.Spec PyProof.Rows L2
theorem addL_snoc {xs ys : List Int} {i : Nat} {x y : Int} (hx : xs[i]? = some x) (hy : ys[i]? = some y) : addL (xs.take (i + 1)) (ys.take (i + 1)) = addL (xs.take i) (ys.take i) ++ [x + y] := by
  obtain ⟨h1, e1⟩ := List.getElem?_eq_some_iff.mp hx
  obtain ⟨h2, e2⟩ := List.getElem?_eq_some_iff.mp hy
  unfold addL
  rw [List.take_succ_eq_append_getElem h1, List.take_succ_eq_append_getElem h2, e1, e2, List.zipWith_append (by rw [List.length_take, List.length_take]; omega)]
  rfl
end WK
namespace WK
open PySem PySem.Spec PyProof.Rows L2
theorem sq_upd {K : PySem.W.Frag} {H : Hp} {l a : Addr} {xs ys : List V} {o : HO} (h : H l = some (.lst xs)) (e : SqT K H a ys) : SqT K (upd H l o) a ys := by
  rcases e with (e | ⟨o', e⟩) | e
  · refine .inl (.inl ?_)
    rw [upd_ne (fun z => by rw [z, h] at e; cases e)]
    exact e
  · refine .inl (.inr ⟨o', ?_⟩)
    rw [upd_ne (fun z => by rw [z, h] at e; cases e)]
    exact e
  · exact .inr e
theorem SltK.upd {K : PySem.W.Frag} {H : Hp} {l : Addr} {xs : List V} {o : HO} {v : V} {s : Slt} (h : H l = some (.lst xs)) (e : SltK K H v s) : SltK K (L2.upd H l o) v s := by
  obtain ⟨t, u, rfl, a, b⟩ := e
  exact ⟨t, u, rfl, sq_upd h a, sq_upd h b⟩
theorem SltsK.upd {K : PySem.W.Frag} {H : Hp} {l : Addr} {xs : List V} {o : HO} (h : H l = some (.lst xs)) : ∀ {vs : List V} {ss : List Slt}, SltsK K H vs ss → SltsK K (L2.upd H l o) vs ss
  | _, _, .nil => .nil
  | _, _, .cons a b => .cons (a.upd h) (SltsK.upd h b)
theorem lastW_snoc {a s : Slt} {b : Int} {ss : List Slt} : lastW a b (ss ++ [s]) = afterW (lastW a b ss) s b := by
  unfold lastW
  rw [List.foldl_append]
  rfl
theorem take_snoc1 {α : Type} {l : List α} {i : Nat} {x : α} (h : l[i]? = some x) : l.take (i + 1) = l.take i ++ [x] := by
  obtain ⟨hi, e⟩ := List.getElem?_eq_some_iff.mp h
  rw [List.take_succ_eq_append_getElem hi, e]
end WK
set_option Elab.async false
set_option linter.all false
set_option maxRecDepth 100000
namespace WK
open PySem PySem.Spec PyProof.Rows L2
/-! ### works by hand -/
theorem least_nil {m n f : Int} : leastW ⟨m, n, f, []⟩ = f := by
  unfold leastW costAt
  simp
theorem after_pt {m n f g b : Int} : afterW ⟨m, m, g, []⟩ ⟨n, n, f, []⟩ b = ⟨n, n, f + (g + b * max 0 (n - m)), []⟩ := by
  have e : ¬ mx n n > mn n n := by rw [mx_eq, mn_eq]; omega
  unfold afterW sumW heldW
  simp only [if_neg e, Option.getD_some]
  have e1 : mx n n = n := by rw [mx_eq]; omega
  have e2 : mn n n = n := by rw [mn_eq]; omega
  rw [e1, e2]
  have e3 : costAt ⟨n, n, f, []⟩ n = f := by unfold costAt; simp
  have e4 : costAt ⟨n, n, heldWorth ⟨m, m, g, []⟩ b n, heldSlopes ⟨m, m, g, []⟩ b n n⟩ n = g + b * max 0 (n - m) := by
    unfold costAt heldWorth
    rw [least_nil, mx_eq]
    simp [clampL]
  rw [e3, e4]
  congr 1
  unfold addL winL
  simp
theorem after_idle0 {g b : Int} : afterW ⟨1, 1, g, []⟩ ⟨0, 1, 0, [1]⟩ b = ⟨0, 1, g, [1]⟩ := by
  have hs : heldSlopes ⟨1, 1, g, []⟩ b 0 1 = [0] := by
    simp [heldSlopes, heldMid, clampL, mx, mn]
  have hw : heldWorth ⟨1, 1, g, []⟩ b 0 = g := by
    unfold heldWorth
    rw [least_nil]
    simp [clampL, mx]
  unfold afterW sumW heldW
  simp only [hs, hw]
  simp [mx, mn, costAt, addL, winL]
theorem least_up {m n f : Int} {l : List Int} (h : ∀ z ∈ l, 0 ≤ z) : leastW ⟨m, n, f, l⟩ = f := by
  have e : (l.filter fun z => decide (z < 0)) = [] := by
    rw [List.filter_eq_nil_iff]
    intro z hz
    have := h z hz
    simp
    omega
  unfold leastW lowW costAt
  simp only [e]
  simp
theorem cl {c b : Int} (hc : 0 ≤ c) : mn (mx 0 c) b = min c b := by
  rw [mx_eq, mn_eq]
  omega
theorem after_idle {g b c : Int} (hc : 0 ≤ c) : afterW ⟨0, 1, g, [c]⟩ ⟨0, 1, 0, [1]⟩ b = ⟨0, 1, g, [1 + min c b]⟩ := by
  have hs : heldSlopes ⟨0, 1, g, [c]⟩ b 0 1 = [min c b] := by
    have e : clampL [c] b = [min c b] := by simp [clampL, cl hc]
    unfold heldSlopes heldMid
    simp only [e]
    simp [mx, mn]
  have hw : heldWorth ⟨0, 1, g, [c]⟩ b 0 = g := by
    unfold heldWorth
    rw [least_up (by simpa using hc)]
    simp [mx]
  unfold afterW sumW heldW
  simp only [hs, hw]
  simp [mx, mn, costAt, addL, winL]
theorem after_need {g b c : Int} (hc : 0 ≤ c) : afterW ⟨0, 1, g, [c]⟩ ⟨1, 1, 1, []⟩ b = ⟨1, 1, 1 + (g + min c b), []⟩ := by
  have e : clampL [c] b = [min c b] := by simp [clampL, cl hc]
  have hs : heldSlopes ⟨0, 1, g, [c]⟩ b 1 1 = [] := by
    unfold heldSlopes heldMid
    simp only [e]
    simp [mx, mn]
  have hw : heldWorth ⟨0, 1, g, [c]⟩ b 1 = g + min c b := by
    unfold heldWorth
    rw [least_up (by simpa using hc)]
    simp only [e]
    simp [mx]
  unfold afterW sumW heldW
  simp only [hs, hw]
  simp [mx, mn, costAt, addL, winL]
theorem after_four0 {b p : Int} : afterW w0 ⟨3, 7, 3 * p, [p, p, p, p]⟩ b = ⟨3, 7, 3 * p + 3 * b, [p + b, p + b, p + b, p + b]⟩ := by
  have hs : heldSlopes w0 b 3 7 = [b, b, b, b] := by
    simp [heldSlopes, heldMid, clampL, w0, mx, mn, List.replicate]
  have hw : heldWorth w0 b 3 = 3 * b := by
    unfold heldWorth w0
    rw [least_nil]
    simp [clampL, mx]
    omega
  unfold afterW sumW heldW
  simp only [hs, hw]
  simp [mx, mn, costAt, addL, winL]
theorem after_four {g b p : Int} (hb : 0 ≤ b) (hp : 0 ≤ p) : afterW ⟨3, 7, g, [p + b, p + b, p + b, p + b]⟩ ⟨3, 7, 3 * p, [p, p, p, p]⟩ b = ⟨3, 7, 3 * p + g, [p + b, p + b, p + b, p + b]⟩ := by
  have hs : heldSlopes ⟨3, 7, g, [p + b, p + b, p + b, p + b]⟩ b 3 7 = [b, b, b, b] := by
    have e : clampL [p + b, p + b, p + b, p + b] b = [b, b, b, b] := by
      have : min (p + b) b = b := by omega
      simp [clampL, cl (show 0 ≤ p + b by omega), this]
    unfold heldSlopes heldMid
    simp only [e]
    simp [mx, mn]
  have hw : heldWorth ⟨3, 7, g, [p + b, p + b, p + b, p + b]⟩ b 3 = g := by
    unfold heldWorth
    rw [least_up (by intro z hz; simp at hz; omega)]
    simp [mx]
  unfold afterW sumW heldW
  simp only [hs, hw]
  simp [mx, mn, costAt, addL, winL]
def p1 : Slt := ⟨1, 1, 1, []⟩
def p0 : Slt := ⟨0, 1, 0, [1]⟩
theorem gap_aux {g b : Int} (hb : 0 ≤ b) : ∀ {n : Nat} {c : Int}, 0 ≤ c → (worksW ⟨0, 1, g, [c]⟩ b (List.replicate n p0 ++ [p1])).map leastW = List.replicate n g ++ [1 + (g + min (c + n) b)]
  | 0, c, hc => by
    show [leastW (afterW ⟨0, 1, g, [c]⟩ ⟨1, 1, 1, []⟩ b)] = [1 + (g + min (c + 0) b)]
    rw [after_need hc, least_nil, Int.add_zero]
  | n + 1, c, hc => by
    show leastW (afterW ⟨0, 1, g, [c]⟩ ⟨0, 1, 0, [1]⟩ b) :: (worksW (afterW ⟨0, 1, g, [c]⟩ ⟨0, 1, 0, [1]⟩ b) b (List.replicate n p0 ++ [p1])).map leastW = g :: (List.replicate n g ++ [1 + (g + min (c + ((n + 1 : Nat) : Int)) b)])
    rw [after_idle hc, gap_aux hb (show 0 ≤ 1 + min c b by omega), least_up (by intro z hz; simp at hz; omega)]
    have e : min (1 + min c b + (n : Int)) b = min (c + ((n + 1 : Nat) : Int)) b := by omega
    rw [e]
theorem gap_all {b : Int} (hb : 0 ≤ b) {n : Nat} : (worksW w0 b (p1 :: (List.replicate (n + 1) p0 ++ [p1]))).map leastW = List.replicate (n + 1 + 1) (b + 1) ++ [b + 2 + min ((n + 1 : Nat) : Int) b] := by
  have e1 : afterW w0 p1 b = ⟨1, 1, b + 1, []⟩ := by
    show afterW ⟨0, 0, 0, []⟩ ⟨1, 1, 1, []⟩ b = _
    rw [after_pt, show max (0 : Int) (1 - 0) = 1 from by decide]
    congr 1
    omega
  show leastW (afterW w0 p1 b) :: leastW (afterW (afterW w0 p1 b) ⟨0, 1, 0, [1]⟩ b) :: (worksW (afterW (afterW w0 p1 b) ⟨0, 1, 0, [1]⟩ b) b (List.replicate n p0 ++ [p1])).map leastW = _
  rw [e1, after_idle0, gap_aux hb (by decide), least_nil, least_up (by intro z hz; simp at hz; omega)]
  have e : 1 + (b + 1 + min (1 + (n : Int)) b) = b + 2 + min ((n + 1 : Nat) : Int) b := by omega
  rw [e]
  rfl
def p4 (p : Int) : Slt := ⟨3, 7, 3 * p, [p, p, p, p]⟩
theorem many_aux {b p : Int} (hb : 0 ≤ b) (hp : 0 ≤ p) : ∀ {n : Nat} {g : Int}, lastW ⟨3, 7, g, [p + b, p + b, p + b, p + b]⟩ b (List.replicate n (p4 p)) = ⟨3, 7, 3 * p * n + g, [p + b, p + b, p + b, p + b]⟩
  | 0, g => by
    show (⟨3, 7, g, [p + b, p + b, p + b, p + b]⟩ : Slt) = _
    rw [show 3 * p * ((0 : Nat) : Int) + g = g by simp]
  | n + 1, g => by
    show lastW (afterW ⟨3, 7, g, [p + b, p + b, p + b, p + b]⟩ ⟨3, 7, 3 * p, [p, p, p, p]⟩ b) b (List.replicate n (p4 p)) = _
    rw [after_four hb hp, many_aux hb hp]
    have e : 3 * p * (n : Int) + (3 * p + g) = 3 * p * ((n + 1 : Nat) : Int) + g := by
      rw [Int.natCast_add, Int.mul_add]
      omega
    rw [e]
theorem many_all {b p : Int} (hb : 0 ≤ b) (hp : 0 ≤ p) {n : Nat} : leastW (lastW w0 b (List.replicate (n + 1) (p4 p))) = 3 * b + 3 * p * ((n + 1 : Nat) : Int) := by
  show leastW (lastW (afterW w0 ⟨3, 7, 3 * p, [p, p, p, p]⟩ b) b (List.replicate n (p4 p))) = _
  rw [after_four0, many_aux hb hp, least_up (by intro z hz; simp at hz; omega)]
  rw [Int.natCast_add, Int.mul_add]
  omega
/-! ### how works are printed -/
def sltD (s : Slt) : PyData := .tuple [.int s.need, .int s.most, .int s.first, .tuple (intsD s.slopes)]
theorem dp_slt {K : PySem.W.Frag} {H : Hp} {v : V} {s : Slt} (h : SltK K H v s) : Dp K H v (sltD s) := by
  obtain ⟨t, u, rfl, a, b⟩ := h
  exact .tup a (.cons (.int _) (.cons (.int _) (.cons (.int _) (.cons (.tup b (dp_ints _)) .nil))))
theorem dp_slts {K : PySem.W.Frag} {H : Hp} : ∀ {vs : List V} {ss : List Slt}, SltsK K H vs ss → DpAll K H vs (ss.map sltD)
  | _, _, .nil => .nil
  | _, _, .cons a b => .cons (dp_slt a) (dp_slts b)
end WK
namespace WK
open PySem PySem.Spec PyProof.Rows L2
def sU : Slt := ⟨2, 2, 6, []⟩
def sDn : Slt := ⟨0, 0, 5, []⟩
theorem ud_works {b : Int} : worksW w0 b [sU, sDn, sU] = [⟨2, 2, 6 + 2 * b, []⟩, ⟨0, 0, 11 + 2 * b, []⟩, ⟨2, 2, 17 + 4 * b, []⟩] := by
  have m1 : max (0 : Int) (2 - 0) = 2 := by decide
  have m2 : max (0 : Int) (0 - 2) = 0 := by decide
  simp only [worksW, w0, sU, sDn, after_pt, m1, m2]
  have h1 : (6 : Int) + (0 + b * 2) = 6 + 2 * b := by omega
  have h2 : (5 : Int) + (6 + (0 + b * 2) + b * 0) = 11 + 2 * b := by omega
  have h3 : (6 : Int) + (5 + (6 + (0 + b * 2) + b * 0) + b * 2) = 17 + 4 * b := by omega
  rw [h3, h2, h1]
theorem ud_least {b : Int} : leastW (lastW w0 b [sU, sDn, sU, sDn, sU, sDn]) = 33 + 6 * b := by
  have m1 : max (0 : Int) (2 - 0) = 2 := by decide
  have m2 : max (0 : Int) (0 - 2) = 0 := by decide
  simp only [lastW, List.foldl, w0, sU, sDn, after_pt, m1, m2, least_nil]
  omega
theorem far_works {b f g : Int} (hf : 0 ≤ f) : worksW w0 b [⟨f, f, g, []⟩] = [⟨f, f, g + f * b, []⟩] := by
  simp only [worksW, w0, after_pt]
  have h : g + (0 + b * max 0 (f - 0)) = g + f * b := by
    rw [show max (0 : Int) (f - 0) = f by omega, Int.mul_comm b f, Int.zero_add]
  rw [h]
theorem far_least {b f g : Int} (hf : 0 ≤ f) : leastW (lastW w0 b [⟨f, f, g, []⟩]) = g + f * b := by
  have h := far_works (b := b) (g := g) hf
  have e : lastW w0 b [⟨f, f, g, []⟩] = ⟨f, f, g + f * b, []⟩ := by
    have h2 : [afterW w0 ⟨f, f, g, []⟩ b] = [⟨f, f, g + f * b, []⟩] := h
    exact (List.cons.inj h2).1
  rw [e, least_nil]
/-- numbers, and what is printed of them -/
theorem nat150 {z : Int} (h1 : -(10 ^ 40) ≤ z) (h2 : z ≤ 10 ^ 40) : z.natAbs < 10 ^ 150 := Nat.lt_of_le_of_lt (show z.natAbs ≤ 10 ^ 40 by omega) (by decide)
end WK
namespace WK
open PySem PySem.Spec PyProof.Rows L2
theorem repV {K : PySem.W.Frag} {H : Hp} {Q : VK} {a : Addr} {v y : V} {k : Int} (hy : y = .int k) (ha : SqT K H a [v]) (h1 : 1 ≤ k) (h2 : k ≤ 1000)
    (q : ∀ p H', Same H H' → SqT K H' p (List.replicate k.toNat v) → Q (.ref p) H') : rRepA K (.ref a) y H Q := by
  have e : ∀ n : Nat, (List.replicate n [v]).flatten = List.replicate n v := fun n => by
    induction n with
    | zero => rfl
    | succ n ih => rw [List.replicate_succ, List.flatten_cons, ih, List.replicate_succ]; rfl
  refine ⟨a, k, [v], rfl, hy, ha, by omega, h2, by show 1 ≤ 1000; decide, fun z => ?_, fun _ p np => q p _ (same_new np) ?_⟩
  · rcases z with rfl | z
    · exact q a H (Same.refl _) ha
    · cases z
  · rw [e]
    exact sq_of upd_same
theorem SltsK.rep {K : PySem.W.Frag} {H : Hp} {v : V} {s : Slt} (h : SltK K H v s) : ∀ n : Nat, SltsK K H (List.replicate n v) (List.replicate n s)
  | 0 => .nil
  | n + 1 => .cons h (SltsK.rep h n)
end WK
namespace WK
open PySem PySem.Spec PyProof.Rows L2
theorem shows_ints {ns : List Int} (hl : ns.length ≤ 1000) (h : ∀ n ∈ ns, n.natAbs < 10 ^ 150) : Shows (.list (intsD ns)) := by
  refine shows_of (lil_ints h) ?_ ?_
  · show PyData.depthAll (intsD ns) + 1 ≤ 20
    rw [depth_ints]
    decide
  · have h1 := cost_ints (ns := ns)
    have h2 : ns.length * 153 ≤ 1000 * 153 := Nat.mul_le_mul_right _ hl
    refine Nat.le_trans ?_ (show 1000 * 153 + 10 ≤ sizeLine by decide)
    show costAll (intsD ns) + 3 ≤ _
    omega
end WK
set_option Elab.async false
set_option linter.all false
set_option maxRecDepth 100000
namespace WK
open PySem PySem.Spec PyProof.Rows L2
/-! ### zip of a list and a tuple -/
def y1 (h : Heap) (l : Addr) : Heap := h.push { cls := .type "tuple_iterator", data := .fields #[.ref l, .int 0 0] }
def y2 (h : Heap) (l t : Addr) : Heap := (y1 h l).push { cls := .type "list_iterator", data := .fields #[.ref t, .int 0 0] }
def y3 (h : Heap) (l t : Addr) : Heap := (y2 h l t).push { cls := .type "tuple", data := .seq #[.ref h.objs.size, .ref (y1 h l).objs.size] }
def y4 (h : Heap) (l t : Addr) : Heap := (y3 h l t).push { cls := .type "tuple", data := .seq #[.none, .none] }
def y5 (h : Heap) (l t : Addr) : Heap := (y4 h l t).push { cls := .type "zip", data := .fields #[.none, .bool false, .bool false, .ref (y2 h l t).objs.size, .ref (y3 h l t).objs.size] }
theorem zipN_make (l t : Addr) (xs ys : Array Value) :
    Meets (Builtin.«zip.__new__» ⟨[.type "zip", .ref l, .ref t], []⟩)
      (fun _ R s => s.heap.IsTuple l xs ∧ s.heap.IsList t ys ∧ R (.ok (.ret (.ref (y4 s.heap l t).objs.size))) { s with heap := y5 s.heap l t }) :=
  .of_wp fun prog w A R s h => by
    obtain ⟨hp, g, d, tk, os⟩ := s
    obtain ⟨hl, ht, h⟩ := h
    have hsub := sub_zip
    have a1 : Heap.IsTuple (Shared.heap ⟨hp, g, d, tk, os⟩) l xs := hl
    have a2 : Heap.IsList (Shared.heap ⟨hp.push { cls := .type "tuple_iterator", data := .fields #[.ref l, .int 0 0] }, g, d, tk, os⟩) t ys := Heap.IsList.push ht _
    wp_walk using wpAny_pyIter_tuple a1, wpAny_pyIter_list a2
    exact ⟨_, rfl, h⟩
section
variable {prog : Program} {w : World} {A : Around} {E : Value → Shared → Prop} {s : Shared}
theorem call_zipN {l t : Addr} {xs ys : Array Value} {Q : Value → Shared → Prop} (hl : s.heap.IsTuple l xs) (ht : s.heap.IsList t ys)
    (h : ∀ h', IsZip h' (s.heap.objs.size + 4) (s.heap.objs.size + 2) (s.heap.objs.size + 3) .none →
      PySem.IsPair h' (s.heap.objs.size + 2) (.ref s.heap.objs.size) (.ref (s.heap.objs.size + 1)) → PySem.IsPair h' (s.heap.objs.size + 3) .none .none →
      h'.IsTupleIter s.heap.objs.size l 0 → h'.IsListIter (s.heap.objs.size + 1) t 0 →
      (∀ c o, s.heap.get? c = some o → h'.get? c = some o) → Q (.ref (s.heap.objs.size + 4)) { s with heap := h' }) :
    wpAny (model prog w) A (call (.type "zip") [.ref l, .ref t]) Q E s := by
  refine callType_new F.called_zip (by decide) (F.typeCall_zip_2 _ _) (F.newCall_zip_2 _ _)
    (fun obj => F.args_object_init_3 obj _ _) F.entry_zip_new (zipN_make l t xs ys) ⟨hl, ht, ?_⟩
  have n1 : (y1 s.heap l).objs.size = s.heap.objs.size + 1 := Heap.size_push ..
  have n2 : (y2 s.heap l t).objs.size = s.heap.objs.size + 2 := (Heap.size_push ..).trans (congrArg (· + 1) n1)
  have n3 : (y3 s.heap l t).objs.size = s.heap.objs.size + 3 := (Heap.size_push ..).trans (congrArg (· + 1) n2)
  have n4 : (y4 s.heap l t).objs.size = s.heap.objs.size + 4 := (Heap.size_push ..).trans (congrArg (· + 1) n3)
  have p5 : (y5 s.heap l t).get? (y4 s.heap l t).objs.size = some _ := Heap.get?_push_size _ rfl
  have p4 : (y5 s.heap l t).get? (y3 s.heap l t).objs.size = some _ := Heap.get?_push_of_some _ (Heap.get?_push_size _ rfl)
  have p3 : (y5 s.heap l t).get? (y2 s.heap l t).objs.size = some _ :=
    Heap.get?_push_of_some _ (Heap.get?_push_of_some _ (Heap.get?_push_size _ rfl))
  have p2 : (y5 s.heap l t).get? (y1 s.heap l).objs.size = some _ :=
    Heap.get?_push_of_some _ (Heap.get?_push_of_some _ (Heap.get?_push_of_some _ (Heap.get?_push_size _ rfl)))
  have p1 : (y5 s.heap l t).get? s.heap.objs.size = some _ :=
    Heap.get?_push_of_some _ (Heap.get?_push_of_some _ (Heap.get?_push_of_some _ (Heap.get?_push_of_some _ (Heap.get?_push_size _ rfl))))
  show _ ∧ _
  rw [n2, n3, n4] at p5
  rw [n1, n2] at p3
  rw [n3] at p4
  rw [n1] at p2
  rw [n4]
  refine ⟨⟨_, p5, rfl⟩, h _ p5 p3 p4 ⟨_, p1, rfl, rfl⟩ ⟨_, p2, rfl, rfl⟩ ?_⟩
  intro c o x
  exact Heap.get?_push_of_some _ (Heap.get?_push_of_some _ (Heap.get?_push_of_some _ (Heap.get?_push_of_some _ (Heap.get?_push_of_some _ x))))
end
/-- the list at a and the tuple at b as they stand, the items in new pairs -/
def ItzN (K : PySem.W.Frag) (a b : Addr) : It :=
  ⟨fun i H => ∃ (xs ys : List V) (x y : V), SqT K H a xs ∧ SqL K H b ys ∧ xs[i]? = some x ∧ ys[i]? = some y,
   fun i H v H' => ∃ T x y, v = .ref T ∧ H T = none ∧ H' = upd H T (.tup [x, y]) ∧ (∀ xs, SqT K H a xs → xs[i]? = some x) ∧ ∀ ys, SqL K H b ys → ys[i]? = some y,
   fun i H => ∃ xs ys : List V, SqT K H a xs ∧ SqL K H b ys ∧ (i = xs.length ∧ i ≤ ys.length ∨ i = ys.length ∧ i ≤ xs.length)⟩
theorem turn_zipN {P : Program} {w : World} {K : PySem.W.Frag} {elts : List Expr} {kk : Nat} {tpos : Pos} {a b z TI TO i1 i2 : Addr} (D : ZipApart z TI TO i1 i2 a b) :
    Turn P w K (.Tuple elts kk tpos) (ItzN K a b) [z, TI, TO, i1, i2] z
      (fun i h => IsZip h z TI TO .none ∧ PySem.IsPair h TI (.ref i1) (.ref i2) ∧ (∃ x y, PySem.IsPair h TO x y) ∧ h.IsTupleIter i1 a i ∧ h.IsListIter i2 b i) where
  mem := by simp
  obj := by
    rintro i h ⟨hz, hTI, ⟨x, y, hTO⟩, ⟨o1, e1, _, d1⟩, ⟨o2, e2, _, d2⟩⟩ c hc
    have e' : c = z ∨ c = TI ∨ c = TO ∨ c = i1 ∨ c = i2 := by simpa using hc
    rcases e' with rfl | rfl | rfl | rfl | rfl
    · exact ⟨_, hz, fun v q => nomatch q⟩
    · exact ⟨_, hTI, fun v q => nomatch q⟩
    · exact ⟨_, hTO, fun v q => nomatch q⟩
    · exact ⟨o1, e1, fun v q => by rw [d1] at q; exact nomatch q⟩
    · exact ⟨o2, e2, fun v q => by rw [d2] at q; exact nomatch q⟩
  keep := by
    rintro i h h' ⟨hz, hTI, ⟨x, y, hTO⟩, q1, q2⟩ k
    exact ⟨k z (by simp) _ hz, k TI (by simp) _ hTI, ⟨x, y, k TO (by simp) _ hTO⟩, q1.at (fun o q => k i1 (by simp) o q), q2.at (fun o q => k i2 (by simp) o q)⟩
  item := by
    intro X hP hw hK hc i pins s σ H E I hf st hg
    subst hP hw hK
    obtain ⟨hz, hTI, ⟨x0, y0, hTO⟩, q1, q2⟩ := st
    obtain ⟨xs, ys, x, y, hqx, hqy, hx, hy⟩ := hg
    obtain ⟨its, rv, pl, _⟩ := I.tuple hqx
    obtain ⟨jts, rv2, tp, _⟩ := I.list hqy
    obtain ⟨u, hu, ru⟩ := rv.get hx
    obtain ⟨u2, hu2, ru2⟩ := rv2.get hy
    have hzl : z < s.heap.objs.size := Heap.lt_size hz
    have s1 : i < its.toArray.size := by
      rw [List.size_toArray]
      exact (List.getElem?_eq_some_iff.mp hu).1
    have s2 : i < jts.toArray.size := by
      rw [List.size_toArray]
      exact (List.getElem?_eq_some_iff.mp hu2).1
    have tp' : s.heap.IsList b jts.toArray := tp.isList
    refine wpAny_pyNext_zipD2_item (sep_of D) (Draws.tuple (A := X.A.in1) (I.ok.hd hc) i1 a D.l1i1 its.toArray) (Draws.list (A := X.A.in1) (I.ok.hd hc) i2 b D.l2i2 jts.toArray)
      hz hTI hTO ⟨q1, pl⟩ ⟨q2, tp'⟩ s1 s2 ?_
    intro v1 v2 h' tk e1 e2 hz' hTO' st1 st2 hT hsz hk
    have e1 : its.toArray[i]? = some v1 := e1
    have e2 : jts.toArray[i]? = some v2 := e2
    rw [List.getElem?_toArray, hu] at e1
    rw [List.getElem?_toArray, hu2] at e2
    injection e1 with e1
    injection e2 with e2
    subst e1
    subst e2
    refine ⟨_, rfl, wpAny_letOwnedTupleGo_zip (s := { s with heap := h', toks := tk }) hz' ?_⟩
    intro h'' hz'' sb
    have T2 : h''.get? s.heap.objs.size = some { cls := .type "tuple", data := .seq #[u, u2] } := (sb.2 _ (Nat.ne_of_gt hzl)).trans hT
    have new : ObjOk X.prog X.w (upd H s.heap.objs.size (.tup [x, y])) h'' s.heap.objs.size (.tup [x, y]) :=
      ⟨by show 2 ≤ sizeLine; decide, [u, u2], .cons ru (.cons ru2 .nil), ⟨_, T2, rfl, _, rfl⟩⟩
    have I1 : Inv X pins σ (upd H s.heap.objs.size (.tup [x, y])) { s with heap := h'', toks := tk } := by
      refine I.turnedNew (ch := [z, TI, TO, i1, i2]) ?_ hf (Nat.le_refl _) new
      intro c o hb q
      have c1 : c ≠ z := fun e => hb (by simp [e])
      have c2 : c ≠ TO := fun e => hb (by simp [e])
      have c3 : c ≠ i1 := fun e => hb (by simp [e])
      have c4 : c ≠ i2 := fun e => hb (by simp [e])
      exact (sb.2 c c1).trans (hk c o c1 c2 c3 c4 q)
    refine ⟨.ref s.heap.objs.size, _, I1, rfl, ⟨_, x, y, rfl, I.hok.fresh (Nat.le_refl _), rfl, ?_, ?_⟩, ⟨hz'', ?_, ⟨u, u2, ?_⟩, ?_, ?_⟩, ?_⟩
    · intro l hl
      rw [I.tuple_inj hl hqx]
      exact hx
    · intro l hl
      rw [I.list_inj hl hqy]
      exact hy
    · exact (sb.2 _ D.TIz).trans (hk _ _ D.TIz D.TITO D.TIi1 D.TIi2 hTI)
    · exact (sb.2 _ D.TOz).trans hTO'
    · exact st1.1.at fun o q => (sb.2 _ D.i1z).trans q
    · exact st2.1.at fun o q => (sb.2 _ D.i2z).trans q
    · intro c hcm
      obtain ⟨o1, g1, _⟩ := q1
      obtain ⟨o2, g2, _⟩ := q2
      have lt : c < s.heap.objs.size := by
        have e' : c = z ∨ c = TI ∨ c = TO ∨ c = i1 ∨ c = i2 := by simpa using hcm
        rcases e' with rfl | rfl | rfl | rfl | rfl
        · exact hzl
        · exact Heap.lt_size hTI
        · exact Heap.lt_size hTO
        · exact Heap.lt_size g1
        · exact Heap.lt_size g2
      rw [upd_ne (Nat.ne_of_lt lt)]
      exact (hf c hcm).1
  done := by
    intro X hP hw hK hc i pins s σ H E I hf st hg
    subst hP hw hK
    obtain ⟨hz, hTI, ⟨x0, y0, hTO⟩, q1, q2⟩ := st
    obtain ⟨xs, ys, hqx, hqy, hend⟩ := hg
    obtain ⟨its, rv, pl, _⟩ := I.tuple hqx
    obtain ⟨jts, rv2, tp, _⟩ := I.list hqy
    have l1 := rv.length
    have l2 := rv2.length
    have tp' : s.heap.IsList b jts.toArray := tp.isList
    refine wpAny_pyNext_zipD2_end (i := i) (sep_of D) (Draws.tuple (A := X.A.in1) (I.ok.hd hc) i1 a D.l1i1 its.toArray) (Draws.list (A := X.A.in1) (I.ok.hd hc) i2 b D.l2i2 jts.toArray)
      hz hTI hTO ⟨q1, pl⟩ ⟨q2, tp'⟩ ?_ ?_ ?_ ?_
    · rw [List.size_toArray]; omega
    · rw [List.size_toArray]; omega
    · rw [List.size_toArray, List.size_toArray]; omega
    · intro h' tk hk
      refine ⟨rfl, I.turnedL (t' := tk) (ch := [z, TI, TO, i1, i2]) ?_ hf⟩
      intro c o hb q
      exact hk c o (fun e => hb (by simp [e])) (fun e => hb (by simp [e])) (fun e => hb (by simp [e])) (fun e => hb (by simp [e])) q
  self := fun A i s Q E st h => wpAny_pyIter_zip st.1 h
def iZipN (K : PySem.W.Frag) (ta : TA) : TI := fun σ H R => ta σ H fun vs H1 => ∃ a b xs ys, vs = [.ref a, .ref b] ∧ SqT K H1 a xs ∧ SqL K H1 b ys ∧ R (ItzN K a b) H1
theorem pi_zipN {X : Cx} {e e2 : Expr} {ta : TA} {p pos tpos : Pos} {elts : List Expr} {kk : Nat} (hg : Gl X "zip") (hm : X.mg "zip" = none) (ha : PA X [e, e2] ta)
    (hs : starEach [e, e2] X.env = (false, eval e X.env) :: starEach [e2] X.env := by rfl) (hpl : (backTo pos (starEach [e2] X.env)).any (·.1) = false := by rfl) :
    PI X (.Tuple elts kk tpos) (.Call (.Name "zip" p) [e, e2] [] pos) (iZipN X.K ta) := by
  constructor
  intro pins s σ H R I h
  have go := ha.run pos pins s σ H _ I h
  refine Call_ (ld_blt I hg hm PyProof.Rows.boot_zip (PyProof.Rows.callWith_type1 (thn go ?_) hs hpl))
  rintro us s1 ⟨vs, H1, I1, r1, a, b, xs, ys, rfl, hqx, hqy, q⟩
  obtain ⟨u1, u2, rfl, r, r'⟩ := vals2 r1
  cases r
  cases r'
  obtain ⟨its, rv, pl, _⟩ := I1.tuple hqx
  obtain ⟨jts, rv2, tp, _⟩ := I1.list hqy
  have tp' : s1.heap.IsList b jts.toArray := tp.isList
  have la : a < s1.heap.objs.size := by
    obtain ⟨_, g, _⟩ := pl
    exact Heap.lt_size g
  have lb : b < s1.heap.objs.size := by
    obtain ⟨_, g, _⟩ := tp.isList
    exact Heap.lt_size g
  refine call_zipN pl tp' ?_
  intro h' hz hTI hTO q1 q2 hk
  refine wpAny_pyIter_zip hz ?_
  have I2 : Inv X pins σ H1 { s1 with heap := h' } := I1.kept (t' := s1.toks) hk
  refine ⟨s1.heap.objs.size + 4, [s1.heap.objs.size + 4, s1.heap.objs.size + 2, s1.heap.objs.size + 3, s1.heap.objs.size, s1.heap.objs.size + 1], _, _, H1, rfl, I2,
    turn_zipN (PySem.W.ktu_apart s1.heap.objs.size a b la lb), ⟨hz, hTI, ⟨_, _, hTO⟩, q1, q2⟩, ?_, q⟩
  intro c hcm
  have hle : s1.heap.objs.size ≤ c := by
    have e' : c = s1.heap.objs.size + 4 ∨ c = s1.heap.objs.size + 2 ∨ c = s1.heap.objs.size + 3 ∨ c = s1.heap.objs.size ∨ c = s1.heap.objs.size + 1 := by simpa using hcm
    rcases e' with e | e | e | e | e <;> rw [e]
    · exact Nat.le_add_right _ 4
    · exact Nat.le_add_right _ 2
    · exact Nat.le_add_right _ 3
    · exact Nat.le_refl _
    · exact Nat.le_add_right _ 1
  exact I1.fpOk hle (I1.hok.fresh hle)
theorem walk_zipN {K : PySem.W.Frag} {a b : Addr} {xs ys : List V} {n : Nat} (hn : n = min xs.length ys.length) :
    Walk (ItzN K a b) n (fun H => SqT K H a xs ∧ SqL K H b ys) (YPair (fun i => xs[i]?) (fun i => ys[i]?)) := by
  subst hn
  constructor
  · rintro i H hi ⟨q1, q2⟩
    have h1 : i < xs.length := by omega
    have h2 : i < ys.length := by omega
    exact ⟨xs, ys, xs[i], ys[i], q1, q2, by simp [h1], by simp [h2]⟩
  · rintro H ⟨q1, q2⟩
    exact ⟨xs, ys, q1, q2, by omega⟩
  · rintro i H v H' _ ⟨q1, q2⟩ ⟨T, x, y, h1, h2, h3, h4, h5⟩
    exact ⟨T, x, y, h1, h2, h3, h4 xs q1, h5 ys q2⟩
end WK
set_option Elab.async false
set_option linter.all false
set_option maxRecDepth 100000
namespace WK
/-! ### valleys by a stack -/
abbrev V4 := Int × Int × Int × Int
/-- the need of a tick -/
def nd (ns : List Int) (t : Nat) : Int := ns.getD t 0
def popV (ns : List Int) (n : Int) (t : Nat) : List Nat → List V4 → List Nat × List V4
  | [], f => ([], f)
  | s :: r, f => if nd ns s < n then
      (match r with
       | [] => popV ns n t [] f
       | a :: r' => popV ns n t (a :: r') (f ++ [((a : Int) + 1, (t : Int) - a - 1, nd ns s, min (nd ns a) n)]))
    else (s :: r, f)
/-- what stands on the stack behind a tick, the last tick first -/
def stkV (ns : List Int) : Nat → List Nat
  | 0 => []
  | t + 1 => t :: (let S := (popV ns (nd ns t) t (stkV ns t) []).1
                   match S with
                   | [] => []
                   | s :: r => if nd ns s = nd ns t then r else s :: r)
def newV (ns : List Int) (t : Nat) : List V4 := (popV ns (nd ns t) t (stkV ns t) []).2
def valV4 (ns : List Int) : Nat → List V4
  | 0 => []
  | t + 1 => valV4 ns t ++ newV ns t
theorem popV_app (ns : List Int) (n : Int) (t : Nat) : ∀ (S : List Nat) (f : List V4), popV ns n t S f = ((popV ns n t S []).1, f ++ (popV ns n t S []).2)
  | [], f => by simp [popV]
  | [s], f => by
    unfold popV
    split
    · simp [popV]
    · simp
  | s :: a :: r, f => by
    unfold popV
    split
    · dsimp only
      rw [popV_app ns n t (a :: r) (f ++ _), popV_app ns n t (a :: r) ([] ++ _)]
      simp
    · simp
def vcost (b : Int) (v : V4) : Int := (v.2.2.2 - v.2.2.1) * min v.2.1 b
def vsC (b : Int) (l : List V4) : Int := (l.map (vcost b)).sum
theorem vsC_app (b : Int) (l m : List V4) : vsC b (l ++ m) = vsC b l + vsC b m := by simp [vsC]
/-- what a layer pays at a tick by the last tick ahead at which it is on -/
def gS (ns : List Int) (b : Int) (t : Nat) (S : List Nat) (k : Int) : Int :=
  match S.find? (fun s => decide (k ≤ nd ns s)) with
  | some p => min ((t : Int) - p - 1) b
  | none => 0
def sumK (f : Int → Int) (lo : Int) : Nat → Int
  | 0 => 0
  | m + 1 => sumK f lo m + f (lo + 1 + m)
theorem sumK_congr {f g : Int → Int} {lo : Int} : ∀ {m : Nat}, (∀ k, lo < k → k ≤ lo + m → f k = g k) → sumK f lo m = sumK g lo m
  | 0, _ => rfl
  | m + 1, h => by
    unfold sumK
    rw [sumK_congr fun k h1 h2 => h k h1 (by omega), h _ (by omega) (by omega)]
theorem sumK_const {c lo : Int} : ∀ {m : Nat}, sumK (fun _ => c) lo m = c * m
  | 0 => by simp [sumK]
  | m + 1 => by
    unfold sumK
    rw [sumK_const]
    rw [Int.natCast_add, Int.mul_add]
    simp
theorem sumK_add {f : Int → Int} {lo : Int} {m : Nat} : ∀ {j : Nat}, sumK f lo (m + j) = sumK f lo m + sumK f (lo + m) j
  | 0 => by simp [sumK]
  | j + 1 => by
    show sumK f lo (m + j) + f (lo + 1 + ((m + j : Nat) : Int)) = sumK f lo m + (sumK f (lo + m) j + f (lo + m + 1 + j))
    rw [sumK_add (j := j), show lo + 1 + ((m + j : Nat) : Int) = lo + m + 1 + j by omega]
    omega
theorem sumK_zero {f : Int → Int} {lo : Int} {m : Nat} (h : ∀ k, lo < k → k ≤ lo + m → f k = 0) : sumK f lo m = 0 := by
  rw [sumK_congr (g := fun _ => 0) h, sumK_const]
  omega
def Inc (ns : List Int) (S : List Nat) : Prop := S.Pairwise fun s a => nd ns s < nd ns a
/-- what a tick pays for the valleys that end there: all layers above the last need, up to its own -/
theorem pop_cost (ns : List Int) (n b : Int) (t : Nat) : ∀ (s : Nat) (r : List Nat), Inc ns (s :: r) → nd ns s ≤ n →
    vsC b (popV ns n t (s :: r) []).2 = sumK (gS ns b t (s :: r)) (nd ns s) (n - nd ns s).toNat
  | s, [], _, h => by
    unfold popV
    rw [sumK_zero]
    · split <;> simp [popV, vsC]
    · intro k h1 h2
      unfold gS
      rw [List.find?_cons_of_neg (by simpa using h1)]
      rfl
  | s, a :: r, hi, h => by
    have hi2 : Inc ns (a :: r) := (List.pairwise_cons.mp hi).2
    have hsa : nd ns s < nd ns a := (List.pairwise_cons.mp hi).1 a (by simp)
    have hg : ∀ k, nd ns s < k → gS ns b t (s :: a :: r) k = gS ns b t (a :: r) k := by
      intro k hk
      unfold gS
      rw [List.find?_cons_of_neg (by simpa using hk)]
    by_cases hlt : nd ns s < n
    · unfold popV
      rw [if_pos hlt]
      dsimp only
      rw [popV_app, vsC_app]
      rw [sumK_congr (g := gS ns b t (a :: r)) fun k h1 _ => hg k h1]
      have hfst : ∀ k, k ≤ nd ns a → gS ns b t (a :: r) k = min ((t : Int) - a - 1) b := by
        intro k hk
        unfold gS
        rw [List.find?_cons_of_pos (by simpa using hk)]
      by_cases han : nd ns a ≤ n
      · rw [pop_cost ns n b t a r hi2 han, show (n - nd ns s).toNat = (nd ns a - nd ns s).toNat + (n - nd ns a).toNat by omega, sumK_add]
        rw [sumK_congr (g := fun _ => min ((t : Int) - a - 1) b) (lo := nd ns s) fun k _ h2 => hfst k (by omega), sumK_const, show nd ns s + ((nd ns a - nd ns s).toNat : Int) = nd ns a by omega]
        have e : min (nd ns a) n = nd ns a := by omega
        simp only [vsC, List.map_cons, List.map_nil, List.nil_append, List.sum_cons, List.sum_nil, vcost, e, Int.add_zero]
        rw [Int.mul_comm, show ((nd ns a - nd ns s).toNat : Int) = nd ns a - nd ns s by omega]
      · rw [sumK_congr (g := fun _ => min ((t : Int) - a - 1) b) (lo := nd ns s) fun k _ h2 => hfst k (by omega), sumK_const]
        have e : min (nd ns a) n = n := by omega
        have e2 : (popV ns n t (a :: r) []).2 = [] := by
          unfold popV
          rw [if_neg (by omega)]
        simp only [vsC, List.map_cons, List.map_nil, List.nil_append, List.sum_cons, List.sum_nil, vcost, e, e2, Int.add_zero]
        rw [Int.mul_comm, show ((n - nd ns s).toNat : Int) = n - nd ns s by omega]
    · have e : n = nd ns s := by omega
      unfold popV
      rw [if_neg hlt, e]
      simp [vsC, sumK]
def eqPop (ns : List Int) (n : Int) : List Nat → List Nat
  | [] => []
  | s :: r => if nd ns s = n then r else s :: r
theorem stk_eq (ns : List Int) (t : Nat) : stkV ns (t + 1) = t :: eqPop ns (nd ns t) (popV ns (nd ns t) t (stkV ns t) []).1 := by
  show t :: _ = _
  dsimp only
  congr 1
/-- the stack behind the pops -/
theorem pop_drop (ns : List Int) (n : Int) (t : Nat) : ∀ (S : List Nat) (f : List V4), (popV ns n t S f).1 = S.dropWhile fun s => decide (nd ns s < n)
  | [], f => by simp [popV]
  | [s], f => by
    unfold popV
    split
    · rename_i h
      simp [popV, h]
    · rename_i h
      simp [h]
  | s :: a :: r, f => by
    unfold popV
    split
    · rename_i h
      dsimp only
      rw [pop_drop ns n t (a :: r)]
      simp [List.dropWhile_cons, h]
    · rename_i h
      simp [List.dropWhile_cons, h]
def restV (ns : List Int) (n : Int) (S : List Nat) : List Nat := S.dropWhile fun s => decide (nd ns s ≤ n)
theorem rest_is {ns : List Int} {n : Int} : ∀ {S : List Nat}, Inc ns S → (match S.dropWhile (fun s => decide (nd ns s < n)) with
      | [] => []
      | s :: r => if nd ns s = n then r else s :: r) = restV ns n S
  | [], _ => rfl
  | s :: r, h => by
    unfold restV
    by_cases h1 : nd ns s < n
    · rw [List.dropWhile_cons_of_pos (by simpa using h1), List.dropWhile_cons_of_pos (by simp; omega)]
      exact rest_is (List.pairwise_cons.mp h).2
    · rw [List.dropWhile_cons_of_neg (by simpa using h1)]
      by_cases h2 : nd ns s = n
      · rw [List.dropWhile_cons_of_pos (by simp; omega)]
        simp only [h2, if_true]
        have h3 := (List.pairwise_cons.mp h).1
        cases r with
        | nil => rfl
        | cons a r' =>
          rw [List.dropWhile_cons_of_neg]
          have := h3 a (by simp)
          simp
          omega
      · rw [List.dropWhile_cons_of_neg (by simp; omega)]
        simp only [h2, if_false]
/-- the stack tells for each layer the last tick at which it is on -/
structure StkOk (ns : List Int) (t : Nat) (S : List Nat) : Prop where
  inc : Inc ns S
  last : ∀ k, (onL ns k t).getLast? = (S.find? fun s => decide (k ≤ nd ns s)).map fun (s : Nat) => (s : Int)
  head : ∀ s r, S = s :: r → s + 1 = t
  lt : ∀ s ∈ S, s < t
  some : 0 < t → S ≠ []
theorem find_rest {ns : List Int} {n k : Int} (hk : n < k) : ∀ {S : List Nat}, (restV ns n S).find? (fun s => decide (k ≤ nd ns s)) = S.find? fun s => decide (k ≤ nd ns s)
  | [] => rfl
  | s :: r => by
    unfold restV
    by_cases h1 : nd ns s ≤ n
    · rw [List.dropWhile_cons_of_pos (by simpa using h1), List.find?_cons_of_neg (by simp; omega)]
      exact find_rest hk
    · rw [List.dropWhile_cons_of_neg (by simpa using h1)]
theorem inc_rest {ns : List Int} {n : Int} : ∀ {S : List Nat}, Inc ns S → Inc ns (restV ns n S) ∧ ∀ s ∈ restV ns n S, n < nd ns s ∧ s ∈ S
  | [], _ => ⟨List.Pairwise.nil, fun _ h => by simp [restV] at h⟩
  | s :: r, h => by
    unfold restV
    by_cases h1 : nd ns s ≤ n
    · rw [List.dropWhile_cons_of_pos (by simpa using h1)]
      have := inc_rest (n := n) (List.pairwise_cons.mp h).2
      exact ⟨this.1, fun x hx => ⟨(this.2 x hx).1, List.mem_cons_of_mem _ (this.2 x hx).2⟩⟩
    · rw [List.dropWhile_cons_of_neg (by simpa using h1)]
      refine ⟨h, fun x hx => ⟨?_, hx⟩⟩
      rcases List.mem_cons.mp hx with rfl | hx
      · omega
      · have := (List.pairwise_cons.mp h).1 x hx
        omega
theorem stk_succ {ns : List Int} {t : Nat} (h : Inc ns (stkV ns t)) : stkV ns (t + 1) = t :: restV ns (nd ns t) (stkV ns t) := by
  show t :: _ = _
  dsimp only
  rw [pop_drop, rest_is h]
theorem stk_ok {ns : List Int} : ∀ t, t ≤ ns.length → StkOk ns t (stkV ns t)
  | 0, _ => ⟨List.Pairwise.nil, fun k => by simp [onL, stkV], fun _ _ e => by simp [stkV] at e, fun _ e => by simp [stkV] at e, fun e => by omega⟩
  | t + 1, hl => by
    have O := stk_ok (ns := ns) t (by omega)
    have hx : ns[t]? = some (nd ns t) := by
      unfold nd
      rw [List.getD_eq_getElem?_getD, List.getElem?_eq_getElem (by omega)]
      rfl
    have R := inc_rest (n := nd ns t) O.inc
    rw [stk_succ O.inc]
    refine ⟨List.pairwise_cons.mpr ⟨fun x hx => (R.2 x hx).1, R.1⟩, fun k => ?_, fun s r e => ?_, fun s hs => ?_, fun _ => by simp⟩
    · by_cases hk : k ≤ nd ns t
      · rw [onL_yes hx hk, List.find?_cons_of_pos (by simpa using hk)]
        simp
      · rw [onL_no hx hk, List.find?_cons_of_neg (by simpa using hk), find_rest (by omega)]
        exact O.last k
    · injection e with e _
      omega
    · rcases List.mem_cons.mp hs with rfl | hs
      · omega
      · have := O.lt s (R.2 s hs).2
        omega
/-! ### what the gaps of a layer cost -/
def gsum (b : Int) (l : List (Int × Int)) : Int := (l.map fun p => min p.2 b).sum
def gapC (ns : List Int) (b k : Int) (t : Nat) : Int := gsum b (pairsL (onL ns k t) ((onL ns k t).length - 1))
theorem pairs_snoc (b : Int) (hb : 0 ≤ b) (os : List Int) (x : Int) (hx : ∀ p, os.getLast? = some p → p < x) :
    gsum b (pairsL (os ++ [x]) (os.length)) = gsum b (pairsL os (os.length - 1)) + match os.getLast? with
      | some p => min (x - p - 1) b
      | none => 0 := by
  cases hos : os.length with
  | zero =>
    have : os = [] := List.length_eq_zero_iff.mp hos
    subst this
    simp [pairsL, gsum]
  | succ m =>
    have hl : os.getLast? = os[m]? := by rw [List.getLast?_eq_getElem?, hos]; rfl
    have hm : os[m]? = some (os.getD m 0) := by
      rw [List.getD_eq_getElem?_getD, List.getElem?_eq_getElem (by omega)]
      rfl
    rw [hl, hm]
    dsimp only
    have hp := hx _ (hl.trans hm)
    have e1 : (os ++ [x]).getD (m + 1) 0 = x := by
      rw [List.getD_eq_getElem?_getD, List.getElem?_append_right (by omega), hos]
      simp
    have e2 : ∀ j, j ≤ m → (os ++ [x]).getD j 0 = os.getD j 0 := by
      intro j hj
      rw [List.getD_eq_getElem?_getD, List.getElem?_append_left (by omega), List.getD_eq_getElem?_getD]
    have e3 : pairsL (os ++ [x]) m = pairsL os m := by
      unfold pairsL
      have hf : (List.range m).filter (fun j => decide (1 < (os ++ [x]).getD (j + 1) 0 - (os ++ [x]).getD j 0)) = (List.range m).filter fun j => decide (1 < os.getD (j + 1) 0 - os.getD j 0) := by
        refine List.filter_congr fun j hj => ?_
        have := List.mem_range.mp hj
        rw [e2 _ (by omega), e2 _ (by omega)]
      rw [hf]
      refine List.map_congr_left fun j hj => ?_
      have := List.mem_range.mp (List.mem_filter.mp hj).1
      rw [e2 _ (by omega), e2 _ (by omega)]
    have e4 : pairsL (os ++ [x]) (m + 1) = pairsL os m ++ if 1 < x - os.getD m 0 then [(os.getD m 0 + 1, x - os.getD m 0 - 1)] else [] := by
      rw [← e3]
      unfold pairsL
      rw [List.range_succ, List.filter_append, List.map_append, List.filter_cons, e1, e2 m (Nat.le_refl m)]
      congr 1
      by_cases h : 1 < x - os.getD m 0
      · rw [if_pos (decide_eq_true h), if_pos h]
        simp only [List.filter_nil, List.map_cons, List.map_nil, e1, e2 m (Nat.le_refl m)]
      · rw [if_neg (by simpa using h), if_neg h]
        rfl
    rw [e4, Nat.add_sub_cancel]
    by_cases h : 1 < x - os.getD m 0
    · rw [if_pos h]
      simp [gsum]
    · rw [if_neg h]
      have e0 : min (x - os.getD m 0 - 1) b = 0 := by omega
      rw [List.append_nil, e0, Int.add_zero]
theorem gap_step {ns : List Int} {b k : Int} (hb : 0 ≤ b) {t : Nat} (ht : t < ns.length) : gapC ns b k (t + 1) = gapC ns b k t + if k ≤ nd ns t then gS ns b t (stkV ns t) k else 0 := by
  have hx : ns[t]? = some (nd ns t) := by
    unfold nd
    rw [List.getD_eq_getElem?_getD, List.getElem?_eq_getElem ht]
    rfl
  have O := stk_ok (ns := ns) t (by omega)
  by_cases hk : k ≤ nd ns t
  · unfold gapC
    rw [onL_yes hx hk, if_pos hk]
    have hlen : ((onL ns k t ++ [(t : Int)]).length - 1) = (onL ns k t).length := by simp
    rw [hlen, pairs_snoc b hb]
    · rw [O.last k]
      unfold gS
      cases (stkV ns t).find? fun s => decide (k ≤ nd ns s) <;> rfl
    · intro p hp
      rw [O.last k] at hp
      cases h : (stkV ns t).find? fun s => decide (k ≤ nd ns s) with
      | none => rw [h] at hp; cases hp
      | some s =>
        rw [h] at hp
        have hp : (s : Int) = p := Option.some.inj hp
        have := O.lt s (List.mem_of_find?_eq_some h)
        omega
  · unfold gapC
    rw [onL_no hx hk, if_neg hk, Int.add_zero]
/-- the greatest need up to a tick, 0 if there is none -/
def topV (ns : List Int) : Nat → Int
  | 0 => 0
  | t + 1 => max (topV ns t) (nd ns t)
theorem top_nn {ns : List Int} : ∀ t, 0 ≤ topV ns t
  | 0 => Int.le_refl 0
  | t + 1 => by
    have := top_nn (ns := ns) t
    show 0 ≤ max _ _
    omega
theorem top_ge {ns : List Int} : ∀ t i, i < t → nd ns i ≤ topV ns t
  | t + 1, i, h => by
    show nd ns i ≤ max _ _
    by_cases e : i = t
    · subst e; omega
    · have := top_ge (ns := ns) t i (by omega)
      omega
theorem gap_above {ns : List Int} {b k : Int} : ∀ {t : Nat}, t ≤ ns.length → topV ns t < k → onL ns k t = [] ∧ gapC ns b k t = 0
  | 0, _, _ => by simp [onL, gapC, pairsL, gsum]
  | t + 1, hl, h => by
    have h : max (topV ns t) (nd ns t) < k := h
    have hx : ns[t]? = some (nd ns t) := by
      unfold nd
      rw [List.getD_eq_getElem?_getD, List.getElem?_eq_getElem (by omega)]
      rfl
    have := gap_above (ns := ns) (b := b) (k := k) (t := t) (by omega) (by omega)
    have e := onL_no hx (k := k) (by omega)
    refine ⟨e.trans this.1, ?_⟩
    unfold gapC at this ⊢
    rw [e]
    exact this.2
def gapsC (ns : List Int) (b : Int) (t : Nat) : Int := sumK (fun k => gapC ns b k t) 0 (topV ns t).toNat
theorem sumK_plus {f g : Int → Int} {lo : Int} : ∀ {m : Nat}, sumK (fun k => f k + g k) lo m = sumK f lo m + sumK g lo m
  | 0 => rfl
  | m + 1 => by
    unfold sumK
    rw [sumK_plus]
    omega
theorem new_cost {ns : List Int} {b : Int} (hb : 0 ≤ b) (hn : ∀ i, 0 ≤ nd ns i) {t : Nat} (ht : t < ns.length) :
    vsC b (newV ns t) = sumK (gS ns b t (stkV ns t)) 0 (nd ns t).toNat := by
  have O := stk_ok (ns := ns) t (by omega)
  unfold newV
  cases hS : stkV ns t with
  | nil =>
    rw [sumK_zero]
    · simp [popV, vsC]
    · intro k _ _
      simp [gS]
  | cons s r =>
    have hs : s + 1 = t := O.head s r hS
    have low : ∀ k, k ≤ nd ns s → gS ns b t (s :: r) k = 0 := by
      intro k hk
      unfold gS
      rw [List.find?_cons_of_pos (by simpa using hk)]
      dsimp only
      omega
    by_cases h : nd ns s ≤ nd ns t
    · rw [pop_cost ns _ b t s r (hS ▸ O.inc) h]
      have := hn s
      rw [show (nd ns t).toNat = (nd ns s).toNat + (nd ns t - nd ns s).toNat by omega, sumK_add, sumK_zero (lo := 0) fun k _ h2 => low k (by omega), Int.zero_add, show (0 : Int) + ((nd ns s).toNat : Int) = nd ns s by omega]
    · rw [sumK_zero fun k _ h2 => low k (by omega)]
      unfold popV
      rw [if_neg (by omega)]
      rfl
theorem gaps_step {ns : List Int} {b : Int} (hb : 0 ≤ b) (hn : ∀ i, 0 ≤ nd ns i) {t : Nat} (ht : t < ns.length) : gapsC ns b (t + 1) = gapsC ns b t + vsC b (newV ns t) := by
  have ht0 := top_nn (ns := ns) t
  have hN := hn t
  unfold gapsC
  rw [sumK_congr (g := fun k => gapC ns b k t + if k ≤ nd ns t then gS ns b t (stkV ns t) k else 0) fun k _ _ => gap_step hb ht, sumK_plus, new_cost hb hn ht]
  have e : topV ns (t + 1) = max (topV ns t) (nd ns t) := rfl
  congr 1
  · rw [show (topV ns (t + 1)).toNat = (topV ns t).toNat + ((topV ns (t + 1)).toNat - (topV ns t).toNat) by omega, sumK_add]
    rw [sumK_zero (lo := 0 + ((topV ns t).toNat : Int)) fun k h1 _ => (gap_above (ns := ns) (b := b) (k := k) (t := t) (by omega) (by omega)).2, Int.add_zero]
  · rw [show (topV ns (t + 1)).toNat = (nd ns t).toNat + ((topV ns (t + 1)).toNat - (nd ns t).toNat) by omega, sumK_add]
    rw [sumK_zero (lo := 0 + ((nd ns t).toNat : Int)) fun k h1 _ => by rw [if_neg (by omega)], Int.add_zero]
    exact sumK_congr fun k _ h2 => by rw [if_pos (by omega)]
/-- the sum of all valleys is what the gaps of all layers cost -/
theorem val_gaps {ns : List Int} {b : Int} (hb : 0 ≤ b) (hn : ∀ i, 0 ≤ nd ns i) : ∀ t, t ≤ ns.length → vsC b (valV4 ns t) = gapsC ns b t
  | 0, _ => by simp [vsC, valV4, gapsC, topV, sumK]
  | t + 1, h => by
    show vsC b (valV4 ns t ++ newV ns t) = _
    rw [vsC_app, val_gaps hb hn t (by omega), gaps_step hb hn (by omega)]
/-- the least cost by layers, up to a tick -/
def layC (ns : List Int) (b : Int) (t : Nat) : Int := (ns.take t).sum + b * topV ns t + gapsC ns b t
/-! ### where valleys lie -/
structure VOk (ns : List Int) (t : Nat) (v : V4) : Prop where
  beg : 0 ≤ v.1
  len : 0 ≤ v.2.1
  fin : v.1 + v.2.1 = t
  low : v.2.2.1 < v.2.2.2
  lows : ∃ i, i < t ∧ v.2.2.1 = nd ns i
  high : v.2.2.2 ≤ nd ns t
theorem pop_ok (ns : List Int) (n : Int) (t : Nat) (hn : n = nd ns t) : ∀ (S : List Nat), Inc ns S → (∀ s ∈ S, s < t) → (∀ v ∈ (popV ns n t S []).2, VOk ns t v) ∧ (popV ns n t S []).2.length + (popV ns n t S []).1.length ≤ S.length
  | [], _, _ => by simp [popV]
  | [s], _, _ => by
    unfold popV
    split <;> simp [popV]
  | s :: a :: r, h, hl => by
    have ih := pop_ok ns n t hn (a :: r) (List.pairwise_cons.mp h).2 (fun x hx => hl x (List.mem_cons_of_mem _ hx))
    have hsa : nd ns s < nd ns a := (List.pairwise_cons.mp h).1 a (by simp)
    have h1 := hl s (by simp)
    have h2 := hl a (by simp)
    unfold popV
    split
    · rename_i hlt
      dsimp only
      rw [popV_app]
      refine ⟨fun v hv => ?_, ?_⟩
      · rcases List.mem_append.mp hv with hv | hv
        · simp only [List.nil_append, List.mem_singleton] at hv
          subst hv
          refine ⟨?_, ?_, ?_, ?_, ⟨s, h1, rfl⟩, ?_⟩ <;> dsimp only <;> omega
        · exact ih.1 v hv
      · simp only [List.nil_append, List.length_append, List.length_cons, List.length_nil]
        have := ih.2
        simp only [List.length_cons] at this
        omega
    · simp
theorem new_ok {ns : List Int} {t : Nat} (ht : t ≤ ns.length) : ∀ v ∈ newV ns t, VOk ns t v :=
  (pop_ok ns _ t rfl _ (stk_ok t ht).inc (stk_ok t ht).lt).1
theorem val_ok {ns : List Int} : ∀ t, t ≤ ns.length → ∀ v ∈ valV4 ns t, ∃ i, i < t ∧ VOk ns i v
  | 0, _, v, hv => by simp [valV4] at hv
  | t + 1, h, v, hv => by
    rcases List.mem_append.mp (show v ∈ valV4 ns t ++ newV ns t from hv) with hv | hv
    · obtain ⟨i, hi, o⟩ := val_ok t (by omega) v hv
      exact ⟨i, by omega, o⟩
    · exact ⟨t, by omega, new_ok (by omega) v hv⟩
theorem rest_len {ns : List Int} {n : Int} {S : List Nat} : (restV ns n S).length ≤ (S.dropWhile fun s => decide (nd ns s < n)).length := by
  induction S with
  | nil => simp [restV]
  | cons s r ih =>
    unfold restV at ih ⊢
    by_cases h1 : nd ns s < n
    · rw [List.dropWhile_cons_of_pos (by simp; omega), List.dropWhile_cons_of_pos (by simpa using h1)]
      exact ih
    · rw [List.dropWhile_cons_of_neg (p := fun s => decide (nd ns s < n)) (by simpa using h1)]
      exact (List.dropWhile_sublist _).length_le
theorem val_len {ns : List Int} : ∀ t, t ≤ ns.length → (valV4 ns t).length + (stkV ns t).length ≤ t
  | 0, _ => by simp [valV4, stkV]
  | t + 1, h => by
    have O := stk_ok (ns := ns) t (by omega)
    have ih := val_len (ns := ns) t (by omega)
    have p := (pop_ok ns (nd ns t) t rfl _ O.inc O.lt).2
    rw [pop_drop] at p
    have r := rest_len (ns := ns) (n := nd ns t) (S := stkV ns t)
    rw [stk_succ O.inc]
    show (valV4 ns t ++ newV ns t).length + (t :: restV ns (nd ns t) (stkV ns t)).length ≤ t + 1
    rw [List.length_append, List.length_cons]
    unfold newV
    omega
end WK
set_option Elab.async false
set_option linter.all false
set_option maxRecDepth 100000
namespace WK
open PySem PySem.Spec PyProof.Rows L2
theorem get_listB {X : Cx} : PGet X (fun x y H Q => ∃ p xs i v, x = .ref p ∧ y = .int i ∧ SqL X.K H p xs ∧ 0 ≤ i ∧ xs[i.toNat]? = some v ∧ Q v H) := by
  intro pins s σ H x y v u Q I rx ry h
  obtain ⟨p, xs, i, z, rfl, rfl, hq, h0, he, q⟩ := h
  cases rx
  obtain ⟨t, rfl⟩ := ry
  obtain ⟨its, r, pl, hz⟩ := I.list hq
  obtain ⟨w, ew, rw'⟩ := r.get he
  have hn := line63
  have hi := (List.getElem?_eq_some_iff.mp he).1
  exact wpAny_getItem_list pl.isList h0 (by omega) (by simpa using ew) ⟨z, H, I, rw', q⟩
def v4L (v : V4) : List Int := [v.1, v.2.1, v.2.2.1, v.2.2.2]
/-- a row of tuples of numbers -/
inductive AllT (K : PySem.W.Frag) (H : Hp) : List V → List (List Int) → Prop
  | nil : AllT K H [] []
  | cons {v : V} {vs : List V} {s : List Int} {ss : List (List Int)} : TupI K H v s → AllT K H vs ss → AllT K H (v :: vs) (s :: ss)
theorem TupI.same {K : PySem.W.Frag} {H H' : Hp} {v : V} {s : List Int} (e : Same H H') (h : TupI K H v s) : TupI K H' v s := by
  obtain ⟨t, rfl, h⟩ := h
  exact ⟨t, rfl, sq_same e h⟩
theorem AllT.same {K : PySem.W.Frag} {H H' : Hp} (e : Same H H') : ∀ {vs : List V} {ss : List (List Int)}, AllT K H vs ss → AllT K H' vs ss
  | _, _, .nil => .nil
  | _, _, .cons a b => .cons (TupI.same e a) (AllT.same e b)
theorem sqt_upd {K : PySem.W.Frag} {H : Hp} {a t : Addr} {xs : List V} {o : HO} {l : List V} (h : SqT K H t l) (ha : H a = some (.lst xs)) : SqT K (upd H a o) t l := by
  rcases h with (h | ⟨q, h⟩) | h
  · exact .inl (.inl (by rw [upd_ne (ne_of h ha (by intro z; cases z))]; exact h))
  · exact .inl (.inr ⟨q, by rw [upd_ne (ne_of h ha (by intro z; cases z))]; exact h⟩)
  · exact .inr h
theorem AllT.upd {K : PySem.W.Frag} {H : Hp} {a : Addr} {xs : List V} {o : HO} (ha : H a = some (.lst xs)) : ∀ {vs : List V} {ss : List (List Int)}, AllT K H vs ss → AllT K (upd H a o) vs ss
  | _, _, .nil => .nil
  | _, _, .cons ⟨t, e, h⟩ b => .cons ⟨t, e, sqt_upd h ha⟩ (AllT.upd ha b)
theorem AllT.len {K : PySem.W.Frag} {H : Hp} : ∀ {vs : List V} {ss : List (List Int)}, AllT K H vs ss → vs.length = ss.length
  | _, _, .nil => rfl
  | _, _, .cons _ b => congrArg (· + 1) (AllT.len b)
theorem AllT.snoc {K : PySem.W.Frag} {H : Hp} : ∀ {vs : List V} {ss : List (List Int)} {v : V} {s : List Int}, AllT K H vs ss → TupI K H v s → AllT K H (vs ++ [v]) (ss ++ [s])
  | _, _, _, _, .nil, h => .cons h .nil
  | _, _, _, _, .cons a b, h => .cons a (AllT.snoc b h)
theorem AllT.get {K : PySem.W.Frag} {H : Hp} : ∀ {vs : List V} {ss : List (List Int)} {i : Nat} {v : V}, AllT K H vs ss → vs[i]? = some v → ∃ s, ss[i]? = some s ∧ TupI K H v s
  | _, _, _, _, .nil, e => by simp at e
  | _, _, 0, v, .cons a _, e => by
    have e : _ = v := Option.some.inj e
    subst e
    exact ⟨_, rfl, a⟩
  | _, _, i + 1, v, .cons _ b, e => AllT.get (i := i) b e
theorem AllT.mem {K : PySem.W.Frag} {H : Hp} : ∀ {vs : List V} {ss : List (List Int)} {v : V}, AllT K H vs ss → v ∈ vs → ∃ s, s ∈ ss ∧ TupI K H v s
  | _, _, _, .nil, e => by simp at e
  | _, _, v, .cons a b, e => by
    rcases List.mem_cons.mp e with rfl | e
    · exact ⟨_, by simp, a⟩
    · obtain ⟨s, h1, h2⟩ := AllT.mem b e
      exact ⟨s, List.mem_cons_of_mem _ h1, h2⟩
theorem AllT.perm {K : PySem.W.Frag} {H : Hp} {vs ws : List V} (p : ws.Perm vs) : ∀ {ss : List (List Int)}, AllT K H vs ss → ∃ ts, ts.Perm ss ∧ AllT K H ws ts := by
  have q := p.symm
  clear p
  induction q with
  | nil => exact fun h => ⟨_, .refl _, h⟩
  | cons x _ ih =>
    intro ss h
    cases h with
    | cons a b =>
      obtain ⟨ts, h1, h2⟩ := ih b
      exact ⟨_, h1.cons _, .cons a h2⟩
  | swap x y l =>
    intro ss h
    cases h with
    | cons a b =>
      cases b with
      | cons b c => exact ⟨_, .swap _ _ _, .cons b (.cons a c)⟩
  | trans _ _ i1 i2 =>
    intro ss h
    obtain ⟨t1, p1, h1⟩ := i1 h
    obtain ⟨t2, p2, h2⟩ := i2 h1
    exact ⟨t2, p2.trans p1, h2⟩
theorem perm_map_v4 : ∀ {ts : List (List Int)} {l : List V4}, ts.Perm (l.map v4L) → ∃ l' : List V4, l'.Perm l ∧ ts = l'.map v4L := by
  intro ts l p
  generalize e : l.map v4L = ss at p
  have q := p.symm
  clear p
  induction q generalizing l with
  | nil => cases l with | nil => exact ⟨[], .refl _, rfl⟩ | cons _ _ => cases e
  | cons x _ ih =>
    cases l with
    | nil => cases e
    | cons v r =>
      injection e with e1 e2
      obtain ⟨l', h1, h2⟩ := ih e2
      exact ⟨v :: l', h1.cons _, by rw [h2, ← e1]; rfl⟩
  | swap x y l0 =>
    cases l with
    | nil => cases e
    | cons v r =>
      cases r with
      | nil => injection e with _ e; cases e
      | cons v2 r =>
        injection e with e1 e2
        injection e2 with e2 e3
        exact ⟨v2 :: v :: r, .swap _ _ _, by rw [← e1, ← e2, ← e3]; rfl⟩
  | trans _ _ i1 i2 =>
    obtain ⟨l1, p1, h1⟩ := i1 e
    obtain ⟨l2, p2, h2⟩ := i2 h1.symm
    exact ⟨l2, p2.trans p1, h2⟩
/-! ### contracts of valleys -/
def BV : Int := 2000000000
/-- needs of the document, not too many -/
structure Nds (ns : List Int) : Prop where
  len : ns.length ≤ 63
  pos : ∀ z ∈ ns, 0 ≤ z ∧ z ≤ 1000000000
theorem Nds.nd {ns : List Int} (h : Nds ns) (i : Nat) : 0 ≤ nd ns i ∧ nd ns i ≤ 1000000000 := by
  unfold WK.nd
  rw [List.getD_eq_getElem?_getD]
  cases e : ns[i]? with
  | none => simp
  | some z => exact h.pos z (List.mem_of_getElem? e)
def CodeLe (l : List V4) : Prop := l.Pairwise fun v u => TS.code BV (v4L v) ≤ TS.code BV (v4L u)
def spValleys (K : PySem.W.Frag) : Sp := fun vs H Q _ => ∃ (t : Addr) (ns : List Int), vs = [.ref t] ∧ SqT K H t (ns.map V.int) ∧ Nds ns ∧
  ∀ H' g ws (l : List V4), Same H H' → H g = none → H' g = some (.lst ws) → AllT K H' ws (l.map v4L) → l.Perm (valV4 ns ns.length) → CodeLe l → Q (.ref g) H'
def spVCost (K : PySem.W.Frag) : Sp := fun vs H Q _ => ∃ (v : V) (x : V4) (b : Int), vs = [v, .int b] ∧ TupI K H v (v4L x) ∧ 0 ≤ x.2.1 ∧ x.2.1 ≤ 1000000 ∧ 0 ≤ b ∧ (∀ H', Same H H' → Q (.int (vcost b x)) H')
end WK
namespace WK
open PySem PySem.Spec PyProof.Rows L2
theorem ifF {A B : Prop} {c : Bool} (e : c = false) (h : B) : if c = true then A else B := by
  rw [if_neg (by rw [e]; exact Bool.false_ne_true)]
  exact h
theorem same_upd {H G : Hp} {a : Addr} {o : HO} (sm : Same H G) (ha : H a = none) : Same H (upd G a o) := fun b x e => by
  rw [upd_ne (ne_of_none e ha)]
  exact sm _ _ e
theorem revL (r : List Nat) (s : Nat) : ((s :: r).reverse.map fun (s : Nat) => V.int s) = (r.reverse.map fun (s : Nat) => V.int s) ++ [V.int s] := by
  rw [List.reverse_cons, List.map_append]
  rfl
theorem ndAt {ns : List Int} {s : Nat} (h : s < ns.length) : (ns.map V.int)[s]? = some (V.int (nd ns s)) := by
  rw [List.getElem?_map]
  unfold nd
  rw [List.getD_eq_getElem?_getD, List.getElem?_eq_getElem h]
  rfl
theorem lastAt {l : List V} {v : V} : (l ++ [v])[(l ++ [v]).length - 1]? = some v := by
  rw [List.getElem?_append_right (by simp)]
  simp
end WK
namespace WK
open PySem PySem.Spec PyProof.Rows L2
theorem AllT.memR {K : PySem.W.Frag} {H : Hp} : ∀ {vs : List V} {ss : List (List Int)} {s : List Int}, AllT K H vs ss → s ∈ ss → ∃ v, v ∈ vs ∧ TupI K H v s
  | _, _, _, .nil, e => by simp at e
  | _, _, s, .cons a b, e => by
    rcases List.mem_cons.mp e with rfl | e
    · exact ⟨_, by simp, a⟩
    · obtain ⟨v, h1, h2⟩ := AllT.memR b e
      exact ⟨v, List.mem_cons_of_mem _ h1, h2⟩
theorem val_bd {ns : List Int} (hN : Nds ns) : ∀ v ∈ valV4 ns ns.length, TS.Bd BV (v4L v) := by
  intro v hv
  obtain ⟨i, hi, o⟩ := val_ok ns.length (Nat.le_refl _) v hv
  obtain ⟨j, hj, hl⟩ := o.lows
  have h1 := hN.nd j
  have h2 := hN.nd i
  have := hN.len
  have := o.beg
  have := o.len
  have := o.fin
  have := o.low
  have := o.high
  intro m hm
  unfold BV
  simp only [v4L, List.mem_cons, List.not_mem_nil, or_false] at hm
  rcases hm with rfl | rfl | rfl | rfl <;> omega
theorem code_le {K : PySem.W.Frag} {H : Hp} : ∀ {ys : List V} {l : List V4}, AllT K H ys (l.map v4L) → ys.Pairwise (fun x y => ∀ n m, TupI K H x n → TupI K H y m → TS.code BV n ≤ TS.code BV m) → CodeLe l
  | [], [], _, _ => List.Pairwise.nil
  | y :: ys, v :: l, .cons a b, h => by
    have h' := List.pairwise_cons.mp h
    refine List.pairwise_cons.mpr ⟨fun u hu => ?_, code_le b h'.2⟩
    obtain ⟨x, hx, hxu⟩ := AllT.memR b (List.mem_map.mpr ⟨u, hu, rfl⟩)
    exact h'.1 x hx _ _ a hxu
end WK
namespace WK
open PySem PySem.Spec PyProof.Rows L2
/-! ### least costs so far, least costs by layers -/
def riseL (ns : List Int) (b : Int) (l : List V4) : List Int := (List.range ns.length).map fun j => nd ns j + vsC b (l.filter fun v => decide (v.1 + v.2.1 = (j : Int)))
theorem riseL_at {ns : List Int} {b : Int} {l : List V4} {j : Nat} (h : j < ns.length) : (riseL ns b l)[j]? = some (nd ns j + vsC b (l.filter fun v => decide (v.1 + v.2.1 = (j : Int)))) := by
  unfold riseL
  rw [List.getElem?_map, List.getElem?_range h]
  rfl
theorem riseL_len (ns : List Int) (b : Int) (l : List V4) : (riseL ns b l).length = ns.length := by simp [riseL]
theorem nd_at {ns : List Int} {i : Nat} (h : i < ns.length) : ns[i]? = some (nd ns i) := by
  unfold nd
  rw [List.getD_eq_getElem?_getD, List.getElem?_eq_getElem h]
  rfl
theorem riseL_nil (ns : List Int) (b : Int) : riseL ns b [] = ns := by
  refine List.ext_getElem? fun i => ?_
  by_cases h : i < ns.length
  · rw [riseL_at h, nd_at h]
    simp [vsC]
  · rw [List.getElem?_eq_none (by rw [riseL_len]; omega), List.getElem?_eq_none (by omega)]
theorem riseL_snoc {ns : List Int} {b : Int} {l : List V4} {v : V4} {j : Nat} (hj : v.1 + v.2.1 = (j : Int)) (h : j < ns.length) :
    (riseL ns b l).set j (nd ns j + vsC b (l.filter fun v => decide (v.1 + v.2.1 = (j : Int))) + vcost b v) = riseL ns b (l ++ [v]) := by
  refine List.ext_getElem? fun i => ?_
  rw [List.getElem?_set]
  have hlen := riseL_len ns b l
  by_cases hi : i < ns.length
  · rw [riseL_at hi (l := l ++ [v]), List.filter_append, vsC_app]
    by_cases e : j = i
    · subst e
      rw [if_pos rfl, if_pos (by omega)]
      simp [hj, vsC, Int.add_assoc]
    · rw [if_neg e, riseL_at hi]
      have : ¬ v.1 + v.2.1 = (i : Int) := by omega
      simp [this, vsC]
  · have h2 := riseL_len ns b (l ++ [v])
    rw [List.getElem?_eq_none (l := riseL ns b (l ++ [v])) (by omega)]
    split
    · omega
    · rw [List.getElem?_eq_none (by omega)]
theorem vsC_perm {b : Int} {l m : List V4} (p : l.Perm m) : vsC b l = vsC b m := by
  unfold vsC
  induction p with
  | nil => rfl
  | cons x _ ih => simp [ih]
  | swap x y l => simp; omega
  | trans _ _ a b => exact a.trans b
theorem filter_new {ns : List Int} {j : Nat} : ∀ t, t ≤ ns.length → (valV4 ns t).filter (fun v => decide (v.1 + v.2.1 = (j : Int))) = if j < t then newV ns j else []
  | 0, _ => by simp [valV4]
  | t + 1, h => by
    show (valV4 ns t ++ newV ns t).filter _ = _
    rw [List.filter_append, filter_new t (by omega)]
    by_cases e : j = t
    · subst e
      rw [if_neg (by omega), if_pos (by omega), List.nil_append]
      refine List.filter_eq_self.mpr fun v hv => ?_
      exact decide_eq_true (new_ok (by omega) v hv).fin
    · have : (newV ns t).filter (fun v => decide (v.1 + v.2.1 = (j : Int))) = [] := by
        refine List.filter_eq_nil_iff.mpr fun v hv => ?_
        have := (new_ok (by omega) v hv).fin
        simp
        omega
      rw [this, List.append_nil]
      by_cases h1 : j < t
      · rw [if_pos h1, if_pos (by omega)]
      · rw [if_neg h1, if_neg (by omega)]
theorem rise_new {ns : List Int} {b : Int} {l : List V4} (p : l.Perm (valV4 ns ns.length)) {j : Nat} (h : j < ns.length) : (riseL ns b l)[j]? = some (nd ns j + vsC b (newV ns j)) := by
  rw [riseL_at h, vsC_perm (p.filter _), filter_new _ (Nat.le_refl _), if_pos h]
/-- what has been paid for the ticks up to one, and the gaps that they close -/
def paidV (ns : List Int) (b : Int) : Nat → Int
  | 0 => 0
  | t + 1 => paidV ns b t + (nd ns t + vsC b (newV ns t))
theorem take_nd {ns : List Int} {t : Nat} (h : t < ns.length) : (ns.take (t + 1)).sum = (ns.take t).sum + nd ns t := by
  rw [List.take_add_one, nd_at h]
  simp
theorem paid_is {ns : List Int} {b : Int} : ∀ t, t ≤ ns.length → paidV ns b t = (ns.take t).sum + vsC b (valV4 ns t)
  | 0, _ => by simp [paidV, valV4, vsC]
  | t + 1, h => by
    show paidV ns b t + _ = _
    rw [paid_is t (by omega), take_nd (by omega)]
    show _ = _ + vsC b (valV4 ns t ++ newV ns t)
    rw [vsC_app]
    omega
def soFar (ns : List Int) (b : Int) (i : Nat) : List Int := (List.range i).map fun t => layC ns b (t + 1)
theorem paid_lay {ns : List Int} {b : Int} (hb : 0 ≤ b) (hn : ∀ i, 0 ≤ nd ns i) {t : Nat} (h : t ≤ ns.length) : paidV ns b t + b * topV ns t = layC ns b t := by
  unfold layC
  rw [paid_is t h, val_gaps hb hn t h]
  omega
theorem soFar_succ {ns : List Int} {b : Int} {i : Nat} : soFar ns b (i + 1) = soFar ns b i ++ [layC ns b (i + 1)] := by
  unfold soFar
  rw [List.range_succ, List.map_append]
  rfl
def spSoFar (K : PySem.W.Frag) : Sp := fun vs H Q _ => ∃ (t : Addr) (ns : List Int) (b : Int), vs = [.ref t, .int b] ∧ SqT K H t (ns.map V.int) ∧ Nds ns ∧ 0 ≤ b ∧
  ∀ H' g, Same H H' → H g = none → H' g = some (.lst ((soFar ns b ns.length).map V.int)) → Q (.ref g) H'
def spLayCost (K : PySem.W.Frag) : Sp := fun vs H Q _ => ∃ (t : Addr) (ns : List Int) (b : Int), vs = [.ref t, .int b] ∧ H t = some (.tup (ns.map V.int)) ∧ Nds ns ∧ 0 ≤ b ∧
  ∀ H', Same H H' → Q (.int (layC ns b ns.length)) H'
/-- the law's own sum, layer by layer -/
def lawLay (ns : List Int) (b : Int) : Nat → Int
  | 0 => ns.sum
  | m + 1 => lawLay ns b m + b + gsum b (gapsL ns (1 + m))
theorem lawLay_is {ns : List Int} {b : Int} : ∀ m, lawLay ns b m = ns.sum + b * m + sumK (fun k => gapC ns b k ns.length) 0 m
  | 0 => by simp [lawLay, sumK]
  | m + 1 => by
    show lawLay ns b m + b + gsum b (gapsL ns (1 + m)) = _
    rw [lawLay_is m]
    show _ = ns.sum + b * ((m + 1 : Nat) : Int) + (sumK (fun k => gapC ns b k ns.length) 0 m + gapC ns b (0 + 1 + m) ns.length)
    rw [Int.natCast_add, Int.mul_add, show (0 : Int) + 1 + m = 1 + m by omega]
    unfold gapsL gapC
    simp only [Int.natCast_one, Int.mul_one]
    omega
theorem lawLay_top {ns : List Int} {b : Int} : lawLay ns b (topV ns ns.length).toNat = layC ns b ns.length := by
  rw [lawLay_is]
  unfold layC gapsC
  rw [List.take_length, Int.toNat_of_nonneg (top_nn _)]
theorem top_max {ns : List Int} {m : Int} (h1 : m ∈ (0 : Int) :: ns) (h2 : ∀ y ∈ (0 : Int) :: ns, y ≤ m) : m = topV ns ns.length := by
  have h0 := top_nn (ns := ns) ns.length
  have key : ∀ t, t ≤ ns.length → topV ns t ≤ m := by
    intro t
    induction t with
    | zero =>
      intro _
      exact h2 0 (by simp)
    | succ t ih =>
      intro h
      have a := ih (by omega)
      have c : nd ns t ∈ ns := by
        unfold nd
        rw [List.getD_eq_getElem?_getD, List.getElem?_eq_getElem (by omega)]
        exact List.getElem_mem _
      have := h2 _ (List.mem_cons_of_mem _ c)
      show max _ _ ≤ _
      omega
  have k := key _ (Nat.le_refl _)
  rcases List.mem_cons.mp h1 with rfl | h1
  · omega
  · obtain ⟨i, hi, e⟩ := List.getElem_of_mem h1
    have := top_ge (ns := ns) ns.length i hi
    have e2 : nd ns i = m := by
      unfold nd
      rw [List.getD_eq_getElem?_getD, List.getElem?_eq_getElem hi, ← e]
      rfl
    omega
end WK
namespace WK
open PySem PySem.Spec PyProof.Rows L2
theorem ixN_nat {n k : Nat} {z : Int} (e : z = (k : Int)) (h : k < n) : ixN n z = some k := by
  subst e
  unfold ixN
  rw [if_pos (by omega), if_pos (by omega)]
  rfl
end WK
namespace WK
open PySem PySem.Spec PyProof.Rows L2
theorem top_le {ns : List Int} (hN : Nds ns) : ∀ t, topV ns t ≤ 1000000000
  | 0 => by show (0 : Int) ≤ _; decide
  | t + 1 => by
    have h1 := top_le hN t
    have h2 := (hN.nd t).2
    show max _ _ ≤ _
    omega
end WK
namespace WK
open PySem PySem.Spec PyProof.Rows L2
theorem gaps_get {K : PySem.W.Frag} {H : Hp} : ∀ {ps : List (Int × Int)} {ws : List V} {i : Nat} {x : V}, DpAll K H ws (ps.map prD) → ws[i]? = some x → ∃ p, ps[i]? = some p ∧ ∃ t, x = .ref t ∧ SqT K H t [.int p.1, .int p.2]
  | [], ws, i, x, h, e => by
    cases h
    simp at e
  | p :: ps, ws, i, x, h, e => by
    cases h with
    | cons h1 h2 =>
      cases i with
      | zero =>
        have e : some _ = some x := e
        injection e with e
        subst e
        cases h1 with
        | tup h3 h5 =>
          refine ⟨p, rfl, _, rfl, ?_⟩
          cases h5 with
          | cons q1 q2 =>
            cases q2 with
            | cons q3 q4 =>
              cases q4
              cases q1
              cases q3
              exact h3
      | succ i =>
        rw [List.getElem?_cons_succ] at e ⊢
        exact gaps_get h2 e
end WK
namespace WK
open PySem PySem.Spec PyProof.Rows L2
theorem shows_lst {ns : List Int} (h : ∀ z ∈ ns, z.natAbs < 10 ^ 150) (hl : ns.length ≤ 5000) : Shows (.list (intsD ns)) := by
  have ci := cost_ints (ns := ns)
  refine shows_of (by simpa only [Lil] using lil_ints h) ?_ ?_
  · simp only [PyData.depth, depth_ints]
    omega
  · simp only [cost]
    refine Nat.le_trans (show _ ≤ 1000000 by omega) (by decide)
theorem vcost_bd {ns : List Int} (hN : Nds ns) {b : Int} (hb : 0 ≤ b) {t : Nat} {v : V4} (ht : t ≤ 63) (o : VOk ns t v) : 0 ≤ vcost b v ∧ vcost b v ≤ 1000000000 * 63 := by
  obtain ⟨j, hj, hl⟩ := o.lows
  have h1 := hN.nd j
  have h2 := hN.nd t
  have h3 := o.high
  have h4 := o.low
  have h5 := o.len
  have h6 := o.beg
  have h7 := o.fin
  unfold vcost
  constructor
  · exact Int.mul_nonneg (by omega) (by omega)
  · exact Int.mul_le_mul (by omega) (by omega) (by omega) (by omega)
theorem vsC_bd {b M : Int} : ∀ {l : List V4}, (∀ v ∈ l, 0 ≤ vcost b v ∧ vcost b v ≤ M) → 0 ≤ vsC b l ∧ vsC b l ≤ M * l.length
  | [], _ => by simp [vsC]
  | v :: l, h => by
    have a := vsC_bd fun u hu => h u (List.mem_cons_of_mem _ hu)
    have c := h v (by simp)
    have e : vsC b (v :: l) = vcost b v + vsC b l := by simp [vsC]
    rw [e, List.length_cons, Int.natCast_add, Int.mul_add]
    simp only [Int.natCast_one, Int.mul_one]
    omega
theorem lay_rise {ns : List Int} (hN : Nds ns) {b : Int} (hb : 0 ≤ b) {t : Nat} (h : t < ns.length) : layC ns b t + nd ns t ≤ layC ns b (t + 1) := by
  have hn := fun i => (hN.nd i).1
  have hl := hN.len
  rw [← paid_lay hb hn (t := t) (by omega), ← paid_lay hb hn (t := t + 1) (by omega)]
  show _ ≤ paidV ns b t + (nd ns t + vsC b (newV ns t)) + b * max (topV ns t) (nd ns t)
  have a := (vsC_bd (M := 1000000000 * 63) fun v hv => vcost_bd hN hb (t := t) (by omega) (new_ok (by omega) v hv)).1
  have m : b * topV ns t ≤ b * max (topV ns t) (nd ns t) := Int.mul_le_mul_of_nonneg_left (by omega) hb
  omega
theorem lay_bd {ns : List Int} (hN : Nds ns) {b : Int} (hb : 0 ≤ b) (hb2 : b ≤ 1000000000) : ∀ t, t ≤ ns.length → 0 ≤ layC ns b t ∧ layC ns b t ≤ 10000000000000000000000
  | 0, _ => by simp [layC, topV, gapsC, sumK]
  | t + 1, h => by
    have a := lay_bd hN hb hb2 t (by omega)
    have r := lay_rise hN hb (t := t) (by omega)
    have n := (hN.nd t).1
    refine ⟨by omega, ?_⟩
    have hn := fun i => (hN.nd i).1
    have hl := hN.len
    rw [← paid_lay hb hn (t := t + 1) (by omega), paid_is _ h]
    have c := (vsC_bd (b := b) (M := 1000000000 * 63) (l := valV4 ns (t + 1)) fun v hv => by
      obtain ⟨i, hi, o⟩ := val_ok (t + 1) h v hv
      exact vcost_bd hN hb (by omega) o).2
    have d := val_len (ns := ns) (t + 1) h
    have e : ∀ i, i ≤ ns.length → (ns.take i).sum ≤ 1000000000 * i := by
      intro i
      induction i with
      | zero => intro _; simp
      | succ i ih =>
        intro hi
        rw [take_nd (by omega)]
        have := ih (by omega)
        have := (hN.nd i).2
        omega
    have e1 := e (t + 1) h
    have g1 := top_nn (ns := ns) (t + 1)
    have g2 := top_le hN (t + 1)
    have g3 : b * topV ns (t + 1) ≤ 1000000000 * 1000000000 := Int.mul_le_mul hb2 g2 g1 (by decide)
    have c2 : (1000000000 * 63 : Int) * (valV4 ns (t + 1)).length ≤ 1000000000 * 63 * 63 := Int.mul_le_mul_of_nonneg_left (by omega) (by decide)
    omega
theorem soFar_small {ns : List Int} (hN : Nds ns) {b : Int} (hb : 0 ≤ b) (hb2 : b ≤ 1000000000) : ∀ z ∈ soFar ns b ns.length, z.natAbs < 10 ^ 150 := by
  intro z hz
  obtain ⟨t, ht, rfl⟩ := List.mem_map.mp hz
  have := List.mem_range.mp ht
  have h := lay_bd hN hb hb2 (t + 1) (by omega)
  have e : (10000000000000000000000 : Nat) < 10 ^ 150 := by decide +kernel
  omega
theorem soFar_len {ns : List Int} {b : Int} {i : Nat} : (soFar ns b i).length = i := by simp [soFar]
theorem soFar_at {ns : List Int} {b : Int} {i n : Nat} (h : i < n) : (soFar ns b n)[i]? = some (layC ns b (i + 1)) := by
  unfold soFar
  rw [List.getElem?_map, List.getElem?_range h]
  rfl
/-- a row cut behind a tick has the same costs up to it -/
theorem nd_take {ns : List Int} {i t : Nat} (h : i < t) : nd (ns.take t) i = nd ns i := by
  unfold nd
  rw [List.getD_eq_getElem?_getD, List.getD_eq_getElem?_getD, List.getElem?_take, if_pos h]
theorem top_take {ns : List Int} {t : Nat} : ∀ i, i ≤ t → topV (ns.take t) i = topV ns i
  | 0, _ => rfl
  | i + 1, h => by
    show max _ _ = max _ _
    rw [top_take i (by omega), nd_take (by omega)]
theorem onL_take {ns : List Int} {k : Int} {i t : Nat} (h : i ≤ t) : onL (ns.take t) k i = onL ns k i := by
  unfold onL
  congr 1
  refine List.filter_congr fun j hj => ?_
  have := List.mem_range.mp hj
  have e := nd_take (ns := ns) (i := j) (t := t) (by omega)
  unfold nd at e
  rw [e]
theorem lay_take {ns : List Int} {b : Int} {t : Nat} (h : t ≤ ns.length) : layC (ns.take t) b (ns.take t).length = layC ns b t := by
  have e : (ns.take t).length = t := by rw [List.length_take]; omega
  rw [e]
  unfold layC gapsC gapC
  rw [List.take_take, Nat.min_self, top_take t (Nat.le_refl _)]
  simp only [onL_take (Nat.le_refl _)]
theorem nds_take {ns : List Int} (h : Nds ns) (t : Nat) : Nds (ns.take t) := ⟨by rw [List.length_take]; have := h.len; omega, fun z hz => h.pos z (List.mem_of_mem_take hz)⟩
end WK
namespace WK
open PySem PySem.Spec PyProof.Rows L2
theorem slR {K : PySem.W.Frag} {lo hi : Option Int} {H : Hp} {Q : VK} {a : Addr} {xs : List V} (ht : H a = some (.tup xs))
    (k : ∀ p H', Same H H' → H' p = some (.tup (cutV xs lo hi)) → Q (.ref p) H') : rSlA K (.ref a) lo hi H Q := by
  refine ⟨a, xs, rfl, .inl (.inl ht), fun w => k a H (Same.refl _) ?_, fun _ p np => k p _ (same_new np) upd_same⟩
  have e : cutV xs lo hi = xs := by
    unfold cutV
    rw [w.1, w.2, List.drop_zero, Nat.sub_zero, List.take_length]
  rw [e]
  exact ht
theorem st_eq {t : TS} {D : Ends} {σ σ' : L2.St} {H : Hp} (e : σ = σ') (h : t D σ' H) : t D σ H := by
  rw [e]
  exact h
end WK
set_option Elab.async false
set_option linter.all false
set_option maxRecDepth 100000
namespace WK
/-! ### valleys, all of them -/
theorem strict_eq {α : Type} (f : α → Int) : ∀ {l m : List α}, l.Perm m → l.Pairwise (fun a b => f a ≤ f b) → m.Pairwise (fun a b => f a < f b) → l = m
  | [], m, p, _, _ => by rw [List.nil_perm.mp p]
  | x :: l, [], p, _, _ => by cases List.perm_nil.mp p
  | x :: l, y :: m, p, h1, h2 => by
    have a := List.pairwise_cons.mp h1
    have b := List.pairwise_cons.mp h2
    have e : x = y := by
      have hy : y ∈ x :: l := p.symm.mem_iff.mp (by simp)
      have hx : x ∈ y :: m := p.mem_iff.mp (by simp)
      rcases List.mem_cons.mp hy with e | hy
      · exact e.symm
      · rcases List.mem_cons.mp hx with e | hx
        · exact e
        · have := a.1 y hy
          have := b.1 x hx
          omega
    subst e
    rw [strict_eq f ((List.perm_cons x).mp p) a.2 b.2]
theorem strict_nodup {α : Type} (f : α → Int) {m : List α} (h : m.Pairwise fun a b => f a < f b) : m.Nodup := h.imp fun {a b} h e => by
  subst e
  omega
theorem strict_ext {α : Type} (f : α → Int) {l m : List α} (h1 : l.Pairwise fun a b => f a < f b) (h2 : m.Pairwise fun a b => f a < f b) (h : ∀ x, x ∈ l ↔ x ∈ m) : l = m :=
  strict_eq f ((List.perm_ext_iff_of_nodup (strict_nodup f h1) (strict_nodup f h2)).mpr h) (h1.imp fun h => by omega) h2
/-- the greatest need of m ticks from b on, at least 0 -/
def lowF (ns : List Int) (b : Nat) : Nat → Int
  | 0 => 0
  | m + 1 => max (lowF ns b m) (nd ns (b + m))
theorem lowF_ge {ns : List Int} {b : Nat} : ∀ {m i : Nat}, i < m → nd ns (b + i) ≤ lowF ns b m
  | m + 1, i, h => by
    show _ ≤ max _ _
    by_cases e : i = m
    · subst e; omega
    · have := lowF_ge (ns := ns) (b := b) (m := m) (i := i) (by omega)
      omega
theorem lowF_nn {ns : List Int} {b : Nat} : ∀ m, 0 ≤ lowF ns b m
  | 0 => Int.le_refl 0
  | m + 1 => by
    have := lowF_nn (ns := ns) (b := b) m
    show 0 ≤ max _ _
    omega
theorem lowF_le {ns : List Int} {b : Nat} {M : Int} (h0 : 0 ≤ M) : ∀ {m : Nat}, (∀ i, i < m → nd ns (b + i) ≤ M) → lowF ns b m ≤ M
  | 0, _ => h0
  | m + 1, h => by
    have := lowF_le h0 (m := m) fun i hi => h i (by omega)
    have := h m (by omega)
    show max _ _ ≤ _
    omega
def highF (ns : List Int) (b m : Nat) : Int := min (nd ns (b - 1)) (nd ns (b + m))
def vOf (ns : List Int) (b m : Nat) : V4 := ((b : Int), (m : Int), lowF ns b m, highF ns b m)
def rowV (ns : List Int) (b : Nat) : Nat → List V4
  | 0 => []
  | m + 1 => rowV ns b m ++ if lowF ns b (m + 1) < highF ns b (m + 1) then [vOf ns b (m + 1)] else []
def lawV (ns : List Int) : Nat → List V4
  | 0 => []
  | j + 1 => lawV ns j ++ rowV ns (j + 1) (ns.length - 1 - (j + 1))
structure IsV (ns : List Int) (b m : Nat) : Prop where
  b1 : 1 ≤ b
  m1 : 1 ≤ m
  fin : b + m < ns.length
  lt : lowF ns b m < highF ns b m
theorem row_mem {ns : List Int} {b : Nat} {v : V4} : ∀ {n : Nat}, v ∈ rowV ns b n ↔ ∃ m, 1 ≤ m ∧ m ≤ n ∧ lowF ns b m < highF ns b m ∧ v = vOf ns b m
  | 0 => by simp [rowV]; intro m h1 h2; omega
  | n + 1 => by
    unfold rowV
    rw [List.mem_append, row_mem]
    constructor
    · rintro (⟨m, h1, h2, h3, h4⟩ | h)
      · exact ⟨m, h1, by omega, h3, h4⟩
      · split at h
        · rename_i hlt
          exact ⟨n + 1, by omega, by omega, hlt, by simpa using h⟩
        · simp at h
    · rintro ⟨m, h1, h2, h3, h4⟩
      by_cases e : m = n + 1
      · subst e
        exact .inr (by rw [if_pos h3]; simp [h4])
      · exact .inl ⟨m, h1, by omega, h3, h4⟩
theorem law_mem {ns : List Int} {v : V4} : ∀ {j : Nat}, v ∈ lawV ns j ↔ ∃ b m, b ≤ j ∧ IsV ns b m ∧ v = vOf ns b m
  | 0 => by
    constructor
    · intro h
      simp [lawV] at h
    · rintro ⟨b, m, h1, h2, _⟩
      have := h2.b1
      omega
  | j + 1 => by
    unfold lawV
    rw [List.mem_append, law_mem, row_mem]
    constructor
    · rintro (⟨b, m, h1, h2, h3⟩ | ⟨m, h1, h2, h3, h4⟩)
      · exact ⟨b, m, by omega, h2, h3⟩
      · exact ⟨j + 1, m, by omega, ⟨by omega, h1, by omega, h3⟩, h4⟩
    · rintro ⟨b, m, h1, h2, h3⟩
      by_cases e : b = j + 1
      · subst e
        exact .inr ⟨m, h2.m1, by have := h2.fin; omega, h2.lt, h3⟩
      · exact .inl ⟨b, m, by omega, h2, h3⟩
def allV (ns : List Int) : List V4 := lawV ns (ns.length - 1)
theorem all_mem {ns : List Int} {v : V4} : v ∈ allV ns ↔ ∃ b m, IsV ns b m ∧ v = vOf ns b m := by
  unfold allV
  rw [law_mem]
  constructor
  · rintro ⟨b, m, _, h, e⟩
    exact ⟨b, m, h, e⟩
  · rintro ⟨b, m, h, e⟩
    exact ⟨b, m, by have := h.fin; have := h.m1; omega, h, e⟩
/-- begin first, then length -/
def vkey (v : V4) : Int := v.1 * 1000000 + v.2.1
theorem row_key {ns : List Int} {b : Nat} : ∀ n, (rowV ns b n).Pairwise (fun v u => vkey v < vkey u) ∧ ∀ v ∈ rowV ns b n, v.1 = b ∧ v.2.1 ≤ n ∧ 0 ≤ v.2.1
  | 0 => by simp [rowV]
  | n + 1 => by
    have ih := row_key (ns := ns) (b := b) n
    unfold rowV
    split
    · refine ⟨List.pairwise_append.mpr ⟨ih.1, by simp, fun v hv u hu => ?_⟩, fun v hv => ?_⟩
      · have h1 := ih.2 v hv
        rw [List.mem_singleton] at hu
        subst hu
        unfold vkey vOf
        dsimp only
        omega
      · rcases List.mem_append.mp hv with hv | hv
        · have h1 := ih.2 v hv
          omega
        · rw [List.mem_singleton] at hv
          subst hv
          refine ⟨rfl, ?_, ?_⟩ <;> (unfold vOf; dsimp only; omega)
    · rw [List.append_nil]
      exact ⟨ih.1, fun v hv => by have := ih.2 v hv; omega⟩
theorem law_key {ns : List Int} (hl : ns.length ≤ 100000) : ∀ j, (lawV ns j).Pairwise (fun v u => vkey v < vkey u) ∧ ∀ v ∈ lawV ns j, v.1 ≤ j ∧ v.2.1 ≤ 100000 ∧ 0 ≤ v.2.1
  | 0 => by simp [lawV]
  | j + 1 => by
    have ih := law_key hl j
    have r := row_key (ns := ns) (b := j + 1) (ns.length - 1 - (j + 1))
    unfold lawV
    refine ⟨List.pairwise_append.mpr ⟨ih.1, r.1, fun v hv u hu => ?_⟩, fun v hv => ?_⟩
    · have h1 := ih.2 v hv
      have h2 := r.2 u hu
      unfold vkey
      omega
    · rcases List.mem_append.mp hv with hv | hv
      · have := ih.2 v hv; omega
      · have := r.2 v hv; omega
/-! #### what the stack finds is just this -/
def GoodS (ns : List Int) (t : Nat) : List Nat → Prop
  | [] => True
  | [_] => True
  | s :: a :: r => (∀ j, a < j → j < t → nd ns j ≤ nd ns s) ∧ GoodS ns t (a :: r)
theorem good_up {ns : List Int} {t : Nat} : ∀ {S : List Nat}, (∀ s ∈ S, nd ns t ≤ nd ns s) → GoodS ns t S → GoodS ns (t + 1) S
  | [], _, _ => trivial
  | [_], _, _ => trivial
  | s :: a :: r, h, g => ⟨fun j h1 h2 => by
      by_cases e : j = t
      · subst e; exact h s (by simp)
      · exact g.1 j h1 (by omega), good_up (fun x hx => h x (List.mem_cons_of_mem _ hx)) g.2⟩
theorem good_rest {ns : List Int} {t : Nat} {n : Int} : ∀ {S : List Nat}, GoodS ns t S → (∀ s r, S = s :: r → ∀ j, s < j → j < t → nd ns j ≤ n) →
    GoodS ns t (restV ns n S) ∧ ∀ s r, restV ns n S = s :: r → ∀ j, s < j → j < t → nd ns j ≤ n
  | [], _, _ => ⟨trivial, fun _ _ e => by cases e⟩
  | s :: r, g, h => by
    unfold restV
    by_cases h1 : nd ns s ≤ n
    · rw [List.dropWhile_cons_of_pos (by simpa using h1)]
      cases r with
      | nil => exact ⟨trivial, fun _ _ e => by cases e⟩
      | cons a r =>
        refine good_rest g.2 fun s' r' e j h2 h3 => ?_
        injection e with e _
        subst e
        have := g.1 j h2 h3
        omega
    · rw [List.dropWhile_cons_of_neg (by simpa using h1)]
      exact ⟨g, h⟩
theorem stk_good {ns : List Int} : ∀ t, t ≤ ns.length → GoodS ns t (stkV ns t)
  | 0, _ => trivial
  | t + 1, h => by
    have O := stk_ok (ns := ns) t (by omega)
    have ih := stk_good (ns := ns) t (by omega)
    have r := good_rest (n := nd ns t) ih fun s r e j h1 h2 => by
      have := O.head s r e
      omega
    have i := inc_rest (n := nd ns t) O.inc
    have u := good_up (t := t) (fun s hs => by have := (i.2 s hs).1; omega) r.1
    rw [stk_succ O.inc]
    cases hq : restV ns (nd ns t) (stkV ns t) with
    | nil => trivial
    | cons a q =>
      rw [hq] at u
      refine ⟨fun j h1 h2 => ?_, u⟩
      by_cases e : j = t
      · subst e; omega
      · exact r.2 a q hq j h1 (by omega)
theorem stk_dec {ns : List Int} : ∀ t, t ≤ ns.length → (stkV ns t).Pairwise fun s a => a < s
  | 0, _ => List.Pairwise.nil
  | t + 1, h => by
    have O := stk_ok (ns := ns) t (by omega)
    have ih := stk_dec (ns := ns) t (by omega)
    rw [stk_succ O.inc]
    refine List.pairwise_cons.mpr ⟨fun a ha => O.lt a ((List.dropWhile_sublist _).mem ha), ih.sublist (List.dropWhile_sublist _)⟩
theorem pop_sound {ns : List Int} {t : Nat} (hn0 : ∀ i, 0 ≤ nd ns i) : ∀ (S : List Nat), GoodS ns t S → (∀ s ∈ S, s < t) → S.Pairwise (fun s a => a < s) → Inc ns S → t < ns.length →
    ∀ v ∈ (popV ns (nd ns t) t S []).2, ∃ a m, a ∈ S ∧ v = vOf ns (a + 1) m ∧ IsV ns (a + 1) m ∧ a + 1 + m = t
  | [], _, _, _, _, _, v, hv => by simp [popV] at hv
  | [s], _, _, _, _, _, v, hv => by
    unfold popV at hv
    split at hv <;> simp [popV] at hv
  | s :: a :: r, g, hl, hd, hi, ht, v, hv => by
    unfold popV at hv
    split at hv
    · rename_i hlt
      dsimp only at hv
      rw [popV_app] at hv
      rcases List.mem_append.mp hv with hv | hv
      · simp only [List.nil_append, List.mem_singleton] at hv
        have h1 := hl s (by simp)
        have h2 : a < s := (List.pairwise_cons.mp hd).1 a (by simp)
        have h3 : nd ns s < nd ns a := (List.pairwise_cons.mp hi).1 a (by simp)
        have hs : lowF ns (a + 1) (t - a - 1) = nd ns s := by
          apply Int.le_antisymm
          · exact lowF_le (hn0 s) fun i hi2 => g.1 _ (by omega) (by omega)
          · have := lowF_ge (ns := ns) (b := a + 1) (m := t - a - 1) (i := s - a - 1) (by omega)
            rw [show a + 1 + (s - a - 1) = s by omega] at this
            exact this
        have hh : highF ns (a + 1) (t - a - 1) = min (nd ns a) (nd ns t) := by
          unfold highF
          rw [show a + 1 - 1 = a by omega, show a + 1 + (t - a - 1) = t by omega]
        refine ⟨a, t - a - 1, by simp, ?_, ⟨by omega, by omega, by omega, by rw [hs, hh]; omega⟩, by omega⟩
        rw [hv]
        unfold vOf
        rw [hs, hh]
        have e1 : (a : Int) + 1 = ((a + 1 : Nat) : Int) := by omega
        have e2 : (t : Int) - a - 1 = ((t - a - 1 : Nat) : Int) := by omega
        rw [e1, e2]
      · obtain ⟨a', m, h1, h2, h3, h4⟩ := pop_sound hn0 (a :: r) g.2 (fun x hx => hl x (List.mem_cons_of_mem _ hx)) (List.pairwise_cons.mp hd).2 (List.pairwise_cons.mp hi).2 ht v hv
        exact ⟨a', m, List.mem_cons_of_mem _ h1, h2, h3, h4⟩
    · simp at hv
theorem pop_desc {ns : List Int} {n : Int} {t : Nat} : ∀ (S : List Nat), S.Pairwise (fun s a => a < s) → (popV ns n t S []).2.Pairwise (fun v u => u.1 < v.1) ∧ ∀ v ∈ (popV ns n t S []).2, ∃ a ∈ S.tail, v.1 = (a : Int) + 1
  | [], _ => by simp [popV]
  | [s], _ => by
    unfold popV
    split <;> simp [popV]
  | s :: a :: r, hd => by
    have ih := pop_desc (ns := ns) (n := n) (t := t) (a :: r) (List.pairwise_cons.mp hd).2
    have hr := (List.pairwise_cons.mp (List.pairwise_cons.mp hd).2).1
    unfold popV
    split
    · dsimp only
      rw [popV_app]
      refine ⟨List.pairwise_append.mpr ⟨by simp, ih.1, fun v hv u hu => ?_⟩, fun v hv => ?_⟩
      · simp only [List.nil_append, List.mem_singleton] at hv
        subst hv
        obtain ⟨c, hc, e⟩ := ih.2 u hu
        have := hr c hc
        dsimp only
        omega
      · rcases List.mem_append.mp hv with hv | hv
        · simp only [List.nil_append, List.mem_singleton] at hv
          subst hv
          exact ⟨a, by simp, rfl⟩
        · obtain ⟨c, hc, e⟩ := ih.2 v hv
          exact ⟨c, List.mem_cons_of_mem _ hc, e⟩
    · simp
theorem val_nodup {ns : List Int} : ∀ t, t ≤ ns.length → (valV4 ns t).Nodup
  | 0, _ => List.nodup_nil
  | t + 1, h => by
    show (valV4 ns t ++ newV ns t).Nodup
    refine List.pairwise_append.mpr ⟨val_nodup t (by omega), ?_, fun v hv u hu e => ?_⟩
    · exact (pop_desc _ (stk_dec t (by omega))).1.imp fun {v u} h e => by
        subst e
        omega
    · subst e
      obtain ⟨i, hi, o⟩ := val_ok t (by omega) v hv
      have o2 := new_ok (ns := ns) (t := t) (by omega) v hu
      have := o.fin
      have := o2.fin
      omega
theorem val_sound {ns : List Int} (hn0 : ∀ i, 0 ≤ nd ns i) : ∀ t, t ≤ ns.length → ∀ v ∈ valV4 ns t, ∃ b m, IsV ns b m ∧ v = vOf ns b m
  | 0, _, v, hv => by simp [valV4] at hv
  | t + 1, h, v, hv => by
    rcases List.mem_append.mp (show v ∈ valV4 ns t ++ newV ns t from hv) with hv | hv
    · exact val_sound hn0 t (by omega) v hv
    · have O := stk_ok (ns := ns) t (by omega)
      obtain ⟨a, m, _, h2, h3, _⟩ := pop_sound hn0 _ (stk_good t (by omega)) O.lt (stk_dec t (by omega)) O.inc (by omega) v hv
      exact ⟨a + 1, m, h3, h2⟩
theorem pop_hit {ns : List Int} {n : Int} {t s a : Nat} {r : List Nat} : ∀ (p : List Nat), (∀ x ∈ p ++ [s], nd ns x < n) → ((a : Int) + 1, (t : Int) - a - 1, nd ns s, min (nd ns a) n) ∈ (popV ns n t (p ++ s :: a :: r) []).2
  | [], h => by
    show _ ∈ (popV ns n t (s :: a :: r) []).2
    unfold popV
    rw [if_pos (h s (by simp))]
    dsimp only
    rw [popV_app]
    simp
  | [x], h => by
    show _ ∈ (popV ns n t (x :: s :: a :: r) []).2
    unfold popV
    rw [if_pos (h x (by simp))]
    dsimp only
    rw [popV_app]
    exact List.mem_append_right _ (pop_hit [] fun y hy => h y (by simp at hy ⊢; exact .inr hy))
  | x :: y :: p, h => by
    show _ ∈ (popV ns n t (x :: y :: (p ++ s :: a :: r)) []).2
    unfold popV
    rw [if_pos (h x (by simp))]
    dsimp only
    rw [popV_app]
    exact List.mem_append_right _ (pop_hit (y :: p) fun z hz => h z (List.mem_cons_of_mem _ hz))
theorem onL_last {ns : List Int} {k : Int} {a : Nat} : ∀ {t : Nat}, t ≤ ns.length → a < t → k ≤ nd ns a → (∀ j, a < j → j < t → nd ns j < k) → (onL ns k t).getLast? = some (a : Int)
  | t + 1, hl, h1, h2, h3 => by
    have hx : ns[t]? = some (nd ns t) := by
      unfold nd
      rw [List.getD_eq_getElem?_getD, List.getElem?_eq_getElem (by omega)]
      rfl
    by_cases e : a = t
    · subst e
      rw [onL_yes hx h2]
      simp
    · have := h3 t (by omega) (by omega)
      rw [onL_no hx (by omega)]
      exact onL_last (by omega) (by omega) h2 fun j h4 h5 => h3 j h4 (by omega)
theorem new_complete {ns : List Int} (hn0 : ∀ i, 0 ≤ nd ns i) {b m : Nat} (h : IsV ns b m) : vOf ns b m ∈ newV ns (b + m) := by
  obtain ⟨a, rfl⟩ : ∃ a, b = a + 1 := ⟨b - 1, by have := h.b1; omega⟩
  have hm := h.m1
  have hf := h.fin
  have hlt := h.lt
  generalize ht : a + 1 + m = t at *
  have hh : highF ns (a + 1) m = min (nd ns a) (nd ns t) := by
    unfold highF
    rw [show a + 1 - 1 = a by omega, ht]
  rw [hh] at hlt
  have O := stk_ok (ns := ns) t (by omega)
  have all : ∀ j, a < j → j < t → nd ns j ≤ lowF ns (a + 1) m := by
    intro j h1 h2
    have := lowF_ge (ns := ns) (b := a + 1) (m := m) (i := j - a - 1) (by omega)
    rw [show a + 1 + (j - a - 1) = j by omega] at this
    exact this
  have la := onL_last (ns := ns) (k := nd ns a) (a := a) (t := t) (by omega) (by omega) (Int.le_refl _) fun j h1 h2 => by
    have := all j h1 h2
    omega
  rw [O.last] at la
  obtain ⟨x, hx, ex⟩ := Option.map_eq_some_iff.mp la
  have ex : x = a := by omega
  subst ex
  obtain ⟨_, p, r, eS, hp⟩ := List.find?_eq_some_iff_append.mp hx
  have dec := stk_dec (ns := ns) t (by omega)
  have good := stk_good (ns := ns) t (by omega)
  rw [eS] at dec good
  have inc := O.inc
  rw [eS] at inc
  -- the one above
  rcases List.eq_nil_or_concat p with rfl | ⟨q, s, rfl⟩
  · have := O.head x r eS
    omega
  · have eS' : q.concat s ++ x :: r = q ++ s :: x :: r := by simp
    rw [eS'] at dec good inc eS
    have hxs : x < s := (List.pairwise_cons.mp (List.pairwise_append.mp dec).2.1).1 x (by simp)
    have hst : s < t := O.lt s (by rw [eS]; simp)
    have g2 : ∀ j, x < j → j < t → nd ns j ≤ nd ns s := by
      have : ∀ q : List Nat, GoodS ns t (q ++ s :: x :: r) → GoodS ns t (s :: x :: r) := by
        intro q
        induction q with
        | nil => exact id
        | cons y q ih =>
          intro g
          refine ih ?_
          cases q with
          | nil => exact g.2
          | cons z q => exact g.2
      exact (this q good).1
    have low : lowF ns (x + 1) m = nd ns s := Int.le_antisymm (lowF_le (hn0 s) fun i hi => g2 _ (by omega) (by omega)) (all s hxs hst)
    have hs : nd ns s < nd ns t := by omega
    have hall : ∀ y ∈ q ++ [s], nd ns y < nd ns t := by
      intro y hy
      rcases List.mem_append.mp hy with hy | hy
      · have := (List.pairwise_append.mp inc).2.2 y hy s (by simp)
        omega
      · rw [List.mem_singleton.mp hy]
        exact hs
    have hit := pop_hit (ns := ns) (n := nd ns t) (t := t) (s := s) (a := x) (r := r) q hall
    unfold newV
    rw [eS]
    unfold vOf
    rw [low, hh]
    have e1 : ((x + 1 : Nat) : Int) = (x : Int) + 1 := by omega
    have e2 : ((m : Nat) : Int) = (t : Int) - x - 1 := by omega
    rw [e1, e2]
    exact hit
theorem new_in_val {ns : List Int} {t : Nat} : ∀ {T : Nat}, t < T → ∀ v ∈ newV ns t, v ∈ valV4 ns T
  | T + 1, h, v, hv => by
    show v ∈ valV4 ns T ++ newV ns T
    by_cases e : t = T
    · subst e
      exact List.mem_append_right _ hv
    · exact List.mem_append_left _ (new_in_val (by omega) v hv)
theorem val_perm {ns : List Int} (hl : ns.length ≤ 100000) (hn0 : ∀ i, 0 ≤ nd ns i) : (valV4 ns ns.length).Perm (allV ns) := by
  refine (List.perm_ext_iff_of_nodup (val_nodup _ (Nat.le_refl _)) (strict_nodup vkey (law_key hl _).1)).mpr fun v => ?_
  rw [show v ∈ lawV ns (ns.length - 1) ↔ _ from all_mem]
  constructor
  · exact val_sound hn0 _ (Nat.le_refl _) v
  · rintro ⟨b, m, h, rfl⟩
    exact new_in_val h.fin _ (new_complete hn0 h)
/-! #### the gaps of a layer are the valleys that have it -/
theorem onL_lt {ns : List Int} {k p : Int} : ∀ {t : Nat}, t ≤ ns.length → (onL ns k t).getLast? = some p → ∃ a : Nat, p = a ∧ a < t ∧ k ≤ nd ns a ∧ ∀ j, a < j → j < t → nd ns j < k
  | 0, _, h => by simp [onL] at h
  | t + 1, hl, h => by
    have hx : ns[t]? = some (nd ns t) := by
      unfold nd
      rw [List.getD_eq_getElem?_getD, List.getElem?_eq_getElem (by omega)]
      rfl
    by_cases hk : k ≤ nd ns t
    · rw [onL_yes hx hk] at h
      have h : p = t := by simpa using h.symm
      exact ⟨t, h, by omega, hk, fun j h1 h2 => by omega⟩
    · rw [onL_no hx hk] at h
      obtain ⟨a, h1, h2, h3, h4⟩ := onL_lt (by omega) h
      refine ⟨a, h1, by omega, h3, fun j h5 h6 => ?_⟩
      by_cases e : j = t
      · subst e; omega
      · exact h4 j h5 (by omega)
def gapR (ns : List Int) (k : Int) : Nat → List (Int × Int)
  | 0 => []
  | t + 1 => gapR ns k t ++ if k ≤ nd ns t then
      (match (onL ns k t).getLast? with
       | some p => if 1 < t - p then [(p + 1, t - p - 1)] else []
       | none => []) else []
theorem pairs_step (os : List Int) (x : Int) : pairsL (os ++ [x]) (os.length) = pairsL os (os.length - 1) ++ match os.getLast? with
      | some p => if 1 < x - p then [(p + 1, x - p - 1)] else []
      | none => [] := by
  cases hos : os.length with
  | zero =>
    have : os = [] := List.length_eq_zero_iff.mp hos
    subst this
    simp [pairsL]
  | succ m =>
    have hl : os.getLast? = os[m]? := by rw [List.getLast?_eq_getElem?, hos]; rfl
    have hm : os[m]? = some (os.getD m 0) := by
      rw [List.getD_eq_getElem?_getD, List.getElem?_eq_getElem (by omega)]
      rfl
    rw [hl, hm]
    dsimp only
    have e1 : (os ++ [x]).getD (m + 1) 0 = x := by
      rw [List.getD_eq_getElem?_getD, List.getElem?_append_right (by omega), hos]
      simp
    have e2 : ∀ j, j ≤ m → (os ++ [x]).getD j 0 = os.getD j 0 := by
      intro j hj
      rw [List.getD_eq_getElem?_getD, List.getElem?_append_left (by omega), List.getD_eq_getElem?_getD]
    have e3 : pairsL (os ++ [x]) m = pairsL os m := by
      unfold pairsL
      have hf : (List.range m).filter (fun j => decide (1 < (os ++ [x]).getD (j + 1) 0 - (os ++ [x]).getD j 0)) = (List.range m).filter fun j => decide (1 < os.getD (j + 1) 0 - os.getD j 0) := by
        refine List.filter_congr fun j hj => ?_
        have := List.mem_range.mp hj
        rw [e2 _ (by omega), e2 _ (by omega)]
      rw [hf]
      refine List.map_congr_left fun j hj => ?_
      have := List.mem_range.mp (List.mem_filter.mp hj).1
      rw [e2 _ (by omega), e2 _ (by omega)]
    rw [← show pairsL os m = pairsL os (m + 1 - 1) from rfl, ← e3]
    unfold pairsL
    rw [List.range_succ, List.filter_append, List.map_append, List.filter_cons, e1, e2 m (Nat.le_refl m)]
    congr 1
    by_cases h : 1 < x - os.getD m 0
    · rw [if_pos (decide_eq_true h), if_pos h]
      simp only [List.filter_nil, List.map_cons, List.map_nil, e1, e2 m (Nat.le_refl m)]
    · rw [if_neg (by simpa using h), if_neg h]
      rfl
theorem gapR_is {ns : List Int} {k : Int} : ∀ {t : Nat}, t ≤ ns.length → pairsL (onL ns k t) ((onL ns k t).length - 1) = gapR ns k t
  | 0, _ => by simp [onL, pairsL, gapR]
  | t + 1, hl => by
    have hx : ns[t]? = some (nd ns t) := by
      unfold nd
      rw [List.getD_eq_getElem?_getD, List.getElem?_eq_getElem (by omega)]
      rfl
    unfold gapR
    by_cases hk : k ≤ nd ns t
    · rw [onL_yes hx hk, if_pos hk]
      have hlen : ((onL ns k t ++ [(t : Int)]).length - 1) = (onL ns k t).length := by simp
      rw [hlen, pairs_step, gapR_is (by omega)]
    · rw [onL_no hx hk, if_neg hk, List.append_nil, gapR_is (by omega)]
theorem gapR_mem {ns : List Int} {k : Int} {g : Int × Int} : ∀ {t : Nat}, t ≤ ns.length → (g ∈ gapR ns k t ↔ ∃ b m : Nat, 1 ≤ b ∧ 1 ≤ m ∧ b + m < t ∧ k ≤ nd ns (b - 1) ∧ k ≤ nd ns (b + m) ∧ (∀ i, i < m → nd ns (b + i) < k) ∧ g = ((b : Int), (m : Int)))
  | 0, _ => by
    constructor
    · intro h
      simp [gapR] at h
    · rintro ⟨b, m, _, _, h, _⟩
      omega
  | t + 1, hl => by
    unfold gapR
    rw [List.mem_append, gapR_mem (by omega)]
    constructor
    · rintro (⟨b, m, h1, h2, h3, h4⟩ | h)
      · exact ⟨b, m, h1, h2, by omega, h4⟩
      · split at h
        · rename_i hk
          cases hp : (onL ns k t).getLast? with
          | none => rw [hp] at h; simp at h
          | some p =>
            rw [hp] at h
            dsimp only at h
            obtain ⟨a, rfl, h2, h3, h4⟩ := onL_lt (by omega) hp
            split at h
            · rename_i h5
              have h : g = ((a : Int) + 1, (t : Int) - a - 1) := by simpa using h
              refine ⟨a + 1, t - a - 1, by omega, by omega, by omega, by simpa using h3, ?_, fun i hi => h4 _ (by omega) (by omega), ?_⟩
              · rw [show a + 1 + (t - a - 1) = t by omega]; exact hk
              · rw [h]
                congr 1
                omega
            · simp at h
        · simp at h
    · rintro ⟨b, m, h1, h2, h3, h4, h5, h6, rfl⟩
      by_cases e : b + m = t
      · refine .inr ?_
        rw [e] at h5
        have la := onL_last (ns := ns) (k := k) (a := b - 1) (t := t) (by omega) (by omega) h4 fun j h7 h8 => by
          have := h6 (j - b) (by omega)
          rw [show b + (j - b) = j by omega] at this
          exact this
        rw [if_pos h5, la]
        dsimp only
        rw [if_pos (by omega)]
        have e1 : ((b - 1 : Nat) : Int) + 1 = b := by omega
        have e2 : (t : Int) - ((b - 1 : Nat) : Int) - 1 = m := by omega
        rw [e1, e2]
        simp
      · exact .inl ⟨b, m, h1, h2, by omega, h4, h5, h6, rfl⟩
theorem gapR_key {ns : List Int} {k : Int} : ∀ {t : Nat}, t ≤ ns.length → (gapR ns k t).Pairwise (fun g h => g.1 < h.1) ∧ ∀ g ∈ gapR ns k t, ∃ p, (onL ns k t).getLast? = some p ∧ g.1 + g.2 ≤ p ∧ 0 ≤ g.2
  | 0, _ => by simp [gapR]
  | t + 1, hl => by
    have hx : ns[t]? = some (nd ns t) := by
      unfold nd
      rw [List.getD_eq_getElem?_getD, List.getElem?_eq_getElem (by omega)]
      rfl
    have ih := gapR_key (ns := ns) (k := k) (t := t) (by omega)
    unfold gapR
    by_cases hk : k ≤ nd ns t
    · rw [if_pos hk, onL_yes hx hk]
      have old : ∀ g ∈ gapR ns k t, ∃ p, (onL ns k t ++ [(t : Int)]).getLast? = some p ∧ g.1 + g.2 ≤ p ∧ 0 ≤ g.2 := by
        intro g hg
        obtain ⟨p, h1, h2, h3⟩ := ih.2 g hg
        obtain ⟨a, rfl, h4, _⟩ := onL_lt (by omega) h1
        exact ⟨t, by simp, by omega, h3⟩
      cases hp : (onL ns k t).getLast? with
      | none =>
        dsimp only
        rw [List.append_nil]
        exact ⟨ih.1, old⟩
      | some p =>
        dsimp only
        split
        · refine ⟨List.pairwise_append.mpr ⟨ih.1, by simp, fun g hg u hu => ?_⟩, fun g hg => ?_⟩
          · obtain ⟨p', h1, h2, h3⟩ := ih.2 g hg
            rw [hp] at h1
            injection h1 with h1
            rw [List.mem_singleton] at hu
            subst hu
            dsimp only
            omega
          · rcases List.mem_append.mp hg with hg | hg
            · exact old g hg
            · rw [List.mem_singleton] at hg
              subst hg
              refine ⟨t, by simp, ?_, ?_⟩ <;> (dsimp only; omega)
        · rw [List.append_nil]
          exact ⟨ih.1, old⟩
    · rw [if_neg hk, List.append_nil, onL_no hx hk]
      exact ih
def hasK (k : Int) (v : V4) : Bool := decide (v.2.2.1 < k ∧ k ≤ v.2.2.2)
theorem all_gaps {ns : List Int} {k : Int} (hk : 1 ≤ k) (hl : ns.length ≤ 100000) : ((allV ns).filter (hasK k)).map (fun v => (v.1, v.2.1)) = gapsL ns k := by
  unfold gapsL
  rw [gapR_is (Nat.le_refl _)]
  have G := gapR_key (ns := ns) (k := k) (Nat.le_refl _)
  have L := (law_key hl (ns.length - 1)).1
  have mem : ∀ g, g ∈ ((allV ns).filter (hasK k)).map (fun v => (v.1, v.2.1)) ↔ g ∈ gapR ns k ns.length := by
    intro g
    rw [gapR_mem (Nat.le_refl _), List.mem_map]
    constructor
    · rintro ⟨v, hv, rfl⟩
      obtain ⟨h1, h2⟩ := List.mem_filter.mp hv
      obtain ⟨b, m, h, rfl⟩ := all_mem.mp h1
      have h2 : lowF ns b m < k ∧ k ≤ highF ns b m := of_decide_eq_true h2
      unfold highF at h2
      refine ⟨b, m, h.b1, h.m1, h.fin, by omega, by omega, fun i hi => ?_, rfl⟩
      have := lowF_ge (ns := ns) (b := b) hi
      omega
    · rintro ⟨b, m, h1, h2, h3, h4, h5, h6, rfl⟩
      have lo : lowF ns b m < k := by
        have := lowF_le (ns := ns) (b := b) (M := k - 1) (by omega) (m := m) fun i hi => by have := h6 i hi; omega
        omega
      have hi : k ≤ highF ns b m := by
        unfold highF
        omega
      refine ⟨vOf ns b m, List.mem_filter.mpr ⟨all_mem.mpr ⟨b, m, ⟨h1, h2, h3, by omega⟩, rfl⟩, decide_eq_true ⟨lo, hi⟩⟩, rfl⟩
  have B : ∀ g ∈ gapR ns k ns.length, 0 ≤ g.2 ∧ g.2 ≤ 100000 := by
    intro g hg
    obtain ⟨b, m, h1, h2, h3, _, _, _, rfl⟩ := (gapR_mem (Nat.le_refl _)).mp hg
    dsimp only
    omega
  refine strict_ext (fun g : Int × Int => g.1 * 1000000 + g.2) ?_ ?_ mem
  · refine List.pairwise_map.mpr ((L.sublist (List.filter_sublist)).imp fun {v u} h => ?_)
    exact h
  · refine List.Pairwise.imp_of_mem (fun {g u} hg hu h => ?_) G.1
    have := B g hg
    have := B u hu
    omega
/-! #### all needs many times as great -/
def scaleV (c : Int) (v : V4) : V4 := (v.1, v.2.1, c * v.2.2.1, c * v.2.2.2)
theorem nd_scale {ns : List Int} {c : Int} (i : Nat) : nd (ns.map (c * ·)) i = c * nd ns i := by
  unfold nd
  rw [List.getD_eq_getElem?_getD, List.getD_eq_getElem?_getD, List.getElem?_map]
  cases ns[i]? <;> simp
theorem mul_max {c a b : Int} (hc : 0 ≤ c) : max (c * a) (c * b) = c * max a b := by
  rcases Int.le_total a b with h | h
  · rw [Int.max_eq_right h, Int.max_eq_right (Int.mul_le_mul_of_nonneg_left h hc)]
  · rw [Int.max_eq_left h, Int.max_eq_left (Int.mul_le_mul_of_nonneg_left h hc)]
theorem mul_min {c a b : Int} (hc : 0 ≤ c) : min (c * a) (c * b) = c * min a b := by
  rcases Int.le_total a b with h | h
  · rw [Int.min_eq_left h, Int.min_eq_left (Int.mul_le_mul_of_nonneg_left h hc)]
  · rw [Int.min_eq_right h, Int.min_eq_right (Int.mul_le_mul_of_nonneg_left h hc)]
theorem lowF_scale {ns : List Int} {c : Int} (hc : 0 ≤ c) {b : Nat} : ∀ m, lowF (ns.map (c * ·)) b m = c * lowF ns b m
  | 0 => by simp [lowF]
  | m + 1 => by
    show max _ _ = c * max _ _
    rw [lowF_scale hc m, nd_scale, mul_max hc]
theorem vOf_scale {ns : List Int} {c : Int} (hc : 0 ≤ c) {b m : Nat} : vOf (ns.map (c * ·)) b m = scaleV c (vOf ns b m) := by
  unfold vOf scaleV highF
  rw [lowF_scale hc, nd_scale, nd_scale, mul_min hc]
theorem row_scale {ns : List Int} {c : Int} (hc : 1 ≤ c) {b : Nat} : ∀ n, rowV (ns.map (c * ·)) b n = (rowV ns b n).map (scaleV c)
  | 0 => rfl
  | n + 1 => by
    unfold rowV
    rw [row_scale hc n, List.map_append, vOf_scale (by omega)]
    have h : (lowF (ns.map (c * ·)) b (n + 1) < highF (ns.map (c * ·)) b (n + 1)) ↔ (lowF ns b (n + 1) < highF ns b (n + 1)) := by
      unfold highF
      rw [lowF_scale (by omega), nd_scale, nd_scale, mul_min (by omega)]
      exact Int.mul_lt_mul_left (by omega)
    by_cases e : lowF ns b (n + 1) < highF ns b (n + 1)
    · rw [if_pos e, if_pos (h.mpr e)]
      rfl
    · rw [if_neg e, if_neg fun q => e (h.mp q)]
      rfl
theorem all_scale {ns : List Int} {c : Int} (hc : 1 ≤ c) : allV (ns.map (c * ·)) = (allV ns).map (scaleV c) := by
  have key : ∀ j, lawV (ns.map (c * ·)) j = (lawV ns j).map (scaleV c) := by
    intro j
    induction j with
    | zero => rfl
    | succ j ih =>
      unfold lawV
      rw [ih, row_scale hc, List.map_append, List.length_map]
  unfold allV
  rw [key, List.length_map]
end WK
namespace WK
open PySem PySem.Spec PyProof.Rows L2
theorem all_bd {ns : List Int} (hN : Nds ns) : ∀ v ∈ allV ns, TS.Bd BV (v4L v) := by
  intro v hv
  have p := val_perm (ns := ns) (by have := hN.len; omega) (fun i => (hN.nd i).1)
  exact val_bd hN v (p.symm.mem_iff.mp hv)
theorem all_code {ns : List Int} (hN : Nds ns) : (allV ns).Pairwise fun v u => TS.code BV (v4L v) < TS.code BV (v4L u) := by
  have hl := hN.len
  have K := (law_key (ns := ns) (by omega) (ns.length - 1))
  refine List.Pairwise.imp_of_mem (fun {v u} hv hu h => ?_) K.1
  have b1 := K.2 v hv
  have b2 := K.2 u hu
  have d1 := all_bd hN v hv
  have d2 := all_bd hN u hu
  unfold v4L at d1 d2 ⊢
  unfold vkey at h
  by_cases e : v.1 = u.1
  · rw [e]
    have q := TS.code_lt (B := BV) (d := v.2.1) (e := u.2.1) (r := [v.2.2.1, v.2.2.2]) (q := [u.2.2.1, u.2.2.2]) rfl d1.tail.tail d2.tail.tail (by omega)
    exact (TS.code_same (B := BV) (d := u.1) (r := [v.2.1, v.2.2.1, v.2.2.2]) (q := [u.2.1, u.2.2.1, u.2.2.2]) rfl).mpr q
  · exact TS.code_lt rfl d1.tail d2.tail (by omega)
theorem all_is {ns : List Int} (hN : Nds ns) {l : List V4} (p : l.Perm (valV4 ns ns.length)) (c : CodeLe l) : l = allV ns :=
  strict_eq (fun v => TS.code BV (v4L v)) (p.trans (val_perm (by have := hN.len; omega) fun i => (hN.nd i).1)) c (all_code hN)
def spLawVal (K : PySem.W.Frag) : Sp := fun vs H Q _ => ∃ (t : Addr) (ns : List Int), vs = [.ref t] ∧ H t = some (.tup (ns.map V.int)) ∧ ns.length ≤ 200 ∧
  ∀ H' g ws, Same H H' → H g = none → H' g = some (.lst ws) → AllT K H' ws ((allV ns).map v4L) → Q (.ref g) H'
theorem row_len {ns : List Int} {b : Nat} : ∀ n, (rowV ns b n).length ≤ n
  | 0 => by simp [rowV]
  | n + 1 => by
    have := row_len (ns := ns) (b := b) n
    unfold rowV
    rw [List.length_append]
    split <;> simp <;> omega
theorem law_len {ns : List Int} : ∀ j, (lawV ns j).length ≤ j * ns.length
  | 0 => by simp [lawV]
  | j + 1 => by
    have := law_len (ns := ns) j
    have r := row_len (ns := ns) (b := j + 1) (ns.length - 1 - (j + 1))
    unfold lawV
    rw [List.length_append, Nat.succ_mul]
    omega
theorem all_len {ns : List Int} (hN : Nds ns) : (allV ns).length + 1 ≤ ns.length ∨ ns = [] := by
  rw [← (val_perm (ns := ns) (by have := hN.len; omega) fun i => (hN.nd i).1).length_eq]
  have v := val_len (ns := ns) ns.length (Nat.le_refl _)
  have O := stk_ok (ns := ns) ns.length (Nat.le_refl _)
  cases ns with
  | nil => exact .inr rfl
  | cons z r =>
    have := O.some (by simp)
    have : 0 < (stkV (z :: r) (z :: r).length).length := List.length_pos_iff.mpr this
    exact .inl (by omega)
end WK
namespace WK
open PySem PySem.Spec PyProof.Rows L2
def v4D (v : V4) : PyData := .tuple (intsD (v4L v))
theorem allT_dp {K : PySem.W.Frag} {H : Hp} : ∀ {ws : List V} {l : List V4}, AllT K H ws (l.map v4L) → DpAll K H ws (l.map v4D)
  | _, [], .nil => .nil
  | _, _ :: _, .cons ⟨_, e, h⟩ b => by
    subst e
    exact .cons (.tup h (dp_ints _)) (allT_dp b)
theorem shows_v4 {l : List V4} (h : ∀ v ∈ l, ∀ z ∈ v4L v, z.natAbs < 10 ^ 150) (hl : l.length ≤ 1000) : Shows (.list (l.map v4D)) := by
  have c : costAll (l.map v4D) ≤ l.length * 700 := by
    have := costAll_le (c := 650) (xs := l.map v4D) fun x hx => by
      obtain ⟨v, _, rfl⟩ := List.mem_map.mp hx
      have := cost_ints (ns := v4L v)
      simp only [v4D, cost]
      have e : (v4L v).length = 4 := rfl
      omega
    rw [List.length_map] at this
    omega
  refine shows_of ?_ ?_ ?_
  · simp only [Lil]
    exact lilAll_iff.mpr fun x hx => by
      obtain ⟨v, hv, rfl⟩ := List.mem_map.mp hx
      simpa only [v4D, Lil] using lil_ints (h v hv)
  · simp only [PyData.depth]
    have := depthAll_le (c := 1) (xs := l.map v4D) fun x hx => by
      obtain ⟨v, _, rfl⟩ := List.mem_map.mp hx
      simp only [v4D, PyData.depth, depth_ints]
      omega
    omega
  · simp only [cost]
    refine Nat.le_trans (show _ ≤ 1000000 by omega) (by decide)
theorem all_small {ns : List Int} (hN : Nds ns) : ∀ v ∈ allV ns, ∀ z ∈ v4L v, z.natAbs < 10 ^ 150 := by
  intro v hv z hz
  have := all_bd hN v hv z hz
  have e : (2000000000 : Nat) < 10 ^ 150 := by decide +kernel
  unfold BV at this
  omega
theorem nds_scale {ns : List Int} {c M : Int} (h : Nds ns) (hc : 1 ≤ c) (hM : ∀ z ∈ ns, z ≤ M) (hb : c * M ≤ 1000000000) : Nds (ns.map (c * ·)) := by
  refine ⟨by rw [List.length_map]; exact h.len, fun z hz => ?_⟩
  obtain ⟨y, hy, rfl⟩ := List.mem_map.mp hz
  have h1 := h.pos y hy
  have h2 := hM y hy
  have h3 : c * y ≤ c * M := Int.mul_le_mul_of_nonneg_left h2 (by omega)
  have h4 : 0 ≤ c * y := Int.mul_nonneg (by omega) h1.1
  show 0 ≤ c * y ∧ c * y ≤ _
  omega
end WK
namespace WK
open PySem PySem.Spec PyProof.Rows L2
def p2L (v : V4) : List Int := [v.1, v.2.1]
def tupsD (L : List (List Int)) : List PyData := L.map fun ns => .tuple (intsD ns)
theorem allT_dpG {K : PySem.W.Frag} {H : Hp} : ∀ {ws : List V} {l : List (List Int)}, AllT K H ws l → DpAll K H ws (tupsD l)
  | _, _, .nil => .nil
  | _, _, .cons ⟨_, e, h⟩ b => by
    subst e
    exact .cons (.tup h (dp_ints _)) (allT_dpG b)
theorem lay_tups {L : List (List Int)} : PyData.canLayAll0 (tupsD L) = true := by
  rw [canLayAll_iff]
  intro x hx
  obtain ⟨ns, _, rfl⟩ := List.mem_map.mp hx
  simp only [PyData.canLay0, lay_ints]
theorem shaped_tups {L : List (List Int)} : SeqAt.shaped (.list (tupsD L)) = true := by
  have d : PyData.depthAll (tupsD L) ≤ 1 := depthAll_le fun x hx => by
    obtain ⟨v, _, rfl⟩ := List.mem_map.mp hx
    simp only [PyData.depth, depth_ints]
    omega
  have e : (PyData.list (tupsD L)).depth ≤ 64 := by
    simp only [PyData.depth]
    omega
  simp only [SeqAt.shaped, PyData.canLay0, lay_tups, Bool.true_and]
  exact decide_eq_true e
theorem eqv_tups {L : List (List Int)} : PyData.eqv (.list (tupsD L)) (.list (tupsD L)) = true :=
  PySem.SeqAt.eqv_refl _ (by simp only [PyData.canLay0, lay_tups])
theorem pairs_tups {ns : List Int} {k : Int} (hk : 1 ≤ k) (hl : ns.length ≤ 100000) : tupsD (((allV ns).filter (hasK k)).map p2L) = (gapsL ns k).map prD := by
  rw [← all_gaps hk hl]
  unfold tupsD
  rw [List.map_map, List.map_map]
  rfl
theorem p2_code {ns : List Int} (hN : Nds ns) : (((allV ns)).map p2L).Pairwise fun v u => TS.code BV v < TS.code BV u := by
  have hl := hN.len
  have K := (law_key (ns := ns) (by omega) (ns.length - 1))
  refine List.pairwise_map.mpr (List.Pairwise.imp_of_mem (fun {v u} hv hu h => ?_) K.1)
  have b1 := K.2 v hv
  have b2 := K.2 u hu
  have d1 := all_bd hN v hv
  have d2 := all_bd hN u hu
  unfold v4L at d1 d2
  have x1 := d1.tail.head
  have x2 := d2.tail.head
  unfold vkey at h
  have y1 : TS.Bd BV [v.2.1] := by intro m hm; rw [List.mem_singleton] at hm; subst hm; exact x1
  have y2 : TS.Bd BV [u.2.1] := by intro m hm; rw [List.mem_singleton] at hm; subst hm; exact x2
  show TS.code BV [v.1, v.2.1] < TS.code BV [u.1, u.2.1]
  by_cases e : v.1 = u.1
  · rw [e]
    have q := TS.code_lt (B := BV) (d := v.2.1) (e := u.2.1) (r := []) (q := []) rfl (fun m hm => by simp at hm) (fun m hm => by simp at hm) (by omega)
    exact (TS.code_same (B := BV) (d := u.1) (r := [v.2.1]) (q := [u.2.1]) rfl).mpr q
  · exact TS.code_lt rfl y1 y2 (by omega)
/-- what sorted makes of tuples that ascend is the same -/
theorem code_leL {K : PySem.W.Frag} {H : Hp} : ∀ {ys : List V} {l : List (List Int)}, AllT K H ys l → ys.Pairwise (fun x y => ∀ n m, TupI K H x n → TupI K H y m → TS.code BV n ≤ TS.code BV m) → l.Pairwise fun n m => TS.code BV n ≤ TS.code BV m
  | _, _, .nil, _ => List.Pairwise.nil
  | y :: ys, v :: l, .cons a b, h => by
    have h' := List.pairwise_cons.mp h
    refine List.pairwise_cons.mpr ⟨fun u hu => ?_, code_leL b h'.2⟩
    obtain ⟨x, hx, hxu⟩ := AllT.memR b hu
    exact h'.1 x hx _ _ a hxu
theorem p2_bd {ns : List Int} (hN : Nds ns) : ∀ v ∈ allV ns, TS.Bd BV (p2L v) := by
  intro v hv
  have d := all_bd hN v hv
  unfold v4L at d
  intro m hm
  refine d m ?_
  simp only [p2L, List.mem_cons, List.not_mem_nil, or_false] at hm ⊢
  rcases hm with h | h
  · exact .inl h
  · exact .inr (.inl h)
end WK
namespace WK
open PySem PySem.Spec PyProof.Rows L2
theorem sqt_off {K : PySem.W.Frag} {H H' : Hp} {p c t : Addr} {l : List V} (o : Off p c H H') (S : Src H p c) (h : SqT K H t l) : SqT K H' t l := by
  obtain ⟨cells, a, m, x, e1, e2⟩ := S.ex
  rcases h with (h | ⟨q, h⟩) | h
  · exact .inl (.inl (o _ _ (ne_of h e1 (by intro z; cases z)) (ne_of h e2 (by intro z; cases z)) h))
  · exact .inl (.inr ⟨q, o _ _ (ne_of h e1 (by intro z; cases z)) (ne_of h e2 (by intro z; cases z)) h⟩)
  · exact .inr h
theorem AllT.off {K : PySem.W.Frag} {H H' : Hp} {p c : Addr} (o : Off p c H H') (S : Src H p c) : ∀ {vs : List V} {ss : List (List Int)}, AllT K H vs ss → AllT K H' vs ss
  | _, _, .nil => .nil
  | _, _, .cons ⟨t, e, h⟩ b => .cons ⟨t, e, sqt_off o S h⟩ (AllT.off o S b)
end WK
set_option Elab.async false
set_option linter.all false
set_option maxRecDepth 100000
namespace WK
open PySem PySem.Spec PyProof.Rows L2
/-! ### what is held: the least over all numbers to come from -/
theorem cnt_iff {P : Int → Bool} (mono : ∀ a c, a ≤ c → P c = true → P a = true) : ∀ {l : List Int}, l.Pairwise (· ≤ ·) → ∀ {i : Nat} {z : Int}, l[i]? = some z → (i < (l.filter P).length ↔ P z = true)
  | [], _, i, z, h => by simp at h
  | y :: l, hs, i, z, h => by
    have hp := List.pairwise_cons.mp hs
    by_cases hy : P y = true
    · rw [List.filter_cons, if_pos hy, List.length_cons]
      cases i with
      | zero =>
        have e : y = z := Option.some.inj h
        subst e
        simp [hy]
      | succ i =>
        rw [List.getElem?_cons_succ] at h
        rw [← cnt_iff mono hp.2 h]
        omega
    · rw [List.filter_cons, if_neg hy]
      have none : ∀ z ∈ y :: l, P z ≠ true := by
        intro z hz
        rcases List.mem_cons.mp hz with rfl | hz
        · exact hy
        · exact fun q => hy (mono y z (hp.1 z hz) q)
      have e : l.filter P = [] := List.filter_eq_nil_iff.mpr fun z hz => none z (List.mem_cons_of_mem _ hz)
      rw [e]
      have := none z (List.mem_of_getElem? h)
      simp [this]
def clampZ (z b : Int) : Int := mn (mx 0 z) b
theorem clampZ_bd {z b : Int} (hb : 0 ≤ b) : 0 ≤ clampZ z b ∧ clampZ z b ≤ b := by
  unfold clampZ
  rw [mn_eq, mx_eq]
  omega
theorem clampZ_mono {z u b : Int} (h : z ≤ u) : clampZ z b ≤ clampZ u b := by
  unfold clampZ
  rw [mn_eq, mx_eq, mn_eq, mx_eq]
  omega
/-- the step of what is held, from x to x + 1 -/
def stH (s : Slt) (b x : Int) : Int := if x < s.need then 0 else if x < s.most then clampZ (s.slopes.getD (x - s.need).toNat 0) b else b
theorem stH_bd {s : Slt} {b x : Int} (hb : 0 ≤ b) : 0 ≤ stH s b x ∧ stH s b x ≤ b := by
  unfold stH
  have := clampZ_bd (z := s.slopes.getD (x - s.need).toNat 0) hb
  split
  · omega
  · split <;> omega
theorem clampL_at {l : List Int} {b : Int} {i : Nat} (h : i < l.length) : (clampL l b)[i]? = some (clampZ (l.getD i 0) b) := by
  unfold clampL
  rw [List.getElem?_map, List.getD_eq_getElem?_getD, List.getElem?_eq_getElem h]
  rfl
theorem clampL_len {l : List Int} {b : Int} : (clampL l b).length = l.length := List.length_map ..
theorem held_step {s : Slt} {b x : Int} (h : s.Len) : heldWorth s b (x + 1) = heldWorth s b x + stH s b x := by
  have hl := h.len
  have hm := h.mid
  unfold heldWorth stH
  simp only [mx_eq]
  by_cases h1 : x < s.need
  · rw [if_pos h1, show max 0 (x + 1 - s.need) = 0 by omega, show max 0 (x - s.need) = 0 by omega, show max 0 (x + 1 - s.most) = 0 by omega, show max 0 (x - s.most) = 0 by omega]
    omega
  · rw [if_neg h1]
    by_cases h2 : x < s.most
    · rw [if_pos h2, show max 0 (x + 1 - s.most) = 0 by omega, show max 0 (x - s.most) = 0 by omega, show max 0 (x + 1 - s.need) = x - s.need + 1 by omega, show max 0 (x - s.need) = x - s.need by omega]
      rw [show (x - s.need + 1).toNat = (x - s.need).toNat + 1 by omega, take_sum (clampL_at (by omega))]
      omega
    · rw [if_neg h2, List.take_of_length_le (by rw [clampL_len]; omega), List.take_of_length_le (by rw [clampL_len]; omega)]
      rw [show max 0 (x + 1 - s.most) = x - s.most + 1 by omega, show max 0 (x - s.most) = x - s.most by omega, Int.mul_add]
      omega
theorem cost_step {s : Slt} {x : Int} (h : s.Len) (h1 : s.need ≤ x) (h2 : x < s.most) : costAt s (x + 1) = costAt s x + s.slopes.getD (x - s.need).toNat 0 := by
  have hl := h.len
  unfold costAt
  rw [show (x + 1 - s.need).toNat = (x - s.need).toNat + 1 by omega, take_sum (z := s.slopes.getD (x - s.need).toNat 0) (by rw [List.getD_eq_getElem?_getD, List.getElem?_eq_getElem (by omega)]; rfl)]
  omega
/-- a work of the document -/
structure Slt.Wk (s : Slt) : Prop where
  len : s.Len
  lo : 0 ≤ s.need
  asc : s.slopes.Pairwise (· ≤ ·)
theorem slope_at {s : Slt} (h : s.Len) {x : Int} (h1 : s.need ≤ x) (h2 : x < s.most) : s.slopes[(x - s.need).toNat]? = some (s.slopes.getD (x - s.need).toNat 0) := by
  have hl := h.len
  rw [List.getD_eq_getElem?_getD, List.getElem?_eq_getElem (by omega)]
  rfl
theorem low_iff {s : Slt} (h : s.Wk) {x : Int} (h1 : s.need ≤ x) (h2 : x < s.most) : x < lowW s ↔ s.slopes.getD (x - s.need).toNat 0 < 0 := by
  have c := cnt_iff (P := fun z => decide (z < 0)) (fun a c hac hc => by simp at hc ⊢; omega) h.asc (slope_at h.len h1 h2)
  simp only [decide_eq_true_eq] at c
  rw [← c]
  unfold lowW
  omega
theorem lowW_in {s : Slt} (h : s.Wk) : s.need ≤ lowW s ∧ lowW s ≤ s.most := by
  have hl := h.len.len
  have := List.length_filter_le (fun z => decide (z < 0)) s.slopes
  unfold lowW
  omega
theorem high_iff {s : Slt} (h : s.Wk) {b x : Int} (h1 : s.need ≤ x) (h2 : x < s.most) : x < highW s b ↔ s.slopes.getD (x - s.need).toNat 0 ≤ b := by
  have c := cnt_iff (P := fun z => decide (z ≤ b)) (fun a c hac hc => by simp at hc ⊢; omega) h.asc (slope_at h.len h1 h2)
  simp only [decide_eq_true_eq] at c
  rw [← c]
  unfold highW
  omega
theorem highW_in {s : Slt} {b : Int} (h : s.Wk) : s.need ≤ highW s b ∧ highW s b ≤ s.most := by
  have hl := h.len.len
  have := List.length_filter_le (fun z => decide (z ≤ b)) s.slopes
  unfold highW
  omega
theorem low_high {s : Slt} {b : Int} (hb : 0 ≤ b) (h : s.Wk) : lowW s ≤ highW s b := by
  by_cases q : lowW s ≤ highW s b
  · exact q
  · have a := lowW_in h
    have c := highW_in (b := b) h
    have e1 := (low_iff h (x := highW s b) (by omega) (by omega)).mp (by omega)
    have e2 := (high_iff h (b := b) (x := highW s b) (by omega) (by omega)).mpr (by omega)
    omega
/-- going up by n -/
theorem held_up {s : Slt} {b : Int} (h : s.Len) (hb : 0 ≤ b) (x : Int) : ∀ n : Nat, heldWorth s b x ≤ heldWorth s b (x + n) ∧ heldWorth s b (x + n) ≤ heldWorth s b x + b * n
  | 0 => by simp
  | n + 1 => by
    have ih := held_up h hb x n
    have e := held_step (b := b) (x := x + n) h
    have c := stH_bd (s := s) (x := x + n) hb
    have g : (x + ((n + 1 : Nat) : Int)) = x + n + 1 := by omega
    rw [g, e, Int.natCast_add, Int.mul_add]
    simp only [Int.natCast_one, Int.mul_one]
    omega
theorem held_low {s : Slt} {b x : Int} (h : s.Wk) (hb : 0 ≤ b) (hx : x ≤ lowW s) : heldWorth s b x = leastW s := by
  have base : ∀ y, y ≤ s.need → heldWorth s b y = leastW s := by
    intro y hy
    have := h.len.mid
    unfold heldWorth
    simp only [mx_eq]
    rw [show max 0 (y - s.need) = 0 by omega, show max 0 (y - s.most) = 0 by omega]
    simp
  have key : ∀ n : Nat, s.need + n ≤ lowW s → heldWorth s b (s.need + n) = leastW s := by
    intro n
    induction n with
    | zero => intro _; simpa using base s.need (Int.le_refl _)
    | succ n ih =>
      intro hn
      have a := lowW_in h
      have g : (s.need + ((n + 1 : Nat) : Int)) = s.need + n + 1 := by omega
      rw [g, held_step h.len, ih (by omega)]
      have q := (low_iff h (x := s.need + n) (by omega) (by omega)).mp (by omega)
      unfold stH clampZ
      rw [if_neg (by omega), if_pos (by omega), mn_eq, mx_eq]
      omega
  by_cases q : x ≤ s.need
  · exact base x q
  · have := key (x - s.need).toNat (by omega)
    rw [show s.need + ((x - s.need).toNat : Int) = x by omega] at this
    exact this
theorem held_mid {s : Slt} {b : Int} (h : s.Wk) (hb : 0 ≤ b) : ∀ n : Nat, lowW s + n ≤ highW s b → heldWorth s b (lowW s + n) = costAt s (lowW s + n)
  | 0, _ => by
    have := held_low (x := lowW s) h hb (Int.le_refl _)
    simp only [Int.natCast_zero, Int.add_zero]
    exact this
  | n + 1, hn => by
    have a := lowW_in h
    have c := highW_in (b := b) h
    have ih := held_mid h hb n (by omega)
    have g : (lowW s + ((n + 1 : Nat) : Int)) = lowW s + n + 1 := by omega
    rw [g, held_step h.len, ih, cost_step h.len (by omega) (by omega)]
    have q1 : ¬ s.slopes.getD (lowW s + n - s.need).toNat 0 < 0 := fun q => by
      have := (low_iff h (x := lowW s + n) (by omega) (by omega)).mpr q
      omega
    have q2 := (high_iff h (b := b) (x := lowW s + n) (by omega) (by omega)).mp (by omega)
    unfold stH clampZ
    rw [if_neg (by omega), if_pos (by omega), mn_eq, mx_eq]
    omega
theorem held_high {s : Slt} {b : Int} (h : s.Wk) (hb : 0 ≤ b) : ∀ n : Nat, heldWorth s b (highW s b + n) = heldWorth s b (highW s b) + b * n
  | 0 => by simp
  | n + 1 => by
    have a := lowW_in h
    have c := highW_in (b := b) h
    have ih := held_high h hb n
    have g : (highW s b + ((n + 1 : Nat) : Int)) = highW s b + n + 1 := by omega
    rw [g, held_step h.len, ih, Int.natCast_add, Int.mul_add]
    have e : stH s b (highW s b + n) = b := by
      unfold stH
      rw [if_neg (by omega)]
      by_cases q : highW s b + n < s.most
      · rw [if_pos q]
        have q2 : ¬ s.slopes.getD (highW s b + n - s.need).toNat 0 ≤ b := fun q2 => by
          have := (high_iff h (b := b) (x := highW s b + n) (by omega) (by omega)).mpr q2
          omega
        unfold clampZ
        rw [mn_eq, mx_eq]
        omega
      · rw [if_neg q]
    rw [e]
    simp only [Int.natCast_one, Int.mul_one]
    omega
/-- at its numbers a work is nowhere less than what is held -/
theorem held_le {s : Slt} {b x : Int} (h : s.Wk) (hb : 0 ≤ b) (h1 : s.need ≤ x) (h2 : x ≤ s.most) : heldWorth s b x ≤ costAt s x := by
  have a := lowW_in h
  by_cases hx : x ≤ lowW s
  · rw [held_low h hb hx]
    have key : ∀ n : Nat, s.need ≤ lowW s - n → leastW s ≤ costAt s (lowW s - n) := by
      intro n
      induction n with
      | zero => intro _; simp [leastW]
      | succ n ih =>
        intro hn
        have ih := ih (by omega)
        have e := cost_step h.len (x := lowW s - ((n + 1 : Nat) : Int)) (by omega) (by omega)
        have q := (low_iff h (x := lowW s - ((n + 1 : Nat) : Int)) (by omega) (by omega)).mp (by omega)
        rw [show lowW s - ((n + 1 : Nat) : Int) + 1 = lowW s - n by omega] at e
        omega
    have := key (lowW s - x).toNat (by omega)
    rw [show lowW s - ((lowW s - x).toNat : Int) = x by omega] at this
    exact this
  · have key : ∀ n : Nat, lowW s + n ≤ s.most → heldWorth s b (lowW s + n) ≤ costAt s (lowW s + n) := by
      intro n
      induction n with
      | zero =>
        intro _
        have := held_low (x := lowW s) h hb (Int.le_refl _)
        simp only [Int.natCast_zero, Int.add_zero]
        rw [this]
        exact Int.le_refl _
      | succ n ih =>
        intro hn
        have ih := ih (by omega)
        have g : (lowW s + ((n + 1 : Nat) : Int)) = lowW s + n + 1 := by omega
        rw [g, held_step h.len, cost_step h.len (by omega) (by omega)]
        have q1 : ¬ s.slopes.getD (lowW s + n - s.need).toNat 0 < 0 := fun q => by
          have := (low_iff h (x := lowW s + n) (by omega) (by omega)).mpr q
          omega
        have e : stH s b (lowW s + n) ≤ s.slopes.getD (lowW s + n - s.need).toNat 0 := by
          unfold stH clampZ
          rw [if_neg (by omega), if_pos (by omega), mn_eq, mx_eq]
          omega
        omega
    have := key (x - lowW s).toNat (by omega)
    rw [show lowW s + ((x - lowW s).toNat : Int) = x by omega] at this
    exact this
theorem up_eq (d : Int) : up d = max 0 d := by
  unfold up
  split <;> omega
/-- held is at most what any number to come from gives -/
theorem held_lower {s : Slt} {b x y : Int} (h : s.Wk) (hb : 0 ≤ b) (h1 : s.need ≤ y) (h2 : y ≤ s.most) : heldWorth s b x ≤ costAt s y + b * up (x - y) := by
  have e := held_le h hb h1 h2
  rw [up_eq]
  by_cases q : y ≤ x
  · have u := (held_up h.len hb y (x - y).toNat).2
    rw [show y + ((x - y).toNat : Int) = x by omega, show ((x - y).toNat : Int) = max 0 (x - y) by omega] at u
    omega
  · have u := (held_up h.len hb x (y - x).toNat).1
    rw [show x + ((y - x).toNat : Int) = y by omega] at u
    rw [show max 0 (x - y) = 0 by omega]
    omega
/-- and one number gives just that -/
theorem held_reach {s : Slt} {b : Int} (x : Int) (h : s.Wk) (hb : 0 ≤ b) : ∃ y, s.need ≤ y ∧ y ≤ s.most ∧ heldWorth s b x = costAt s y + b * up (x - y) := by
  have a := lowW_in h
  have c := highW_in (b := b) h
  have lh := low_high hb h
  by_cases q1 : x ≤ lowW s
  · refine ⟨lowW s, a.1, a.2, ?_⟩
    rw [held_low h hb q1, up_eq, show max 0 (x - lowW s) = 0 by omega]
    simp [leastW]
  · by_cases q2 : x ≤ highW s b
    · refine ⟨x, by omega, by omega, ?_⟩
      have := held_mid h hb (x - lowW s).toNat (by omega)
      rw [show lowW s + ((x - lowW s).toNat : Int) = x by omega] at this
      rw [this, up_eq, show max 0 (x - x) = 0 by omega]
      simp
    · refine ⟨highW s b, c.1, c.2, ?_⟩
      have e := held_high h hb (x - highW s b).toNat
      rw [show highW s b + ((x - highW s b).toNat : Int) = x by omega] at e
      have e2 := held_mid h hb (highW s b - lowW s).toNat (by omega)
      rw [show lowW s + ((highW s b - lowW s).toNat : Int) = highW s b by omega] at e2
      rw [e, e2, up_eq, show ((x - highW s b).toNat : Int) = max 0 (x - highW s b) by omega]
theorem least_le {s : Slt} {y : Int} (h : s.Wk) (h1 : s.need ≤ y) (h2 : y ≤ s.most) : leastW s ≤ costAt s y := by
  have e := held_lower (b := 0) (x := y) h (Int.le_refl 0) h1 h2
  have u := (held_up h.len (Int.le_refl 0) (min y (lowW s)) (y - min y (lowW s)).toNat).1
  rw [show min y (lowW s) + ((y - min y (lowW s)).toNat : Int) = y by omega, held_low h (Int.le_refl 0) (by omega)] at u
  omega
/-! ### the work behind a slot -/
theorem heldSlopes_is {s : Slt} {b lo hi : Int} (h : s.Len) (h1 : lo ≤ hi) (h2 : hi - lo ≤ 1000) : heldSlopes s b lo hi = (List.range (hi - lo).toNat).map fun (i : Nat) => stH s b (lo + (i : Int)) := by
  have hl := h.len
  have hm := h.mid
  have hlen := (heldW_len (b := b) h h1 h2).len
  have hlen : ((heldSlopes s b lo hi).length : Int) = hi - lo := hlen
  refine List.ext_getElem? fun i => ?_
  by_cases hi2 : i < (hi - lo).toNat
  · rw [List.getElem?_map, List.getElem?_range hi2, Option.map_some]
    unfold heldSlopes heldMid
    simp only [mx_eq, mn_eq]
    unfold stH
    by_cases q1 : lo + i < s.need
    · rw [if_pos q1, List.append_assoc, List.getElem?_append_left (by rw [List.length_replicate]; omega), List.getElem?_replicate, if_pos (by omega)]
    · rw [if_neg q1]
      have hmid : (((clampL s.slopes b).drop (max 0 (lo - s.need)).toNat).take ((max 0 (hi - s.need)).toNat - (max 0 (lo - s.need)).toNat)).length = min ((max 0 (hi - s.need)).toNat - (max 0 (lo - s.need)).toNat) ((s.most - s.need).toNat - (max 0 (lo - s.need)).toNat) := by
        rw [List.length_take, List.length_drop, clampL_len]
        omega
      by_cases q2 : lo + i < s.most
      · rw [if_pos q2, List.getElem?_append_left (by rw [List.length_append, List.length_replicate, hmid]; omega), List.getElem?_append_right (by rw [List.length_replicate]; omega), List.length_replicate, List.getElem?_take, if_pos (by omega), List.getElem?_drop]
        rw [show (max 0 (lo - s.need)).toNat + (i - (max 0 (min hi s.need - lo)).toNat) = (lo + i - s.need).toNat by omega]
        exact clampL_at (by omega)
      · rw [if_neg q2, List.getElem?_append_right (by rw [List.length_append, List.length_replicate, hmid]; omega), List.getElem?_replicate, if_pos (by rw [List.length_append, List.length_replicate, hmid]; omega)]
  · rw [List.getElem?_eq_none (by omega), List.getElem?_eq_none (by rw [List.length_map, List.length_range]; omega)]
theorem stH_mono {s : Slt} {b : Int} (h : s.Wk) (hb : 0 ≤ b) {x y : Int} (hxy : x ≤ y) : stH s b x ≤ stH s b y := by
  have hl := h.len.len
  have cx := stH_bd (s := s) (x := x) hb
  have cy := stH_bd (s := s) (x := y) hb
  by_cases q1 : x < s.need
  · have : stH s b x = 0 := by unfold stH; rw [if_pos q1]
    omega
  · by_cases q2 : y < s.most
    · have e1 : stH s b x = clampZ (s.slopes.getD (x - s.need).toNat 0) b := by unfold stH; rw [if_neg q1, if_pos (by omega)]
      have e2 : stH s b y = clampZ (s.slopes.getD (y - s.need).toNat 0) b := by unfold stH; rw [if_neg (by omega), if_pos q2]
      rw [e1, e2]
      refine clampZ_mono ?_
      by_cases e : x = y
      · rw [e]; exact Int.le_refl _
      · have := List.pairwise_iff_getElem.mp h.asc (x - s.need).toNat (y - s.need).toNat (by omega) (by omega) (by omega)
        rw [List.getD_eq_getElem?_getD, List.getD_eq_getElem?_getD, List.getElem?_eq_getElem (by omega), List.getElem?_eq_getElem (by omega)]
        exact this
    · have : stH s b y = b := by unfold stH; rw [if_neg (by omega), if_neg q2]
      omega
theorem held_cost {s : Slt} {b lo hi : Int} (h : s.Len) (h1 : lo ≤ hi) (h2 : hi - lo ≤ 1000) : ∀ n : Nat, lo + n ≤ hi → costAt (heldW s b lo hi) (lo + n) = heldWorth s b (lo + n)
  | 0, _ => by
    unfold costAt heldW
    simp
  | n + 1, hn => by
    have ih := held_cost (b := b) h h1 h2 n (by omega)
    have L := heldW_len (b := b) h h1 h2
    have g : (lo + ((n + 1 : Nat) : Int)) = lo + n + 1 := by omega
    have e := cost_step (s := heldW s b lo hi) L (x := lo + n) (by show lo ≤ _; omega) (by show _ < hi; omega)
    rw [g, held_step h, e, ih]
    congr 1
    show (heldSlopes s b lo hi).getD (lo + n - lo).toNat 0 = _
    rw [show (lo + (n : Int) - lo).toNat = n by omega, heldSlopes_is h h1 h2, List.getD_eq_getElem?_getD, List.getElem?_map, List.getElem?_range (by omega)]
    rfl
theorem winL_all {s : Slt} (h : s.Len) : winL s s.need s.most = s.slopes := by
  have hl := h.len
  unfold winL
  rw [show (s.need - s.need).toNat = 0 by omega, List.drop_zero, Nat.sub_zero, List.take_of_length_le (by omega)]
theorem after_is {a s : Slt} {b : Int} (ha : a.Len) (h : s.Len) : afterW a s b = ⟨s.need, s.most, costAt s s.need + costAt (heldW a b s.need s.most) s.need, addL s.slopes (heldSlopes a b s.need s.most)⟩ := by
  have e := after_some (a := a) (b := b) h
  unfold sumW at e
  have hm := h.mid
  have m1 : mx s.need (heldW a b s.need s.most).need = s.need := by rw [mx_eq]; show max s.need s.need = _; omega
  have m2 : mn s.most (heldW a b s.need s.most).most = s.most := by rw [mn_eq]; show min s.most s.most = _; omega
  rw [m1, m2, if_neg (by omega)] at e
  have e := Option.some.inj e
  rw [← e, winL_all h]
  have w := winL_all (heldW_len (b := b) ha hm h.wide)
  have w : winL (heldW a b s.need s.most) s.need s.most = heldSlopes a b s.need s.most := w
  rw [w]
theorem zip_getD {l m : List Int} {i : Nat} (h1 : i < l.length) (h2 : i < m.length) : (addL l m).getD i 0 = l.getD i 0 + m.getD i 0 := by
  unfold addL
  rw [List.getD_eq_getElem?_getD, List.getD_eq_getElem?_getD, List.getD_eq_getElem?_getD, List.getElem?_zipWith, List.getElem?_eq_getElem h1, List.getElem?_eq_getElem h2]
  rfl
theorem after_slope {a s : Slt} {b : Int} (ha : a.Len) (h : s.Len) {x : Int} (h1 : s.need ≤ x) (h2 : x < s.most) : (afterW a s b).slopes.getD (x - s.need).toNat 0 = s.slopes.getD (x - s.need).toNat 0 + stH a b x := by
  have hl := h.len
  have hs := heldSlopes_is (b := b) ha h.mid h.wide
  rw [after_is ha h]
  show (addL s.slopes (heldSlopes a b s.need s.most)).getD _ 0 = _
  rw [zip_getD (by omega) (by rw [hs, List.length_map, List.length_range]; omega), hs]
  congr 1
  rw [List.getD_eq_getElem?_getD, List.getElem?_map, List.getElem?_range (by omega)]
  show stH a b (s.need + ((x - s.need).toNat : Int)) = _
  rw [show s.need + ((x - s.need).toNat : Int) = x by omega]
theorem after_cost {a s : Slt} {b : Int} (ha : a.Len) (h : s.Len) : ∀ n : Nat, s.need + n ≤ s.most → costAt (afterW a s b) (s.need + n) = costAt s (s.need + n) + heldWorth a b (s.need + n)
  | 0, _ => by
    have e := held_cost (b := b) ha h.mid h.wide 0 (by have := h.mid; omega)
    rw [after_is ha h]
    simp only [Int.natCast_zero, Int.add_zero] at e ⊢
    rw [← e]
    unfold costAt
    simp
  | n + 1, hn => by
    have ih := after_cost (b := b) ha h n (by omega)
    have L := after_len (b := b) ha h
    have g : (s.need + ((n + 1 : Nat) : Int)) = s.need + n + 1 := by omega
    have n1 : (afterW a s b).need = s.need := by rw [after_is ha h]
    have n2 : (afterW a s b).most = s.most := by rw [after_is ha h]
    have e := cost_step (s := afterW a s b) L (x := s.need + n) (by omega) (by omega)
    rw [n1, after_slope ha h (by omega) (by omega)] at e
    rw [g, e, ih, cost_step h (by omega) (by omega), held_step ha]
    omega
theorem after_wk {a s : Slt} {b : Int} (hb : 0 ≤ b) (ha : a.Wk) (h : s.Wk) : (afterW a s b).Wk ∧ (afterW a s b).need = s.need ∧ (afterW a s b).most = s.most := by
  have e := after_is (b := b) ha.len h.len
  have L := after_len (b := b) ha.len h.len
  have hl := h.len.len
  have n1 : (afterW a s b).need = s.need := by rw [e]
  have n2 : (afterW a s b).most = s.most := by rw [e]
  refine ⟨⟨L, by rw [n1]; exact h.lo, ?_⟩, n1, n2⟩
  have Ll := L.len
  rw [n1, n2] at Ll
  refine List.pairwise_iff_getElem.mpr fun i j hi hj hij => ?_
  have c1 := after_slope (b := b) ha.len h.len (x := s.need + i) (by omega) (by omega)
  have c2 := after_slope (b := b) ha.len h.len (x := s.need + j) (by omega) (by omega)
  rw [show (s.need + (i : Int) - s.need).toNat = i by omega, List.getD_eq_getElem?_getD, List.getElem?_eq_getElem hi] at c1
  rw [show (s.need + (j : Int) - s.need).toNat = j by omega, List.getD_eq_getElem?_getD, List.getElem?_eq_getElem hj] at c2
  have c1 : (afterW a s b).slopes[i] = _ := c1
  have c2 : (afterW a s b).slopes[j] = _ := c2
  rw [c1, c2]
  have m := stH_mono ha hb (x := s.need + i) (y := s.need + j) (by omega)
  have := List.pairwise_iff_getElem.mp h.asc i j (by omega) (by omega) hij
  rw [List.getD_eq_getElem?_getD, List.getD_eq_getElem?_getD, List.getElem?_eq_getElem (by omega), List.getElem?_eq_getElem (by omega)]
  show s.slopes[i] + _ ≤ s.slopes[j] + _
  omega
end WK
set_option Elab.async false
set_option linter.all false
set_option maxRecDepth 100000
namespace WK
open PySem PySem.Spec PyProof.Rows L2
theorem snoc_ind {α : Type} {P : List α → Prop} (h0 : P []) (h1 : ∀ l a, P l → P (l ++ [a])) (l : List α) : P l := by
  have : ∀ l : List α, P l.reverse := by
    intro l
    induction l with
    | nil => exact h0
    | cons a l ih =>
      rw [List.reverse_cons]
      exact h1 _ _ ih
  have e := this l.reverse
  rw [List.reverse_reverse] at e
  exact e
def lastX (xs : List Int) : Int := (0 :: xs).getD xs.length 0
theorem lastX_snoc (xs : List Int) (x : Int) : lastX (xs ++ [x]) = x := by
  unfold lastX
  rw [List.length_append, List.length_singleton, List.getD_eq_getElem?_getD, List.getElem?_cons_succ, List.getElem?_append_right (by omega)]
  simp
theorem getD_app {α : Type} {l : List α} {a d : α} {t : Nat} (h : t < l.length) : (l ++ [a]).getD t d = l.getD t d := by
  rw [List.getD_eq_getElem?_getD, List.getElem?_append_left h, List.getD_eq_getElem?_getD]
theorem getD_end {α : Type} {l : List α} {a d : α} {n : Nat} (h : n = l.length) : (l ++ [a]).getD n d = a := by
  subst h
  rw [List.getD_eq_getElem?_getD, List.getElem?_append_right (Nat.le_refl _)]
  simp
theorem mapr_congr {α : Type} {f g : Nat → α} {n : Nat} (h : ∀ t, t < n → f t = g t) : (List.range n).map f = (List.range n).map g :=
  List.map_congr_left fun t ht => h t (List.mem_range.mp ht)
theorem runL_snoc {ss : List Slt} {s : Slt} {xs : List Int} {x : Int} (h : xs.length = ss.length) : runL (ss ++ [s]) (xs ++ [x]) = runL ss xs + costAt s x := by
  unfold runL runT
  rw [List.length_append, List.length_singleton, mapr_succ, List.sum_append, getD_end rfl, getD_end h]
  rw [mapr_congr (g := fun t => costAt (ss.getD t s0) (xs.getD t 0)) fun t ht => by rw [getD_app ht, getD_app (by omega)]]
  simp
theorem startsL_snoc {xs : List Int} {x : Int} : startsL (xs ++ [x]) = startsL xs + up (x - lastX xs) := by
  unfold startsL startsT
  rw [List.length_append, List.length_singleton, mapr_succ, List.sum_append, getD_end rfl]
  have e : (0 :: (xs ++ [x])).getD xs.length 0 = lastX xs := by
    unfold lastX
    rw [← List.cons_append]
    exact getD_app (by simp)
  rw [e, mapr_congr (g := fun t => up (xs.getD t 0 - (0 :: xs).getD t 0)) fun t ht => by rw [getD_app ht, ← List.cons_append, getD_app (by simp; omega)]]
  simp
theorem servesL_snoc {ss : List Slt} {s : Slt} {xs : List Int} {x : Int} (h : xs.length = ss.length) : servesL (ss ++ [s]) (xs ++ [x]) = (servesL ss xs && fitB s x) := by
  unfold servesL servesB
  rw [List.length_append, List.length_singleton, mapr_succ, List.all_append, getD_end rfl, getD_end h]
  rw [mapr_congr (g := fun t => fitB (ss.getD t s0) (xs.getD t 0)) fun t ht => by rw [getD_app ht, getD_app (by omega)]]
  simp
theorem fit_iff {s : Slt} {x : Int} : fitB s x = true ↔ s.need ≤ x ∧ x ≤ s.most := by simp [fitB]
def numsL (s : Slt) (n : Nat) : List Int := (List.range n).map fun (i : Nat) => s.need + (i : Int)
def widthN (s : Slt) : Nat := (s.most + 1 - s.need).toNat
def rowsAfter (found : List (List Int)) (s : Slt) : List (List Int) := found.flatMap fun row => (numsL s (widthN s)).map fun x => row ++ [x]
def allRows (ss : List Slt) : List (List Int) := ss.foldl rowsAfter [[]]
theorem allRows_snoc {ss : List Slt} {s : Slt} : allRows (ss ++ [s]) = rowsAfter (allRows ss) s := by
  unfold allRows
  rw [List.foldl_append]
  rfl
theorem nums_mem {s : Slt} {x : Int} : x ∈ numsL s (widthN s) ↔ s.need ≤ x ∧ x ≤ s.most := by
  unfold numsL widthN
  rw [List.mem_map]
  constructor
  · rintro ⟨i, hi, rfl⟩
    have := List.mem_range.mp hi
    omega
  · intro h
    exact ⟨(x - s.need).toNat, List.mem_range.mpr (by omega), by omega⟩
theorem rows_mem (ss : List Slt) : ∀ xs, xs ∈ allRows ss ↔ xs.length = ss.length ∧ servesL ss xs = true := by
  refine snoc_ind (P := fun ss => ∀ xs, xs ∈ allRows ss ↔ xs.length = ss.length ∧ servesL ss xs = true) ?_ ?_ ss
  · intro xs
    show xs ∈ [[]] ↔ _
    rw [List.mem_singleton]
    constructor
    · rintro rfl
      exact ⟨rfl, rfl⟩
    · rintro ⟨h, _⟩
      exact List.length_eq_zero_iff.mp h
  · intro ss s ih xs
    rw [allRows_snoc]
    unfold rowsAfter
    rw [List.mem_flatMap]
    constructor
    · rintro ⟨row, hr, hx⟩
      obtain ⟨x, hx2, rfl⟩ := List.mem_map.mp hx
      obtain ⟨h1, h2⟩ := (ih row).mp hr
      refine ⟨by simp [h1], ?_⟩
      rw [servesL_snoc h1, h2, Bool.true_and]
      exact fit_iff.mpr (nums_mem.mp hx2)
    · rintro ⟨h1, h2⟩
      rcases List.eq_nil_or_concat xs with rfl | ⟨row, x, rfl⟩
      · simp at h1
      · rw [List.concat_eq_append] at h1 h2 ⊢
        have h3 : row.length = ss.length := by simpa using h1
        rw [servesL_snoc h3, Bool.and_eq_true] at h2
        exact ⟨row, (ih row).mpr ⟨h3, h2.1⟩, List.mem_map.mpr ⟨x, nums_mem.mpr (fit_iff.mp h2.2), rfl⟩⟩
theorem w0_wk : w0.Wk := ⟨w0_len, Int.le_refl 0, List.Pairwise.nil⟩
theorem lastW_wk {b : Int} (hb : 0 ≤ b) (ss : List Slt) : (∀ s ∈ ss, s.Wk) → (lastW w0 b ss).Wk := by
  refine snoc_ind (P := fun ss => (∀ s ∈ ss, s.Wk) → (lastW w0 b ss).Wk) (fun _ => w0_wk) (fun ss s ih h => ?_) ss
  rw [lastW_snoc]
  exact (after_wk hb (ih fun x hx => h x (List.mem_append_left _ hx)) (h s (by simp))).1
/-- a row that serves costs at least what the last work says of its end -/
theorem rows_lower {b : Int} (hb : 0 ≤ b) (ss : List Slt) : (∀ s ∈ ss, s.Wk) → ∀ xs, xs.length = ss.length → servesL ss xs = true →
    (lastW w0 b ss).need ≤ lastX xs ∧ lastX xs ≤ (lastW w0 b ss).most ∧ costAt (lastW w0 b ss) (lastX xs) ≤ runL ss xs + b * startsL xs := by
  refine snoc_ind (P := fun ss => (∀ s ∈ ss, s.Wk) → ∀ xs, xs.length = ss.length → servesL ss xs = true →
    (lastW w0 b ss).need ≤ lastX xs ∧ lastX xs ≤ (lastW w0 b ss).most ∧ costAt (lastW w0 b ss) (lastX xs) ≤ runL ss xs + b * startsL xs) ?_ ?_ ss
  · intro _ xs h _
    have e : xs = [] := List.length_eq_zero_iff.mp h
    subst e
    refine ⟨Int.le_refl 0, Int.le_refl 0, ?_⟩
    show (0 : Int) ≤ 0 + b * 0
    simp
  · intro ss s ih hw xs h1 h2
    rcases List.eq_nil_or_concat xs with rfl | ⟨row, x, rfl⟩
    · simp at h1
    · rw [List.concat_eq_append] at h1 h2 ⊢
      have h3 : row.length = ss.length := by simpa using h1
      rw [servesL_snoc h3, Bool.and_eq_true] at h2
      have hs := hw s (by simp)
      have hws : ∀ x ∈ ss, x.Wk := fun x hx => hw x (List.mem_append_left _ hx)
      obtain ⟨i1, i2, i3⟩ := ih hws row h3 h2.1
      have W := lastW_wk hb ss hws
      obtain ⟨_, n1, n2⟩ := after_wk hb W hs
      have f := fit_iff.mp h2.2
      rw [lastX_snoc, lastW_snoc, n1, n2, runL_snoc h3, startsL_snoc]
      have c := after_cost (b := b) W.len hs.len (x - s.need).toNat (by omega)
      rw [show s.need + ((x - s.need).toNat : Int) = x by omega] at c
      have g := held_lower (b := b) (x := x) W hb i1 i2
      rw [c, Int.mul_add]
      omega
theorem rows_reach {b : Int} (hb : 0 ≤ b) (ss : List Slt) : (∀ s ∈ ss, s.Wk) → ∀ x, (lastW w0 b ss).need ≤ x → x ≤ (lastW w0 b ss).most →
    ∃ xs, xs.length = ss.length ∧ servesL ss xs = true ∧ lastX xs = x ∧ runL ss xs + b * startsL xs = costAt (lastW w0 b ss) x := by
  refine snoc_ind (P := fun ss => (∀ s ∈ ss, s.Wk) → ∀ x, (lastW w0 b ss).need ≤ x → x ≤ (lastW w0 b ss).most →
    ∃ xs, xs.length = ss.length ∧ servesL ss xs = true ∧ lastX xs = x ∧ runL ss xs + b * startsL xs = costAt (lastW w0 b ss) x) ?_ ?_ ss
  · intro _ x h1 h2
    have h1 : 0 ≤ x := h1
    have h2 : x ≤ 0 := h2
    refine ⟨[], rfl, rfl, by show (0 : Int) = x; omega, ?_⟩
    show (0 : Int) + b * 0 = costAt w0 x
    unfold costAt w0
    simp
  · intro ss s ih hw x h1 h2
    have hs := hw s (by simp)
    have hws : ∀ x ∈ ss, x.Wk := fun x hx => hw x (List.mem_append_left _ hx)
    have W := lastW_wk hb ss hws
    obtain ⟨_, n1, n2⟩ := after_wk hb W hs
    rw [lastW_snoc, n1] at h1
    rw [lastW_snoc, n2] at h2
    obtain ⟨y, y1, y2, y3⟩ := held_reach (b := b) x W hb
    obtain ⟨row, r1, r2, r3, r4⟩ := ih hws y y1 y2
    refine ⟨row ++ [x], by simp [r1], ?_, lastX_snoc _ _, ?_⟩
    · rw [servesL_snoc r1, r2, Bool.true_and]
      exact fit_iff.mpr ⟨h1, h2⟩
    · have c := after_cost (b := b) W.len hs.len (x - s.need).toNat (by omega)
      rw [show s.need + ((x - s.need).toNat : Int) = x by omega] at c
      rw [lastW_snoc, runL_snoc r1, startsL_snoc, r3, c, y3, ← r4, Int.mul_add]
      omega
/-- the least cost is the least of all rows -/
theorem least_rows {b : Int} (hb : 0 ≤ b) {ss : List Slt} (hw : ∀ s ∈ ss, s.Wk) {m : Int} (h1 : m ∈ (allRows ss).map fun xs => runL ss xs + b * startsL xs)
    (h2 : ∀ y ∈ (allRows ss).map (fun xs => runL ss xs + b * startsL xs), m ≤ y) : m = leastW (lastW w0 b ss) := by
  have W := lastW_wk hb ss hw
  have li := lowW_in W
  apply Int.le_antisymm
  · obtain ⟨xs, r1, r2, _, r4⟩ := rows_reach hb ss hw (lowW (lastW w0 b ss)) li.1 li.2
    have := h2 _ (List.mem_map.mpr ⟨xs, (rows_mem ss xs).mpr ⟨r1, r2⟩, rfl⟩)
    rw [r4] at this
    exact this
  · obtain ⟨xs, hx, rfl⟩ := List.mem_map.mp h1
    obtain ⟨r1, r2⟩ := (rows_mem ss xs).mp hx
    obtain ⟨a1, a2, a3⟩ := rows_lower hb ss hw xs r1 r2
    have := least_le W a1 a2
    omega
/-! ### plain slots: the least cost by layers -/
theorem plain_wk {n top : Int} (h0 : 0 ≤ n) (h : n ≤ top) (h2 : top - n ≤ 1000) : (plainW n top 1).Wk :=
  ⟨plainW_len h h2, h0, List.pairwise_replicate.mpr (.inr (Int.le_refl 1))⟩
theorem plain_slope {n top x : Int} (h1 : n ≤ x) (h2 : x < top) : (plainW n top 1).slopes.getD (x - n).toNat 0 = 1 := by
  show (List.replicate (top - n).toNat 1).getD _ 0 = 1
  rw [List.getD_eq_getElem?_getD, List.getElem?_replicate, if_pos (by omega)]
  rfl
theorem plain_cost {n top : Int} : costAt (plainW n top 1) n = n := by
  unfold costAt
  show n * 1 + _ = n
  rw [show (n - (plainW n top 1).need).toNat = 0 by show (n - n).toNat = 0; omega]
  simp
def plainS (ns : List Int) (top : Int) : List Slt := ns.map fun n => plainW n top 1
/-- the step of a layer: idle ticks behind its last need, at most b -/
def idleB (ns : List Int) (b : Int) (t : Nat) (k : Int) : Int :=
  match (onL ns k t).getLast? with
  | some p => min ((t : Int) - 1 - p) b
  | none => b
structure PlOk (ns : List Int) (top b : Int) (t : Nat) (D : Slt) : Prop where
  wk : D.Wk
  most : 0 < t → D.most = top
  step : ∀ x, 0 ≤ x → x < top → stH D b x = idleB ns b t (x + 1)
  least : leastW D = layC ns b t
theorem held_sum {D : Slt} {b : Int} (h : D.Len) (f : Int → Int) (top : Int) (hs : ∀ x, 0 ≤ x → x < top → stH D b x = f (x + 1)) : ∀ n : Nat, (n : Int) ≤ top → heldWorth D b n = heldWorth D b 0 + sumK f 0 n
  | 0, _ => by simp [sumK]
  | n + 1, hn => by
    have ih := held_sum h f top hs n (by omega)
    have g : (((n + 1 : Nat) : Int)) = (n : Int) + 1 := by omega
    rw [g, held_step h, ih, hs n (by omega) (by omega)]
    show _ = heldWorth D b 0 + (sumK f 0 n + f (0 + 1 + n))
    rw [show (0 : Int) + 1 + n = (n : Int) + 1 by omega]
    omega
theorem top_on {ns : List Int} {k : Int} (hk : 1 ≤ k) : ∀ u, k ≤ topV ns u → ∃ i, i < u ∧ k ≤ nd ns i
  | 0, h => absurd h (by show ¬ k ≤ 0; omega)
  | u + 1, h => by
    have h : k ≤ max (topV ns u) (nd ns u) := h
    by_cases q : k ≤ nd ns u
    · exact ⟨u, by omega, q⟩
    · obtain ⟨i, i1, i2⟩ := top_on (ns := ns) hk u (by omega)
      exact ⟨i, by omega, i2⟩
theorem idle_split {ns : List Int} {b : Int} {t : Nat} (ht : t ≤ ns.length) {k : Int} (hk : 1 ≤ k) : idleB ns b t k = gS ns b t (stkV ns t) k + if topV ns t < k then b else 0 := by
  have O := stk_ok (ns := ns) t ht
  have e := O.last k
  unfold idleB gS
  cases hf : (stkV ns t).find? fun s => decide (k ≤ nd ns s) with
  | none =>
    rw [hf] at e
    rw [e]
    dsimp only [Option.map_none]
    have : topV ns t < k := by
      by_cases q : topV ns t < k
      · exact q
      · obtain ⟨i, i1, i2⟩ := top_on (ns := ns) hk t (by omega)
        have m : (i : Int) ∈ onL ns k t := by
          unfold onL
          exact List.mem_map.mpr ⟨i, List.mem_filter.mpr ⟨List.mem_range.mpr i1, decide_eq_true i2⟩, rfl⟩
        rw [List.getLast?_eq_none_iff.mp e] at m
        simp at m
    rw [if_pos this]
    omega
  | some p =>
    rw [hf] at e
    rw [e]
    dsimp only [Option.map_some]
    have h1 : k ≤ nd ns p := by simpa using List.find?_some hf
    have h2 := O.lt p (List.mem_of_find?_eq_some hf)
    have h3 := top_ge (ns := ns) t p h2
    rw [if_neg (by omega), Int.add_zero]
    congr 1
    omega
theorem sum_top {b T n : Int} (hT : 0 ≤ T) (hn : 0 ≤ n) : sumK (fun k => if T < k then b else 0) 0 n.toNat = b * (max T n - T) := by
  by_cases h : n ≤ T
  · rw [sumK_zero fun k h1 h2 => by rw [if_neg (by omega)], show max T n - T = 0 by omega]
    simp
  · rw [show n.toNat = T.toNat + (n - T).toNat by omega, sumK_add, sumK_zero (lo := 0) fun k h1 h2 => by rw [if_neg (by omega)]]
    rw [sumK_congr (g := fun _ => b) fun k h1 h2 => by rw [if_pos (by omega)], sumK_const]
    rw [show max T n - T = ((n - T).toNat : Int) by omega]
    omega
theorem plain_ok {ns : List Int} {top b : Int} (hb : 0 ≤ b) (h0 : ∀ i, 0 ≤ nd ns i) (ht : ∀ i, nd ns i ≤ top) (hw : top ≤ 1000) : ∀ t, t ≤ ns.length → PlOk ns top b t (lastW w0 b (plainS (ns.take t) top))
  | 0, _ => by
    refine ⟨w0_wk, fun h => by omega, fun x hx _ => ?_, ?_⟩
    · have e : idleB ns b 0 (x + 1) = b := by simp [idleB, onL]
      rw [e]
      show stH w0 b x = b
      unfold stH
      rw [if_neg (by show ¬ x < 0; omega), if_neg (by show ¬ x < 0; omega)]
    · have e : layC ns b 0 = 0 := by simp [layC, topV, gapsC, sumK]
      rw [e]
      rfl
  | t + 1, hl => by
    have ih := plain_ok hb h0 ht hw t (by omega)
    have hx : ns[t]? = some (nd ns t) := nd_at (by omega)
    have n0 := h0 t
    have nt := ht t
    have e1 : plainS (ns.take (t + 1)) top = plainS (ns.take t) top ++ [plainW (nd ns t) top 1] := by
      unfold plainS
      rw [List.take_add_one, hx, List.map_append]
      rfl
    rw [e1, lastW_snoc]
    generalize lastW w0 b (plainS (ns.take t) top) = D at ih
    have P := plain_wk n0 nt (by omega)
    obtain ⟨W, n1, n2⟩ := after_wk hb ih.wk P
    have n1 : (afterW D (plainW (nd ns t) top 1) b).need = nd ns t := n1
    have n2 : (afterW D (plainW (nd ns t) top 1) b).most = top := n2
    have sl : ∀ x, nd ns t ≤ x → x < top → (afterW D (plainW (nd ns t) top 1) b).slopes.getD (x - nd ns t).toNat 0 = 1 + stH D b x := by
      intro x h1 h2
      have := after_slope (b := b) ih.wk.len P.len (x := x) h1 h2
      rw [show (plainW (nd ns t) top 1).need = nd ns t from rfl, plain_slope h1 h2] at this
      exact this
    refine ⟨W, fun _ => n2, fun x h1 h2 => ?_, ?_⟩
    · unfold stH
      rw [n1, n2]
      by_cases q : x < nd ns t
      · rw [if_pos q]
        unfold idleB
        rw [onL_yes hx (by omega), List.getLast?_append]
        dsimp only [List.getLast?_singleton, Option.or]
        omega
      · rw [if_neg q, if_pos h2, sl x (by omega) h2, ih.step x h1 h2]
        unfold idleB
        rw [onL_no hx (by omega)]
        cases hp : (onL ns (x + 1) t).getLast? with
        | none =>
          dsimp only
          unfold clampZ
          rw [mn_eq, mx_eq]
          omega
        | some p =>
          dsimp only
          obtain ⟨a, rfl, h4, _⟩ := onL_lt (by omega) hp
          unfold clampZ
          rw [mn_eq, mx_eq]
          omega
    · have low : lowW (afterW D (plainW (nd ns t) top 1) b) = nd ns t := by
        have li := lowW_in W
        rw [n1, n2] at li
        by_cases q : lowW (afterW D (plainW (nd ns t) top 1) b) = nd ns t
        · exact q
        · have l := (low_iff W (x := nd ns t) (by omega) (by omega)).mp (by omega)
          rw [n1, sl _ (Int.le_refl _) (by omega)] at l
          have := stH_bd (s := D) (x := nd ns t) hb
          omega
      have c := after_cost (b := b) ih.wk.len P.len 0 (by show nd ns t + _ ≤ top; omega)
      simp only [Int.natCast_zero, Int.add_zero] at c
      rw [show (plainW (nd ns t) top 1).need = nd ns t from rfl, plain_cost] at c
      unfold leastW
      rw [low, c]
      have s := held_sum ih.wk.len (idleB ns b t) top ih.step (nd ns t).toNat (by omega)
      rw [Int.toNat_of_nonneg n0] at s
      have z := held_low (x := 0) ih.wk hb (by have := (lowW_in ih.wk).1; have := ih.wk.lo; omega)
      rw [s, z, ih.least]
      rw [sumK_congr (g := fun k => gS ns b t (stkV ns t) k + if topV ns t < k then b else 0) fun k k1 _ => idle_split (by omega) (by omega), sumK_plus, sum_top (top_nn t) n0, ← new_cost hb h0 (by omega)]
      rw [← paid_lay hb h0 (t := t) (by omega), ← paid_lay hb h0 (t := t + 1) (by omega)]
      show _ = paidV ns b t + (nd ns t + vsC b (newV ns t)) + b * max (topV ns t) (nd ns t)
      rw [Int.mul_sub]
      omega
theorem plain_least {ns : List Int} {top b : Int} (hb : 0 ≤ b) (h0 : ∀ i, 0 ≤ nd ns i) (ht : ∀ i, nd ns i ≤ top) (hw : top ≤ 1000) : leastW (lastW w0 b (plainS ns top)) = layC ns b ns.length := by
  have := (plain_ok hb h0 ht hw ns.length (Nat.le_refl _)).least
  rw [List.take_length] at this
  exact this
end WK
namespace WK
open PySem PySem.Spec PyProof.Rows L2
/-- a row of tuples of numbers, as they stand in the heap -/
def TupW (H : Hp) (x : V) (ns : List Int) : Prop := ∃ t, x = .ref t ∧ H t = some (.tup (ns.map V.int))
inductive AllW (H : Hp) : List V → List (List Int) → Prop
  | nil : AllW H [] []
  | cons {v : V} {vs : List V} {s : List Int} {ss : List (List Int)} : TupW H v s → AllW H vs ss → AllW H (v :: vs) (s :: ss)
theorem AllW.same {H H' : Hp} (e : Same H H') : ∀ {vs : List V} {ss : List (List Int)}, AllW H vs ss → AllW H' vs ss
  | _, _, .nil => .nil
  | _, _, .cons ⟨t, q, h⟩ b => .cons ⟨t, q, e _ _ h⟩ (AllW.same e b)
theorem AllW.upd {H : Hp} {a : Addr} {xs : List V} {o : HO} (ha : H a = some (.lst xs)) : ∀ {vs : List V} {ss : List (List Int)}, AllW H vs ss → AllW (upd H a o) vs ss
  | _, _, .nil => .nil
  | _, _, .cons ⟨t, e, h⟩ b => .cons ⟨t, e, by rw [upd_ne (ne_of h ha (by intro z; cases z))]; exact h⟩ (AllW.upd ha b)
theorem AllW.len {H : Hp} : ∀ {vs : List V} {ss : List (List Int)}, AllW H vs ss → vs.length = ss.length
  | _, _, .nil => rfl
  | _, _, .cons _ b => congrArg (· + 1) (AllW.len b)
theorem AllW.snoc {H : Hp} : ∀ {vs : List V} {ss : List (List Int)} {v : V} {s : List Int}, AllW H vs ss → TupW H v s → AllW H (vs ++ [v]) (ss ++ [s])
  | _, _, _, _, .nil, h => .cons h .nil
  | _, _, _, _, .cons a b, h => .cons a (AllW.snoc b h)
theorem AllW.app {H : Hp} : ∀ {vs ws : List V} {ss ts : List (List Int)}, AllW H vs ss → AllW H ws ts → AllW H (vs ++ ws) (ss ++ ts)
  | _, _, _, _, .nil, h => h
  | _, _, _, _, .cons a b, h => .cons a (AllW.app b h)
theorem AllW.get {H : Hp} : ∀ {vs : List V} {ss : List (List Int)} {i : Nat} {v : V}, AllW H vs ss → vs[i]? = some v → ∃ s, ss[i]? = some s ∧ TupW H v s
  | _, _, _, _, .nil, e => by simp at e
  | _, _, 0, v, .cons a _, e => by
    have e : _ = v := Option.some.inj e
    subst e
    exact ⟨_, rfl, a⟩
  | _, _, i + 1, v, .cons _ b, e => AllW.get (i := i) b e
end WK
namespace WK
open PySem PySem.Spec PyProof.Rows L2
/-- needs of the document, long rows -/
structure Ndw (ns : List Int) : Prop where
  len : ns.length ≤ 1000
  pos : ∀ z ∈ ns, 0 ≤ z ∧ z ≤ 1000000000
theorem Ndw.nd {ns : List Int} (h : Ndw ns) (i : Nat) : 0 ≤ nd ns i ∧ nd ns i ≤ 1000000000 := by
  unfold WK.nd
  rw [List.getD_eq_getElem?_getD]
  cases e : ns[i]? with
  | none => simp
  | some z => exact h.pos z (List.mem_of_getElem? e)
theorem top_leW {ns : List Int} (hN : Ndw ns) : ∀ t, topV ns t ≤ 1000000000
  | 0 => by show (0 : Int) ≤ _; decide
  | t + 1 => by
    have h1 := top_leW hN t
    have h2 := (hN.nd t).2
    show max _ _ ≤ _
    omega
def spLayCostW (K : PySem.W.Frag) : Sp := fun vs H Q _ => ∃ (t : Addr) (ns : List Int) (b : Int), vs = [.ref t, .int b] ∧ H t = some (.tup (ns.map V.int)) ∧ Ndw ns ∧ 0 ≤ b ∧
  ∀ H', Same H H' → Q (.int (layC ns b ns.length)) H'
theorem gsum_bd {b : Int} (hb : 0 ≤ b) : ∀ {l : List (Int × Int)}, (∀ g ∈ l, 0 ≤ g.2) → 0 ≤ gsum b l ∧ gsum b l ≤ b * l.length
  | [], _ => by simp [gsum]
  | g :: l, h => by
    have a := gsum_bd hb fun x hx => h x (List.mem_cons_of_mem _ hx)
    have c := h g (by simp)
    have e : gsum b (g :: l) = min g.2 b + gsum b l := by simp [gsum]
    rw [e, List.length_cons, Int.natCast_add, Int.mul_add]
    simp only [Int.natCast_one, Int.mul_one]
    omega
theorem sumK_bd {f : Int → Int} {lo M : Int} : ∀ {m : Nat}, (∀ k, 0 ≤ f k ∧ f k ≤ M) → 0 ≤ sumK f lo m ∧ sumK f lo m ≤ M * m
  | 0, _ => by simp [sumK]
  | m + 1, h => by
    have a := sumK_bd (lo := lo) (m := m) h
    have c := h (lo + 1 + m)
    unfold sumK
    rw [Int.natCast_add, Int.mul_add]
    simp only [Int.natCast_one, Int.mul_one]
    omega
theorem lay_small {ns : List Int} (hN : Ndw ns) {b : Int} (hb : 0 ≤ b) (hb2 : b ≤ 1000000000) : (layC ns b ns.length).natAbs < 10 ^ 150 := by
  have hl := hN.len
  have t0 := top_nn (ns := ns) ns.length
  have t1 := top_leW hN ns.length
  have s : ∀ i, i ≤ ns.length → 0 ≤ (ns.take i).sum ∧ (ns.take i).sum ≤ 1000000000 * i := by
    intro i
    induction i with
    | zero => intro _; simp
    | succ i ih =>
      intro hi
      rw [take_nd (by omega)]
      have := ih (by omega)
      have := hN.nd i
      omega
  have s1 := s ns.length (Nat.le_refl _)
  have g : 0 ≤ gapsC ns b ns.length ∧ gapsC ns b ns.length ≤ (b * 1000) * (topV ns ns.length).toNat := by
    unfold gapsC
    refine sumK_bd fun k => ?_
    have q : ∀ g ∈ pairsL (onL ns k ns.length) ((onL ns k ns.length).length - 1), 0 ≤ g.2 := by
      rw [gapR_is (Nat.le_refl _)]
      intro g hg
      obtain ⟨_, _, _, h⟩ := (gapR_key (Nat.le_refl _)).2 g hg
      exact h
    have c := gsum_bd hb q
    have l1 := pairsL_len (os := onL ns k ns.length) (i := (onL ns k ns.length).length - 1)
    have l2 := onL_len (ns := ns) (k := k) (i := ns.length)
    refine ⟨c.1, Int.le_trans c.2 (Int.mul_le_mul_of_nonneg_left (by omega) hb)⟩
  have g2 : (b * 1000) * ((topV ns ns.length).toNat : Int) ≤ (1000000000 * 1000) * 1000000000 := Int.mul_le_mul (by omega) (by omega) (by omega) (by decide)
  have g3 : b * topV ns ns.length ≤ 1000000000 * 1000000000 := Int.mul_le_mul hb2 t1 t0 (by decide)
  have g4 : 0 ≤ b * topV ns ns.length := Int.mul_nonneg hb t0
  have e : (10000000000000000000000000 : Nat) < 10 ^ 150 := by decide +kernel
  unfold layC
  omega
theorem rows_lens (ss : List Slt) : ∀ xs ∈ allRows ss, xs.length = ss.length := fun xs h => ((rows_mem ss xs).mp h).1
theorem rows_len (ss : List Slt) : (∀ s ∈ ss, s.most - s.need ≤ 3) → (allRows ss).length ≤ 4 ^ ss.length := by
  refine snoc_ind (P := fun ss => (∀ s ∈ ss, s.most - s.need ≤ 3) → (allRows ss).length ≤ 4 ^ ss.length) (fun _ => Nat.le_refl 1) (fun ss s ih h => ?_) ss
  have a := ih fun x hx => h x (List.mem_append_left _ hx)
  have c := h s (by simp)
  rw [allRows_snoc, List.length_append, List.length_singleton, Nat.pow_succ]
  have key : ∀ l : List (List Int), (rowsAfter l s).length ≤ l.length * 4 := by
    intro l
    induction l with
    | nil => simp [rowsAfter]
    | cons r l ih =>
      unfold rowsAfter at ih ⊢
      rw [List.flatMap_cons, List.length_append, List.length_map, List.length_cons]
      have : (numsL s (widthN s)).length ≤ 4 := by
        unfold numsL widthN
        rw [List.length_map, List.length_range]
        omega
      omega
  have := key (allRows ss)
  omega
def spAllRows (K : PySem.W.Frag) : Sp := fun vs H Q _ => ∃ (a : Addr) (ws : List V) (ss : List Slt), vs = [.ref a] ∧ H a = some (.tup ws) ∧ SltsAt H ws ss ∧ ss.length ≤ 5 ∧ (∀ s ∈ ss, 0 ≤ s.need ∧ s.most ≤ 1000 ∧ s.most - s.need ≤ 3 ∧ s.need ≤ s.most) ∧
  ∀ H' g us, Same H H' → H g = none → H' g = some (.lst us) → AllW H' us (allRows ss) → Q (.ref g) H'
theorem numsL_succ {s : Slt} {n : Nat} : numsL s (n + 1) = numsL s n ++ [s.need + (n : Int)] := by
  unfold numsL
  rw [List.range_succ, List.map_append]
  rfl
end WK
namespace WK
open PySem PySem.Spec PyProof.Rows L2
theorem AllT.app {K : PySem.W.Frag} {H : Hp} : ∀ {vs ws : List V} {ss ts : List (List Int)}, AllT K H vs ss → AllT K H ws ts → AllT K H (vs ++ ws) (ss ++ ts)
  | _, _, _, _, .nil, h => h
  | _, _, _, _, .cons a b, h => .cons a (AllT.app b h)
end WK
namespace WK
open PySem PySem.Spec PyProof.Rows L2
theorem slts_k {K : PySem.W.Frag} {H : Hp} : ∀ {vs : List V} {ss : List Slt}, SltsAt H vs ss → SltsK K H vs ss
  | _, _, .nil => .nil
  | _, _, .cons a b => .cons (SltK.of a) (slts_k b)
theorem ok_wk {s : Slt} {m b f : Int} (h : s.Ok m b f) (hw : s.most - s.need ≤ 1000) : s.Wk := ⟨⟨h.len, h.mid, hw⟩, h.lo, h.asc⟩
theorem nums_all {ss : List Slt} {xs : List Int} (h : xs ∈ allRows ss) {M : Int} (hm : ∀ s ∈ ss, 0 ≤ s.need ∧ s.most ≤ M) : ∀ x ∈ xs, 0 ≤ x ∧ x ≤ M := by
  obtain ⟨h1, h2⟩ := (rows_mem ss xs).mp h
  intro x hx
  obtain ⟨i, hi, e⟩ := List.getElem_of_mem hx
  have hs : ss[i]? = some ss[i] := List.getElem?_eq_getElem (by omega)
  have f := fit_iff.mp (serves_at h2 hs (List.getElem?_eq_getElem hi))
  have m := hm _ (List.mem_of_getElem? hs)
  rw [e] at f
  omega
theorem price_small {ss : List Slt} {b : Int} {xs : List Int} (hl : ss.length ≤ 5) (hok : ∀ s ∈ ss, s.Ok 3 8 (3 + 8 * 3)) (b0 : 1 ≤ b) (b1 : b ≤ 6) (h : xs ∈ allRows ss) : (runL ss xs + b * startsL xs).natAbs < 10 ^ 150 := by
  have h1 := rows_lens ss xs h
  have n := nums_all h (M := 3) fun s hs => ⟨(hok s hs).lo, (hok s hs).hi⟩
  have w : within 3 xs := fun x hx => by have := n x hx; omega
  have s := startsL_b w (by decide)
  have r := runL_b (B := 27 + 8 * 1000) (ss := ss) (xs := xs) (fun s hs x => by
    have o := hok s hs
    exact cost_b o (by have := o.hi; have := o.lo; omega) (by decide) x) h1
  have e : (10000000 : Nat) < 10 ^ 150 := by decide +kernel
  have sb : startsL xs ≤ 30 ∧ -30 ≤ startsL xs := by omega
  have p1 : b * startsL xs ≤ 6 * 30 := by
    by_cases q : 0 ≤ startsL xs
    · exact Int.mul_le_mul b1 sb.1 q (by decide)
    · have : b * startsL xs ≤ 0 := Int.mul_nonpos_of_nonneg_of_nonpos (by omega) (by omega)
      omega
  have p2 : -(6 * 30) ≤ b * startsL xs := by
    have : b * (-startsL xs) ≤ 6 * 30 := by
      by_cases q : 0 ≤ -startsL xs
      · exact Int.mul_le_mul b1 (by omega) q (by decide)
      · have : b * (-startsL xs) ≤ 0 := Int.mul_nonpos_of_nonneg_of_nonpos (by omega) (by omega)
        omega
    rw [Int.mul_neg] at this
    omega
  omega
end WK
namespace WK
open PySem PySem.Spec PyProof.Rows L2
theorem plainS_at {ns : List Int} {top : Int} {j : Nat} {z : Int} (h : ns[j]? = some z) : plainS (ns.take (j + 1)) top = plainS (ns.take j) top ++ [plainW z top 1] := by
  unfold plainS
  rw [List.take_add_one, h, List.map_append]
  rfl
theorem plainS_len {ns : List Int} {top : Int} : (plainS ns top).length = ns.length := List.length_map ..
end WK
set_option Elab.async false
set_option linter.all false
set_option maxRecDepth 100000
namespace WK
open PySem PySem.Spec PyProof.Rows L2
/-! ### max of a tuple -/
def rMaxT (K : PySem.W.Frag) : List V → Hp → VK → Prop := fun vs H Q => ∃ (a : Addr) (ns : List Int), vs = [V.ref a] ∧ SqT K H a (ns.map V.int) ∧ 0 < ns.length ∧ ∀ m, m ∈ ns → (∀ y, y ∈ ns → y ≤ m) → Q (.int m) H
theorem cr_maxT {X : Cx} (hc : X.calm = true) : CallR X (.builtin "max") (rMaxT X.K) := by
  rintro pins s σ H vs us Q I r ⟨a, ns, rfl, hs, hne, q⟩
  obtain ⟨its, rv, tp, _⟩ := I.tuple hs
  rw [Vals.ref1 r]
  have hi := rv.ints
  obtain ⟨xs, e⟩ := hi.allInts.items
  have hn : numsOf (intItems xs).toList = ns := by
    rw [← e]
    exact hi.numsOf
  rw [nums_intItems] at hn
  rw [e] at tp
  have tp' : s.heap.IsTuple a (intItems xs) := tp
  have lt : a < s.heap.objs.size := by
    obtain ⟨_, g, _⟩ := tp
    exact Heap.lt_size g
  subst hn
  have hsz : 0 < xs.size := by simpa using hne
  refine call_max_walk (wpAny_pyIter_tuple tp' ?_)
  refine ⟨s.heap.objs.size, [s.heap.objs.size, a], [s.heap.objs.size], _, _, _, _, rfl,
    Walks.tuple (A := X.A.in1) (I.ok.hd hc) s.heap.objs.size a (Nat.ne_of_lt lt) (intItems xs),
    ⟨⟨_, Heap.get?_push_size _ rfl, rfl, rfl⟩, tp'.push _⟩, ?_, by simpa [intItems] using hsz, CmpOf.ints_gt (numAt xs) (fun i v hv => ?_), fun v h' tk hP hk => ?_⟩
  · intro b hb
    show b < (s.heap.push _).objs.size
    rw [Heap.size_push]
    rcases List.mem_cons.mp hb with z | z
    · rw [z]; exact Nat.lt_succ_self _
    · rw [List.mem_singleton.mp z]; exact Nat.lt_succ_of_lt lt
  · exact intItems_at hv
  · have k : ∀ b o, s.heap.get? b = some o → h'.get? b = some o := by
      intro b o x
      refine hk b o (fun z => ?_) (Heap.get?_push_of_some _ x)
      rw [List.mem_singleton.mp z] at x
      exact absurd (Heap.lt_size x) (Nat.lt_irrefl _)
    obtain ⟨t, rfl⟩ := intItems_at hP
    have e2 : (intItems xs).size = xs.size := by simp [intItems]
    obtain ⟨h1, h2⟩ := argBest_gt (numAt xs) ((intItems xs).size - 1)
    rw [e2] at h1 h2
    refine ⟨.int _, H, I.kept k, ⟨t, rfl⟩, q _ ?_ fun a ha => ?_⟩
    · rw [e2, numAt_eq]; exact PySem.getD_mem (by rw [List.length_map, Array.length_toList]; omega)
    · obtain ⟨j, hj, rfl⟩ := mem_getD ha
      rw [List.length_map, Array.length_toList] at hj
      rw [e2, ← numAt_eq]
      exact h2 j (by omega)
end WK
set_option Elab.async false
set_option linter.all false
set_option maxRecDepth 100000
set_option maxHeartbeats 4000000
namespace WK
open PySem PySem.Spec PyProof.Rows L2
/-! ### list(d.values()) -/
def valsO (p d : Addr) : HO := HO.ext fun h => h.IsValuesView p d
def rDVals : V → List V → Hp → VK → Prop := fun x vs H Q => ∃ (a : Addr) (kvs : List (Key × V)), x = .ref a ∧ vs = [] ∧ Rd H a (.dK kvs) ∧ ∀ p, H p = none → Q (.ref p) (upd H p (valsO p a))
theorem mt_dvals {X : Cx} : MtR X "dict.values" rDVals := by
  rintro pins s σ H x xs v us Q I rx rv ⟨a, kvs, rfl, rfl, hd, q⟩
  cases rx
  cases rv
  obtain ⟨hl, hm, vs, kv, dt⟩ := dk_rd I.hok hd
  refine call_meetsIn F.slot_dict_values ?_ F.entry_dict_values (F.args_dict_values_1 _) (meets_dict_values (mixKind X.prog X.w) a hm) ⟨⟨vs, dt⟩, ?_⟩
  · obtain ⟨o, es, ep, d1, d2, _⟩ := dt
    exact ⟨o, d1, d2.1⟩
  · refine ⟨.ref s.heap.objs.size, _, I.laid (t' := s.toks) (o := valsO s.heap.objs.size a) (fun b ob q => Heap.get?_push_of_some _ q) (Nat.le_refl _) ?_, rfl, q _ (I.hok.fresh (Nat.le_refl _))⟩
    exact ⟨⟨_, Heap.get?_push_size _ rfl, rfl, rfl⟩, ⟨_, Heap.get?_push_size _ rfl⟩, fun h1 h2 ⟨o, g, c, d⟩ k => ⟨o, k _ g, c, d⟩⟩
theorem kv_vals : ∀ {kvs : List (Key × V)} {vs : List (Key × Value)}, KV kvs vs → Vals (kvs.map (·.2)) (vs.map (·.2))
  | _, _, .nil => .nil
  | _, _, .cons a b => .cons a.2 (kv_vals b)
def rListV : List V → Hp → VK → Prop := fun xs H Q => ∃ (p a : Addr) (kvs : List (Key × V)), xs = [.ref p] ∧ H p = some (valsO p a) ∧ Rd H a (.dK kvs) ∧ ∀ l, H l = none → Q (.ref l) (upd H l (.lst (kvs.map (·.2))))
theorem cr_listV {X : Cx} (hc : X.calm = true) : CallR X (.type "list") rListV := by
  rintro pins s σ H xs us Q I rv ⟨p, a, kvs, rfl, hp, hd, q⟩
  rw [Vals.ref1 rv]
  obtain ⟨hl, hm, vs, kv, dt⟩ := dk_rd I.hok hd
  have hv : s.heap.IsValuesView p a := (I.hok _ _ hp).1
  obtain ⟨o, es, ep, d1, d2, d3, d4, d5, d6⟩ := dt
  refine W.kdl_call (W.kdl_values (knd := mixKind X.prog X.w) (kvs := vs) (ep := ep)) (I.ok.hd hc) ⟨hv, o, es, d1, d2, d3, d4, d5, d6⟩ ?_ (fun h' tk acc c' keep hn ha => ?_)
  · rw [← kv.length]
    exact hl
  · refine ⟨.ref s.heap.objs.size, _, I.laid (t' := tk) (o := .lst (kvs.map (·.2))) keep (Nat.le_refl _) ?_, rfl, q _ (I.hok.fresh (Nat.le_refl _))⟩
    obtain ⟨n1, n2⟩ := ha
    have hvals : Vals (kvs.map (·.2)) acc.toList := by
      have e : acc.toList = vs.map (·.2) := by
        refine List.ext_getElem? fun i => ?_
        rw [Array.getElem?_toList, List.getElem?_map]
        cases hq : acc[i]? with
        | none =>
          have : acc.size ≤ i := by simpa using hq
          rw [List.getElem?_eq_none (by omega)]
          rfl
        | some v =>
          obtain ⟨k, hk⟩ := n2 i v hq
          rw [hk]
          rfl
      rw [e]
      exact kv_vals kv
    refine ⟨?_, acc.toList, c', hvals, ?_⟩
    · rw [List.length_map]
      exact hl
    · exact hn
def tDVals0 (to : TE) : TE := fun σ H Q => to σ H fun x H1 => rDVals x [] H1 Q
theorem pe_dvals0 {X : Cx} {o : Expr} {to : TE} {apos cpos : Pos} (h : PE X o to) (hb : attributeBase o (Str.ofString "values") X.env (eval o X.env) = eval o X.env := by rfl) (hline : (apos.endLine == cpos.line) = true := by rfl) : PE X ((o.Attribute (Str.ofString "values") apos).Call [] [] cpos) (tDVals0 to) := by
  refine ⟨fun pins s σ H Q I ht => ?_⟩
  refine wpAny_Call_method0_late hb hline (thn (h.run pins s σ H _ I ht) ?_)
  rintro v s1 ⟨x, H1, I1, rv, hr⟩
  have hr2 := hr
  obtain ⟨a, kvs, rfl, _, hd, q⟩ := hr
  obtain ⟨hl, hm, vs, kv, dt⟩ := dk_rd I1.hok hd
  obtain ⟨o, es, ep, d1, d2, _⟩ := dt
  cases rv
  refine ⟨"dict", "dict.values", PySem.F.plainAttrs_dict, PySem.F.slot_dict_values, PySem.F.type_dict_values, ⟨o, d1, d2.1⟩, fun b e => ?_, ?_⟩
  · cases e
    exact ⟨o, d1, d2.2.1⟩
  · refine Calls.callWith_builtin rfl (PySem.evalArgs_none ?_)
    exact mt_dvals pins s1 σ H1 (.ref a) [] _ _ Q I1 rfl .nil hr2
end WK
set_option Elab.async false
set_option linter.all false
set_option maxRecDepth 100000
set_option maxHeartbeats 4000000
namespace WK
open PySem PySem.Spec PyProof.Rows L2
/-- a slot that is told right, not too far away -/
structure Slt.Far (s : Slt) : Prop where
  wk : s.Wk
  lo : 0 ≤ s.need
  hi : s.most ≤ 1000000
theorem last_far {b : Int} (hb : 0 ≤ b) {ss : List Slt} (h : ∀ s ∈ ss, s.Far) : 0 ≤ (lastW w0 b ss).need ∧ (lastW w0 b ss).most ≤ 1000000 := by
  revert h
  refine snoc_ind (P := fun ss => (∀ s ∈ ss, s.Far) → 0 ≤ (lastW w0 b ss).need ∧ (lastW w0 b ss).most ≤ 1000000) (fun _ => ⟨Int.le_refl 0, show (0 : Int) ≤ 1000000 by decide⟩) (fun l a _ h => ?_) ss
  have ha := h a (by simp)
  rw [lastW_snoc]
  obtain ⟨_, e1, e2⟩ := after_wk hb (lastW_wk hb l fun s hs => (h s (by simp [hs])).wk) ha.wk
  rw [e1, e2]
  exact ⟨ha.lo, ha.hi⟩
def spGoing : Sp := fun vs H Q _ => ∃ (l : Addr) (us : List V) (ss : List Slt) (b : Int), vs = [.ref l, .int b] ∧ H l = some (.lst us) ∧ CostsAt H us ss ∧ (∀ s ∈ ss, s.Far) ∧ ss.length ≤ 5000 ∧ 0 ≤ b ∧
  ∀ H' a ws, Same H H' → H a = none → H' a = some (.lst ws) → CostsAt H' ws (worksW w0 b ss) → (∀ v ∈ ws, ∃ d, v = .ref d ∧ H d = none) → Q (.ref a) H'
/-- all the same but at d -/
def SameB (d : Addr) (H J : Hp) : Prop := ∀ b o, b ≠ d → H b = some o → J b = some o
theorem sameB_upd {d : Addr} {H : Hp} {o : HO} : SameB d H (upd H d o) := fun b u n e => by rw [upd_ne n]; exact e
theorem SameB.new {d a : Addr} {H J : Hp} {o : HO} (h : SameB d H J) (n : H a = none) : SameB d H (upd J a o) := fun b u nb e => by
  rw [upd_ne (ne_of_none e n)]
  exact h b u nb e
theorem SameB.same {d : Addr} {H J G : Hp} (h : SameB d H J) (k : Same J G) : SameB d H G := fun b u nb e => k _ _ (h b u nb e)
theorem SameB.back {d : Addr} {H J : Hp} {u : HO} (h : SameB d H J) (e : H d = some u) : Same H (upd J d u) := fun b o q => by
  by_cases z : b = d
  · subst z
    rw [upd_same, ← e, q]
  · rw [upd_ne z]
    exact h b o z q
theorem costK_get {s : Slt} {n j : Nat} {k : Key} {v : V} (h : (costK s n)[j]? = some (k, v)) : j < n ∧ k = .inl (s.need + (j : Int)) ∧ v = .int (s.first + (s.slopes.take j).sum) := by
  have hj : j < n := by
    have := (List.getElem?_eq_some_iff.mp h).1
    rwa [costK_len] at this
  unfold costK at h
  rw [List.getElem?_map, List.getElem?_range hj] at h
  have h := Option.some.inj h
  exact ⟨hj, (congrArg Prod.fst h).symm, (congrArg Prod.snd h).symm⟩
theorem costK_valN {s : Slt} {n j : Nat} (h : j < n) : valV (costK s n) (.inl (s.need + (j : Int))) = some (.int (s.first + (s.slopes.take j).sum)) := by
  rw [costK_val, if_pos (by omega), show (s.need + (j : Int) - s.need).toNat = j by omega]
/-- what comes to a number from the numbers of a work -/
def fromL (a : Slt) (b x : Int) (n : Nat) : List Int := (List.range n).map fun (k : Nat) => a.first + (a.slopes.take k).sum + b * up (x - (a.need + (k : Int)))
theorem fromL_succ {a : Slt} {b x : Int} {n : Nat} : fromL a b x (n + 1) = fromL a b x n ++ [a.first + (a.slopes.take n).sum + b * up (x - (a.need + (n : Int)))] := mapr_succ
theorem from_least {a : Slt} {b x m : Int} (h : a.Wk) (hb : 0 ≤ b) (h1 : m ∈ fromL a b x (a.slopes.length + 1)) (h2 : ∀ y, y ∈ fromL a b x (a.slopes.length + 1) → m ≤ y) : m = heldWorth a b x := by
  have hl := h.len.len
  have hm := h.len.mid
  refine Int.le_antisymm ?_ ?_
  · obtain ⟨y, y1, y2, e⟩ := held_reach (b := b) x h hb
    rw [e]
    refine h2 _ (List.mem_map.mpr ⟨(y - a.need).toNat, List.mem_range.mpr (by omega), ?_⟩)
    rw [show a.need + (((y - a.need).toNat : Nat) : Int) = y by omega]
    rfl
  · obtain ⟨k, hk, rfl⟩ := List.mem_map.mp h1
    have hk := List.mem_range.mp hk
    have := held_lower (b := b) (x := x) (y := a.need + (k : Int)) h hb (by omega) (by omega)
    refine Int.le_trans this (Int.le_of_eq ?_)
    unfold costAt
    rw [show (a.need + (k : Int) - a.need).toNat = k by omega]
theorem after_at {a s : Slt} {b : Int} (ha : a.Wk) (h : s.Wk) (hb : 0 ≤ b) {j : Nat} (hj : j ≤ s.slopes.length) : (afterW a s b).need = s.need ∧ (afterW a s b).slopes.length = s.slopes.length ∧
    (afterW a s b).first + ((afterW a s b).slopes.take j).sum = s.first + (s.slopes.take j).sum + heldWorth a b (s.need + j) := by
  obtain ⟨k1, k2, k3⟩ := after_wk hb ha h
  have hl := h.len.len
  have hl2 := k1.len.len
  refine ⟨k2, by rw [k2, k3] at hl2; omega, ?_⟩
  have := after_cost (b := b) ha.len h.len j (by omega)
  unfold costAt at this
  rw [k2, show (s.need + (j : Int) - s.need).toNat = j by omega] at this
  exact this
theorem costK_keys {s : Slt} {n : Nat} : (costK s n).map (fun kv => kV kv.1) = (numsL s n).map V.int := by
  unfold costK numsL
  rw [List.map_map, List.map_map]
  rfl
def valsL (s : Slt) (n : Nat) : List Int := (List.range n).map fun (k : Nat) => s.first + (s.slopes.take k).sum
theorem costK_vals {s : Slt} {n : Nat} : (costK s n).map (·.2) = (valsL s n).map V.int := by
  unfold costK valsL
  rw [List.map_map, List.map_map]
  rfl
theorem costN {s : Slt} {k : Nat} : costAt s (s.need + (k : Int)) = s.first + (s.slopes.take k).sum := by
  unfold costAt
  rw [show (s.need + (k : Int) - s.need).toNat = k by omega]
theorem nums_least {s : Slt} (h : s.Len) {m : Int} (h1 : m ∈ numsL s (s.slopes.length + 1)) (h2 : ∀ y, y ∈ numsL s (s.slopes.length + 1) → m ≤ y) : m = s.need := by
  obtain ⟨k, hk, rfl⟩ := List.mem_map.mp h1
  have := h2 s.need (List.mem_map.mpr ⟨0, List.mem_range.mpr (by omega), by omega⟩)
  omega
theorem nums_most {s : Slt} (h : s.Len) {m : Int} (h1 : m ∈ numsL s (s.slopes.length + 1)) (h2 : ∀ y, y ∈ numsL s (s.slopes.length + 1) → y ≤ m) : m = s.most := by
  obtain ⟨k, hk, rfl⟩ := List.mem_map.mp h1
  have hl := h.len
  have := h2 (s.need + (s.slopes.length : Nat)) (List.mem_map.mpr ⟨s.slopes.length, List.mem_range.mpr (by omega), rfl⟩)
  have := List.mem_range.mp hk
  omega
theorem vals_least {s : Slt} (h : s.Wk) {m : Int} (h1 : m ∈ valsL s (s.slopes.length + 1)) (h2 : ∀ y, y ∈ valsL s (s.slopes.length + 1) → m ≤ y) : m = leastW s := by
  have hl := h.len.len
  obtain ⟨l1, l2⟩ := lowW_in h
  refine Int.le_antisymm ?_ ?_
  · refine h2 _ (List.mem_map.mpr ⟨(lowW s - s.need).toNat, List.mem_range.mpr (by omega), ?_⟩)
    rw [← costN, show s.need + (((lowW s - s.need).toNat : Nat) : Int) = lowW s by omega]
    rfl
  · obtain ⟨k, hk, rfl⟩ := List.mem_map.mp h1
    have hk := List.mem_range.mp hk
    rw [← costN]
    exact least_le h (by omega) (by omega)
theorem low_strict {s : Slt} (h : s.Wk) : ∀ n : Nat, s.need ≤ lowW s - (n : Int) → leastW s + n ≤ costAt s (lowW s - (n : Int))
  | 0, _ => by
    rw [show lowW s - ((0 : Nat) : Int) = lowW s by omega]
    unfold leastW
    omega
  | n + 1, hn => by
    obtain ⟨l1, l2⟩ := lowW_in h
    have ih := low_strict h n (by omega)
    have st := cost_step (s := s) (x := lowW s - ((n + 1 : Nat) : Int)) h.len hn (by omega)
    have ng := (low_iff h (x := lowW s - ((n + 1 : Nat) : Int)) hn (by omega)).mp (by omega)
    rw [show lowW s - ((n + 1 : Nat) : Int) + 1 = lowW s - (n : Int) by omega] at st
    omega
def lowsL (s : Slt) (n : Nat) : List Int := ((List.range n).filter fun k => decide (s.first + (s.slopes.take k).sum = leastW s)).map fun (k : Nat) => s.need + (k : Int)
theorem lows_yes {s : Slt} {n : Nat} (h : s.first + (s.slopes.take n).sum = leastW s) : lowsL s (n + 1) = lowsL s n ++ [s.need + (n : Int)] := by
  unfold lowsL
  rw [List.range_succ, List.filter_append, List.map_append, List.filter_cons_of_pos (by simpa using h)]
  rfl
theorem lows_no {s : Slt} {n : Nat} (h : ¬ s.first + (s.slopes.take n).sum = leastW s) : lowsL s (n + 1) = lowsL s n := by
  unfold lowsL
  rw [List.range_succ, List.filter_append, List.map_append, List.filter_cons_of_neg (by simpa using h)]
  exact List.append_nil _
theorem lows_len {s : Slt} {n : Nat} : (lowsL s n).length ≤ n := by
  unfold lowsL
  rw [List.length_map]
  exact Nat.le_trans (List.length_filter_le ..) (by rw [List.length_range]; exact Nat.le_refl n)
theorem lows_has {s : Slt} (h : s.Wk) : lowW s ∈ lowsL s (s.slopes.length + 1) := by
  have hl := h.len.len
  obtain ⟨l1, l2⟩ := lowW_in h
  refine List.mem_map.mpr ⟨(lowW s - s.need).toNat, List.mem_filter.mpr ⟨List.mem_range.mpr (by omega), ?_⟩, by omega⟩
  rw [← costN, show s.need + (((lowW s - s.need).toNat : Nat) : Int) = lowW s by omega]
  exact decide_eq_true rfl
theorem lows_least {s : Slt} (h : s.Wk) {m : Int} (h1 : m ∈ lowsL s (s.slopes.length + 1)) (h2 : ∀ y, y ∈ lowsL s (s.slopes.length + 1) → m ≤ y) : m = lowW s := by
  have hl := h.len.len
  have a := h2 _ (lows_has h)
  obtain ⟨k, hk, rfl⟩ := List.mem_map.mp h1
  obtain ⟨k1, k2⟩ := List.mem_filter.mp hk
  have k1 := List.mem_range.mp k1
  have k2 := of_decide_eq_true k2
  rw [← costN] at k2
  have := low_strict h (lowW s - (s.need + (k : Int))).toNat (by omega)
  rw [show lowW s - (((lowW s - (s.need + (k : Int))).toNat : Nat) : Int) = s.need + (k : Int) by omega] at this
  omega
def highsL (s : Slt) (b : Int) (n : Nat) : List Int := ((List.range n).filter fun (k : Nat) => decide (s.need + (k : Int) ≤ highW s b)).map fun (k : Nat) => s.need + (k : Int)
theorem highs_yes {s : Slt} {b : Int} {n : Nat} (h : s.need + (n : Int) ≤ highW s b) : highsL s b (n + 1) = highsL s b n ++ [s.need + (n : Int)] := by
  unfold highsL
  rw [List.range_succ, List.filter_append, List.map_append, List.filter_cons_of_pos (by simpa using h)]
  rfl
theorem highs_no {s : Slt} {b : Int} {n : Nat} (h : ¬ s.need + (n : Int) ≤ highW s b) : highsL s b (n + 1) = highsL s b n := by
  unfold highsL
  rw [List.range_succ, List.filter_append, List.map_append, List.filter_cons_of_neg (by simpa using h)]
  exact List.append_nil _
theorem highs_len {s : Slt} {b : Int} {n : Nat} : (highsL s b n).length ≤ n := by
  unfold highsL
  rw [List.length_map]
  exact Nat.le_trans (List.length_filter_le ..) (by rw [List.length_range]; exact Nat.le_refl n)
theorem highs_has {s : Slt} {b : Int} (h : s.Wk) : highW s b ∈ highsL s b (s.slopes.length + 1) := by
  have hl := h.len.len
  obtain ⟨l1, l2⟩ := highW_in (b := b) h
  exact List.mem_map.mpr ⟨(highW s b - s.need).toNat, List.mem_filter.mpr ⟨List.mem_range.mpr (by omega), decide_eq_true (by omega)⟩, by omega⟩
theorem highs_most {s : Slt} {b : Int} (h : s.Wk) {m : Int} (h1 : m ∈ highsL s b (s.slopes.length + 1)) (h2 : ∀ y, y ∈ highsL s b (s.slopes.length + 1) → y ≤ m) : m = highW s b := by
  have a := h2 _ (highs_has h)
  obtain ⟨k, hk, rfl⟩ := List.mem_map.mp h1
  have k2 := of_decide_eq_true (List.mem_filter.mp hk).2
  omega
/-- the step to a number costs at most b exactly up to HIGH -/
theorem high_step {s : Slt} {b : Int} (h : s.Wk) {k : Nat} (hk : k + 1 < s.slopes.length + 1) : s.first + (s.slopes.take (k + 1)).sum - (s.first + (s.slopes.take k).sum) ≤ b ↔ s.need + ((k + 1 : Nat) : Int) ≤ highW s b := by
  have hl := h.len.len
  have e := high_iff h (b := b) (x := s.need + (k : Int)) (by omega) (by omega)
  rw [show (s.need + (k : Int) - s.need).toNat = k by omega] at e
  have hz : s.slopes[k]? = some (s.slopes.getD k 0) := by
    rw [List.getD_eq_getElem?_getD, List.getElem?_eq_getElem (by omega)]
    rfl
  rw [take_sum hz]
  omega
/-- differences of the costs are the slopes -/
theorem diffs_are {s : Slt} : ∀ n : Nat, n ≤ s.slopes.length → ((List.range n).map fun (k : Nat) => (s.first + (s.slopes.take (k + 1)).sum) - (s.first + (s.slopes.take k).sum)) = s.slopes.take n
  | 0, _ => rfl
  | n + 1, hn => by
    have hz : s.slopes[n]? = some s.slopes[n] := List.getElem?_eq_getElem (by omega)
    have e := take_sum hz
    rw [mapr_succ, diffs_are n (by omega), e, take_snoc1 hz]
    congr 2
    omega
def spTold (K : PySem.W.Frag) : Sp := fun vs H Q _ => ∃ (d : Addr) (s : Slt), vs = [.ref d] ∧ H d = some (.dK (costK s (s.slopes.length + 1))) ∧ s.Len ∧ 0 ≤ s.need ∧ s.most ≤ 1000000 ∧ ∀ H' v, Same H H' → SltK K H' v s → Q v H'
def spLLow : Sp := fun vs H Q _ => ∃ (d : Addr) (s : Slt), vs = [.ref d] ∧ H d = some (.dK (costK s (s.slopes.length + 1))) ∧ s.Wk ∧ ∀ H', Same H H' → Q (.int (lowW s)) H'
def spLHigh : Sp := fun vs H Q _ => ∃ (d : Addr) (b : Int) (s : Slt), vs = [.ref d, .int b] ∧ H d = some (.dK (costK s (s.slopes.length + 1))) ∧ s.Wk ∧ ∀ H', Same H H' → Q (.int (highW s b)) H'
/-- a slot with one number only -/
def ptW (s : Slt) (x : Int) : Slt := ⟨x, x, costAt s x, []⟩
def spEnded (K : PySem.W.Frag) : Sp := fun vs H Q _ => ∃ (p : Addr) (x : Int) (us : List V) (v : V) (ss : List Slt) (s : Slt), vs = [.ref p, .int x] ∧ SqT K H p (us ++ [v]) ∧ SltsK K H us ss ∧ SltK K H v s ∧ ss.length ≤ 5000 ∧ fitB s x = true ∧
  ∀ H' r ws, Same H H' → SqT K H' r ws → SltsK K H' ws (ss ++ [ptW s x]) → Q (.ref r) H'
theorem cut_init {us : List V} {v : V} : cutV (us ++ [v]) none (some (-1)) = us := by
  unfold cutV HT.sIx
  simp
  rw [show (-1 + ((us.length : Int) + 1)).toNat = us.length by omega]
  simp
end WK
set_option Elab.async false
set_option linter.all false
set_option maxRecDepth 100000
set_option maxHeartbeats 4000000
namespace WK
open PySem PySem.Spec PyProof.Rows L2
/-! ### a list of anything != [] -/
def rNeNil (K : PySem.W.Frag) : R2 := fun x y H Q => ∃ (a b : Addr) (xs : List V), x = .ref a ∧ y = .ref b ∧ SqL K H a xs ∧ SqL K H b [] ∧ Q (.bl (!xs.isEmpty)) H
theorem op_neNil {X : Cx} (hu : X.A.units + 64 < cLine) : OpR X (compareOp .NotEq) (rNeNil X.K) := by
  intro pins s σ H x y v u Q I rx ry h
  obtain ⟨a, b, xs, rfl, rfl, ha, hb, q⟩ := h
  cases xs with
  | nil => exact op_neD hu pins s σ H _ _ v u Q I rx ry ⟨.list [], .list [], .lst ha .nil, .lst hb .nil, rfl, rfl, q⟩
  | cons z zs =>
    cases rx
    cases ry
    obtain ⟨i1, r1, p1, _⟩ := I.list ha
    obtain ⟨i2, r2, p2, _⟩ := I.list hb
    refine SeqAt.RcNeAt.lists_lengths p1.isList p2.isList ?_ (by omega) X.prog X.w X.xe _ ⟨.bl true, H, I, rfl, q⟩
    have e1 := r1.length
    have e2 := r2.length
    simp only [List.length_cons, List.length_nil] at e1 e2
    simp only [List.size_toArray, bne_iff_ne, ne_eq]
    omega
/-- works that are new, told -/
def spWorksN (K : PySem.W.Frag) : Sp := fun vs H Q _ => ∃ (p : Addr) (b : Int) (us : List V) (ss : List Slt), vs = [.ref p, .int b] ∧ SqT K H p us ∧ SltsK K H us ss ∧ (∀ s ∈ ss, s.Len) ∧ ss.length ≤ 5000 ∧ -(2 ^ 64) < b ∧ b < 2 ^ 64 ∧
  ∀ H' l ws, Same H H' → H l = none → H' l = some (.lst ws) → SltsK K H' ws (worksW w0 b ss) → Q (.ref l) H'
def spLeastsN (K : PySem.W.Frag) : Sp := fun vs H Q _ => ∃ (p : Addr) (b : Int) (us : List V) (ss : List Slt), vs = [.ref p, .int b] ∧ SqT K H p us ∧ SltsK K H us ss ∧ (∀ s ∈ ss, s.Len) ∧ ss.length ≤ 5000 ∧ -(2 ^ 64) < b ∧ b < 2 ^ 64 ∧
  ∀ H' l, Same H H' → H l = none → H' l = some (.lst (((worksW w0 b ss).map leastW).map V.int)) → Q (.ref l) H'
/-! ### bounds of works -/
/-- all costs of a slot or work are between -M and M -/
def Bd (s : Slt) (M : Int) : Prop := ∀ x, s.need ≤ x → x ≤ s.most → -M ≤ costAt s x ∧ costAt s x ≤ M
theorem after_bd {a s : Slt} {b M C : Int} (ha : a.Wk) (h : s.Wk) (hb : 0 ≤ b) (a0 : 0 ≤ a.need) (s1 : s.most ≤ 1000000) (hM : Bd a M) (hC : Bd s C) : Bd (afterW a s b) (M + C + b * 1000000) := by
  obtain ⟨k1, k2, k3⟩ := after_wk hb ha h
  intro x x1 x2
  rw [k2] at x1
  rw [k3] at x2
  have e := after_cost (b := b) ha.len h.len (x - s.need).toNat (by omega)
  rw [show s.need + (((x - s.need).toNat : Nat) : Int) = x by omega] at e
  obtain ⟨y, y1, y2, ey⟩ := held_reach (b := b) x ha hb
  have m := hM y y1 y2
  have c := hC x x1 x2
  have u : 0 ≤ up (x - y) ∧ up (x - y) ≤ 1000000 := by
    unfold up
    split <;> omega
  have p0 : 0 ≤ b * up (x - y) := Int.mul_nonneg hb u.1
  have p1 : b * up (x - y) ≤ b * 1000000 := Int.mul_le_mul_of_nonneg_left u.2 hb
  rw [e, ey]
  omega
theorem last_bd {b C : Int} (hb : 0 ≤ b) (hC : 0 ≤ C) (ss : List Slt) : (∀ s ∈ ss, s.Far ∧ Bd s C) → Bd (lastW w0 b ss) ((C + b * 1000000) * ss.length) := by
  refine snoc_ind (P := fun ss => (∀ s ∈ ss, s.Far ∧ Bd s C) → Bd (lastW w0 b ss) ((C + b * 1000000) * ss.length)) (fun _ => ?_) (fun l a ih h => ?_) ss
  · intro x x1 x2
    have : costAt w0 x = 0 := by
      unfold costAt w0
      simp
    show -((C + b * 1000000) * ((0 : Nat) : Int)) ≤ costAt w0 x ∧ costAt w0 x ≤ (C + b * 1000000) * ((0 : Nat) : Int)
    rw [this]
    simp
  · have hl : ∀ s ∈ l, s.Far ∧ Bd s C := fun s hs => h s (by simp [hs])
    have ha := h a (by simp)
    have := after_bd (lastW_wk hb l fun s hs => (hl s hs).1.wk) ha.1.wk hb (last_far hb fun s hs => (hl s hs).1).1 ha.1.hi (ih hl) ha.2
    rw [lastW_snoc, List.length_append]
    have e : (C + b * 1000000) * ((l.length + [a].length : Nat) : Int) = (C + b * 1000000) * l.length + C + b * 1000000 := by
      show (C + b * 1000000) * ((l.length + 1 : Nat) : Int) = _
      rw [Int.natCast_add, Int.mul_add]
      simp
      omega
    rw [e]
    exact this
end WK
set_option Elab.async false
set_option linter.all false
set_option maxRecDepth 100000
set_option maxHeartbeats 4000000
namespace WK
open PySem PySem.Spec PyProof.Rows L2
theorem works_at {b : Int} {ss : List Slt} : ∀ {i : Nat} {w : Slt}, (worksW w0 b ss)[i]? = some w → ∃ s, ss[i]? = some s ∧ w = afterW (lastW w0 b (ss.take i)) s b := by
  refine snoc_ind (P := fun ss => ∀ {i : Nat} {w : Slt}, (worksW w0 b ss)[i]? = some w → ∃ s, ss[i]? = some s ∧ w = afterW (lastW w0 b (ss.take i)) s b) (fun {i w} h => ?_) (fun l a ih {i w} h => ?_) ss
  · simp [worksW] at h
  · rw [worksW_snoc] at h
    by_cases hi : i < l.length
    · rw [List.getElem?_append_left (by rw [worksW_len]; exact hi)] at h
      obtain ⟨s, e1, e2⟩ := ih h
      refine ⟨s, by rw [List.getElem?_append_left hi]; exact e1, ?_⟩
      rw [List.take_append_of_le_length (Nat.le_of_lt hi)]
      exact e2
    · rw [List.getElem?_append_right (by rw [worksW_len]; omega), worksW_len] at h
      have hz : i - l.length = 0 := by
        have := (List.getElem?_eq_some_iff.mp h).1
        simp at this
        omega
      have ei : i = l.length := by omega
      subst ei
      rw [hz] at h
      have h := Option.some.inj h
      refine ⟨a, by simp, ?_⟩
      rw [← h, List.take_left']
      rfl
/-- a work of few numbers, none of them great -/
structure Sml (w : Slt) : Prop where
  wk : w.Wk
  lo : 0 ≤ w.need
  hi : w.most ≤ 1000000
  few : w.most - w.need ≤ 12
  bd : Bd w 100000000000000000
abbrev Drn (s : Slt) : Prop := s.Ok 1000000 80000000000 1000000000000 ∧ s.most - s.need ≤ 12
theorem drn_far {s : Slt} (h : Drn s) : s.Far := ⟨ok_wk h.1 (by have := h.2; omega), h.1.lo, h.1.hi⟩
theorem drn_bd {s : Slt} (h : Drn s) : Bd s 2000000000000 := by
  intro x x1 x2
  have hl := h.1.len
  have hw := h.2
  have hm := h.1.mid
  have p := h.1.pos (x - s.need).toNat
  have f := h.1.fst
  have b := sum_bounds (b := 80000000000) (l := s.slopes.take (x - s.need).toNat) fun z hz => h.1.steep z (List.mem_of_mem_take hz)
  have l12 : ((s.slopes.take (x - s.need).toNat).length : Int) ≤ 12 := by
    rw [List.length_take]
    omega
  unfold costAt
  omega
theorem works_small {b : Int} {ss : List Slt} (hb : 0 ≤ b) (hb2 : b ≤ 1000000000) (hl : ss.length ≤ 25) (h : ∀ s ∈ ss, Drn s) : ∀ w ∈ worksW w0 b ss, Sml w := by
  intro w hw
  obtain ⟨i, hi, hg⟩ := List.mem_iff_getElem.mp hw
  obtain ⟨s, e1, rfl⟩ := works_at (i := i) (by rw [List.getElem?_eq_getElem hi, hg])
  have hs := h s (List.mem_of_getElem? e1)
  have ht : ∀ s ∈ ss.take i, s.Far ∧ Bd s 2000000000000 := fun s' hs' => ⟨drn_far (h s' (List.mem_of_mem_take hs')), drn_bd (h s' (List.mem_of_mem_take hs'))⟩
  have lw := lastW_wk hb (ss.take i) fun s hs => (ht s hs).1.wk
  obtain ⟨k1, k2, k3⟩ := after_wk hb lw (drn_far hs).wk
  refine ⟨k1, by rw [k2]; exact hs.1.lo, by rw [k3]; exact hs.1.hi, by rw [k2, k3]; exact hs.2, ?_⟩
  have b1 := last_bd hb (by omega) (ss.take i) ht
  have b2 := after_bd lw (drn_far hs).wk hb (last_far hb fun s hs => (ht s hs).1).1 hs.1.hi b1 (drn_bd hs)
  intro x x1 x2
  have := b2 x x1 x2
  have hlt : ((ss.take i).length : Int) ≤ 25 := by
    rw [List.length_take]
    omega
  have hm : (2000000000000 + b * 1000000) * ((ss.take i).length : Int) ≤ (2000000000000 + 1000000000 * 1000000) * 25 := Int.mul_le_mul (by omega) hlt (by omega) (by omega)
  omega
theorem sml_num {w : Slt} (h : Sml w) : w.need.natAbs < 10 ^ 150 ∧ w.most.natAbs < 10 ^ 150 ∧ w.first.natAbs < 10 ^ 150 ∧ (leastW w).natAbs < 10 ^ 150 ∧ ∀ z ∈ w.slopes, z.natAbs < 10 ^ 150 := by
  have hm := h.wk.len.mid
  have hl := h.wk.len.len
  have h0 := h.lo
  have h1 := h.hi
  refine ⟨nat150 (by omega) (by omega), nat150 (by omega) (by omega), ?_, ?_, fun z hz => ?_⟩
  · have := h.bd w.need (by omega) hm
    have e : costAt w w.need = w.first := by
      unfold costAt
      simp
    rw [e] at this
    exact nat150 (by omega) (by omega)
  · obtain ⟨l1, l2⟩ := lowW_in h.wk
    have := h.bd (lowW w) l1 l2
    unfold leastW
    exact nat150 (by omega) (by omega)
  · obtain ⟨i, hi, rfl⟩ := List.mem_iff_getElem.mp hz
    have a := h.bd (w.need + (i : Int)) (by omega) (by omega)
    have b := h.bd (w.need + ((i + 1 : Nat) : Int)) (by omega) (by omega)
    rw [costN] at a b
    rw [take_sum (List.getElem?_eq_getElem hi)] at b
    exact nat150 (by omega) (by omega)
theorem sml_lil {w : Slt} (h : Sml w) : Lil (sltD w) ∧ cost (sltD w) ≤ 5000 := by
  obtain ⟨a1, a2, a3, _, a4⟩ := sml_num h
  have hl := h.wk.len.len
  have hf := h.few
  refine ⟨?_, ?_⟩
  · simp only [sltD, Lil, LilAll, and_true]
    exact ⟨a1, a2, a3, lil_ints a4⟩
  · have := cost_ints (ns := w.slopes)
    have e : w.slopes.length * 153 ≤ 12 * 153 := Nat.mul_le_mul_right _ (by omega)
    simp only [sltD, cost, costAll]
    omega
theorem sml_depth {w : Slt} : (sltD w).depth ≤ 2 := by
  simp only [sltD, PyData.depth, PyData.depthAll, depth_ints]
  omega
theorem shows_told {l : List Slt} {ns : List Int} (hl : l.length ≤ 25) (h : ∀ w ∈ l, Sml w) (hn : ns.length ≤ 25) (h2 : ∀ z ∈ ns, z.natAbs < 10 ^ 150) : Shows (.list [.list (l.map sltD), .list (intsD ns)]) := by
  have c := costAll_le (c := 5000) (xs := l.map sltD) fun x hx => by
    obtain ⟨v, hv, rfl⟩ := List.mem_map.mp hx
    exact (sml_lil (h v hv)).2
  rw [List.length_map] at c
  have c2 := cost_ints (ns := ns)
  have d := depthAll_le (c := 2) (xs := l.map sltD) fun x hx => by
    obtain ⟨v, _, rfl⟩ := List.mem_map.mp hx
    exact sml_depth
  refine shows_of ?_ ?_ ?_
  · simp only [Lil, LilAll, and_true]
    refine ⟨lilAll_iff.mpr fun x hx => ?_, lil_ints h2⟩
    obtain ⟨v, hv, rfl⟩ := List.mem_map.mp hx
    exact (sml_lil (h v hv)).1
  · simp only [PyData.depth, PyData.depthAll, depth_ints]
    omega
  · simp only [cost, costAll]
    refine Nat.le_trans ?_ (show 25 * 5002 + 25 * 153 + 20 ≤ sizeLine by decide)
    have e : ns.length * 153 ≤ 25 * 153 := Nat.mul_le_mul_right _ hn
    have e2 : l.length * 5002 ≤ 25 * 5002 := Nat.mul_le_mul_right _ hl
    omega
theorem shows_one {w : Slt} {x y : Int} (h : Sml w) (hx : x.natAbs < 10 ^ 150) (hy : y.natAbs < 10 ^ 150) : Shows (.list [sltD w, .int x, .int y]) := by
  obtain ⟨a, c⟩ := sml_lil h
  have d := sml_depth (w := w)
  refine shows_of ?_ ?_ ?_
  · simp only [Lil, LilAll, and_true]
    exact ⟨a, hx, hy⟩
  · simp only [PyData.depth, PyData.depthAll]
    omega
  · simp only [cost, costAll]
    refine Nat.le_trans ?_ (show 6000 ≤ sizeLine by decide)
    omega
/-- ended at a number, the last work's worth there is the least cost -/
theorem ended_least {b : Int} {ss : List Slt} {s : Slt} {x : Int} (hb : 0 ≤ b) (h : ∀ s ∈ ss, s.Far) (hs : s.Wk) (hx : fitB s x = true) : leastW (lastW w0 b (ss ++ [ptW s x])) = costAt (afterW (lastW w0 b ss) s b) x := by
  obtain ⟨x1, x2⟩ := fit_iff.mp hx
  have lw := lastW_wk hb ss fun s hs => (h s hs).wk
  have pk : (ptW s x).Wk := ⟨⟨by simp [ptW], Int.le_refl _, by show x - x ≤ 1000; omega⟩, Int.le_trans hs.lo x1, List.Pairwise.nil⟩
  rw [lastW_snoc]
  obtain ⟨k1, k2, k3⟩ := after_wk hb lw pk
  have e0 : (afterW (lastW w0 b ss) (ptW s x) b).slopes = [] := by
    have := k1.len.len
    rw [k2, k3] at this
    exact List.eq_nil_of_length_eq_zero (by have : ((afterW (lastW w0 b ss) (ptW s x) b).slopes.length : Int) = x - x := this; omega)
  have c1 := after_cost (b := b) lw.len pk.len 0 (Int.le_of_eq (by show x + 0 = x; omega))
  have c2 := after_cost (b := b) lw.len hs.len (x - s.need).toNat (by omega)
  rw [show s.need + (((x - s.need).toNat : Nat) : Int) = x by omega] at c2
  have e1 : lowW (afterW (lastW w0 b ss) (ptW s x) b) = x := by
    unfold lowW
    rw [e0, k2]
    show x + ((0 : Nat) : Int) = x
    omega
  unfold leastW
  rw [e1, c2]
  have c1 : costAt (afterW (lastW w0 b ss) (ptW s x) b) (x + ((0 : Nat) : Int)) = costAt (ptW s x) (x + ((0 : Nat) : Int)) + heldWorth (lastW w0 b ss) b (x + ((0 : Nat) : Int)) := c1
  rw [show x + ((0 : Nat) : Int) = x by omega] at c1
  rw [c1]
  congr 1
  show costAt ⟨x, x, costAt s x, []⟩ x = costAt s x
  unfold costAt
  simp
theorem at_neg {xs : List V} {v : V} (h : xs[xs.length - 1]? = some v) : atI xs (-1) = some v := by
  have hl := (List.getElem?_eq_some_iff.mp h).1
  unfold atI ixN
  rw [if_neg (by omega), if_pos (by omega), show (-1 + (xs.length : Int)).toNat = xs.length - 1 by omega]
  exact h
theorem last_at {b : Int} {ss : List Slt} : atI (V.int 0 :: ((worksW w0 b ss).map leastW).map V.int) (-1) = some (.int (leastW (lastW w0 b ss))) := by
  refine snoc_ind (P := fun ss => atI (V.int 0 :: ((worksW w0 b ss).map leastW).map V.int) (-1) = some (.int (leastW (lastW w0 b ss)))) rfl (fun l a _ => ?_) ss
  rw [worksW_snoc, lastW_snoc, List.map_append, List.map_append, ← List.cons_append]
  exact atI_last _ _
theorem last_mem {b : Int} {ss : List Slt} {a : Slt} : lastW w0 b (ss ++ [a]) ∈ worksW w0 b (ss ++ [a]) := by
  rw [worksW_snoc, lastW_snoc]
  simp
theorem last_num {b : Int} {ss : List Slt} (h : ∀ w ∈ worksW w0 b ss, Sml w) : (leastW (lastW w0 b ss)).natAbs < 10 ^ 150 := by
  rcases List.eq_nil_or_concat ss with e | ⟨l, a, e⟩
  · subst e
    exact (show (0 : Int).natAbs < 10 ^ 150 by decide)
  · rw [List.concat_eq_append] at e
    subst e
    exact (sml_num (h _ last_mem)).2.2.2.1
theorem slts_split {H : Hp} {ws : List V} {st : List Slt} {sz : Slt} (h : SltsAt H ws (st ++ [sz])) : ∃ us v, ws = us ++ [v] ∧ SltsAt H us st ∧ SltAt H v sz := by
  induction st generalizing ws with
  | nil =>
    cases h with
    | cons a b =>
      cases b
      exact ⟨[], _, rfl, .nil, a⟩
  | cons x xs ih =>
    cases h with
    | cons a b =>
      obtain ⟨us, v, e, h1, h2⟩ := ih b
      exact ⟨_ :: us, v, by rw [e]; rfl, .cons a h1, h2⟩
end WK
set_option Elab.async false
set_option linter.all false
set_option maxRecDepth 100000
set_option maxHeartbeats 1000000
namespace K14
open PySem PySem.Spec PyProof.Rows L2 WK
def topS (i : Nat) : Stmt := PySem.Challenge.pw_wakedenough_k14_whole_works_of_slots.main.body.getD i (.Pass ⟨0, 0, 0, 0⟩)
abbrev sSource : Stmt := topS 21
abbrev sPick : Stmt := topS 22
abbrev sOf : Stmt := topS 23
theorem scSource : FnScope ["script", "mixed", "cell"] ["script"] (defScope sSource) := ⟨rfl, rfl, rfl, by decide +kernel, rfl, by decide +kernel, by decide +kernel⟩
theorem scPick : FnScope ["source", "many", "left", "mixed"] ["source", "many"] (defScope sPick) := ⟨rfl, rfl, rfl, by decide +kernel, rfl, by decide +kernel, by decide +kernel⟩
theorem scOf : FnScope ["source", "some"] ["source", "some"] (defScope sOf) := ⟨rfl, rfl, rfl, by decide +kernel, rfl, by decide +kernel, by decide +kernel⟩
local macro_rules | `(tactic| walk_at "rd") => `(tactic| repeat (first | refine Exists.intro _ (And.intro rfl ?_) | refine Exists.intro _ (Exists.intro _ (And.intro rfl (And.intro rfl ?_))) | refine Exists.intro _ (Exists.intro _ (And.intro rfl ?_))))
section
variable {P : Program} {w : World} {K : PySem.W.Frag} {mg : Str → Option Value} {base : Heap}
theorem ok_source {f : Addr} {fd : FuncData} (F : Fun K "_law_source" "_law_source" sSource f fd) (B : Blt mg) : FnOk P w K mg base CX0 1 f fd ["script"] (spSource K) := by
  refine F.ok scSource (fun vs H Q E h => ?_) (fun cdv A outer s H vs Q E hr h => ?_)
  · obtain ⟨a, ns, rfl, _⟩ := h
    rfl
  · obtain ⟨a, ns, rfl, hS, hlen, q⟩ := h
    refine ⟨_, pss_cons (ps_set (i := 1) scSource.nd rfl (.inl rfl) pe_int)
      (pss_cons (ps_for PassesOwn.never rfl (pi_list (pv 0)) (pg_name (i := 2) scSource.nd rfl (.inl rfl))
        (pss_one (ps_set (i := 1) scSource.nd rfl (.inl rfl)
          (pe_op op_mod (pe_callTy call_int1 (by rfl) B.int (by decide +kernel) (pa_cons (pe_op op_add (pe_op op_add (pe_op op_mul (pv 1) pe_int) (pe_op op_mul (pv 2) pe_int)) pe_int) pa_nil)) pe_int))))
      (pss_one (ps_ret (pe_disp (pps_cons pe_str (pe_revL (pe_lc (own := [("cell", 2)]) (g := gName 2) rfl scSource.nd (pi_list (pv 0))
          (blkOk_by (own := [("cell", 2)]) (N := ["script", "mixed", "cell"]) (sc := defScope sSource) (by decide +kernel))
          (fun _ _ _ _ _ => pg_name (i := 2) scSource.nd rfl (Or.inl rfl)) (fun _ _ _ _ _ => pts_nil) (fun _ _ _ _ _ => pe_callB call_abs (by rfl) B.abs (by decide +kernel) (pa_cons (pv 2) pa_nil))))
        (pps_cons pe_str pe_int (pps_cons pe_str (pv 1) (pps_cons pe_str pe_int pps_nil)))) (by rfl) (by rfl) (fun z => by cases z) (by decide))))), ?_⟩
    walk_at "rd"
    refine ⟨⟨_, hS⟩, for_list (xs := ns.map V.int) (fun i σ H1 => ∃ m c3, σ = [some (.ref a), some (.int m), c3] ∧ H1 = H) ⟨11, none, rfl, rfl⟩ (fun i σ H1 _ h => ?_) (fun i x σ H1 hx h => ?_) (fun σ H1 h => ?_)⟩
    · obtain ⟨m, c3, rfl, rfl⟩ := h
      exact hS
    · obtain ⟨m, c3, rfl, rfl⟩ := h
      obtain ⟨z, hz, rfl⟩ := int_at hx
      walk_at "rd"
      refine ⟨mulr (by decide), ?_⟩
      walk_at "rd"
      refine ⟨mulr (by decide), ?_⟩
      walk_at "rd"
      refine .inl ?_
      walk_at "rd"
      refine ⟨by show (0 : Int) < 2147483629; decide, ?_⟩
      exact ⟨_, _, rfl, rfl⟩
    · obtain ⟨m, c3, rfl, rfl⟩ := h
      intro p np
      generalize eH : upd _ _ _ = H2
      obtain ⟨s2, e2⟩ := new_of eH np
      walk_at "rd"
      refine ⟨⟨_, s2.seq hS⟩, fun D nD => lc_list (K := K) (a := a) (xs := ns.map V.int) (fun i G => Same H2 G ∧ G D = some (.lst ((ns.take i).map fun z => V.int z.natAbs))) ?_ (fun i G _ h => h.1.seq (s2.seq hS)) (fun i x G hx h => ?_) (fun G h => ?_)⟩
      · exact ⟨same_new nD, upd_same⟩
      · obtain ⟨z, hz, rfl⟩ := int_at hx
        refine yesT rfl ?_
        walk_at "rd"
        refine ⟨_, h.2, ?_, fun b o e => ?_, ?_⟩
        · rw [List.length_map, List.length_take]
          exact small63 (by omega)
        · rw [upd_ne (ne_of_none e nD)]
          exact h.1 _ _ e
        · rw [upd_same, take_snoc hz, abs_eq]
      · obtain ⟨s3, e3⟩ := h
        walk_at "rd"
        refine ⟨_, _, rfl, .inl (.inl e3), fun c nc => ?_⟩
        generalize eH : upd _ _ _ = H4
        obtain ⟨s4, e4⟩ := new_of eH nc
        walk_at "rd"
        refine ⟨s4 _ _ (s3 _ _ e2), [(.inr "cells", .ref c), (.inr "left", .int 1), (.inr "mixed", .int m), (.inr "turn", .int 0)], rfl, (by show 4 ≤ 15; decide), ?_⟩
        have npc : c ≠ p := (ne_of_none (s3 _ _ e2) nc).symm
        refine q _ p c ⟨((ns.map fun z => (z.natAbs : Int)).reverse), 1, m, 0, ?_, ?_⟩ ?_ np ?_
        · rw [upd_same]
          refine congrArg (fun l => some (HO.dK l)) ?_
          simp [mergeK, putK, srcK, k12, k13, k14, k23, k24, k34]
        · rw [upd_ne npc, e4, List.length_map, List.take_length, List.map_reverse, List.map_map]
          rfl
        · intro b o e
          rw [upd_ne (ne_of_none e np)]
          exact s4 _ _ (s3 _ _ (s2 _ _ e))
        · exact (s2.trans s3).free nc
end
section
variable {P : Program} {w : World} {K : PySem.W.Frag} {mg : Str → Option Value} {base : Heap}
theorem ok_pick {f : Addr} {fd : FuncData} (F : Fun K "_law_pick" "_law_pick" sPick f fd) (B : Blt mg) : FnOk P w K mg base CX0 1 f fd ["source", "many"] spPick := by
  refine F.ok scPick (fun vs H Q E h => ?_) (fun cdv A outer s H vs Q E hr h => ?_)
  · obtain ⟨p, c, many, rfl, _⟩ := h
    rfl
  · obtain ⟨p, c, many, rfl, S, hm, q⟩ := h
    have hu := hu_of hr
    refine ⟨_, pss_cons (ps_while PassesOwn.never (PW.pt (pw_and (pt_cmpR op_gt (pv 1) pe_int (nomark _)) (pw_and (pt_cmpR op_lt (pe_dget hu (pv 0) pe_str (fun _ _ => rfl)) pe_int (nomark _))
          (pw_and1 (pt_cmpR op_gt (pe_callB call_len_seq (by rfl) B.len PySem.boot_len (pa_cons (pe_dget hu (pv 0) pe_str (fun _ _ => rfl)) pa_nil)) pe_int (nomark _))))))
        (pss_one (ps_dput hu (pv 0) pe_str (pe_bm0 PySem.F.plainAttrs_list PySem.F.slot_list_pop PySem.F.type_list_pop mt_pop (pe_dget hu (pv 0) pe_str (fun _ _ => rfl))) rfl)))
      (pss_cons (ps_set (i := 2) scPick.nd rfl (.inl rfl) (pe_dget hu (pv 0) pe_str (fun _ _ => rfl)))
      (pss_cons (ps_if (PW.pt (pw_or (pt_cmpR op_lt (pv 1) pe_int (nomark _)) (pw_or1 (pt_cmpR op_gt (pv 2) pe_int (nomark _)))))
        (pss_cons (ps_dput hu (pv 0) pe_str (pe_op op_fdivN (pv 2) (pe_callB (call_max2 rfl) (by rfl) B.max boot_max (pa_cons pe_int (pa_cons (pv 1) pa_nil)))) rfl)
          (pss_one (ps_ret (pe_op op_modN (pe_callTy call_int1 (by rfl) B.int (by decide +kernel) (pa_cons (pv 2) pa_nil)) (pe_callB (call_max2 rfl) (by rfl) B.max boot_max (pa_cons pe_int (pa_cons (pv 1) pa_nil))))))) pss_nil)
      (pss_cons (ps_dput hu (pv 0) pe_str (pe_op op_add (pe_dget hu (pv 0) pe_str (fun _ _ => rfl)) pe_int) rfl)
      (pss_cons (ps_set (i := 3) scPick.nd rfl (.inl rfl) (pe_op op_mod (pe_callTy call_int1 (by rfl) B.int (by decide +kernel) (pa_cons (pe_op op_add (pe_dget hu (pv 0) pe_str (fun _ _ => rfl)) (pe_op op_mul (pe_dget hu (pv 0) pe_str (fun _ _ => rfl)) pe_int)) pa_nil)) pe_int))
      (pss_cons (ps_set (i := 3) scPick.nd rfl (.inl rfl) (pe_op op_mod (pe_callTy call_int1 (by rfl) B.int (by decide +kernel) (pa_cons (pe_op op_add (pe_op op_mul (pv 3) (pv 3)) (pe_op op_mul (pe_dget hu (pv 0) pe_str (fun _ _ => rfl)) pe_int)) pa_nil)) pe_int))
      (pss_cons (ps_dput hu (pv 0) pe_str (pv 3) rfl)
      (pss_one (ps_ret (pe_op op_modN (pe_callTy call_int1 (by rfl) B.int (by decide +kernel) (pa_cons (pe_op op_fdiv (pv 3) pe_int) pa_nil)) (pv 1)))))))))), ?_⟩
    obtain ⟨cells, l, m, t, hp, hc⟩ := S.ex
    have npc := S.ne
    refine while3 (fun n σ H1 => ∃ (cs : List Int) (l : Int), σ = [some (.ref p), some (.int many), none, none] ∧ n = cs.length ∧ H1 p = some (.dK (srcK c l m t)) ∧ H1 c = some (.lst (cs.map V.int)) ∧ Off p c H H1)
      cells.length ⟨cells, l, rfl, rfl, hp, hc, Off.refl p c H⟩ (fun n σ H1 h => ?_) (fun aft n σ H1 h => ?_)
    · -- behind the loop
      obtain ⟨cs, l, rfl, rfl, hp, hc, off⟩ := h
      walk_at "rd"
      refine ⟨_, _, rfl, src_get hp src_left, ?_⟩
      have early : ∀ H2, H2 = upd H1 p (HO.dK (srcK c (l.fdiv (if many > 1 then many else 1)) m t)) → Q (.int (l.fmod (if many > 1 then many else 1))) H2 := by
        rintro H2 rfl
        have hb : 0 < (if many > 1 then many else 1) := by split <;> omega
        refine q _ _ ⟨cs, _, m, t, upd_same, (upd_ne npc.symm).trans hc⟩ (off.trans Off.at_p) (fmod_bounds hb).1 ?_
        have := fmod_bounds (a := l) hb
        by_cases h1 : many > 1
        · rw [if_pos h1] at this ⊢
          exact .inl this.2
        · rw [if_neg h1] at this ⊢
          exact .inr (by omega)
      have hd : CDivN l (if many > 1 then many else 1) := by
        constructor <;> split <;> omega
      walk_at "rd"
      refine ite2 (fun h1 => ?_) (fun h1 => ?_)
      · dsimp only
        refine ifT rfl ?_
        walk_at "rd"
        refine ⟨hd, _, rfl, _, _, rfl, src_put hp rfl put_left rfl, ?_⟩
        walk_at "rd"
        refine .inl ?_
        walk_at "rd"
        exact ⟨hd.1, early _ rfl⟩
      · walk_at "rd"
        refine ite2 (fun h2 => ?_) (fun h2 => ?_)
        · walk_at "rd"
          refine ⟨hd, _, rfl, _, _, rfl, src_put hp rfl put_left rfl, ?_⟩
          walk_at "rd"
          refine .inl ?_
          walk_at "rd"
          exact ⟨hd.1, early _ rfl⟩
        · have hm2 : 2 ≤ many := by
            have := of_decide_eq_false (Bool.eq_false_iff.mpr h1)
            omega
          walk_at "rd"
          refine ⟨_, _, rfl, src_get hp src_turn, ?_⟩
          walk_at "rd"
          refine ⟨_, _, rfl, src_put hp rfl put_turn rfl, ?_⟩
          generalize eH : upd _ _ _ = H2
          obtain ⟨hp2, of2⟩ := chg eH
          have hc2 := (of2 c npc.symm).trans hc
          walk_at "rd"
          refine ⟨_, _, rfl, src_get hp2 src_mixed, ?_⟩
          walk_at "rd"
          refine ⟨_, _, rfl, src_get hp2 src_turn, ?_⟩
          walk_at "rd"
          refine ⟨mulr (by decide), ?_⟩
          walk_at "rd"
          refine .inl ?_
          walk_at "rd"
          refine ⟨by show (0 : Int) < 998244353; decide, ?_⟩
          have mb := Int.emod_lt_of_pos (m + (t + 1) * 104729) (show (0 : Int) < 998244353 by decide)
          have mb0 := Int.emod_nonneg (m + (t + 1) * 104729) (show (998244353 : Int) ≠ 0 by decide)
          walk_at "rd"
          refine ⟨mulr (by omega), ?_⟩
          walk_at "rd"
          refine ⟨_, _, rfl, src_get hp2 src_turn, ?_⟩
          walk_at "rd"
          refine ⟨mulr (by decide), ?_⟩
          walk_at "rd"
          refine .inl ?_
          walk_at "rd"
          refine ⟨by show (0 : Int) < 2147483647; decide, ?_⟩
          walk_at "rd"
          refine ⟨_, _, rfl, src_put hp2 rfl put_mixed rfl, ?_⟩
          generalize eH3 : upd _ _ _ = H3
          obtain ⟨hp3, of3⟩ := chg eH3
          have hc3 := (of3 c npc.symm).trans hc2
          walk_at "rd"
          refine ⟨by constructor <;> decide, ?_⟩
          walk_at "rd"
          refine .inl ?_
          walk_at "rd"
          refine ⟨by omega, ?_⟩
          have fb := fun a : Int => fmod_bounds (a := a) (show 0 < many by omega)
          refine q _ _ ⟨cs, _, _, _, hp3, hc3⟩ (off.trans (fun b o h1 h2 e => ?_)) (fb _).1 (.inl (fb _).2)
          rw [of3 b h1, of2 b h1]
          exact e
    · obtain ⟨cs, l, rfl, rfl, hp, hc, off⟩ := h
      walk_at "rd"
      refine ite2 (fun h1 => ?_) (fun h1 => ?_)
      · walk_at "rd"
        refine ⟨_, _, rfl, src_get hp src_left, ?_⟩
        walk_at "rd"
        refine ite2 (fun h2 => ?_) (fun h2 => ?_)
        · walk_at "rd"
          refine ⟨_, _, rfl, src_get hp src_cells, ?_⟩
          refine ⟨_, _, rfl, .inl (.inl (.inl hc)), ?_⟩
          walk_at "rd"
          refine ite2 (fun h3 => ?_) (fun h3 => ?_)
          · refine ⟨_, fun σ' H' h => ⟨cs.length - 1, ?_, h⟩, ?_⟩
            · have := of_decide_eq_true h3
              rw [List.length_map] at this
              omega
            · walk_at "rd"
              refine ⟨_, _, rfl, src_get hp src_cells, ?_⟩
              have hne : cs ≠ [] := by
                rintro rfl
                exact absurd (of_decide_eq_true h3) (by decide)
              obtain ⟨z, hz⟩ : ∃ z, cs[cs.length - 1]? = some z := by
                refine ⟨cs[cs.length - 1]'(by have := List.length_pos_iff.mpr hne; omega), ?_⟩
                rw [List.getElem?_eq_getElem]
              refine ⟨.inl ⟨rfl, _, .inl (.inl hc)⟩, _, _, .int z, rfl, rfl, hc, ?_, ?_⟩
              · rw [List.length_map, List.getElem?_map, hz]
                rfl
              generalize eH : upd _ _ _ = H2
              obtain ⟨hc2, of2⟩ := chg eH
              have hp2 := (of2 p npc).trans hp
              refine ⟨_, rfl, _, _, rfl, src_put hp2 rfl put_left rfl, cs.dropLast, z, rfl, ?_, upd_same, ?_, off.trans (fun b o h1 h2 e => ?_)⟩
              · rw [List.length_dropLast]
              · rw [upd_ne npc.symm, hc2, List.map_dropLast]
              · rw [upd_ne h1, of2 b h2]
                exact e
          · exact aft _ _ _ ⟨cs, l, rfl, rfl, hp, hc, off⟩
        · exact aft _ _ _ ⟨cs, l, rfl, rfl, hp, hc, off⟩
      · exact aft _ _ _ ⟨cs, l, rfl, rfl, hp, hc, off⟩
end
/-- the draws' defs as they stand -/
structure Drw (K : PySem.W.Frag) (mg : Str → Option Value) (fP fO : Addr) (fdP fdO : FuncData) : Prop where
  FP : Fun K "_law_pick" "_law_pick" sPick fP fdP
  bP : Binds K fdP ["source", "many"] []
  gP : mg "_law_pick" = some (.ref fP)
  FO : Fun K "_law_of" "_law_of" sOf fO fdO
  bO : Binds K fdO ["source", "some"] []
  gO : mg "_law_of" = some (.ref fO)
section
variable {P : Program} {w : World} {K : PySem.W.Frag} {mg : Str → Option Value} {base : Heap}
theorem ok_of {f fP fO : Addr} {fd fdP fdO : FuncData} (F : Fun K "_law_of" "_law_of" sOf f fd) (D : Drw K mg fP fO fdP fdO) (B : Blt mg) : FnOk P w K mg base CX0 2 f fd ["source", "some"] (spOf K) := by
  have GP : FnOk P w K mg base CX0 1 fP fdP ["source", "many"] spPick := ok_pick D.FP B
  refine F.ok scOf (fun vs H Q E h => ?_) (fun cdv A outer s H vs Q E hr h => ?_)
  · obtain ⟨p, c, l, xs, rfl, _⟩ := h
    rfl
  · obtain ⟨p, c, l, xs, rfl, S, hl, hne, hlen, q⟩ := h
    refine ⟨_, pss_one (ps_ret (pe_ix ix_seq (pv 1) (pe_call GP hr (by rfl) D.gP D.FP.kp D.bP .nil pass0 (pa_cons (pv 0) (pa_cons (pe_callB call_len_seq (by rfl) B.len PySem.boot_len (pa_cons (pv 1) pa_nil)) pa_nil))) (fun _ _ => rfl))), ?_⟩
    walk_at "rd"
    refine ⟨_, _, rfl, hl H (Off.refl p c H), p, c, _, rfl, S, by omega, fun H' r S' off r0 r1 => ?_⟩
    have hpos : 0 < xs.length := List.length_pos_iff.mpr hne
    have hr2 : r.toNat < xs.length := by omega
    have hat : atI xs r = some xs[r.toNat] := at_of (j := r.toNat) (by omega) (List.getElem?_eq_getElem hr2)
    rcases hl H' off with a | a
    · exact .inl ⟨_, _, _, _, rfl, rfl, a, hat, q H' _ (List.getElem_mem hr2) S' off⟩
    · exact .inr (.inl ⟨_, _, _, _, rfl, rfl, a, hat, q H' _ (List.getElem_mem hr2) S' off⟩)
end
end K14
set_option Elab.async false
set_option linter.all false
set_option maxRecDepth 100000
set_option maxHeartbeats 4000000
namespace K14
open PySem PySem.Spec PyProof.Rows L2 WK
local macro_rules | `(tactic| walk_at "rd") => `(tactic| repeat (first | refine Exists.intro _ (And.intro rfl ?_) | refine Exists.intro _ (Exists.intro _ (And.intro rfl (And.intro rfl ?_))) | refine Exists.intro _ (Exists.intro _ (And.intro rfl ?_))))
abbrev sSlots : Stmt := topS 24
theorem scSlots : FnScope ["source", "ticks", "most", "found", "lap", "need", "many", "steep", "slopes", "low", "k"] ["source", "ticks", "most"] (defScope sSlots) := ⟨rfl, rfl, rfl, by decide +kernel, rfl, by decide +kernel, by decide +kernel⟩
section
variable {P : Program} {w : World} {K : PySem.W.Frag} {mg : Str → Option Value} {base : Heap}
theorem ok_slots {f fP fO : Addr} {fd fdP fdO : FuncData} (F : Fun K "_law_draw_slots" "_law_draw_slots" sSlots f fd) (D : Drw K mg fP fO fdP fdO) (B : Blt mg) : FnOk P w K mg base CX0 3 f fd ["source", "ticks", "most"] spSlots := by
  have GP : FnOk P w K mg base CX0 1 fP fdP ["source", "many"] spPick := ok_pick D.FP B
  have GO : FnOk P w K mg base CX0 2 fO fdO ["source", "some"] (spOf K) := ok_of D.FO D B
  refine F.ok scSlots (fun vs H Q E h => ?_) (fun cdv A outer s H vs Q E hr h => ?_)
  · obtain ⟨p, c, ticks, most, rfl, _⟩ := h
    rfl
  · obtain ⟨p, c, ticks, most, rfl, S, ht, hm0, hm1, q⟩ := h
    have hrO := hr
    have hrP := hr.mono (show 1 ≤ 2 by decide)
    have hu64 := hr.units
    refine ⟨_, (pss_cons (ps_set (i := 3) scSlots.nd rfl (.inl rfl) (pe_lst pa_nil))
      (pss_cons (ps_for PassesOwn.never rfl (pi_range1 rfl B.range (pa_cons (pv 1) pa_nil)) (pg_name (i := 4) scSlots.nd rfl (.inl rfl))
        (pss_cons (ps_set (i := 5) scSlots.nd rfl (.inl rfl) (pe_ifExp (pt_cmpR op_eq (pe_call GP hrP (by rfl) D.gP D.FP.kp D.bP .nil pass0 (pa_cons (pv 0) (pa_cons pe_int pa_nil))) pe_int (nomark _)) (pe_call GP hrP (by rfl) D.gP D.FP.kp D.bP .nil pass0 (pa_cons (pv 0) (pa_cons (pe_op op_add (pv 2) pe_int) pa_nil))) pe_int))
        (pss_cons (ps_set (i := 6) scSlots.nd rfl (.inl rfl) (pe_op op_add (pv 5) (pe_call GP hrP (by rfl) D.gP D.FP.kp D.bP .nil pass0 (pa_cons (pv 0) (pa_cons (pe_op op_add (pe_op op_sub (pv 2) (pv 5)) pe_int) pa_nil)))))
        (pss_cons (ps_set (i := 7) scSlots.nd rfl (.inr rfl) (pe_call GO hrO (by rfl) D.gO D.FO.kp D.bO .nil pass0 (pa_cons (pv 0) (pa_cons (pe_lst (pa_cons pe_int (pa_cons pe_int (pa_cons pe_int pa_nil)))) pa_nil))))
        (pss_cons (ps_set (i := 8) scSlots.nd rfl (.inr rfl) (pe_callB (r := rSortedI K) cr_sortedI (by rfl) B.sorted (by decide +kernel) (pa_cons (pe_lc (own := [("k", 10)]) (g := gName 10) rfl scSlots.nd (pi_range1 rfl B.range (pa_cons (pe_op op_sub (pv 6) (pv 5)) pa_nil)) (blkOk_by (own := [("k", 10)]) (N := ["source", "ticks", "most", "found", "lap", "need", "many", "steep", "slopes", "low", "k"]) (sc := defScope sSlots) (by decide +kernel)) (fun _ _ _ _ _ => (pg_name (i := 10) scSlots.nd rfl (.inl rfl))) (fun _ _ _ _ _ => pts_nil) (fun _ _ _ _ _ => (pe_op op_sub (pe_call GP hrP (by rfl) D.gP D.FP.kp D.bP .nil pass0 (pa_cons (pv 0) (pa_cons (pe_op op_add (pe_op op_mul pe_int (pv 7)) pe_int) pa_nil))) (pv 7)))) pa_nil)))
        (pss_cons (ps_set (i := 9) scSlots.nd rfl (.inl rfl) (pe_callB (r := rMin K) (cr_min rfl) (by rfl) B.min (by decide +kernel) (pa_cons (pe_op op_cat (pe_lst (pa_cons pe_int pa_nil)) (pe_lc (own := [("k", 10)]) (g := gName 10) rfl scSlots.nd (pi_range1 rfl B.range (pa_cons (pe_callB call_len_seq (by rfl) B.len PySem.boot_len (pa_cons (pv 8) pa_nil)) pa_nil)) (blkOk_by (own := [("k", 10)]) (N := ["source", "ticks", "most", "found", "lap", "need", "many", "steep", "slopes", "low", "k"]) (sc := defScope sSlots) (by decide +kernel)) (fun _ _ _ _ _ => (pg_name (i := 10) scSlots.nd rfl (.inl rfl))) (fun _ _ _ _ _ => pts_nil) (fun _ _ _ _ _ => (pe_callB (r := rSum K) (cr_sum rfl) (by rfl) B.sum (by decide +kernel) (pa_cons (pe_slice (r := rSlL K) sl_list (pv 8) po_none (po_some (pe_op op_add (pv 10) pe_int))) pa_nil))))) pa_nil)))
        (pss_one (ps_expr (pe_bm PySem.F.plainAttrs_list PySem.F.slot_list_append PySem.F.type_list_append mt_append (pv 3) (pa_cons (pe_tup (pa_cons (pv 5) (pa_cons (pv 6) (pa_cons (pe_op op_sub (pe_call GP hrP (by rfl) D.gP D.FP.kp D.bP .nil pass0 (pa_cons (pv 0) (pa_cons pe_int pa_nil))) (pv 9)) (pa_cons (pe_callTy call_tuple_of (by rfl) B.tuple (by decide +kernel) (pa_cons (pv 8) pa_nil)) pa_nil))))) pa_nil))))))))))
      (pss_one (ps_ret (pe_callTy call_tuple_of (by rfl) B.tuple (by decide +kernel) (pa_cons (pv 3) pa_nil)))))), ?_⟩
    walk_at "rd"
    refine ⟨Nat.zero_le _, fun fa nfa => ?_⟩
    generalize eH : upd _ _ _ = H1
    obtain ⟨s1, e1⟩ := new_of eH nfa
    walk_at "rd"
    refine ⟨by omega, by omega, for_range (lo := 0) (n := (ticks : Int).toNat) (fun i σ G => ∃ (x4 x5 x6 x7 x8 x9 x10 : Option V) (ws : List V) (ss : List Slt), σ = [some (.ref p), some (.int ticks), some (.int most), some (.ref fa), x4, x5, x6, x7, x8, x9, x10] ∧
      Src G p c ∧ Off p c H G ∧ G fa = some (.lst ws) ∧ SltsAt G ws ss ∧ ss.length = i ∧ (∀ s ∈ ss, s.Ok most 8 (3 + 8 * most))) ⟨none, none, none, none, none, none, none, [], [], rfl, S.same s1, Same.off s1, e1, .nil, rfl, by simp⟩ (fun i σ G hi h => ?_) (fun σ G h => ?_)⟩
    · obtain ⟨x4, x5, x6, x7, x8, x9, x10, ws, ss, rfl, S1, o1, e1, hs, hl, hok⟩ := h
      have fp := S.ne_p nfa
      have fc := S.ne_c nfa
      -- need
      refine tif_R (fun v G' => ∃ z, v = .int z ∧ 0 ≤ z ∧ z ≤ most ∧ Src G' p c ∧ Off p c G G') (fun v G' h => ?_) (fun Q' hQ => ?_)
      · obtain ⟨need, rfl, n0, n1, S2, o2⟩ := h
        walk_at "rd"
        refine ⟨p, c, _, rfl, S2, by omega, fun G3 r S3 o3 r0 r1 => ?_⟩
        have r1 : r ≤ most - need := by omega
        have hi : i < ticks := by omega
        generalize hmany : need + r = many
        walk_at "rd"
        refine ⟨by show 3 ≤ sizeLine; decide, fun l1 nl1 => ?_⟩
        generalize eH : upd _ _ _ = G4
        obtain ⟨g4, e4⟩ := new_of eH nl1
        walk_at "rd"
        refine ⟨p, c, l1, _, rfl, S3.same g4, fun G' o => .inl (.inl (.inl (o _ _ (S3.ne_p nl1) (S3.ne_c nl1) e4))), by simp, by show 3 ≤ 100000; decide, fun G5 x hx S5 o5 => ?_⟩
        obtain ⟨steep, rfl, t0, t1⟩ : ∃ z, x = .int z ∧ 1 ≤ z ∧ z ≤ 8 := by
          simp only [List.mem_cons, List.not_mem_nil, or_false] at hx
          rcases hx with rfl | rfl | rfl <;> exact ⟨_, rfl, by omega, by omega⟩
        have o15 : Off p c G G5 := ((o2.trans o3).trans (Same.off g4)).trans o5
        clear o2 o3 g4 e4 o5 hx eH
        -- slopes
        walk_at "rd"
        refine ⟨by omega, by omega, fun D1 nD1 => lc_range (lo := 0) (n := (need + r - need).toNat) (fun j J => ∃ zs : List Int, J D1 = some (.lst (zs.map V.int)) ∧ zs.length = j ∧ (∀ z ∈ zs, -8 ≤ z ∧ z ≤ 8) ∧ Src J p c ∧ Off p c G5 J) ?_ (fun j J hj h => ?_) (fun J h => ?_)⟩
        · exact ⟨[], upd_same, rfl, by simp, S5.upd_new (S5.ne_p nD1) (S5.ne_c nD1), Same.off (same_new nD1)⟩
        · obtain ⟨zs, k1, k2, k3, S6, o6⟩ := h
          refine yesT rfl ?_
          walk_at "rd"
          refine ⟨mulr (by omega), ?_⟩
          walk_at "rd"
          refine ⟨p, c, _, rfl, S6, by omega, fun J2 r2 S7 o7 u0 u1 => ?_⟩
          have k1 := o7 _ _ (S5.ne_p nD1) (S5.ne_c nD1) k1
          walk_at "rd"
          refine ⟨_, k1, ?_, zs ++ [r2 - steep], ?_, ?_, ?_, S7.upd_new (S5.ne_p nD1) (S5.ne_c nD1), (o6.trans o7).new nD1⟩
          · rw [List.length_map, k2]
            exact many_small (by omega)
          · rw [upd_same, List.map_append]
            rfl
          · rw [List.length_append, k2]
            rfl
          · intro z hz
            rcases List.mem_append.mp hz with hz | hz
            · exact k3 z hz
            · rw [List.mem_singleton.mp hz]
              omega
        · obtain ⟨zs, k1, k2, k3, S6, o6⟩ := h
          walk_at "rd"
          refine ⟨_, _, rfl, .inl (.inl k1), fun zs' sp perm asc nsp => ?_⟩
          have zl : zs'.length = r.toNat := by
            rw [perm.length_eq, k2, show need + r - need = r by omega]
          have z8 : ∀ z ∈ zs', -8 ≤ z ∧ z ≤ 8 := fun z hz => k3 z (perm.mem_iff.mp hz)
          generalize eH : upd _ _ _ = G6
          obtain ⟨g6, e6⟩ := new_of eH nsp
          have spp := S6.ne_p nsp
          have spc := S6.ne_c nsp
          have S6 := S6.same g6
          have o6 := (o15.trans o6).trans (Same.off g6)
          clear k1 k2 k3 perm eH g6
          -- low
          walk_at "rd"
          refine ⟨by show 1 ≤ sizeLine; decide, fun l2 nl2 => ?_⟩
          generalize eH : upd _ _ _ = G7
          obtain ⟨g7, e7⟩ := new_of eH nl2
          have e6 := g7 _ _ e6
          walk_at "rd"
          refine ⟨_, _, rfl, .inl (.inl (.inl e6)), ?_⟩
          walk_at "rd"
          refine ⟨by rw [List.length_map]; omega, by rw [List.length_map]; omega, fun D2 nD2 => lc_range (lo := 0) (n := ((zs'.map V.int).length : Int).toNat) (fun j J => Same G7 J ∧ J D2 = some (.lst ((sumsL zs' j).map V.int))) ?_ (fun j J hj h => ?_) (fun J h => ?_)⟩
          · exact ⟨same_new nD2, upd_same⟩
          · obtain ⟨sj, k1⟩ := h
            refine yesT rfl ?_
            walk_at "rd"
            refine ⟨_, _, rfl, .inl (.inl (sj _ _ e6)), fun l3 nl3 => ?_⟩
            generalize eH : upd _ _ _ = J2
            obtain ⟨j2, k2⟩ := new_of eH nl3
            have ex : ((0 : Int) + (j : Nat) + 1) = ((j + 1 : Nat) : Int) := by omega
            rw [ex, cut_take, ← List.map_take] at k2
            refine ⟨_, _, rfl, .inl (.inl k2), ?_⟩
            refine ⟨_, j2 _ _ k1, ?_, fun b o e => ?_, ?_⟩
            · rw [List.length_map, sumsL_len]
              rw [List.length_map] at hj
              exact many_small (by omega)
            · rw [upd_ne (ne_of_none e nD2)]
              exact j2 _ _ (sj _ _ e)
            · rw [upd_same, sumsL_succ, List.map_append]
              rfl
          · obtain ⟨s8, k1⟩ := h
            rw [List.length_map, Int.toNat_natCast] at k1
            refine ⟨_, _, _, _, rfl, rfl, s8 _ _ e7, k1, ?_, fun l4 nl4 => ?_⟩
            · rw [List.length_map, sumsL_len]
              show 1 + zs'.length ≤ sizeLine
              exact Nat.le_of_lt (many_small (by omega))
            generalize eH : upd _ _ _ = G9
            obtain ⟨g9, e9⟩ := new_of eH nl4
            have e6 := g9 _ _ (s8 _ _ e6)
            have e9 : G9 l4 = some (.lst ((0 :: sumsL zs' zs'.length).map V.int)) := e9
            refine ⟨_, _, rfl, .inl (.inl e9), by simp, fun low hl1 hl2 => ?_⟩
            have lo0 : low ≤ 0 := hl2 0 (List.mem_cons_self ..)
            have lo8 := low_ge (b := 8) (by decide) z8 hl1
            have los := low_le hl2
            have S9 := ((S6.same g7).same s8).same g9
            have o9 := ((o6.trans (Same.off g7)).trans (Same.off s8)).trans (Same.off g9)
            clear hl1 hl2 e9 k1 e7 g7 s8 g9 eH
            -- found.append
            have f9 := o9 _ _ fp fc e1
            walk_at "rd"
            refine ⟨.inl ⟨rfl, _, .inl (.inl f9)⟩, ?_⟩
            walk_at "rd"
            refine ⟨p, c, 4, rfl, S9, by decide, fun G10 r4 S10 o10 v0 v1 => ?_⟩
            have f10 := o10 _ _ fp fc f9
            have e10 := o10 _ _ spp spc e6
            walk_at "rd"
            refine ⟨_, _, rfl, .inl ⟨.inl (.inl e10), fun u nu => ?_⟩⟩
            generalize eH : upd _ _ _ = G11
            obtain ⟨g11, e11⟩ := new_of eH nu
            walk_at "rd"
            refine ⟨by show 4 ≤ sizeLine; decide, fun t nt => ?_⟩
            generalize eH : upd _ _ _ = G12
            obtain ⟨g12, e12⟩ := new_of eH nt
            have f12 := g12 _ _ (g11 _ _ f10)
            have S12 := (S10.same g11).same g12
            have o12 := ((o9.trans o10).trans (Same.off g11)).trans (Same.off g12)
            have hs12 : SltsAt G12 ws ss := hs.mono (o12.tups S1)
            refine ⟨_, _, _, rfl, rfl, f12, ?_, ?_⟩
            · rw [hs.len, hl]
              exact many_small (by omega)
            have tu := tups_upd (o := .lst (ws ++ [.ref t])) f12
            refine ⟨_, _, _, _, _, _, _, _, ss ++ [⟨need, need + r, r4 - low, zs'⟩], rfl, S12.upd_new fp fc, (o1.trans o12).new nfa, upd_same, (hs12.mono tu).snoc ⟨t, u, rfl, tu _ _ e12, tu _ _ (g12 _ _ e11)⟩, ?_, ?_⟩
            · rw [List.length_append, hl]
              rfl
            · intro s hsm
              rcases List.mem_append.mp hsm with hsm | hsm
              · exact hok s hsm
              · rw [List.mem_singleton.mp hsm]
                constructor
                · exact n0
                · show need ≤ need + r
                  omega
                · show need + r ≤ most
                  omega
                · show (zs'.length : Int) = need + r - need
                  omega
                · exact z8
                · exact asc
                · intro k
                  have := los k
                  show 0 ≤ r4 - low + (zs'.take k).sum
                  omega
                · show r4 - low ≤ 3 + 8 * most
                  omega
      · walk_at "rd"
        refine ⟨p, c, 3, rfl, S1, by decide, fun G2 w S2 o2 w0 w1 => ?_⟩
        walk_at "rd"
        refine ⟨rfl, ?_⟩
        walk_at "rd"
        refine ite2 (fun _ => ?_) (fun _ => ?_)
        · walk_at "rd"
          refine ⟨p, c, _, rfl, S2, by omega, fun G3 r S3 o3 r0 r1 => ?_⟩
          exact hQ _ _ ⟨r, rfl, r0, by omega, S3, o2.trans o3⟩
        · exact hQ _ _ ⟨0, rfl, Int.le_refl _, hm0, S2, o2⟩
    · obtain ⟨x4, x5, x6, x7, x8, x9, x10, ws, ss, rfl, S1, o1, e1, hs, hl, hok⟩ := h
      walk_at "rd"
      refine ⟨_, _, rfl, .inl ⟨.inl (.inl e1), fun t nt => ?_⟩⟩
      generalize eH : upd _ _ _ = G2
      obtain ⟨g2, e2⟩ := new_of eH nt
      exact q G2 t ws ss (S1.same g2) (o1.trans (Same.off g2)) e2 (S1.free o1 nt) (hs.mono (Same.tups g2)) (by rw [hl, Int.toNat_natCast]) hok
end
end K14
set_option Elab.async false
set_option linter.all false
set_option maxRecDepth 100000
set_option maxHeartbeats 4000000
namespace K14
open PySem PySem.Spec PyProof.Rows L2 WK
local macro_rules | `(tactic| walk_at "rd") => `(tactic| repeat (first | refine Exists.intro _ (And.intro rfl ?_) | refine Exists.intro _ (Exists.intro _ (And.intro rfl (And.intro rfl ?_))) | refine Exists.intro _ (Exists.intro _ (And.intro rfl ?_))))
abbrev sGreat : Stmt := topS 25
theorem scGreat : FnScope ["source", "ticks", "most", "slots", "far", "by", "found", "need", "high", "first", "slopes", "slope"] ["source", "ticks", "most"] (defScope sGreat) := ⟨rfl, rfl, rfl, by decide +kernel, rfl, by decide +kernel, by decide +kernel⟩
structure Drs (K : PySem.W.Frag) (mg : Str → Option Value) (fP fO fSl : Addr) (fdP fdO fdSl : FuncData) : Prop extends Drw K mg fP fO fdP fdO where
  FSl : Fun K "_law_draw_slots" "_law_draw_slots" sSlots fSl fdSl
  bSl : Binds K fdSl ["source", "ticks", "most"] []
  gSl : mg "_law_draw_slots" = some (.ref fSl)
section
variable {P : Program} {w : World} {K : PySem.W.Frag} {mg : Str → Option Value} {base : Heap}
theorem ok_great {f fP fO fSl : Addr} {fd fdP fdO fdSl : FuncData} (F : Fun K "_law_great_slots" "_law_great_slots" sGreat f fd) (D : Drs K mg fP fO fSl fdP fdO fdSl) (B : Blt mg) : FnOk P w K mg base CX0 4 f fd ["source", "ticks", "most"] spGreat := by
  have GO : FnOk P w K mg base CX0 2 fO fdO ["source", "some"] (spOf K) := ok_of D.FO D.toDrw B
  have GSl : FnOk P w K mg base CX0 3 fSl fdSl ["source", "ticks", "most"] spSlots := ok_slots D.FSl D.toDrw B
  refine F.ok scGreat (fun vs H Q E h => ?_) (fun cdv A outer s H vs Q E hr h => ?_)
  · obtain ⟨p, c, ticks, most, rfl, _⟩ := h
    rfl
  · obtain ⟨p, c, ticks, most, rfl, S, ht, hm0, hm1, q⟩ := h
    have hrO := hr.mono (show 2 ≤ 3 by decide)
    have hrSl := hr
    refine ⟨_, (pss_cons (ps_par (i := 3) (j := 4) rfl scGreat.nd rfl rfl (by decide) rfl rfl (pa_cons (pe_call GSl hrSl (by rfl) D.gSl D.FSl.kp D.bSl .nil pass0 (pa_cons (pv 0) (pa_cons (pv 1) (pa_cons (pv 2) pa_nil)))) (pa_cons (pe_call GO hrO (by rfl) D.gO D.FO.kp D.bO .nil pass0 (pa_cons (pv 0) (pa_cons (pe_lst (pa_cons pe_int (pa_cons pe_int (pa_cons pe_int (pa_cons pe_int (pa_cons (pe_op op_sub (pe_op op_pow pe_int pe_int) (pv 2)) pa_nil)))))) pa_nil))) pa_nil)) (by rfl))
      (pss_cons (ps_set (i := 5) scGreat.nd rfl (.inr rfl) (pe_call GO hrO (by rfl) D.gO D.FO.kp D.bO .nil pass0 (pa_cons (pv 0) (pa_cons (pe_lst (pa_cons pe_int (pa_cons pe_int (pa_cons pe_int (pa_cons (pe_op op_pow pe_int pe_int) (pa_cons (pe_op op_pow pe_int pe_int) pa_nil)))))) pa_nil))))
      (pss_cons (ps_set (i := 6) scGreat.nd rfl (.inl rfl) (pe_lst pa_nil))
      (pss_cons (ps_for PassesOwn.never rfl (pi_tup (pv 3)) (pg_tup rfl (pgs_cons (pg_name (i := 7) scGreat.nd rfl (.inl rfl)) (pgs_cons (pg_name (i := 8) scGreat.nd rfl (.inl rfl)) (pgs_cons (pg_name (i := 9) scGreat.nd rfl (.inl rfl)) (pgs_cons (pg_name (i := 10) scGreat.nd rfl (.inl rfl)) pgs_nil)))))
        (pss_one (ps_expr (pe_bm PySem.F.plainAttrs_list PySem.F.slot_list_append PySem.F.type_list_append mt_append (pv 6) (pa_cons (pe_tup (pa_cons (pe_op op_add (pv 7) (pv 4)) (pa_cons (pe_op op_add (pv 8) (pv 4)) (pa_cons (pe_op op_mul (pv 9) (pv 5)) (pa_cons (pe_callTy call_tuple_of (by rfl) B.tuple (by decide +kernel) (pa_cons (pe_lc (own := [("slope", 11)]) (g := gName 11) rfl scGreat.nd (pi_tup (pv 10)) (blkOk_by (own := [("slope", 11)]) (N := ["source", "ticks", "most", "slots", "far", "by", "found", "need", "high", "first", "slopes", "slope"]) (sc := defScope sGreat) (by decide +kernel)) (fun _ _ _ _ _ => (pg_name (i := 11) scGreat.nd rfl (.inl rfl))) (fun _ _ _ _ _ => pts_nil) (fun _ _ _ _ _ => (pe_op op_mul (pv 11) (pv 5)))) pa_nil)) pa_nil))))) pa_nil)))))
      (pss_one (ps_ret (pe_callTy call_tuple_of (by rfl) B.tuple (by decide +kernel) (pa_cons (pv 6) pa_nil)))))))), ?_⟩
    walk_at "rd"
    refine ⟨p, c, ticks, most, rfl, S, ht, hm0, hm1, fun H1 t ws ss S1 o1 e1 nt hs hl hok => ?_⟩
    walk_at "rd"
    refine ⟨⟨by decide, by decide, by decide⟩, ?_⟩
    walk_at "rd"
    refine ⟨by show 5 ≤ sizeLine; decide, fun l1 nl1 => ?_⟩
    generalize eH : upd _ _ _ = H2
    obtain ⟨g2, e2⟩ := new_of eH nl1
    walk_at "rd"
    refine ⟨p, c, l1, _, rfl, S1.same g2, fun G' o => .inl (.inl (.inl (o _ _ (S1.ne_p nl1) (S1.ne_c nl1) e2))), by simp, by show 5 ≤ 100000; decide, fun H3 x hx S3 o3 => ?_⟩
    obtain ⟨far, rfl, t0, t1⟩ : ∃ z, x = .int z ∧ 0 ≤ z ∧ z + most ≤ 1000000 := by
      simp only [List.mem_cons, List.not_mem_nil, or_false] at hx
      rcases hx with rfl | rfl | rfl | rfl | rfl
      · exact ⟨_, rfl, by omega, by omega⟩
      · exact ⟨_, rfl, by omega, by omega⟩
      · exact ⟨_, rfl, by omega, by omega⟩
      · exact ⟨_, rfl, by omega, by omega⟩
      · refine ⟨_, rfl, ?_, ?_⟩
        · show 0 ≤ (10 : Int) ^ (6 : Int).toNat - most
          have : (10 : Int) ^ (6 : Int).toNat = 1000000 := by decide
          omega
        · show (10 : Int) ^ (6 : Int).toNat - most + most ≤ 1000000
          have : (10 : Int) ^ (6 : Int).toNat = 1000000 := by decide
          omega
    have hs3 := hs.mono ((Same.tups g2).trans (o3.tups (S1.same g2)))
    have e3 := o3.tup (S1.same g2) (g2 _ _ e1)
    have o13 := (o1.trans (Same.off g2)).trans o3
    clear hs o1 g2 o3 hx e2 e1 eH
    walk_at "rd"
    refine ⟨⟨by decide, by decide, by decide⟩, ?_⟩
    walk_at "rd"
    refine ⟨⟨by decide, by decide, by decide⟩, ?_⟩
    refine ⟨by show 5 ≤ sizeLine; decide, fun l2 nl2 => ?_⟩
    generalize eH : upd _ _ _ = H4
    obtain ⟨g4, e4⟩ := new_of eH nl2
    walk_at "rd"
    refine ⟨p, c, l2, _, rfl, S3.same g4, fun G' o => .inl (.inl (.inl (o _ _ (S3.ne_p nl2) (S3.ne_c nl2) e4))), by simp, by show 5 ≤ 100000; decide, fun H5 x hx S5 o5 => ?_⟩
    obtain ⟨by1, rfl, b0, b1⟩ : ∃ z, x = .int z ∧ 1 ≤ z ∧ z ≤ 10000000000 := by
      simp only [List.mem_cons, List.not_mem_nil, or_false] at hx
      rcases hx with rfl | rfl | rfl | rfl | rfl
      · exact ⟨_, rfl, by omega, by omega⟩
      · exact ⟨_, rfl, by omega, by omega⟩
      · exact ⟨_, rfl, by omega, by omega⟩
      · exact ⟨_, rfl, by decide, by decide⟩
      · exact ⟨_, rfl, by decide, by decide⟩
    have hs5 := hs3.mono ((Same.tups g4).trans (o5.tups (S3.same g4)))
    have e5 := o5.tup (S3.same g4) (g4 _ _ e3)
    have o15 := (o13.trans (Same.off g4)).trans o5
    clear hs3 o13 g4 o5 hx e4 e3 eH
    walk_at "rd"
    refine ⟨Nat.zero_le _, fun fa nfa => ?_⟩
    generalize eH : upd _ _ _ = H6
    obtain ⟨g6, e6⟩ := new_of eH nfa
    walk_at "rd"
    have hs6 := hs5.mono (Same.tups g6)
    have e7 := g6 _ _ e5
    refine ⟨⟨_, .inl (.inl e7)⟩, for_tup (K := K) (a := t) (xs := ws) (fun i σ G => ∃ (x7 x8 x9 x10 x11 : Option V) (us : List V), σ = [some (.ref p), some (.int ticks), some (.int most), some (.ref t), some (.int far), some (.int by1), some (.ref fa), x7, x8, x9, x10, x11] ∧
      Same H5 G ∧ Tups H6 G ∧ G fa = some (.lst us) ∧ SltsAt G us ((ss.take i).map fun s => ⟨s.need + far, s.most + far, s.first * by1, s.slopes.map (· * by1)⟩)) ⟨none, none, none, none, none, [], rfl, g6, Tups.refl _, e6, .nil⟩ (fun i σ G _ h => ?_) (fun i x σ G hx h => ?_) (fun σ G h => ?_)⟩
    · obtain ⟨x7, x8, x9, x10, x11, us, rfl, s5, tp, k1, k2⟩ := h
      exact .inl (.inl (tp _ _ e7))
    · obtain ⟨x7, x8, x9, x10, x11, us, rfl, s5, tp, k1, k2⟩ := h
      obtain ⟨sl, hsl, tt, uu, rfl, a1, a2⟩ := hs6.get hx
      have a1 := tp _ _ a1
      have a2 := tp _ _ a2
      have ok := hok sl (List.mem_of_getElem? hsl)
      refine ⟨tt, _, rfl, .inl (.inl a1), rfl, _, _, rfl, _, _, rfl, _, _, rfl, _, _, rfl, rfl, ?_⟩
      walk_at "rd"
      refine ⟨.inl ⟨rfl, _, .inl (.inl k1)⟩, ?_⟩
      walk_at "rd"
      refine ⟨mulr (by omega), ?_⟩
      walk_at "rd"
      refine ⟨⟨_, .inl (.inl a2)⟩, fun D1 nD1 => lc_tup (K := K) (a := uu) (xs := sl.slopes.map V.int) (fun j J => Same G J ∧ J D1 = some (.lst (((sl.slopes.take j).map (· * by1)).map V.int))) ?_ (fun j J _ h => .inl (.inl (h.1 _ _ a2))) (fun j x J hx h => ?_) (fun J h => ?_)⟩
      · exact ⟨same_new nD1, upd_same⟩
      · obtain ⟨z, hz, rfl⟩ := int_at hx
        refine yesT rfl ?_
        walk_at "rd"
        refine ⟨mulr (by omega), _, h.2, ?_, fun b o e => ?_, ?_⟩
        · rw [List.length_map, List.length_map, List.length_take]
          have := ok.len
          have := ok.lo
          have := ok.hi
          exact many_small (by omega)
        · rw [upd_ne (ne_of_none e nD1)]
          exact h.1 _ _ e
        · rw [upd_same, take_snoc hz, List.map_append]
          rfl
      · obtain ⟨j1, f1⟩ := h
        rw [List.length_map, List.take_length] at f1
        refine ⟨_, _, rfl, .inl ⟨.inl (.inl f1), fun u nu => ?_⟩⟩
        generalize eH : upd _ _ _ = J2
        obtain ⟨j2, f2⟩ := new_of eH nu
        walk_at "rd"
        refine ⟨by show 4 ≤ sizeLine; decide, fun t2 nt2 => ?_⟩
        generalize eH : upd _ _ _ = J3
        obtain ⟨j3, f3⟩ := new_of eH nt2
        have j13 := (j1.trans j2).trans j3
        have k3 := j13 _ _ k1
        refine ⟨_, _, _, rfl, rfl, k3, ?_, ?_⟩
        · rw [k2.len, List.length_map, List.length_take]
          exact many_small (by omega)
        have tu := tups_upd (o := .lst (us ++ [.ref t2])) k3
        refine ⟨_, _, _, _, _, _, rfl, fun b o e => ?_, (tp.trans (Same.tups j13)).trans tu, upd_same, ?_⟩
        · rw [upd_ne (ne_of_none e nfa)]
          exact j13 _ _ (s5 _ _ e)
        · rw [take_snoc hsl]
          exact (k2.mono ((Same.tups j13).trans tu)).snoc ⟨t2, u, rfl, tu _ _ f3, tu _ _ (j3 _ _ f2)⟩
    · obtain ⟨x7, x8, x9, x10, x11, us, rfl, s5, tp, k1, k2⟩ := h
      rw [hs6.len, List.take_length] at k2
      walk_at "rd"
      refine ⟨_, _, rfl, .inl ⟨.inl (.inl k1), fun t2 nt2 => ?_⟩⟩
      generalize eH : upd _ _ _ = G2
      obtain ⟨g2, e2⟩ := new_of eH nt2
      have S7 := (S5.same s5).same g2
      have o7 := (o15.trans (Same.off s5)).trans (Same.off g2)
      refine q G2 t2 us _ S7 o7 e2 ((S5.same s5).free (o15.trans (Same.off s5)) nt2) (k2.mono (Same.tups g2)) (by rw [List.length_map, hl]) ?_
      intro s hsm
      obtain ⟨y, hy, rfl⟩ := List.mem_map.mp hsm
      have ok := hok y hy
      refine ⟨ok.great t0 (by omega) b0 b1 (by omega), ?_⟩
      show y.most + far - (y.need + far) ≤ most
      have := ok.lo
      have := ok.hi
      omega
end
end K14
set_option Elab.async false
set_option linter.all false
set_option maxRecDepth 100000
set_option maxHeartbeats 4000000
namespace K14
open PySem PySem.Spec PyProof.Rows L2 WK
local macro_rules | `(tactic| walk_at "rd") => `(tactic| repeat (first | refine Exists.intro _ (And.intro rfl ?_) | refine Exists.intro _ (Exists.intro _ (And.intro rfl (And.intro rfl ?_))) | refine Exists.intro _ (Exists.intro _ (And.intro rfl ?_))))
abbrev sSC : Stmt := topS 27
theorem scSC : FnScope ["slots", "found", "need", "most", "first", "slopes", "some", "k", "slope"] ["slots"] (defScope sSC) := ⟨rfl, rfl, rfl, by decide +kernel, rfl, by decide +kernel, by decide +kernel⟩
section
variable {P : Program} {w : World} {K : PySem.W.Frag} {mg : Str → Option Value} {base : Heap}
theorem ok_slotcosts {f : Addr} {fd : FuncData} (F : Fun K "_law_slot_costs" "_law_slot_costs" sSC f fd) (B : Blt mg) : FnOk P w K mg base CX0 1 f fd ["slots"] spSlotCosts := by
  refine F.ok scSC (fun vs H Q E h => ?_) (fun cdv A outer s H vs Q E hr h => ?_)
  · obtain ⟨a, ws, ss, rfl, _⟩ := h
    rfl
  · obtain ⟨a, ws, ss, rfl, ha, hs, hl, hl2, q⟩ := h
    have hu := hu_of hr
    refine ⟨_, (pss_cons (ps_set (i := 1) scSC.nd rfl (.inl rfl) (pe_lst pa_nil))
      (pss_cons (ps_for PassesOwn.never rfl (pi_tup (pv 0)) (pg_tup rfl (pgs_cons (pg_name (i := 2) scSC.nd rfl (.inl rfl)) (pgs_cons (pg_name (i := 3) scSC.nd rfl (.inl rfl)) (pgs_cons (pg_name (i := 4) scSC.nd rfl (.inl rfl)) (pgs_cons (pg_name (i := 5) scSC.nd rfl (.inl rfl)) pgs_nil)))))
        (pss_cons (ps_set (i := 6) scSC.nd rfl (.inl rfl) (pe_disp (pps_cons (pv 2) (pv 4) pps_nil) (by rfl) (by rfl) (fun z => by cases z) (by decide)))
        (pss_cons (ps_for PassesOwn.never rfl (pi_enumT (by rfl) B.enumerate (pa_cons (pv 5) pa_nil)) (pg_tup rfl (pgs_cons (pg_name (i := 7) scSC.nd rfl (.inl rfl)) (pgs_cons (pg_name (i := 8) scSC.nd rfl (.inl rfl)) pgs_nil)))
          (pss_one (ps_dput hu (pv 6) (pe_op op_add (pe_op op_add (pv 2) pe_int) (pv 7)) (pe_op op_add (pe_dget hu (pv 6) (pe_op op_add (pv 2) (pv 7)) (fun _ _ => rfl)) (pv 8)) rfl)))
        (pss_one (ps_expr (pe_bm PySem.F.plainAttrs_list PySem.F.slot_list_append PySem.F.type_list_append mt_append (pv 1) (pa_cons (pv 6) pa_nil)))))))
      (pss_one (ps_ret (pv 1))))), ?_⟩
    walk_at "rd"
    refine ⟨Nat.zero_le _, fun fa nfa => ?_⟩
    generalize eH : upd _ _ _ = H1
    obtain ⟨g1, e1⟩ := new_of eH nfa
    have ha := g1 _ _ ha
    have hs := hs.mono (Same.tups g1)
    walk_at "rd"
    refine ⟨⟨_, .inl (.inl ha)⟩, for_tup (K := K) (a := a) (xs := ws) (fun i σ G => ∃ (x2 x3 x4 x5 x6 x7 x8 : Option V) (us : List V), σ = [some (.ref a), some (.ref fa), x2, x3, x4, x5, x6, x7, x8] ∧
      Same H G ∧ Tups H1 G ∧ G fa = some (.lst us) ∧ CostsAt G us (ss.take i) ∧ (∀ v ∈ us, ∃ d, v = .ref d ∧ H d = none)) ⟨none, none, none, none, none, none, none, [], rfl, g1, Tups.refl _, e1, .nil, by simp⟩ (fun i σ G _ h => ?_) (fun i x σ G hx h => ?_) (fun σ G h => ?_)⟩
    · obtain ⟨x2, x3, x4, x5, x6, x7, x8, us, rfl, sm, tp, k1, k2, kf⟩ := h
      exact .inl (.inl (tp _ _ ha))
    · obtain ⟨x2, x3, x4, x5, x6, x7, x8, us, rfl, sm, tp, k1, k2, kf⟩ := h
      obtain ⟨sl, hsl, tt, uu, rfl, a1, a2⟩ := hs.get hx
      have a1 := tp _ _ a1
      have a2 := tp _ _ a2
      refine ⟨tt, _, rfl, .inl (.inl a1), rfl, _, _, rfl, _, _, rfl, _, _, rfl, _, _, rfl, rfl, ?_⟩
      walk_at "rd"
      intro d nd
      walk_at "rd"
      refine ⟨upd_same, [(.inl sl.need, .int sl.first)], rfl, by show 1 ≤ 15; decide, ?_⟩
      rw [upd_upd]
      generalize eH : upd _ _ _ = G2
      obtain ⟨g2, e2⟩ := new_of eH nd
      have e2 : G2 d = some (.dK (costK sl 1)) := by
        rw [e2]
        simp [costK, mergeK, putK]
      have a3 := g2 _ _ a2
      walk_at "rd"
      refine ⟨_, _, rfl, .inl (.inl a3), for_it (walk_enumT (K := K) (a := uu) (xs := sl.slopes.map V.int)) (fun j σ J => ∃ (y7 y8 : Option V), σ = [some (.ref a), some (.ref fa), some (.int sl.need), some (.int sl.most), some (.int sl.first), some (.ref uu), some (.ref d), y7, y8] ∧ Same G J ∧ J d = some (.dK (costK sl (j + 1)))) ⟨_, _, rfl, g2, e2⟩ (fun j σ J _ h => ?_) (fun j x σ J J' hj h hy => ?_) (fun σ J h => ?_)⟩
      · obtain ⟨y7, y8, rfl, sj, k3⟩ := h
        exact .inl (.inl (sj _ _ a2))
      · obtain ⟨y7, y8, rfl, sj, k3⟩ := h
        obtain ⟨T, x1, x2, rfl, nT, rfl, b1, b2⟩ := hy
        have b1 : some (V.int (j : Nat)) = some x1 := b1
        injection b1 with b1
        subst b1
        obtain ⟨z, hz, rfl⟩ := int_at b2
        have hj : j < sl.slopes.length := (List.getElem?_eq_some_iff.mp hz).1
        generalize eH : upd _ _ _ = J1
        obtain ⟨j1, f1⟩ := new_of eH nT
        have k4 := j1 _ _ k3
        refine ⟨T, _, rfl, .inl (.inl f1), rfl, _, _, rfl, _, _, rfl, rfl, ?_⟩
        walk_at "rd"
        have vj : valV (costK sl (j + 1)) (.inl (sl.need + j)) = some (V.int (sl.first + (sl.slopes.take j).sum)) := by
          rw [costK_val, if_pos (by omega), show (sl.need + (j : Int) - sl.need).toNat = j by omega]
        refine ⟨_, _, rfl, .inl ⟨_, .inl (sl.need + j), .inl k4, rfl, vj.symm⟩, ?_⟩
        walk_at "rd"
        refine ⟨_, _, rfl, .inl ⟨_, .inl (sl.need + 1 + j), k4, rfl, ?_, rfl⟩, ?_⟩
        · rw [costK_len]
          have := hl2 sl (List.mem_of_getElem? hsl)
          exact many_small (by omega)
        refine ⟨_, _, rfl, fun b o e => ?_, ?_⟩
        · rw [upd_ne (ne_of_none e nd)]
          exact j1 _ _ (sj _ _ e)
        · rw [upd_same]
          have e1 : sl.need + 1 + (j : Int) = sl.need + ((j + 1 : Nat) : Int) := by omega
          have e2 : sl.first + (sl.slopes.take j).sum + z = sl.first + (sl.slopes.take (j + 1)).sum := by
            rw [take_sum hz]
            omega
          rw [e1]
          show some (HO.dK (putK (costK sl (j + 1)) (Sum.inl (sl.need + ((j + 1 : Nat) : Int))) (V.int (sl.first + (sl.slopes.take j).sum + z)))) = _
          rw [e2, costK_put]
      · obtain ⟨y7, y8, rfl, sj, k3⟩ := h
        rw [List.length_map] at k3
        have k1 := sj _ _ k1
        walk_at "rd"
        refine ⟨.inl ⟨rfl, _, .inl (.inl k1)⟩, ?_⟩
        walk_at "rd"
        refine ⟨_, _, _, rfl, rfl, k1, ?_, ?_⟩
        · rw [k2.len, List.length_take]
          exact many_small (by omega)
        have dk := dks_upd (o := .lst (us ++ [.ref d])) k1
        refine ⟨_, _, _, _, _, _, _, us ++ [.ref d], rfl, fun b o e => ?_, (tp.trans (Same.tups sj)).trans (tups_upd k1), upd_same, ?_, ?_⟩
        · rw [upd_ne (ne_of_none e nfa)]
          exact sj _ _ (sm _ _ e)
        · rw [List.take_add_one, hsl]
          exact (k2.mono fun b kvs e => dk _ _ (sj _ _ e)).snoc ⟨d, rfl, dk _ _ k3⟩
        · intro v hv
          rcases List.mem_append.mp hv with hv | hv
          · exact kf v hv
          · exact ⟨d, List.mem_singleton.mp hv, Same.free sm nd⟩
    · obtain ⟨x2, x3, x4, x5, x6, x7, x8, us, rfl, sm, tp, k1, k2, kf⟩ := h
      rw [hs.len, List.take_length] at k2
      walk_at "rd"
      exact q G fa us sm nfa k1 k2 kf
end
end K14
set_option Elab.async false
set_option linter.all false
set_option maxRecDepth 100000
set_option maxHeartbeats 1000000
namespace K14
open PySem PySem.Spec PyProof.Rows L2 WK
abbrev sCo : Stmt := topS 1
abbrev sWo : Stmt := topS 4
abbrev sWi : Stmt := topS 5
abbrev sSu : Stmt := topS 6
abbrev sLo : Stmt := topS 7
abbrev sHi : Stmt := topS 8
abbrev sLe : Stmt := topS 9
abbrev sBo : Stmt := topS 10
abbrev sHw : Stmt := topS 11
abbrev sHs : Stmt := topS 12
abbrev sHe : Stmt := topS 13
abbrev sAf : Stmt := topS 14
abbrev sWs : Stmt := topS 15
abbrev sLc : Stmt := topS 16
abbrev sLt : Stmt := topS 17
abbrev sEn : Stmt := topS 19
theorem scCo : FnScope ["slot", "x", "need", "most", "first", "slopes"] ["slot", "x"] (defScope sCo) := ⟨rfl, rfl, rfl, by decide +kernel, rfl, by decide +kernel, by decide +kernel⟩
theorem scWo : FnScope ["work", "x"] ["work", "x"] (defScope sWo) := ⟨rfl, rfl, rfl, by decide +kernel, rfl, by decide +kernel, by decide +kernel⟩
theorem scWi : FnScope ["work", "low", "high"] ["work", "low", "high"] (defScope sWi) := ⟨rfl, rfl, rfl, by decide +kernel, rfl, by decide +kernel, by decide +kernel⟩
theorem scSu : FnScope ["one", "other", "low", "high", "slopes", "others", "sums", "slope", "more"] ["one", "other"] (defScope sSu) := ⟨rfl, rfl, rfl, by decide +kernel, rfl, by decide +kernel, by decide +kernel⟩
theorem scLo : FnScope ["work", "slope"] ["work"] (defScope sLo) := ⟨rfl, rfl, rfl, by decide +kernel, rfl, by decide +kernel, by decide +kernel⟩
theorem scHi : FnScope ["work", "b", "slope"] ["work", "b"] (defScope sHi) := ⟨rfl, rfl, rfl, by decide +kernel, rfl, by decide +kernel, by decide +kernel⟩
theorem scLe : FnScope ["work"] ["work"] (defScope sLe) := ⟨rfl, rfl, rfl, by decide +kernel, rfl, by decide +kernel, by decide +kernel⟩
theorem scBo : FnScope ["slopes", "b", "slope"] ["slopes", "b"] (defScope sBo) := ⟨rfl, rfl, rfl, by decide +kernel, rfl, by decide +kernel, by decide +kernel⟩
theorem scHw : FnScope ["work", "b", "x", "low", "high", "_", "slopes", "within"] ["work", "b", "x"] (defScope sHw) := ⟨rfl, rfl, rfl, by decide +kernel, rfl, by decide +kernel, by decide +kernel⟩
theorem scHs : FnScope ["work", "b", "low", "high", "begin", "end", "_", "slopes", "within", "below", "above"] ["work", "b", "low", "high"] (defScope sHs) := ⟨rfl, rfl, rfl, by decide +kernel, rfl, by decide +kernel, by decide +kernel⟩
theorem scHe : FnScope ["work", "b", "low", "high"] ["work", "b", "low", "high"] (defScope sHe) := ⟨rfl, rfl, rfl, by decide +kernel, rfl, by decide +kernel, by decide +kernel⟩
theorem scAf : FnScope ["work", "slot", "b"] ["work", "slot", "b"] (defScope sAf) := ⟨rfl, rfl, rfl, by decide +kernel, rfl, by decide +kernel, by decide +kernel⟩
theorem scWs : FnScope ["slots", "b", "works", "work", "slot"] ["slots", "b"] (defScope sWs) := ⟨rfl, rfl, rfl, by decide +kernel, rfl, by decide +kernel, by decide +kernel⟩
theorem scLc : FnScope ["slots", "b", "work"] ["slots", "b"] (defScope sLc) := ⟨rfl, rfl, rfl, by decide +kernel, rfl, by decide +kernel, by decide +kernel⟩
theorem scLt : FnScope ["slots", "b"] ["slots", "b"] (defScope sLt) := ⟨rfl, rfl, rfl, by decide +kernel, rfl, by decide +kernel, by decide +kernel⟩
theorem scEn : FnScope ["slots", "x"] ["slots", "x"] (defScope sEn) := ⟨rfl, rfl, rfl, by decide +kernel, rfl, by decide +kernel, by decide +kernel⟩
structure Wks (K : PySem.W.Frag) (mg : Str → Option Value) (fCo fWo fWi fSu fLo fHi fLe fBo fHw fHs fHe fAf fWs fLc fLt fEn aNOTHING aE : Addr) (dCo dWo dWi dSu dLo dHi dLe dBo dHw dHs dHe dAf dWs dLc dLt dEn : FuncData) : Prop where
  FCo : Fun K "slot_cost" "slot_cost" sCo fCo dCo
  bCo : Binds K dCo ["slot", "x"] []
  gCo : mg "slot_cost" = some (.ref fCo)
  FWo : Fun K "worth_at" "worth_at" sWo fWo dWo
  bWo : Binds K dWo ["work", "x"] []
  gWo : mg "worth_at" = some (.ref fWo)
  FWi : Fun K "slopes_within" "slopes_within" sWi fWi dWi
  bWi : Binds K dWi ["work", "low", "high"] []
  gWi : mg "slopes_within" = some (.ref fWi)
  FSu : Fun K "sum_of" "sum_of" sSu fSu dSu
  bSu : Binds K dSu ["one", "other"] []
  gSu : mg "sum_of" = some (.ref fSu)
  FLo : Fun K "low_of" "low_of" sLo fLo dLo
  bLo : Binds K dLo ["work"] []
  gLo : mg "low_of" = some (.ref fLo)
  FHi : Fun K "high_of" "high_of" sHi fHi dHi
  bHi : Binds K dHi ["work", "b"] []
  gHi : mg "high_of" = some (.ref fHi)
  FLe : Fun K "least_worth" "least_worth" sLe fLe dLe
  bLe : Binds K dLe ["work"] []
  gLe : mg "least_worth" = some (.ref fLe)
  FBo : Fun K "bounded" "bounded" sBo fBo dBo
  bBo : Binds K dBo ["slopes", "b"] []
  gBo : mg "bounded" = some (.ref fBo)
  FHw : Fun K "held_worth" "held_worth" sHw fHw dHw
  bHw : Binds K dHw ["work", "b", "x"] []
  gHw : mg "held_worth" = some (.ref fHw)
  FHs : Fun K "held_slopes" "held_slopes" sHs fHs dHs
  bHs : Binds K dHs ["work", "b", "low", "high"] []
  gHs : mg "held_slopes" = some (.ref fHs)
  FHe : Fun K "held" "held" sHe fHe dHe
  bHe : Binds K dHe ["work", "b", "low", "high"] []
  gHe : mg "held" = some (.ref fHe)
  FAf : Fun K "work_after" "work_after" sAf fAf dAf
  bAf : Binds K dAf ["work", "slot", "b"] []
  gAf : mg "work_after" = some (.ref fAf)
  FWs : Fun K "works_of" "works_of" sWs fWs dWs
  bWs : Binds K dWs ["slots", "b"] []
  gWs : mg "works_of" = some (.ref fWs)
  FLc : Fun K "least_costs" "least_costs" sLc fLc dLc
  bLc : Binds K dLc ["slots", "b"] []
  gLc : mg "least_costs" = some (.ref fLc)
  FLt : Fun K "least_cost" "least_cost" sLt fLt dLt
  bLt : Binds K dLt ["slots", "b"] []
  gLt : mg "least_cost" = some (.ref fLt)
  FEn : Fun K "ended" "ended" sEn fEn dEn
  bEn : Binds K dEn ["slots", "x"] []
  gEn : mg "ended" = some (.ref fEn)
  gNOTHING : mg "NOTHING" = some (.ref aNOTHING)
  nN : ∀ H, SqT K H aNOTHING [.int 0, .int 0, .int 0, .ref aE]
  nE : ∀ H, SqT K H aE []
section
variable {P : Program} {w : World} {K : PySem.W.Frag} {mg : Str → Option Value} {base : Heap} {fCo fWo fWi fSu fLo fHi fLe fBo fHw fHs fHe fAf fWs fLc fLt fEn aNOTHING aE : Addr} {dCo dWo dWi dSu dLo dHi dLe dBo dHw dHs dHe dAf dWs dLc dLt dEn : FuncData}
end
end K14
set_option Elab.async false
set_option linter.all false
set_option maxRecDepth 100000
set_option maxHeartbeats 1000000
namespace K14
open PySem PySem.Spec PyProof.Rows L2 WK
local macro_rules | `(tactic| walk_at "rd") => `(tactic| repeat (first | refine Exists.intro _ (And.intro rfl ?_) | refine Exists.intro _ (Exists.intro _ (And.intro rfl (And.intro rfl ?_))) | refine Exists.intro _ (Exists.intro _ (And.intro rfl ?_))))
section
variable {P : Program} {w : World} {K : PySem.W.Frag} {mg : Str → Option Value} {base : Heap} {fCo fWo fWi fSu fLo fHi fLe fBo fHw fHs fHe fAf fWs fLc fLt fEn aNOTHING aE : Addr} {dCo dWo dWi dSu dLo dHi dLe dBo dHw dHs dHe dAf dWs dLc dLt dEn : FuncData}
theorem ok_cost (D : Wks K mg fCo fWo fWi fSu fLo fHi fLe fBo fHw fHs fHe fAf fWs fLc fLt fEn aNOTHING aE dCo dWo dWi dSu dLo dHi dLe dBo dHw dHs dHe dAf dWs dLc dLt dEn) (B : Blt mg) : FnOk P w K mg base CX0 1 fCo dCo ["slot", "x"] (spCostK K) := by
  refine D.FCo.ok scCo (fun vs H Q E h => ?_) (fun cdv A outer s H vs Q E hr h => ?_)
  · obtain ⟨t, x, sl, rfl, _⟩ := h
    rfl
  · obtain ⟨t, x, sl, rfl, hs, q⟩ := h
    obtain ⟨t, u, rfl, h1, h2⟩ := hs
    refine ⟨_, (pss_cons (ps_asg (pv 0) (pg_tup rfl (pgs_cons (pg_name (i := 2) scCo.nd rfl (.inl rfl)) (pgs_cons (pg_name (i := 3) scCo.nd rfl (.inl rfl)) (pgs_cons (pg_name (i := 4) scCo.nd rfl (.inl rfl)) (pgs_cons (pg_name (i := 5) scCo.nd rfl (.inl rfl)) pgs_nil))))))
      (pss_cons (ps_if (PW.pt (pw_or (pt_cmpR op_lt (pv 1) (pv 2) (nomark _)) (pw_or1 (pt_cmpR op_gt (pv 1) (pv 3) (nomark _)))))
        (pss_one (ps_ret pe_non))
        pss_nil)
      (pss_one (ps_ret (pe_op op_add (pv 4) (pe_callB (r := rSumT K) (cr_sumT rfl) (by rfl) B.sum (by decide +kernel) (pa_cons (pe_slice (r := rSlA K) sl_tupA (pv 5) po_none (po_some (pe_op op_sub (pv 1) (pv 2)))) pa_nil))))))), ?_⟩
    walk_at "rd"
    refine ⟨_, _, rfl, h1, rfl, _, _, rfl, _, _, rfl, _, _, rfl, _, _, rfl, rfl, ?_⟩
    walk_at "rd"
    refine ite2 (fun a1 => ?_) (fun a1 => ?_)
    · dsimp only
      refine ifT rfl ?_
      have e : costV sl x = .non := by
        unfold costV fitB
        rw [decide_eq_false (by have := of_decide_eq_true a1; omega)]
        rfl
      rw [← e]
      exact q H (Same.refl _)
    · walk_at "rd"
      refine ite2 (fun a2 => ?_) (fun a2 => ?_)
      · have e : costV sl x = .non := by
          unfold costV fitB
          rw [decide_eq_false (p := x ≤ sl.most) (by have := of_decide_eq_true a2; omega), Bool.and_false]
          rfl
        have := q H (Same.refl _)
        rw [e] at this
        exact this
      · have b1 : sl.need ≤ x := by
          have := of_decide_eq_false (Bool.eq_false_iff.mpr a1)
          omega
        have b2 : x ≤ sl.most := by
          have := of_decide_eq_false (Bool.eq_false_iff.mpr a2)
          omega
        have e : costV sl x = .int (costAt sl x) := by
          unfold costV fitB
          rw [decide_eq_true b1, decide_eq_true b2]
          rfl
        walk_at "rd"
        refine slB h2 fun p G sG eG => ?_
        rw [cut_int (by omega), ← List.map_take] at eG
        refine ⟨_, _, rfl, eG, ?_⟩
        walk_at "rd"
        have := q G sG
        rw [e] at this
        exact this
theorem ok_worth (D : Wks K mg fCo fWo fWi fSu fLo fHi fLe fBo fHw fHs fHe fAf fWs fLc fLt fEn aNOTHING aE dCo dWo dWi dSu dLo dHi dLe dBo dHw dHs dHe dAf dWs dLc dLt dEn) (B : Blt mg) : FnOk P w K mg base CX0 2 fWo dWo ["work", "x"] (spCostK K) := by
  have GCo : FnOk P w K mg base CX0 1 fCo dCo ["slot", "x"] (spCostK K) := ok_cost D B
  refine D.FWo.ok scWo (fun vs H Q E h => ?_) (fun cdv A outer s H vs Q E hr h => ?_)
  · obtain ⟨t, x, sl, rfl, _⟩ := h
    rfl
  · obtain ⟨t, x, sl, rfl, hs, q⟩ := h
    have hrCo := hr
    refine ⟨_, (pss_one (ps_ret (pe_call GCo hrCo (by rfl) D.gCo D.FCo.kp D.bCo .nil pass0 (pa_cons (pv 0) (pa_cons (pv 1) pa_nil))))), ?_⟩
    walk_at "rd"
    exact ⟨t, x, sl, rfl, hs, q⟩
theorem ok_within (D : Wks K mg fCo fWo fWi fSu fLo fHi fLe fBo fHw fHs fHe fAf fWs fLc fLt fEn aNOTHING aE dCo dWo dWi dSu dLo dHi dLe dBo dHw dHs dHe dAf dWs dLc dLt dEn) (B : Blt mg) : FnOk P w K mg base CX0 1 fWi dWi ["work", "low", "high"] (spWithin K) := by
  refine D.FWi.ok scWi (fun vs H Q E h => ?_) (fun cdv A outer s H vs Q E hr h => ?_)
  · obtain ⟨t, lo, hi, sl, rfl, _⟩ := h
    rfl
  · obtain ⟨t, lo, hi, sl, rfl, hs, hL, c1, c2, c3, q⟩ := h
    obtain ⟨t, u, rfl, h1, h2⟩ := hs
    refine ⟨_, (pss_one (ps_ret (pe_slice (r := rSlA K) sl_tupA (pe_ix (r := rIxT K) ix_tup (pv 0) pe_int (fun _ _ => rfl)) (po_some (pe_op op_sub (pv 1) (pe_ix (r := rIxT K) ix_tup (pv 0) pe_int (fun _ _ => rfl)))) (po_some (pe_op op_sub (pv 2) (pe_ix (r := rIxT K) ix_tup (pv 0) pe_int (fun _ _ => rfl))))))), ?_⟩
    walk_at "rd"
    refine ⟨_, _, _, _, rfl, rfl, h1, atI_nat (j := 3) rfl, ?_⟩
    walk_at "rd"
    refine ⟨_, _, _, _, rfl, rfl, h1, atI_nat (j := 0) rfl, ?_⟩
    walk_at "rd"
    refine ⟨_, _, _, _, rfl, rfl, h1, atI_nat (j := 0) rfl, ?_⟩
    walk_at "rd"
    refine slB h2 fun p G sG eG => ?_
    rw [cut_win hL c1 c2 c3] at eG
    exact q G p sG eG
theorem ok_low (D : Wks K mg fCo fWo fWi fSu fLo fHi fLe fBo fHw fHs fHe fAf fWs fLc fLt fEn aNOTHING aE dCo dWo dWi dSu dLo dHi dLe dBo dHw dHs dHe dAf dWs dLc dLt dEn) (B : Blt mg) : FnOk P w K mg base CX0 1 fLo dLo ["work"] (spLow K) := by
  refine D.FLo.ok scLo (fun vs H Q E h => ?_) (fun cdv A outer s H vs Q E hr h => ?_)
  · obtain ⟨t, sl, rfl, _⟩ := h
    rfl
  · obtain ⟨t, sl, rfl, hs, hl, q⟩ := h
    obtain ⟨t, u, rfl, h1, h2⟩ := hs
    refine ⟨_, (pss_one (ps_ret (pe_op op_add (pe_ix (r := rIxT K) ix_tup (pv 0) pe_int (fun _ _ => rfl)) (pe_callB call_len_seq (by rfl) B.len PySem.boot_len (pa_cons (pe_lc (own := [("slope", 1)]) (g := gName 1) rfl scLo.nd (pi_tup (pe_ix (r := rIxT K) ix_tup (pv 0) pe_int (fun _ _ => rfl))) (blkOk_by (own := [("slope", 1)]) (N := ["work", "slope"]) (sc := defScope sLo) (by decide +kernel)) (fun _ _ _ _ _ => (pg_name (i := 1) scLo.nd rfl (.inl rfl))) (fun _ _ _ _ _ => pts_one (pt_cmpR op_lt (pv 1) pe_int (nomark _))) (fun _ _ _ _ _ => (pv 1))) pa_nil))))), ?_⟩
    walk_at "rd"
    refine ⟨_, _, _, _, rfl, rfl, h1, atI_nat (j := 0) rfl, ?_⟩
    walk_at "rd"
    refine ⟨_, _, _, _, rfl, rfl, h1, atI_nat (j := 3) rfl, ?_⟩
    walk_at "rd"
    refine ⟨⟨_, h2⟩, fun D nD => lc_tup (K := K) (a := u) (xs := sl.slopes.map V.int) (fun i G => Same H G ∧ G D = some (.lst (((sl.slopes.take i).filter (fun z => decide (z < 0))).map V.int))) ?_ (fun i G _ h => sq_same h.1 h2) (fun i x G hx h => ?_) (fun G h => ?_)⟩
    · exact ⟨same_new nD, upd_same⟩
    · obtain ⟨g, e⟩ := h
      obtain ⟨z, hz, rfl⟩ := int_at hx
      refine ⟨rfl, ?_⟩
      walk_at "rd"
      refine ite2 (fun c => ?_) (fun c => ?_)
      · walk_at "rd"
        refine ⟨_, e, ?_, fun b o e' => ?_, ?_⟩
        · rw [List.length_map]
          exact many_small (Nat.le_trans filt_len (by omega))
        · rw [upd_ne (ne_of_none e' nD)]
          exact g _ _ e'
        · rw [upd_same, filt_yes hz c]
      · refine ⟨g, ?_⟩
        rw [filt_no hz c]
        exact e
    · obtain ⟨g, e⟩ := h
      rw [List.length_map, ← List.length_map (f := V.int), List.length_map, List.take_length] at e
      refine ⟨_, _, rfl, .inl (.inl (.inl e)), ?_⟩
      walk_at "rd"
      have := q G g
      unfold lowW at this
      rw [List.length_map]
      exact this
theorem ok_high (D : Wks K mg fCo fWo fWi fSu fLo fHi fLe fBo fHw fHs fHe fAf fWs fLc fLt fEn aNOTHING aE dCo dWo dWi dSu dLo dHi dLe dBo dHw dHs dHe dAf dWs dLc dLt dEn) (B : Blt mg) : FnOk P w K mg base CX0 1 fHi dHi ["work", "b"] (spHigh K) := by
  refine D.FHi.ok scHi (fun vs H Q E h => ?_) (fun cdv A outer s H vs Q E hr h => ?_)
  · obtain ⟨t, b, sl, rfl, _⟩ := h
    rfl
  · obtain ⟨t, b, sl, rfl, hs, hl, q⟩ := h
    obtain ⟨t, u, rfl, h1, h2⟩ := hs
    refine ⟨_, (pss_one (ps_ret (pe_op op_add (pe_ix (r := rIxT K) ix_tup (pv 0) pe_int (fun _ _ => rfl)) (pe_callB call_len_seq (by rfl) B.len PySem.boot_len (pa_cons (pe_lc (own := [("slope", 2)]) (g := gName 2) rfl scHi.nd (pi_tup (pe_ix (r := rIxT K) ix_tup (pv 0) pe_int (fun _ _ => rfl))) (blkOk_by (own := [("slope", 2)]) (N := ["work", "b", "slope"]) (sc := defScope sHi) (by decide +kernel)) (fun _ _ _ _ _ => (pg_name (i := 2) scHi.nd rfl (.inl rfl))) (fun _ _ _ _ _ => pts_one (pt_cmpR op_le (pv 2) (pv 1) (nomark _))) (fun _ _ _ _ _ => (pv 2))) pa_nil))))), ?_⟩
    walk_at "rd"
    refine ⟨_, _, _, _, rfl, rfl, h1, atI_nat (j := 0) rfl, ?_⟩
    walk_at "rd"
    refine ⟨_, _, _, _, rfl, rfl, h1, atI_nat (j := 3) rfl, ?_⟩
    walk_at "rd"
    refine ⟨⟨_, h2⟩, fun D nD => lc_tup (K := K) (a := u) (xs := sl.slopes.map V.int) (fun i G => Same H G ∧ G D = some (.lst (((sl.slopes.take i).filter (fun z => decide (z ≤ b))).map V.int))) ?_ (fun i G _ h => sq_same h.1 h2) (fun i x G hx h => ?_) (fun G h => ?_)⟩
    · exact ⟨same_new nD, upd_same⟩
    · obtain ⟨g, e⟩ := h
      obtain ⟨z, hz, rfl⟩ := int_at hx
      refine ⟨rfl, ?_⟩
      walk_at "rd"
      refine ite2 (fun c => ?_) (fun c => ?_)
      · walk_at "rd"
        refine ⟨_, e, ?_, fun b' o e' => ?_, ?_⟩
        · rw [List.length_map]
          exact many_small (Nat.le_trans filt_len (by omega))
        · rw [upd_ne (ne_of_none e' nD)]
          exact g _ _ e'
        · rw [upd_same, filt_yes hz c]
      · refine ⟨g, ?_⟩
        rw [filt_no hz c]
        exact e
    · obtain ⟨g, e⟩ := h
      rw [List.length_map, ← List.length_map (f := V.int), List.length_map, List.take_length] at e
      refine ⟨_, _, rfl, .inl (.inl (.inl e)), ?_⟩
      walk_at "rd"
      have := q G g
      unfold highW at this
      rw [List.length_map]
      exact this
theorem ok_least (D : Wks K mg fCo fWo fWi fSu fLo fHi fLe fBo fHw fHs fHe fAf fWs fLc fLt fEn aNOTHING aE dCo dWo dWi dSu dLo dHi dLe dBo dHw dHs dHe dAf dWs dLc dLt dEn) (B : Blt mg) : FnOk P w K mg base CX0 3 fLe dLe ["work"] (spLeast K) := by
  have GWo : FnOk P w K mg base CX0 2 fWo dWo ["work", "x"] (spCostK K) := ok_worth D B
  have GLo : FnOk P w K mg base CX0 1 fLo dLo ["work"] (spLow K) := ok_low D B
  refine D.FLe.ok scLe (fun vs H Q E h => ?_) (fun cdv A outer s H vs Q E hr h => ?_)
  · obtain ⟨t, sl, rfl, _⟩ := h
    rfl
  · obtain ⟨t, sl, rfl, hs, hl, q⟩ := h
    have hrWo := hr
    have hrLo := hr.mono (show 1 ≤ 2 by decide)
    refine ⟨_, (pss_one (ps_ret (pe_call GWo hrWo (by rfl) D.gWo D.FWo.kp D.bWo .nil pass0 (pa_cons (pv 0) (pa_cons (pe_call GLo hrLo (by rfl) D.gLo D.FLo.kp D.bLo .nil pass0 (pa_cons (pv 0) pa_nil)) pa_nil))))), ?_⟩
    walk_at "rd"
    refine ⟨t, sl, rfl, hs, by have := hl.len; have := hl.wide; omega, fun G g => ?_⟩
    walk_at "rd"
    refine ⟨t, _, sl, rfl, hs.same g, fun G2 g2 => ?_⟩
    have e : costV sl (lowW sl) = .int (leastW sl) := by
      unfold costV fitB
      rw [decide_eq_true (low_in hl).1, decide_eq_true (low_in hl).2]
      rfl
    rw [e]
    exact q G2 (g.trans g2)
theorem ok_bounded (D : Wks K mg fCo fWo fWi fSu fLo fHi fLe fBo fHw fHs fHe fAf fWs fLc fLt fEn aNOTHING aE dCo dWo dWi dSu dLo dHi dLe dBo dHw dHs dHe dAf dWs dLc dLt dEn) (B : Blt mg) : FnOk P w K mg base CX0 1 fBo dBo ["slopes", "b"] (spBounded K) := by
  refine D.FBo.ok scBo (fun vs H Q E h => ?_) (fun cdv A outer s H vs Q E hr h => ?_)
  · obtain ⟨p, b, l, rfl, _⟩ := h
    rfl
  · obtain ⟨u, b, l, rfl, h2, hl, q⟩ := h
    refine ⟨_, (pss_one (ps_ret (pe_callTy call_tuple_of (by rfl) B.tuple (by decide +kernel) (pa_cons (pe_lc (own := [("slope", 2)]) (g := gName 2) rfl scBo.nd (pi_tup (pv 0)) (blkOk_by (own := [("slope", 2)]) (N := ["slopes", "b", "slope"]) (sc := defScope sBo) (by decide +kernel)) (fun _ _ _ _ _ => (pg_name (i := 2) scBo.nd rfl (.inl rfl))) (fun _ _ _ _ _ => pts_nil) (fun _ _ _ _ _ => (pe_callB (call_min2 rfl) (by rfl) B.min boot_min (pa_cons (pe_callB (call_max2 rfl) (by rfl) B.max boot_max (pa_cons pe_int (pa_cons (pv 2) pa_nil))) (pa_cons (pv 1) pa_nil))))) pa_nil)))), ?_⟩
    walk_at "rd"
    refine ⟨⟨_, h2⟩, fun D nD => lc_tup (K := K) (a := u) (xs := l.map V.int) (fun i G => Same H G ∧ G D = some (.lst ((clampL (l.take i) b).map V.int))) ?_ (fun i G _ h => sq_same h.1 h2) (fun i x G hx h => ?_) (fun G h => ?_)⟩
    · exact ⟨same_new nD, upd_same⟩
    · obtain ⟨g, e⟩ := h
      obtain ⟨z, hz, rfl⟩ := int_at hx
      refine yesT rfl ?_
      walk_at "rd"
      refine ⟨_, e, ?_, fun b' o e' => ?_, ?_⟩
      · unfold clampL
        rw [List.length_map, List.length_map, List.length_take]
        exact many_small (by omega)
      · rw [upd_ne (ne_of_none e' nD)]
        exact g _ _ e'
      · rw [upd_same]
        unfold clampL
        rw [take_snoc hz, List.map_append]
        rfl
    · obtain ⟨g, e⟩ := h
      rw [List.length_map, List.take_length] at e
      refine ⟨_, _, rfl, .inl ⟨.inl (.inl e), fun p np => ?_⟩⟩
      generalize eH : upd _ _ _ = G2
      obtain ⟨g2, e2⟩ := new_of eH np
      exact q G2 p (g.trans g2) (sq_of e2)
end
end K14
set_option Elab.async false
set_option linter.all false
set_option maxRecDepth 100000
set_option maxHeartbeats 1000000
namespace K14
open PySem PySem.Spec PyProof.Rows L2 WK
local macro_rules | `(tactic| walk_at "rd") => `(tactic| repeat (first | refine Exists.intro _ (And.intro rfl ?_) | refine Exists.intro _ (Exists.intro _ (And.intro rfl (And.intro rfl ?_))) | refine Exists.intro _ (Exists.intro _ (And.intro rfl ?_))))
section
variable {P : Program} {w : World} {K : PySem.W.Frag} {mg : Str → Option Value} {base : Heap} {fCo fWo fWi fSu fLo fHi fLe fBo fHw fHs fHe fAf fWs fLc fLt fEn aNOTHING aE : Addr} {dCo dWo dWi dSu dLo dHi dLe dBo dHw dHs dHe dAf dWs dLc dLt dEn : FuncData}
theorem ok_sum (D : Wks K mg fCo fWo fWi fSu fLo fHi fLe fBo fHw fHs fHe fAf fWs fLc fLt fEn aNOTHING aE dCo dWo dWi dSu dLo dHi dLe dBo dHw dHs dHe dAf dWs dLc dLt dEn) (B : Blt mg) : FnOk P w K mg base CX0 3 fSu dSu ["one", "other"] (spSum K) := by
  have GWo : FnOk P w K mg base CX0 2 fWo dWo ["work", "x"] (spCostK K) := ok_worth D B
  have GWi : FnOk P w K mg base CX0 1 fWi dWi ["work", "low", "high"] (spWithin K) := ok_within D B
  refine D.FSu.ok scSu (fun vs H Q E h => ?_) (fun cdv A outer s H vs Q E hr h => ?_)
  · obtain ⟨t, u, a, b, rfl, _⟩ := h
    rfl
  · obtain ⟨t, u, a, b, rfl, ha, hb, la, lb, q0, q1⟩ := h
    have hrWo := hr
    have hrWi := hr.mono (show 1 ≤ 2 by decide)
    refine ⟨_, (pss_cons (ps_set (i := 2) scSu.nd rfl (.inl rfl) (pe_callB (call_max2 rfl) (by rfl) B.max boot_max (pa_cons (pe_ix (r := rIxT K) ix_tup (pv 0) pe_int (fun _ _ => rfl)) (pa_cons (pe_ix (r := rIxT K) ix_tup (pv 1) pe_int (fun _ _ => rfl)) pa_nil))))
      (pss_cons (ps_set (i := 3) scSu.nd rfl (.inl rfl) (pe_callB (call_min2 rfl) (by rfl) B.min boot_min (pa_cons (pe_ix (r := rIxT K) ix_tup (pv 0) pe_int (fun _ _ => rfl)) (pa_cons (pe_ix (r := rIxT K) ix_tup (pv 1) pe_int (fun _ _ => rfl)) pa_nil))))
      (pss_cons (ps_if (pt_cmpR op_gt (pv 2) (pv 3) (nomark _))
        (pss_one (ps_ret pe_non))
        pss_nil)
      (pss_cons (ps_set (i := 4) scSu.nd rfl (.inl rfl) (pe_call GWi hrWi (by rfl) D.gWi D.FWi.kp D.bWi .nil pass0 (pa_cons (pv 0) (pa_cons (pv 2) (pa_cons (pv 3) pa_nil)))))
      (pss_cons (ps_set (i := 5) scSu.nd rfl (.inl rfl) (pe_call GWi hrWi (by rfl) D.gWi D.FWi.kp D.bWi .nil pass0 (pa_cons (pv 1) (pa_cons (pv 2) (pa_cons (pv 3) pa_nil)))))
      (pss_cons (ps_set (i := 6) scSu.nd rfl (.inl rfl) (pe_callTy call_tuple_of (by rfl) B.tuple (by decide +kernel) (pa_cons (pe_lc (own := [("slope", 7), ("more", 8)]) (g := gTup K 2 (gCons (gName 7) (gCons (gName 8) gNil))) rfl scSu.nd (RZ.pi_zipA (by rfl) B.zip (pa_cons (pv 4) (pa_cons (pv 5) pa_nil))) (blkOk_by (own := [("slope", 7), ("more", 8)]) (N := ["one", "other", "low", "high", "slopes", "others", "sums", "slope", "more"]) (sc := defScope sSu) (by decide +kernel)) (fun _ _ _ _ _ => (pg_tup rfl (pgs_cons (pg_name (i := 7) scSu.nd rfl (.inl rfl)) (pgs_cons (pg_name (i := 8) scSu.nd rfl (.inl rfl)) pgs_nil)))) (fun _ _ _ _ _ => pts_nil) (fun _ _ _ _ _ => (pe_op op_add (pv 7) (pv 8)))) pa_nil)))
      (pss_one (ps_ret (pe_tup (pa_cons (pv 2) (pa_cons (pv 3) (pa_cons (pe_op op_add (pe_call GWo hrWo (by rfl) D.gWo D.FWo.kp D.bWo .nil pass0 (pa_cons (pv 0) (pa_cons (pv 2) pa_nil))) (pe_call GWo hrWo (by rfl) D.gWo D.FWo.kp D.bWo .nil pass0 (pa_cons (pv 1) (pa_cons (pv 2) pa_nil)))) (pa_cons (pv 6) pa_nil))))))))))))), ?_⟩
    obtain ⟨ta, ua, rfl, a1, a2⟩ := id ha
    obtain ⟨tb, ub, rfl, b1, b2⟩ := id hb
    walk_at "rd"
    refine ⟨_, _, _, _, rfl, rfl, a1, atI_nat (j := 0) rfl, ?_⟩
    walk_at "rd"
    refine ⟨_, _, _, _, rfl, rfl, b1, atI_nat (j := 0) rfl, ?_⟩
    walk_at "rd"
    refine ⟨_, _, _, _, rfl, rfl, a1, atI_nat (j := 1) rfl, ?_⟩
    walk_at "rd"
    refine ⟨_, _, _, _, rfl, rfl, b1, atI_nat (j := 1) rfl, ?_⟩
    walk_at "rd"
    refine ite2 (fun c => ?_) (fun c => ?_)
    · have c : mx a.need b.need > mn a.most b.most := of_decide_eq_true c
      walk_at "rd"
      refine q0 ?_ H (Same.refl _)
      unfold sumW
      rw [if_pos c]
    · have c : ¬ mx a.need b.need > mn a.most b.most := fun z => c (decide_eq_true z)
      have es : sumW a b = some ⟨mx a.need b.need, mn a.most b.most, costAt a (mx a.need b.need) + costAt b (mx a.need b.need), addL (winL a (mx a.need b.need) (mn a.most b.most)) (winL b (mx a.need b.need) (mn a.most b.most))⟩ := by
        unfold sumW
        rw [if_neg c]
      have q := q1 _ es
      clear q0 q1 es
      have le1 : a.need ≤ mx a.need b.need ∧ b.need ≤ mx a.need b.need := by rw [mx_eq]; omega
      have le2 : mn a.most b.most ≤ a.most ∧ mn a.most b.most ≤ b.most := by rw [mn_eq]; omega
      generalize eL : mx a.need b.need = lo at *
      generalize eM : mn a.most b.most = hi at *
      have eL : (if b.need > a.need then b.need else a.need) = lo := eL
      have eM : (if b.most < a.most then b.most else a.most) = hi := eM
      simp only [eL, eM]
      have l1 := winL_len la le1.1 (by omega) le2.1
      have l2 := winL_len lb le1.2 (by omega) le2.2
      have wd := la.wide
      walk_at "rd"
      refine ⟨.ref ta, lo, hi, a, rfl, ha, la, le1.1, by omega, le2.1, fun G1 p1 g1 e1 => ?_⟩
      walk_at "rd"
      refine ⟨.ref tb, lo, hi, b, rfl, hb.same g1, lb, le1.2, by omega, le2.2, fun G2 p2 g2 e2 => ?_⟩
      have e1 := sq_same g2 e1
      have g12 := g1.trans g2
      generalize winL a lo hi = xs at *
      generalize winL b lo hi = ys at *
      walk_at "rd"
      refine ⟨_, _, _, _, rfl, .inr ⟨e1, e2, fun D1 nD1 => lc_it (walk_zipT (K := K) (a := p1) (b := p2) (xs := xs.map V.int) (ys := ys.map V.int) (n := xs.length) (by rw [List.length_map, List.length_map]; omega))
        (fun i G => Same G2 G ∧ G D1 = some (.lst ((addL (xs.take i) (ys.take i)).map V.int))) ?_ (fun i G _ h => ⟨sq_same h.1 e1, sq_same h.1 e2⟩) (fun i x G G' hi h hy => ?_) (fun G h => ?_)⟩⟩
      · exact ⟨same_new nD1, upd_same⟩
      · obtain ⟨k1, k2⟩ := h
        obtain ⟨T, x1, x2, rfl, nT, rfl, z1, z2⟩ := hy
        have z1 : (xs.map V.int)[i]? = some x1 := z1
        have z2 : (ys.map V.int)[i]? = some x2 := z2
        obtain ⟨y1, c1, rfl⟩ := int_at z1
        obtain ⟨y2, c2, rfl⟩ := int_at z2
        generalize eH : upd _ _ _ = J1
        obtain ⟨j1, f1⟩ := new_of eH nT
        refine ⟨T, _, rfl, .inl (.inl f1), rfl, _, _, rfl, _, _, rfl, rfl, ?_⟩
        refine yesT rfl ?_
        walk_at "rd"
        refine ⟨_, j1 _ _ k2, ?_, fun b' o e' => ?_, ?_⟩
        · unfold addL
          rw [List.length_map, List.length_zipWith, List.length_take, List.length_take]
          exact many_small (by omega)
        · rw [upd_ne (ne_of_none e' nD1)]
          exact j1 _ _ (k1 _ _ e')
        · rw [upd_same, addL_snoc c1 c2, List.map_append]
          rfl
      · obtain ⟨k1, k2⟩ := h
        rw [List.take_length, show xs.length = ys.length by omega, List.take_length] at k2
        refine ⟨_, _, rfl, .inl ⟨.inl (.inl k2), fun p np => ?_⟩⟩
        generalize eH : upd _ _ _ = G3
        obtain ⟨g3, e3⟩ := new_of eH np
        have g23 := Same.trans k1 g3
        have g13 := g12.trans g23
        walk_at "rd"
        refine ⟨.ref ta, lo, a, rfl, ha.same g13, fun G4 g4 => ?_⟩
        have v1 : costV a lo = .int (costAt a lo) := by
          unfold costV fitB
          rw [decide_eq_true le1.1, decide_eq_true (show lo ≤ a.most by omega)]
          rfl
        have v2 : costV b lo = .int (costAt b lo) := by
          unfold costV fitB
          rw [decide_eq_true le1.2, decide_eq_true (show lo ≤ b.most by omega)]
          rfl
        rw [v1]
        walk_at "rd"
        refine ⟨.ref tb, lo, b, rfl, hb.same (g13.trans g4), fun G5 g5 => ?_⟩
        rw [v2]
        have g45 := g4.trans g5
        walk_at "rd"
        refine ⟨by show 4 ≤ sizeLine; decide, fun r nr => ?_⟩
        generalize eH : upd _ _ _ = G6
        obtain ⟨g6, e6⟩ := new_of eH nr
        refine q G6 (.ref r) ((g13.trans g45).trans g6) ⟨r, p, rfl, sq_of e6, sq_same (g45.trans g6) (sq_of e3)⟩
end
end K14
set_option Elab.async false
set_option linter.all false
set_option maxRecDepth 100000
set_option maxHeartbeats 1000000
namespace K14
open PySem PySem.Spec PyProof.Rows L2 WK
local macro_rules | `(tactic| walk_at "rd") => `(tactic| repeat (first | refine Exists.intro _ (And.intro rfl ?_) | refine Exists.intro _ (Exists.intro _ (And.intro rfl (And.intro rfl ?_))) | refine Exists.intro _ (Exists.intro _ (And.intro rfl ?_))))
section
variable {P : Program} {w : World} {K : PySem.W.Frag} {mg : Str → Option Value} {base : Heap} {fCo fWo fWi fSu fLo fHi fLe fBo fHw fHs fHe fAf fWs fLc fLt fEn aNOTHING aE : Addr} {dCo dWo dWi dSu dLo dHi dLe dBo dHw dHs dHe dAf dWs dLc dLt dEn : FuncData}
theorem ok_hw (D : Wks K mg fCo fWo fWi fSu fLo fHi fLe fBo fHw fHs fHe fAf fWs fLc fLt fEn aNOTHING aE dCo dWo dWi dSu dLo dHi dLe dBo dHw dHs dHe dAf dWs dLc dLt dEn) (B : Blt mg) : FnOk P w K mg base CX0 4 fHw dHw ["work", "b", "x"] (spHW K) := by
  have GLe : FnOk P w K mg base CX0 3 fLe dLe ["work"] (spLeast K) := ok_least D B
  have GBo : FnOk P w K mg base CX0 1 fBo dBo ["slopes", "b"] (spBounded K) := ok_bounded D B
  refine D.FHw.ok scHw (fun vs H Q E h => ?_) (fun cdv A outer s H vs Q E hr h => ?_)
  · obtain ⟨t, b, x, a, rfl, _⟩ := h
    rfl
  · obtain ⟨t, b, x, a, rfl, ha, la, b1, b2, q⟩ := h
    have hrLe := hr
    have hrBo := hr.mono (show 1 ≤ 3 by decide)
    refine ⟨_, (pss_cons (ps_asg (pv 0) (pg_tup rfl (pgs_cons (pg_name (i := 3) scHw.nd rfl (.inl rfl)) (pgs_cons (pg_name (i := 4) scHw.nd rfl (.inl rfl)) (pgs_cons (pg_name (i := 5) scHw.nd rfl (.inl rfl)) (pgs_cons (pg_name (i := 6) scHw.nd rfl (.inl rfl)) pgs_nil))))))
      (pss_cons (ps_set (i := 7) scHw.nd rfl (.inl rfl) (pe_slice (r := rSlA K) sl_tupA (pe_call GBo hrBo (by rfl) D.gBo D.FBo.kp D.bBo .nil pass0 (pa_cons (pv 6) (pa_cons (pv 1) pa_nil))) po_none (po_some (pe_callB (call_max2 rfl) (by rfl) B.max boot_max (pa_cons pe_int (pa_cons (pe_op op_sub (pv 2) (pv 3)) pa_nil))))))
      (pss_one (ps_ret (pe_op op_add (pe_op op_add (pe_call GLe hrLe (by rfl) D.gLe D.FLe.kp D.bLe .nil pass0 (pa_cons (pv 0) pa_nil)) (pe_callB (r := rSumT K) (cr_sumT rfl) (by rfl) B.sum (by decide +kernel) (pa_cons (pv 7) pa_nil))) (pe_op op_mul (pv 1) (pe_callB (call_max2 rfl) (by rfl) B.max boot_max (pa_cons pe_int (pa_cons (pe_op op_sub (pv 2) (pv 4)) pa_nil))))))))), ?_⟩
    obtain ⟨ta, ua, rfl, a1, a2⟩ := id ha
    walk_at "rd"
    refine ⟨_, _, rfl, a1, rfl, _, _, rfl, _, _, rfl, _, _, rfl, _, _, rfl, rfl, ?_⟩
    walk_at "rd"
    refine ⟨ua, b, a.slopes, rfl, a2, by have := la.len; have := la.wide; omega, fun G1 p1 g1 e1 => ?_⟩
    walk_at "rd"
    generalize em : (if x - a.need > 0 then x - a.need else 0) = m
    have m0 : 0 ≤ m := by
      rw [← em]
      split <;> omega
    refine slB e1 fun p2 G2 g2 e2 => ?_
    rw [cut_int m0, ← List.map_take] at e2
    have g12 := g1.trans g2
    walk_at "rd"
    refine ⟨.ref ta, a, rfl, ha.same g12, la, fun G3 g3 => ?_⟩
    walk_at "rd"
    refine ⟨_, _, rfl, sq_same g3 e2, ?_⟩
    walk_at "rd"
    refine ⟨mull ⟨b1, b2⟩, ?_⟩
    walk_at "rd"
    have := q G3 (g12.trans g3)
    unfold heldWorth at this
    rw [← em]
    exact this
theorem ok_hs (D : Wks K mg fCo fWo fWi fSu fLo fHi fLe fBo fHw fHs fHe fAf fWs fLc fLt fEn aNOTHING aE dCo dWo dWi dSu dLo dHi dLe dBo dHw dHs dHe dAf dWs dLc dLt dEn) (B : Blt mg) : FnOk P w K mg base CX0 2 fHs dHs ["work", "b", "low", "high"] (spHS K) := by
  have GBo : FnOk P w K mg base CX0 1 fBo dBo ["slopes", "b"] (spBounded K) := ok_bounded D B
  refine D.FHs.ok scHs (fun vs H Q E h => ?_) (fun cdv A outer s H vs Q E hr h => ?_)
  · obtain ⟨t, b, lo, hi, a, rfl, _⟩ := h
    rfl
  · obtain ⟨t, b, lo, hi, a, rfl, ha, la, c1, c2, q⟩ := h
    have hrBo := hr
    refine ⟨_, (pss_cons (ps_asg (pv 0) (pg_tup rfl (pgs_cons (pg_name (i := 4) scHs.nd rfl (.inl rfl)) (pgs_cons (pg_name (i := 5) scHs.nd rfl (.inl rfl)) (pgs_cons (pg_name (i := 6) scHs.nd rfl (.inl rfl)) (pgs_cons (pg_name (i := 7) scHs.nd rfl (.inl rfl)) pgs_nil))))))
      (pss_cons (ps_set (i := 8) scHs.nd rfl (.inl rfl) (pe_slice (r := rSlA K) sl_tupA (pe_call GBo hrBo (by rfl) D.gBo D.FBo.kp D.bBo .nil pass0 (pa_cons (pv 7) (pa_cons (pv 1) pa_nil))) (po_some (pe_callB (call_max2 rfl) (by rfl) B.max boot_max (pa_cons pe_int (pa_cons (pe_op op_sub (pv 2) (pv 4)) pa_nil)))) (po_some (pe_callB (call_max2 rfl) (by rfl) B.max boot_max (pa_cons pe_int (pa_cons (pe_op op_sub (pv 3) (pv 4)) pa_nil))))))
      (pss_cons (ps_set (i := 9) scHs.nd rfl (.inl rfl) (pe_op op_repA (pe_tup (pa_cons pe_int pa_nil)) (pe_callB (call_max2 rfl) (by rfl) B.max boot_max (pa_cons pe_int (pa_cons (pe_op op_sub (pe_callB (call_min2 rfl) (by rfl) B.min boot_min (pa_cons (pv 3) (pa_cons (pv 4) pa_nil))) (pv 2)) pa_nil)))))
      (pss_cons (ps_set (i := 10) scHs.nd rfl (.inl rfl) (pe_op op_repA (pe_tup (pa_cons (pv 1) pa_nil)) (pe_callB (call_max2 rfl) (by rfl) B.max boot_max (pa_cons pe_int (pa_cons (pe_op op_sub (pv 3) (pe_callB (call_max2 rfl) (by rfl) B.max boot_max (pa_cons (pv 2) (pa_cons (pv 5) pa_nil)))) pa_nil)))))
      (pss_one (ps_ret (pe_op op_catA (pe_op op_catA (pv 9) (pv 8)) (pv 10)))))))), ?_⟩
    obtain ⟨ta, ua, rfl, a1, a2⟩ := id ha
    walk_at "rd"
    refine ⟨_, _, rfl, a1, rfl, _, _, rfl, _, _, rfl, _, _, rfl, _, _, rfl, rfl, ?_⟩
    walk_at "rd"
    refine ⟨ua, b, a.slopes, rfl, a2, by have := la.len; have := la.wide; omega, fun G1 p1 g1 e1 => ?_⟩
    walk_at "rd"
    have nn : ∀ z, ∃ m : Nat, mx 0 z = m := fun z => ⟨(mx 0 z).toNat, by rw [Int.toNat_of_nonneg (by rw [mx_eq]; omega)]⟩
    obtain ⟨m, em⟩ := nn (lo - a.need)
    obtain ⟨n, en⟩ := nn (hi - a.need)
    refine slB e1 fun p2 G2 g2 e2 => ?_
    have e2 : SqT K G2 p2 ((heldMid a b lo hi).map V.int) := by
      have e2 : SqT K G2 p2 (cutV ((clampL a.slopes b).map V.int) (some (mx 0 (lo - a.need))) (some (mx 0 (hi - a.need)))) := e2
      rw [em, en, cut_mid, ← List.map_drop, ← List.map_take] at e2
      unfold heldMid
      rw [em, en, Int.toNat_natCast, Int.toNat_natCast]
      exact e2
    have g12 := g1.trans g2
    walk_at "rd"
    refine ⟨by show 1 ≤ sizeLine; decide, fun p3 n3 => ?_⟩
    generalize eH : upd _ _ _ = G3
    obtain ⟨g3, e3⟩ := new_of eH n3
    walk_at "rd"
    have k1 : mx 0 (mn hi a.need - lo) ≤ 1000 ∧ 0 ≤ mx 0 (mn hi a.need - lo) := by rw [mx_eq, mn_eq]; omega
    have k2 : mx 0 (hi - mx lo a.most) ≤ 1000 ∧ 0 ≤ mx 0 (hi - mx lo a.most) := by rw [mx_eq, mx_eq]; omega
    refine repB (k := mx 0 (mn hi a.need - lo)) (sq_of e3) (by omega) k1.1 fun p4 G4 g4 e4 => ?_
    have g14 := (g12.trans g3).trans g4
    walk_at "rd"
    refine ⟨by show 1 ≤ sizeLine; decide, fun p5 n5 => ?_⟩
    generalize eH : upd _ _ _ = G5
    obtain ⟨g5, e5⟩ := new_of eH n5
    walk_at "rd"
    refine repB (k := mx 0 (hi - mx lo a.most)) (sq_of e5) (by omega) k2.1 fun p6 G6 g6 e6 => ?_
    have g46 := Same.trans g5 g6
    have g26 := (g3.trans g4).trans g46
    walk_at "rd"
    have hlen : ((heldSlopes a b lo hi).length : Int) = hi - lo := (heldW_len la c1 c2 (b := b)).len
    unfold heldSlopes at hlen
    rw [List.length_append, List.length_append] at hlen
    refine catB (sq_same g46 e4) (sq_same g26 e2) ?_ fun p7 G7 g7 e7 => ?_
    · rw [List.length_map, List.length_map]
      exact Nat.le_of_lt (many_small (by omega))
    walk_at "rd"
    refine catB e7 (sq_same g7 e6) ?_ fun p8 G8 g8 e8 => ?_
    · rw [List.length_append, List.length_map, List.length_map, List.length_map]
      exact Nat.le_of_lt (many_small (by omega))
    refine q G8 p8 ((g14.trans g46).trans (g7.trans g8)) ?_
    unfold heldSlopes
    rw [List.map_append, List.map_append]
    exact e8
theorem ok_held (D : Wks K mg fCo fWo fWi fSu fLo fHi fLe fBo fHw fHs fHe fAf fWs fLc fLt fEn aNOTHING aE dCo dWo dWi dSu dLo dHi dLe dBo dHw dHs dHe dAf dWs dLc dLt dEn) (B : Blt mg) : FnOk P w K mg base CX0 5 fHe dHe ["work", "b", "low", "high"] (spHeld K) := by
  have GHw : FnOk P w K mg base CX0 4 fHw dHw ["work", "b", "x"] (spHW K) := ok_hw D B
  have GHs : FnOk P w K mg base CX0 2 fHs dHs ["work", "b", "low", "high"] (spHS K) := ok_hs D B
  refine D.FHe.ok scHe (fun vs H Q E h => ?_) (fun cdv A outer s H vs Q E hr h => ?_)
  · obtain ⟨t, b, lo, hi, a, rfl, _⟩ := h
    rfl
  · obtain ⟨t, b, lo, hi, a, rfl, ha, la, b1, b2, c1, c2, q⟩ := h
    have hrHw := hr
    have hrHs := hr.mono (show 2 ≤ 4 by decide)
    refine ⟨_, (pss_one (ps_ret (pe_tup (pa_cons (pv 2) (pa_cons (pv 3) (pa_cons (pe_call GHw hrHw (by rfl) D.gHw D.FHw.kp D.bHw .nil pass0 (pa_cons (pv 0) (pa_cons (pv 1) (pa_cons (pv 2) pa_nil)))) (pa_cons (pe_call GHs hrHs (by rfl) D.gHs D.FHs.kp D.bHs .nil pass0 (pa_cons (pv 0) (pa_cons (pv 1) (pa_cons (pv 2) (pa_cons (pv 3) pa_nil))))) pa_nil))))))), ?_⟩
    walk_at "rd"
    refine ⟨t, b, lo, a, rfl, ha, la, b1, b2, fun G1 g1 => ?_⟩
    walk_at "rd"
    refine ⟨t, b, lo, hi, a, rfl, ha.same g1, la, c1, c2, fun G2 p g2 e2 => ?_⟩
    walk_at "rd"
    refine ⟨by show 4 ≤ sizeLine; decide, fun r nr => ?_⟩
    generalize eH : upd _ _ _ = G3
    obtain ⟨g3, e3⟩ := new_of eH nr
    exact q G3 (.ref r) ((g1.trans g2).trans g3) ⟨r, p, rfl, sq_of e3, sq_same g3 e2⟩
theorem ok_after (D : Wks K mg fCo fWo fWi fSu fLo fHi fLe fBo fHw fHs fHe fAf fWs fLc fLt fEn aNOTHING aE dCo dWo dWi dSu dLo dHi dLe dBo dHw dHs dHe dAf dWs dLc dLt dEn) (B : Blt mg) : FnOk P w K mg base CX0 6 fAf dAf ["work", "slot", "b"] (spAfter K) := by
  have GSu : FnOk P w K mg base CX0 3 fSu dSu ["one", "other"] (spSum K) := ok_sum D B
  have GHe : FnOk P w K mg base CX0 5 fHe dHe ["work", "b", "low", "high"] (spHeld K) := ok_held D B
  refine D.FAf.ok scAf (fun vs H Q E h => ?_) (fun cdv A outer s H vs Q E hr h => ?_)
  · obtain ⟨t, u, b, a, sl, rfl, _⟩ := h
    rfl
  · obtain ⟨t, u, b, a, sl, rfl, ha, hs, la, ls, b1, b2, q⟩ := h
    have hrHe := hr
    have hrSu := hr.mono (show 3 ≤ 5 by decide)
    refine ⟨_, (pss_one (ps_ret (pe_call GSu hrSu (by rfl) D.gSu D.FSu.kp D.bSu .nil pass0 (pa_cons (pv 1) (pa_cons (pe_call GHe hrHe (by rfl) D.gHe D.FHe.kp D.bHe .nil pass0 (pa_cons (pv 0) (pa_cons (pv 2) (pa_cons (pe_ix (r := rIxT K) ix_tup (pv 1) pe_int (fun _ _ => rfl)) (pa_cons (pe_ix (r := rIxT K) ix_tup (pv 1) pe_int (fun _ _ => rfl)) pa_nil))))) pa_nil))))), ?_⟩
    obtain ⟨ts, us, rfl, a1, a2⟩ := id hs
    walk_at "rd"
    refine ⟨_, _, _, _, rfl, rfl, a1, atI_nat (j := 0) rfl, ?_⟩
    walk_at "rd"
    refine ⟨_, _, _, _, rfl, rfl, a1, atI_nat (j := 1) rfl, ?_⟩
    walk_at "rd"
    refine ⟨t, b, sl.need, sl.most, a, rfl, ha, la, b1, b2, ls.mid, ls.wide, fun G1 v g1 e1 => ?_⟩
    walk_at "rd"
    refine ⟨.ref ts, v, sl, _, rfl, hs.same g1, e1, ls, heldW_len la ls.mid ls.wide, fun e => ?_, fun c e G2 x g2 e2 => ?_⟩
    · rw [after_some ls] at e
      cases e
    · rw [after_some ls] at e
      have e := Option.some.inj e
      rw [← e] at e2
      exact q G2 x (g1.trans g2) e2
end
end K14
set_option Elab.async false
set_option linter.all false
set_option maxRecDepth 100000
set_option maxHeartbeats 1000000
namespace K14
open PySem PySem.Spec PyProof.Rows L2 WK
local macro_rules | `(tactic| walk_at "rd") => `(tactic| repeat (first | refine Exists.intro _ (And.intro rfl ?_) | refine Exists.intro _ (Exists.intro _ (And.intro rfl (And.intro rfl ?_))) | refine Exists.intro _ (Exists.intro _ (And.intro rfl ?_))))
section
variable {P : Program} {w : World} {K : PySem.W.Frag} {mg : Str → Option Value} {base : Heap} {fCo fWo fWi fSu fLo fHi fLe fBo fHw fHs fHe fAf fWs fLc fLt fEn aNOTHING aE : Addr} {dCo dWo dWi dSu dLo dHi dLe dBo dHw dHs dHe dAf dWs dLc dLt dEn : FuncData}
theorem ok_works (D : Wks K mg fCo fWo fWi fSu fLo fHi fLe fBo fHw fHs fHe fAf fWs fLc fLt fEn aNOTHING aE dCo dWo dWi dSu dLo dHi dLe dBo dHw dHs dHe dAf dWs dLc dLt dEn) (B : Blt mg) : FnOk P w K mg base CX0 7 fWs dWs ["slots", "b"] (spWorksN K) := by
  have GAf : FnOk P w K mg base CX0 6 fAf dAf ["work", "slot", "b"] (spAfter K) := ok_after D B
  refine D.FWs.ok scWs (fun vs H Q E h => ?_) (fun cdv A outer s H vs Q E hr h => ?_)
  · obtain ⟨p, b, us, ss, rfl, _⟩ := h
    rfl
  · obtain ⟨p, b, us, ss, rfl, hp, hs, lens, hl, b1, b2, q⟩ := h
    have hrAf := hr
    refine ⟨_, (pss_cons (ps_set (i := 2) scWs.nd rfl (.inl rfl) (pe_lst pa_nil))
      (pss_cons (ps_set (i := 3) scWs.nd rfl (.inl rfl) (pe_glob (v := .ref aNOTHING) (by rfl) D.gNOTHING rfl))
      (pss_cons (ps_for PassesOwn.never rfl (pi_tup (pv 0)) (pg_name (i := 4) scWs.nd rfl (.inl rfl))
        (pss_cons (ps_set (i := 3) scWs.nd rfl (.inl rfl) (pe_call GAf hrAf (by rfl) D.gAf D.FAf.kp D.bAf .nil pass0 (pa_cons (pv 3) (pa_cons (pv 4) (pa_cons (pv 1) pa_nil)))))
        (pss_one (ps_expr (pe_bm PySem.F.plainAttrs_list PySem.F.slot_list_append PySem.F.type_list_append mt_append (pv 2) (pa_cons (pv 3) pa_nil))))))
      (pss_one (ps_ret (pv 2)))))), ?_⟩
    walk_at "rd"
    refine ⟨Nat.zero_le _, fun l nl => ?_⟩
    generalize eH : upd _ _ _ = H1
    obtain ⟨g1, e1⟩ := new_of eH nl
    walk_at "rd"
    refine ⟨⟨_, sq_same g1 hp⟩, for_tup (K := K) (a := p) (xs := us) (fun i σ G => ∃ (x4 : Option V) (v : V) (ws : List V), σ = [some (.ref p), some (.int b), some (.ref l), some v, x4] ∧
      Same H G ∧ G l = some (.lst ws) ∧ SltsK K G ws (worksW w0 b (ss.take i)) ∧ SltK K G v (lastW w0 b (ss.take i))) ⟨none, _, [], rfl, g1, e1, .nil, ⟨aNOTHING, aE, rfl, D.nN _, D.nE _⟩⟩ (fun i σ G _ h => ?_) (fun i x σ G hx h => ?_) (fun σ G h => ?_)⟩
    · obtain ⟨x4, v, ws, rfl, g, e, k1, k2⟩ := h
      exact sq_same g hp
    · obtain ⟨x4, v, ws, rfl, g, e, k1, k2⟩ := h
      obtain ⟨sl, hsl, hx⟩ := (hs.same g).get hx
      have ls := lens sl (List.mem_of_getElem? hsl)
      walk_at "rd"
      refine ⟨v, x, b, _, sl, rfl, k2, hx, lastW_len w0_len (fun s' h => lens s' (List.mem_of_mem_take h)), ls, b1, b2, fun G2 v2 g2 e2 => ?_⟩
      have k3 := g2 _ _ e
      walk_at "rd"
      refine ⟨.inl ⟨rfl, _, .inl (.inl k3)⟩, ?_⟩
      walk_at "rd"
      refine ⟨_, _, _, rfl, rfl, k3, ?_, ?_⟩
      · rw [k1.len, worksW_len, List.length_take]
        exact many_small (by omega)
      · refine ⟨_, v2, _, rfl, fun c o e' => ?_, upd_same, ?_, ?_⟩
        · rw [upd_ne (ne_of_none e' nl)]
          exact g2 _ _ (g _ _ e')
        · rw [take_snoc1 hsl, worksW_snoc]
          exact ((k1.same g2).upd k3).snoc (e2.upd k3)
        · rw [take_snoc1 hsl, lastW_snoc]
          exact e2.upd k3
    · obtain ⟨x4, v, ws, rfl, g, e, k1, k2⟩ := h
      walk_at "rd"
      rw [hs.len, List.take_length] at k1
      exact q G l ws g nl e k1
theorem ok_leasts (D : Wks K mg fCo fWo fWi fSu fLo fHi fLe fBo fHw fHs fHe fAf fWs fLc fLt fEn aNOTHING aE dCo dWo dWi dSu dLo dHi dLe dBo dHw dHs dHe dAf dWs dLc dLt dEn) (B : Blt mg) : FnOk P w K mg base CX0 8 fLc dLc ["slots", "b"] (spLeastsN K) := by
  have GWs : FnOk P w K mg base CX0 7 fWs dWs ["slots", "b"] (spWorksN K) := ok_works D B
  have GLe : FnOk P w K mg base CX0 3 fLe dLe ["work"] (spLeast K) := ok_least D B
  refine D.FLc.ok scLc (fun vs H Q E h => ?_) (fun cdv A outer s H vs Q E hr h => ?_)
  · obtain ⟨p, b, us, ss, rfl, _⟩ := h
    rfl
  · obtain ⟨p, b, us, ss, rfl, hp, hs, lens, hl, b1, b2, q⟩ := h
    have hrWs := hr
    have hrLe := hr.mono (show 3 ≤ 7 by decide)
    refine ⟨_, (pss_one (ps_ret (pe_lc (own := [("work", 2)]) (g := gName 2) rfl scLc.nd (pi_list (pe_call GWs hrWs (by rfl) D.gWs D.FWs.kp D.bWs .nil pass0 (pa_cons (pv 0) (pa_cons (pv 1) pa_nil)))) (blkOk_by (own := [("work", 2)]) (N := ["slots", "b", "work"]) (sc := defScope sLc) (by decide +kernel)) (fun _ _ _ _ _ => (pg_name (i := 2) scLc.nd rfl (.inl rfl))) (fun _ _ _ _ _ => pts_nil) (fun _ _ _ _ _ => (pe_call GLe hrLe (by rfl) D.gLe D.FLe.kp D.bLe .nil pass0 (pa_cons (pv 2) pa_nil)))))), ?_⟩
    walk_at "rd"
    refine ⟨p, b, us, ss, rfl, hp, hs, lens, hl, b1, b2, fun G1 l ws g1 nl e1 k1 => ?_⟩
    have Lens := worksW_Len (b := b) (ss := ss) w0_len lens
    have wl : (worksW w0 b ss).length = ss.length := worksW_len
    walk_at "rd"
    refine ⟨⟨_, .inl (.inl e1)⟩, fun D1 nD1 => lc_list (K := K) (a := l) (xs := ws) (fun i G => Same G1 G ∧ G D1 = some (.lst ((((worksW w0 b ss).take i).map leastW).map V.int))) ?_ (fun i G _ h => .inl (.inl (h.1 _ _ e1))) (fun i x G hx h => ?_) (fun G h => ?_)⟩
    · exact ⟨same_new nD1, upd_same⟩
    · obtain ⟨g, e⟩ := h
      obtain ⟨sl, hsl, hx⟩ := (k1.same g).get hx
      refine yesT rfl ?_
      walk_at "rd"
      refine ⟨x, sl, rfl, hx, Lens sl (List.mem_of_getElem? hsl), fun G2 g2 => ?_⟩
      refine ⟨_, g2 _ _ e, ?_, fun c o e' => ?_, ?_⟩
      · rw [List.length_map, List.length_map, List.length_take]
        exact many_small (by omega)
      · rw [upd_ne (ne_of_none e' nD1)]
        exact g2 _ _ (g _ _ e')
      · rw [upd_same, take_snoc1 hsl, List.map_append, List.map_append]
        rfl
    · obtain ⟨g, e⟩ := h
      rw [k1.len, List.take_length] at e
      walk_at "rd"
      exact q G D1 (g1.trans g) (Same.free g1 nD1) e
theorem ok_leastc (D : Wks K mg fCo fWo fWi fSu fLo fHi fLe fBo fHw fHs fHe fAf fWs fLc fLt fEn aNOTHING aE dCo dWo dWi dSu dLo dHi dLe dBo dHw dHs dHe dAf dWs dLc dLt dEn) (B : Blt mg) : FnOk P w K mg base CX0 9 fLt dLt ["slots", "b"] (spLeastC K) := by
  have GLc : FnOk P w K mg base CX0 8 fLc dLc ["slots", "b"] (spLeastsN K) := ok_leasts D B
  refine D.FLt.ok scLt (fun vs H Q E h => ?_) (fun cdv A outer s H vs Q E hr h => ?_)
  · obtain ⟨p, b, us, ss, rfl, _⟩ := h
    rfl
  · obtain ⟨p, b, us, ss, rfl, hp, hs, lens, hl, b1, b2, q⟩ := h
    have hrLc := hr
    refine ⟨_, (pss_cons (ps_if (pt_not (pt_truth (pv 0) (by intro _; rfl)))
        (pss_one (ps_ret pe_int))
        pss_nil)
      (pss_one (ps_ret (pe_ix (r := rIxL K) ix_list (pe_call GLc hrLc (by rfl) D.gLc D.FLc.kp D.bLc .nil pass0 (pa_cons (pv 0) (pa_cons (pv 1) pa_nil))) (pe_un un_neg pe_int) (fun _ _ => rfl))))), ?_⟩
    walk_at "rd"
    refine ⟨!us.isEmpty, .inr (.inl ⟨us, hp, rfl⟩), ?_⟩
    rcases List.eq_nil_or_concat ss with es | ⟨st, sz, es⟩
    · subst es
      have eu : us = [] := List.eq_nil_of_length_eq_zero hs.len
      subst eu
      refine ite2 (fun _ => ?_) (fun c => absurd rfl c)
      walk_at "rd"
      exact q H (Same.refl _)
    · have eu : us.isEmpty = false := by
        cases us with
        | nil =>
          have := hs.len
          rw [es, List.concat_eq_append, List.length_append] at this
          simp only [List.length_nil, List.length_cons] at this
          omega
        | cons u us => rfl
      rw [eu]
      refine ite2 (fun c => absurd c (by decide)) (fun _ => ?_)
      walk_at "rd"
      refine ⟨p, b, us, ss, rfl, hp, hs, lens, hl, b1, b2, fun G l g nl e => ?_⟩
      rw [es, List.concat_eq_append, worksW_snoc, List.map_append, List.map_append] at e
      walk_at "rd"
      refine ⟨_, _, _, _, rfl, rfl, .inl (.inl e), atI_last _ _, ?_⟩
      have := q G g
      rw [es, List.concat_eq_append, lastW_snoc] at this
      exact this
end
end K14
set_option Elab.async false
set_option linter.all false
set_option maxRecDepth 100000
set_option maxHeartbeats 4000000
namespace K14
open PySem PySem.Spec PyProof.Rows L2 WK
local macro_rules | `(tactic| walk_at "rd") => `(tactic| repeat (first | refine Exists.intro _ (And.intro rfl ?_) | refine Exists.intro _ (Exists.intro _ (And.intro rfl (And.intro rfl ?_))) | refine Exists.intro _ (Exists.intro _ (And.intro rfl ?_))))
abbrev sGo : Stmt := topS 26
theorem scGo : FnScope ["costs", "b", "found", "ahead", "some", "here", "x", "y"] ["costs", "b"] (defScope sGo) := ⟨rfl, rfl, rfl, by decide +kernel, rfl, by decide +kernel, by decide +kernel⟩
section
variable {P : Program} {w : World} {K : PySem.W.Frag} {mg : Str → Option Value} {base : Heap}
theorem ok_going {f : Addr} {fd : FuncData} (F : Fun K "_law_going" "_law_going" sGo f fd) (B : Blt mg) : FnOk P w K mg base CX0 1 f fd ["costs", "b"] spGoing := by
  refine F.ok scGo (fun vs H Q E h => ?_) (fun cdv A outer s H vs Q E hr h => ?_)
  · obtain ⟨l, us, ss, b, rfl, _⟩ := h
    rfl
  · obtain ⟨l, us, ss, b, rfl, hl, hc, far, hn, b0, q⟩ := h
    have hu := hu_of hr
    refine ⟨_, (pss_cons (ps_asg (pe_tup (pa_cons (pe_lst pa_nil) (pa_cons (pe_disp (pps_cons pe_int pe_int pps_nil) (by rfl) (by rfl) (fun z => by cases z) (by decide)) pa_nil))) (pg_tup rfl (pgs_cons (pg_name (i := 2) scGo.nd rfl (.inl rfl)) (pgs_cons (pg_name (i := 3) scGo.nd rfl (.inr rfl)) pgs_nil))))
      (pss_cons (ps_for PassesOwn.never rfl (pi_list (pv 0)) (pg_name (i := 4) scGo.nd rfl (.inl rfl))
        (pss_cons (ps_set (i := 5) scGo.nd rfl (.inl rfl) pe_dnewK)
        (pss_cons (ps_lock (ps_for PassesOwn.never rfl (pi_keys (pv 4)) (pg_name (i := 6) scGo.nd rfl (.inr rfl))
          (pss_one (ps_dput hu (pv 5) (pv 6) (pe_op op_add (pe_dget hu (pv 4) (pv 6) (fun _ _ => rfl)) (pe_callB (r := rMin K) (cr_min rfl) (by rfl) B.min (by decide +kernel) (pa_cons (pe_lock (pe_lc (own := [("y", 7)]) (g := gName 7) rfl scGo.nd (pi_keys (pv 3)) (blkOk_by (own := [("y", 7)]) (N := ["costs", "b", "found", "ahead", "some", "here", "x", "y"]) (sc := defScope sGo) (by decide +kernel)) (fun _ _ _ _ _ => (pg_name (i := 7) scGo.nd rfl (.inl rfl))) (fun _ _ _ _ _ => pts_nil) (fun _ _ _ _ _ => (pe_op op_add (pe_dget hu (pv 3) (pv 7) (fun _ _ => rfl)) (pe_op op_mul (pv 1) (pe_callB (call_max2 rfl) (by rfl) B.max boot_max (pa_cons pe_int (pa_cons (pe_op op_sub (pv 6) (pv 7)) pa_nil)))))))) pa_nil))) rfl))))
        (pss_cons (ps_expr (pe_bm PySem.F.plainAttrs_list PySem.F.slot_list_append PySem.F.type_list_append mt_append (pv 2) (pa_cons (pv 5) pa_nil)))
        (pss_one (ps_set (i := 3) scGo.nd rfl (.inr rfl) (pv 5)))))))
      (pss_one (ps_ret (pv 2))))), ?_⟩
    walk_at "rd"
    refine ⟨Nat.zero_le _, fun fa nfa => ?_⟩
    generalize eH : upd _ _ _ = H1
    obtain ⟨g1, e1⟩ := new_of eH nfa
    walk_at "rd"
    intro da nda
    walk_at "rd"
    refine ⟨upd_same, [(.inl 0, .int 0)], rfl, by show 1 ≤ 15; decide, ?_⟩
    rw [upd_upd]
    generalize eH : upd _ _ _ = H2
    obtain ⟨g2, e2⟩ := new_of eH nda
    have e2 : H2 da = some (.dK (costK w0 1)) := e2
    have e1 := g2 _ _ e1
    have fda : H da = none := Same.free g1 nda
    walk_at "rd"
    refine ⟨by show 2 ≤ sizeLine; decide, fun tp ntp => ?_⟩
    generalize eH : upd _ _ _ = H3
    obtain ⟨g3, e3⟩ := new_of eH ntp
    have e1 := g3 _ _ e1
    have e2 := g3 _ _ e2
    have sm3 := (g1.trans g2).trans g3
    walk_at "rd"
    refine ⟨tp, _, rfl, .inl (.inl e3), rfl, _, _, rfl, _, _, rfl, rfl, ?_⟩
    walk_at "rd"
    refine ⟨⟨_, .inl (.inl (sm3 _ _ hl))⟩, for_list (K := K) (a := l) (xs := us) (fun i σ G => ∃ (x4 x5 x6 x7 : Option V) (ws : List V) (d : Addr), σ = [some (.ref l), some (.int b), some (.ref fa), some (.ref d), x4, x5, x6, x7] ∧
      Same H G ∧ H d = none ∧ G d = some (.dK (costK (lastW w0 b (ss.take i)) ((lastW w0 b (ss.take i)).slopes.length + 1))) ∧ G fa = some (.lst ws) ∧ CostsAt G ws (worksW w0 b (ss.take i)) ∧ (∀ v ∈ ws, ∃ c, v = .ref c ∧ H c = none)) ⟨none, none, none, none, [], da, rfl, sm3, fda, e2, e1, .nil, by simp⟩ (fun i σ G _ h => ?_) (fun i x σ G hx h => ?_) (fun σ G h => ?_)⟩
    · obtain ⟨x4, x5, x6, x7, ws, d, rfl, sm, fd, k1, k2, k3, k4⟩ := h
      exact .inl (.inl (sm _ _ hl))
    · obtain ⟨x4, x5, x6, x7, ws, d, rfl, sm, fd, k1, k2, k3, k4⟩ := h
      obtain ⟨sl, hsl, hx⟩ := hc.get hx
      obtain ⟨d1, rfl, hd1⟩ := hx
      have fr := far sl (List.mem_of_getElem? hsl)
      have aw : (lastW w0 b (ss.take i)).Wk := lastW_wk b0 _ fun s' h => (far s' (List.mem_of_mem_take h)).wk
      generalize eA : lastW w0 b (ss.take i) = A at k1 aw
      have hsl0 : (sl.slopes.length : Int) = sl.most - sl.need := fr.wk.len.len
      have hwd := fr.wk.len.wide
      have hal : (A.slopes.length : Int) = A.most - A.need := aw.len.len
      have hwa := aw.len.wide
      have aneed : 0 ≤ A.need ∧ A.most ≤ 1000000 := by rw [← eA]; exact last_far b0 fun s' h => far s' (List.mem_of_mem_take h)
      have nd1 : d1 ≠ d := ne_of_none hd1 fd
      have kG := k1
      walk_at "rd"
      intro dh ndh
      generalize eH : upd _ _ _ = G1
      obtain ⟨m1, f1⟩ := new_of eH ndh
      have nd2 : d1 ≠ dh := ne_of_none (sm _ _ hd1) ndh
      have nd3 : d ≠ dh := ne_of_none k1 ndh
      have hd2 := m1 _ _ (sm _ _ hd1)
      have k1 := m1 _ _ k1
      have f1 : G1 dh = some (.dK (costK (afterW A sl b) 0)) := f1
      walk_at "rd"
      refine ⟨d1, _, hd2, trivial, fun od => ?_⟩
      generalize eH : upd _ _ _ = G2
      have z1 : SameB d1 G1 G2 := by rw [← eH]; exact sameB_upd
      have z2 : G2 d1 = some (.frz od (.dK (costK sl (sl.slopes.length + 1)))) := by rw [← eH]; exact upd_same
      walk_at "rd"
      refine ⟨d1, od, rfl, .inl ⟨_, z2, for_it walk_keys (fun j σ J => ∃ (x6 x7 : Option V), σ = [some (.ref l), some (.int b), some (.ref fa), some (.ref d), some (.ref d1), some (.ref dh), x6, x7] ∧ SameB d1 G J ∧ J d1 = some (.frz od (.dK (costK sl (sl.slopes.length + 1)))) ∧ J dh = some (.dK (costK (afterW A sl b) j))) ⟨x6, x7, rfl, fun c o n e => z1 _ _ n (m1 _ _ e), z2, z1 _ _ nd2.symm f1⟩ (fun j σ J _ h => ?_) (fun j x σ J J' hj h hy => ?_) (fun σ J h => ?_)⟩⟩
      · obtain ⟨x6, x7, rfl, y1, y2, y3⟩ := h
        exact y2
      · obtain ⟨x6, x7, rfl, y1, y2, y3⟩ := h
        obtain ⟨rfl, kk, vv, hk, rfl⟩ := hy
        obtain ⟨hj, rfl, rfl⟩ := costK_get hk
        obtain ⟨t1, t2, t3⟩ := after_at (b := b) aw fr.wk b0 (j := j) (by omega)
        have fD := y1 _ _ nd1.symm kG
        walk_at "rd"
        refine ⟨d1, _, rfl, .inl ⟨_, .inl (sl.need + j), .inr ⟨od, y2⟩, rfl, (costK_valN hj).symm⟩, ?_⟩
        walk_at "rd"
        refine ⟨d, _, fD, trivial, fun od2 => ?_⟩
        generalize eH : upd _ _ _ = G3
        have u1 : SameB d J' G3 := by rw [← eH]; exact sameB_upd
        have u2 : G3 d = some (.frz od2 (.dK (costK A (A.slopes.length + 1)))) := by rw [← eH]; exact upd_same
        walk_at "rd"
        refine ⟨d, od2, rfl, .inl ⟨_, u2, fun D nD => lc_it walk_keys (fun n J => SameB d J' J ∧ J d = some (.frz od2 (.dK (costK A (A.slopes.length + 1)))) ∧ J D = some (.lst ((fromL A b (sl.need + j) n).map V.int))) ⟨fun c o nc e => ?_, ?_, upd_same⟩ (fun n J _ h => h.2.1) (fun n y J J2 hn2 h hy => ?_) (fun J h => ?_)⟩⟩
        · rw [upd_ne (ne_of_none (u1 _ _ nc e) nD)]
          exact u1 _ _ nc e
        · rw [upd_ne (ne_of_none u2 nD)]
          exact u2
        · obtain ⟨v1, v2, v3⟩ := h
          obtain ⟨rfl, k2, w2, hk2, rfl⟩ := hy
          obtain ⟨hn3, rfl, rfl⟩ := costK_get hk2
          refine yesT rfl ?_
          walk_at "rd"
          have fl := fr.lo
          have fh := fr.hi
          have ubd : -2 ^ 64 < up (sl.need + (j : Int) - (A.need + (n : Int))) ∧ up (sl.need + (j : Int) - (A.need + (n : Int))) < 2 ^ 64 := by
            unfold up
            have := aneed
            split <;> omega
          refine ⟨d, _, rfl, .inl ⟨_, .inl (A.need + n), .inr ⟨od2, v2⟩, rfl, (costK_valN hn3).symm⟩, ?_⟩
          walk_at "rd"
          refine ⟨mulr ubd, ?_⟩
          walk_at "rd"
          refine ⟨_, v3, ?_, fun c o nc e => ?_, ?_, ?_⟩
          · rw [List.length_map]
            unfold fromL
            rw [mapr_len]
            exact many_small (by omega)
          · rw [upd_ne (ne_of_none (u1 _ _ nc e) nD)]
            exact v1 _ _ nc e
          · rw [upd_ne (ne_of_none u2 nD)]
            exact v2
          · rw [upd_same, fromL_succ, List.map_append]
            rfl
        · obtain ⟨v1, v2, v3⟩ := h
          rw [costK_len] at v3
          refine ⟨v2, ?_⟩
          generalize eH : upd _ _ _ = G4
          have p1 : Same J' G4 := by rw [← eH]; exact v1.back fD
          have nDd : D ≠ d := fun z => by rw [z] at nD; rw [u2] at nD; cases nD
          have p2 : G4 D = some (.lst ((fromL A b (sl.need + j) (A.slopes.length + 1)).map V.int)) := by rw [← eH, upd_ne nDd]; exact v3
          refine ⟨_, _, rfl, .inl (.inl p2), ?_, fun m hm1 hm2 => ?_⟩
          · unfold fromL
            rw [mapr_len]
            omega
          have em := from_least aw b0 hm1 hm2
          subst em
          walk_at "rd"
          refine ⟨dh, _, rfl, .inl ⟨_, .inl (sl.need + j), p1 _ _ y3, rfl, ?_, rfl⟩, ?_⟩
          · rw [costK_len]
            exact many_small (by omega)
          refine ⟨_, _, rfl, fun c o nc e => ?_, ?_, ?_⟩
          · rw [upd_ne (ne_of_none e ndh)]
            exact p1 _ _ (y1 _ _ nc e)
          · rw [upd_ne nd2]
            exact p1 _ _ y2
          · rw [upd_same, ← costK_put, t3, t1]
      · obtain ⟨x6, x7, rfl, y1, y2, y3⟩ := h
        rw [costK_len] at y3
        refine ⟨y2, ?_⟩
        generalize eH : upd _ _ _ = G5
        have p1 : Same G G5 := by rw [← eH]; exact y1.back (sm _ _ hd1)
        have p2 : G5 dh = some (.dK (costK (afterW A sl b) (sl.slopes.length + 1))) := by rw [← eH, upd_ne nd2.symm]; exact y3
        obtain ⟨t1, t2, t3⟩ := after_at (b := b) aw fr.wk b0 (j := 0) (by omega)
        have k2 := p1 _ _ k2
        walk_at "rd"
        refine ⟨.inl ⟨rfl, _, .inl (.inl k2)⟩, ?_⟩
        walk_at "rd"
        refine ⟨_, _, _, rfl, rfl, k2, ?_, ?_⟩
        · rw [k3.len, worksW_len, List.length_take]
          exact many_small (by omega)
        have dk := dks_upd (o := .lst (ws ++ [.ref dh])) k2
        walk_at "rd"
        refine ⟨_, _, _, _, ws ++ [.ref dh], dh, rfl, fun c o e => ?_, Same.free sm ndh, ?_, upd_same, ?_, ?_⟩
        · rw [upd_ne (ne_of_none e nfa)]
          exact p1 _ _ (sm _ _ e)
        · rw [take_snoc1 hsl, lastW_snoc, eA, t2]
          exact dk _ _ p2
        · rw [take_snoc1 hsl, worksW_snoc, eA]
          exact (k3.mono fun b kvs e => dk _ _ (p1 _ _ e)).snoc ⟨dh, rfl, by rw [t2]; exact dk _ _ p2⟩
        · intro v hv
          rcases List.mem_append.mp hv with hv | hv
          · exact k4 v hv
          · exact ⟨dh, List.mem_singleton.mp hv, Same.free sm ndh⟩
    · obtain ⟨x4, x5, x6, x7, ws, d, rfl, sm, fd, k1, k2, k3, k4⟩ := h
      rw [hc.len, List.take_length] at k3
      walk_at "rd"
      exact q G fa ws sm nfa k2 k3 k4
end
end K14
set_option Elab.async false
set_option linter.all false
set_option maxRecDepth 100000
set_option maxHeartbeats 4000000
namespace K14
open PySem PySem.Spec PyProof.Rows L2 WK
local macro_rules | `(tactic| walk_at "rd") => `(tactic| repeat (first | refine Exists.intro _ (And.intro rfl ?_) | refine Exists.intro _ (Exists.intro _ (And.intro rfl (And.intro rfl ?_))) | refine Exists.intro _ (Exists.intro _ (And.intro rfl ?_))))
abbrev sWt : Stmt := topS 28
abbrev sLw : Stmt := topS 29
abbrev sHg : Stmt := topS 30
theorem scWt : FnScope ["here", "low", "high", "x"] ["here"] (defScope sWt) := ⟨rfl, rfl, rfl, by decide +kernel, rfl, by decide +kernel, by decide +kernel⟩
theorem scLw : FnScope ["here", "x"] ["here"] (defScope sLw) := ⟨rfl, rfl, rfl, by decide +kernel, rfl, by decide +kernel, by decide +kernel⟩
theorem scHg : FnScope ["here", "b", "x"] ["here", "b"] (defScope sHg) := ⟨rfl, rfl, rfl, by decide +kernel, rfl, by decide +kernel, by decide +kernel⟩
section
variable {P : Program} {w : World} {K : PySem.W.Frag} {mg : Str → Option Value} {base : Heap}
theorem ok_told {f : Addr} {fd : FuncData} (F : Fun K "_law_work_told" "_law_work_told" sWt f fd) (B : Blt mg) : FnOk P w K mg base CX0 1 f fd ["here"] (spTold K) := by
  refine F.ok scWt (fun vs H Q E h => ?_) (fun cdv A outer s H vs Q E hr h => ?_)
  · obtain ⟨d, s, rfl, _⟩ := h
    rfl
  · obtain ⟨d, s, rfl, hd, hs, s0, s1, q⟩ := h
    have hu := hu_of hr
    have hl := hs.len
    have hw := hs.wide
    refine ⟨_, (pss_cons (ps_par (i := 1) (j := 2) rfl scWt.nd rfl rfl (by decide) rfl rfl (pa_cons (pe_callB (r := rMin K) (cr_min rfl) (by rfl) B.min (by decide +kernel) (pa_cons (pe_callTy (call_list_dK rfl) (by rfl) B.list (by decide +kernel) (pa_cons (pv 0) pa_nil)) pa_nil)) (pa_cons (pe_callB (r := rMax K) (cr_max rfl) (by rfl) B.max (by decide +kernel) (pa_cons (pe_callTy (call_list_dK rfl) (by rfl) B.list (by decide +kernel) (pa_cons (pv 0) pa_nil)) pa_nil)) pa_nil)) (by rfl))
      (pss_one (ps_ret (pe_tup (pa_cons (pv 1) (pa_cons (pv 2) (pa_cons (pe_dget hu (pv 0) (pv 1) (fun _ _ => rfl)) (pa_cons (pe_callTy call_tuple_of (by rfl) B.tuple (by decide +kernel) (pa_cons (pe_lc (own := [("x", 3)]) (g := gName 3) rfl scWt.nd (pi_range2 rfl B.range (pa_cons (pv 1) (pa_cons (pv 2) pa_nil))) (blkOk_by (own := [("x", 3)]) (N := ["here", "low", "high", "x"]) (sc := defScope sWt) (by decide +kernel)) (fun _ _ _ _ _ => (pg_name (i := 3) scWt.nd rfl (.inl rfl))) (fun _ _ _ _ _ => pts_nil) (fun _ _ _ _ _ => (pe_op op_sub (pe_dget hu (pv 0) (pe_op op_add (pv 3) pe_int) (fun _ _ => rfl)) (pe_dget hu (pv 0) (pv 3) (fun _ _ => rfl))))) pa_nil)) pa_nil)))))))), ?_⟩
    walk_at "rd"
    refine ⟨d, _, rfl, hd, fun l1 n1 => ?_⟩
    generalize eH : upd _ _ _ = H1
    obtain ⟨g1, e1⟩ := new_of eH n1
    rw [costK_keys] at e1
    have hd1 := g1 _ _ hd
    refine ⟨_, _, rfl, .inl (.inl e1), by unfold numsL; rw [mapr_len]; omega, fun m hm1 hm2 => ?_⟩
    have em := nums_least hs hm1 hm2
    subst em
    walk_at "rd"
    refine ⟨d, _, rfl, hd1, fun l2 n2 => ?_⟩
    generalize eH : upd _ _ _ = H2
    obtain ⟨g2, e2⟩ := new_of eH n2
    rw [costK_keys] at e2
    have hd2 := g2 _ _ hd1
    refine ⟨_, _, rfl, .inl (.inl e2), by unfold numsL; rw [mapr_len]; omega, fun m hm1 hm2 => ?_⟩
    have em := nums_most hs hm1 hm2
    subst em
    walk_at "rd"
    refine ⟨d, _, rfl, .inl ⟨_, .inl (s.need + (0 : Nat)), .inl hd2, by show V.int s.need = V.int _; congr 1; omega, (costK_valN (by omega)).symm⟩, ?_⟩
    walk_at "rd"
    refine ⟨by omega, fun D nD => lc_range (lo := s.need) (n := (s.most - s.need).toNat) (fun n J => Same H2 J ∧ J D = some (.lst (((List.range n).map fun (k : Nat) => (s.first + (s.slopes.take (k + 1)).sum) - (s.first + (s.slopes.take k).sum)).map V.int))) ⟨same_new nD, upd_same⟩ (fun n J hn h => ?_) (fun J h => ?_)⟩
    · obtain ⟨v1, v2⟩ := h
      refine yesT rfl ?_
      walk_at "rd"
      have hd3 := v1 _ _ hd2
      refine ⟨d, _, rfl, .inl ⟨_, .inl (s.need + ((n + 1 : Nat) : Int)), .inl hd3, by show V.int (s.need + (n : Int) + 1) = V.int _; congr 1; omega, (costK_valN (by omega)).symm⟩, ?_⟩
      walk_at "rd"
      refine ⟨d, _, rfl, .inl ⟨_, .inl (s.need + (n : Int)), .inl hd3, rfl, (costK_valN (by omega)).symm⟩, ?_⟩
      walk_at "rd"
      refine ⟨_, v2, ?_, fun c o e => ?_, ?_⟩
      · rw [List.length_map, mapr_len]
        exact many_small (by omega)
      · rw [upd_ne (ne_of_none e nD)]
        exact v1 _ _ e
      · rw [upd_same, mapr_succ, List.map_append]
        rfl
    · obtain ⟨v1, v2⟩ := h
      rw [show (s.most - s.need).toNat = s.slopes.length by omega, diffs_are _ (Nat.le_refl _), List.take_length] at v2
      refine ⟨_, _, rfl, .inl ⟨.inl (.inl v2), fun p np => ?_⟩⟩
      generalize eH : upd _ _ _ = G1
      obtain ⟨m1, f1⟩ := new_of eH np
      walk_at "rd"
      refine ⟨by show 4 ≤ sizeLine; decide, fun t nt => ?_⟩
      generalize eH : upd _ _ _ = G2
      obtain ⟨m2, f2⟩ := new_of eH nt
      refine q G2 (.ref t) ((((g1.trans g2).trans v1).trans m1).trans m2) ⟨t, p, rfl, sq_of ?_, sq_of (m2 _ _ f1)⟩
      rw [f2]
      simp
theorem ok_llow {f : Addr} {fd : FuncData} (F : Fun K "_law_low" "_law_low" sLw f fd) (B : Blt mg) : FnOk P w K mg base CX0 1 f fd ["here"] spLLow := by
  refine F.ok scLw (fun vs H Q E h => ?_) (fun cdv A outer s H vs Q E hr h => ?_)
  · obtain ⟨d, s, rfl, _⟩ := h
    rfl
  · obtain ⟨d, s, rfl, hd, hs, q⟩ := h
    have hu := hu_of hr
    have hl := hs.len.len
    have hw := hs.len.wide
    refine ⟨_, (pss_one (ps_ret (pe_callB (r := rMin K) (cr_min rfl) (by rfl) B.min (by decide +kernel) (pa_cons (pe_lock (pe_lc (own := [("x", 1)]) (g := gName 1) rfl scLw.nd (pi_keys (pv 0)) (blkOk_by (own := [("x", 1)]) (N := ["here", "x"]) (sc := defScope sLw) (by decide +kernel)) (fun _ _ _ _ _ => (pg_name (i := 1) scLw.nd rfl (.inl rfl))) (fun _ _ _ _ _ => pts_one (pt_cmpR op_eq (pe_dget hu (pv 0) (pv 1) (fun _ _ => rfl)) (pe_callB (r := rMin K) (cr_min rfl) (by rfl) B.min (by decide +kernel) (pa_cons (pe_callTy (r := rListV) (cr_listV rfl) (by rfl) B.list (by decide +kernel) (pa_cons (pe_dvals0 (pv 0)) pa_nil)) pa_nil)) (nomark _))) (fun _ _ _ _ _ => (pv 1)))) pa_nil)))), ?_⟩
    walk_at "rd"
    refine ⟨d, _, hd, trivial, fun od => ?_⟩
    generalize eH : upd _ _ _ = G1
    have u1 : SameB d H G1 := by rw [← eH]; exact sameB_upd
    have u2 : G1 d = some (.frz od (.dK (costK s (s.slopes.length + 1)))) := by rw [← eH]; exact upd_same
    walk_at "rd"
    refine ⟨d, od, rfl, .inl ⟨_, u2, fun D nD => lc_it walk_keys (fun n J => SameB d H J ∧ J d = some (.frz od (.dK (costK s (s.slopes.length + 1)))) ∧ J D = some (.lst ((lowsL s n).map V.int))) ⟨fun c o nc e => ?_, ?_, upd_same⟩ (fun n J _ h => h.2.1) (fun n y J J2 hn2 h hy => ?_) (fun J h => ?_)⟩⟩
    · rw [upd_ne (ne_of_none (u1 _ _ nc e) nD)]
      exact u1 _ _ nc e
    · rw [upd_ne (ne_of_none u2 nD)]
      exact u2
    · obtain ⟨v1, v2, v3⟩ := h
      obtain ⟨rfl, k2, w2, hk2, rfl⟩ := hy
      obtain ⟨hn3, rfl, rfl⟩ := costK_get hk2
      refine ⟨rfl, ?_⟩
      walk_at "rd"
      refine ⟨d, _, rfl, .inl ⟨_, .inl (s.need + n), .inr ⟨od, v2⟩, rfl, (costK_valN hn3).symm⟩, ?_⟩
      walk_at "rd"
      refine ⟨d, _, rfl, rfl, .inr ⟨od, v2⟩, fun p np => ?_⟩
      generalize eH : upd _ _ _ = J3
      obtain ⟨m3, f3⟩ := new_of eH np
      refine ⟨p, d, _, rfl, f3, .inr ⟨od, m3 _ _ v2⟩, fun p2 np2 => ?_⟩
      generalize eH : upd _ _ _ = J4
      obtain ⟨m4, f4⟩ := new_of eH np2
      rw [costK_vals] at f4
      refine ⟨_, _, rfl, .inl (.inl f4), by unfold valsL; rw [mapr_len]; omega, fun m hm1 hm2 => ?_⟩
      have em := vals_least hs hm1 hm2
      subst em
      have m34 := m3.trans m4
      refine ⟨rfl, ?_⟩
      dsimp only
      by_cases cc : s.first + (s.slopes.take n).sum = leastW s
      · rw [show decide (V.int (s.first + (s.slopes.take n).sum) = V.int (leastW s)) = true from decide_eq_true (by rw [cc])]
        refine ⟨true, rfl, ?_⟩
        rw [if_pos rfl]
        walk_at "rd"
        refine ⟨_, m34 _ _ v3, ?_, fun c o nc e => ?_, ?_, ?_⟩
        · rw [List.length_map]
          exact many_small (by have := lows_len (s := s) (n := n); omega)
        · rw [upd_ne (ne_of_none (u1 _ _ nc e) nD)]
          exact m34 _ _ (v1 _ _ nc e)
        · rw [upd_ne (ne_of_none u2 nD)]
          exact m34 _ _ v2
        · rw [upd_same, lows_yes cc, List.map_append]
          rfl
      · rw [show decide (V.int (s.first + (s.slopes.take n).sum) = V.int (leastW s)) = false from decide_eq_false (fun z => cc (V.int.inj z))]
        refine ⟨false, rfl, ?_⟩
        rw [if_neg Bool.false_ne_true, lows_no cc]
        exact ⟨v1.same m34, m34 _ _ v2, m34 _ _ v3⟩
    · obtain ⟨v1, v2, v3⟩ := h
      rw [costK_len] at v3
      refine ⟨v2, ?_⟩
      generalize eH : upd _ _ _ = G4
      have p1 : Same H G4 := by rw [← eH]; exact v1.back hd
      have nDd : D ≠ d := fun z => by rw [z] at nD; rw [u2] at nD; cases nD
      have p2 : G4 D = some (.lst ((lowsL s (s.slopes.length + 1)).map V.int)) := by rw [← eH, upd_ne nDd]; exact v3
      refine ⟨_, _, rfl, .inl (.inl p2), List.length_pos_of_mem (lows_has hs), fun m hm1 hm2 => ?_⟩
      rw [lows_least hs hm1 hm2]
      exact q G4 p1
theorem ok_lhigh {f : Addr} {fd : FuncData} (F : Fun K "_law_high" "_law_high" sHg f fd) (B : Blt mg) : FnOk P w K mg base CX0 1 f fd ["here", "b"] spLHigh := by
  refine F.ok scHg (fun vs H Q E h => ?_) (fun cdv A outer s H vs Q E hr h => ?_)
  · obtain ⟨d, b, s, rfl, _⟩ := h
    rfl
  · obtain ⟨d, b, s, rfl, hd, hs, q⟩ := h
    have hu := hu_of hr
    have hl := hs.len.len
    have hw := hs.len.wide
    refine ⟨_, (pss_one (ps_ret (pe_callB (r := rMax K) (cr_max rfl) (by rfl) B.max (by decide +kernel) (pa_cons (pe_lock (pe_lc (own := [("x", 2)]) (g := gName 2) rfl scHg.nd (pi_keys (pv 0)) (blkOk_by (own := [("x", 2)]) (N := ["here", "b", "x"]) (sc := defScope sHg) (by decide +kernel)) (fun _ _ _ _ _ => (pg_name (i := 2) scHg.nd rfl (.inl rfl))) (fun _ _ _ _ _ => pts_one (PW.pt (pw_or (pt_cmp (pc_dnotin hu (pe_op op_sub (pv 2) pe_int) (pv 0))) (pw_or1 (pt_cmpR op_le (pe_op op_sub (pe_dget hu (pv 0) (pv 2) (fun _ _ => rfl)) (pe_dget hu (pv 0) (pe_op op_sub (pv 2) pe_int) (fun _ _ => rfl))) (pv 1) (nomark _)))))) (fun _ _ _ _ _ => (pv 2)))) pa_nil)))), ?_⟩
    walk_at "rd"
    refine ⟨d, _, hd, trivial, fun od => ?_⟩
    generalize eH : upd _ _ _ = G1
    have u1 : SameB d H G1 := by rw [← eH]; exact sameB_upd
    have u2 : G1 d = some (.frz od (.dK (costK s (s.slopes.length + 1)))) := by rw [← eH]; exact upd_same
    walk_at "rd"
    refine ⟨d, od, rfl, .inl ⟨_, u2, fun D nD => lc_it walk_keys (fun n J => SameB d H J ∧ J d = some (.frz od (.dK (costK s (s.slopes.length + 1)))) ∧ J D = some (.lst ((highsL s b n).map V.int))) ⟨fun c o nc e => ?_, ?_, upd_same⟩ (fun n J _ h => h.2.1) (fun n y J J2 hn2 h hy => ?_) (fun J h => ?_)⟩⟩
    · rw [upd_ne (ne_of_none (u1 _ _ nc e) nD)]
      exact u1 _ _ nc e
    · rw [upd_ne (ne_of_none u2 nD)]
      exact u2
    · obtain ⟨v1, v2, v3⟩ := h
      obtain ⟨rfl, k2, w2, hk2, rfl⟩ := hy
      obtain ⟨hn3, rfl, rfl⟩ := costK_get hk2
      refine ⟨rfl, ?_⟩
      walk_at "rd"
      have fin : ∀ J, SameB d H J → J d = some (.frz od (.dK (costK s (s.slopes.length + 1)))) → J D = some (.lst ((highsL s b n).map V.int)) → s.need + (n : Int) ≤ highW s b →
          ∃ acc, J D = some (HO.lst acc) ∧ acc.length < sizeLine ∧ SameB d H (upd J D (HO.lst (acc ++ [V.int (s.need + (n : Int))]))) ∧ upd J D (HO.lst (acc ++ [V.int (s.need + (n : Int))])) d = some (HO.frz od (HO.dK (costK s (s.slopes.length + 1)))) ∧
            upd J D (HO.lst (acc ++ [V.int (s.need + (n : Int))])) D = some (HO.lst (List.map V.int (highsL s b (n + 1)))) := by
        intro J v1 v2 v3 hh
        refine ⟨_, v3, ?_, fun c o nc e => ?_, ?_, ?_⟩
        · rw [List.length_map]
          exact many_small (by have := highs_len (s := s) (b := b) (n := n); omega)
        · rw [upd_ne (ne_of_none (u1 _ _ nc e) nD)]
          exact v1 _ _ nc e
        · rw [upd_ne (ne_of_none u2 nD)]
          exact v2
        · rw [upd_same, highs_yes hh, List.map_append]
          rfl
      cases n with
      | zero =>
        refine ⟨d, none, rfl, .inl ⟨_, .inl (s.need + ((0 : Nat) : Int) - 1), .inr ⟨od, v2⟩, rfl, ?_⟩, true, rfl, ?_⟩
        · rw [costK_val, if_neg (by omega)]
        refine ifT rfl ?_
        refine ifT rfl ?_
        walk_at "rd"
        refine fin _ v1 v2 v3 ?_
        have := (highW_in (b := b) hs).1
        omega
      | succ k =>
        refine ⟨d, some _, rfl, .inl ⟨_, .inl (s.need + (k : Int)), .inr ⟨od, v2⟩, by show V.int (s.need + ((k + 1 : Nat) : Int) - 1) = V.int _; congr 1; omega, (costK_valN (by omega)).symm⟩, false, rfl, ?_⟩
        refine ifF rfl ?_
        walk_at "rd"
        refine ⟨d, _, rfl, .inl ⟨_, .inl (s.need + ((k + 1 : Nat) : Int)), .inr ⟨od, v2⟩, rfl, (costK_valN hn3).symm⟩, ?_⟩
        walk_at "rd"
        refine ⟨d, _, rfl, .inl ⟨_, .inl (s.need + (k : Int)), .inr ⟨od, v2⟩, by show V.int (s.need + ((k + 1 : Nat) : Int) - 1) = V.int _; congr 1; omega, (costK_valN (by omega)).symm⟩, ?_⟩
        walk_at "rd"
        have st := high_step (b := b) hs hn3
        by_cases cc : s.need + ((k + 1 : Nat) : Int) ≤ highW s b
        · rw [decide_eq_true (st.mpr cc)]
          refine ifT rfl ?_
          walk_at "rd"
          exact fin _ v1 v2 v3 cc
        · rw [decide_eq_false (fun z => cc (st.mp z))]
          refine ifF rfl ?_
          rw [highs_no cc]
          exact ⟨v1, v2, v3⟩
    · obtain ⟨v1, v2, v3⟩ := h
      rw [costK_len] at v3
      refine ⟨v2, ?_⟩
      generalize eH : upd _ _ _ = G4
      have p1 : Same H G4 := by rw [← eH]; exact v1.back hd
      have nDd : D ≠ d := fun z => by rw [z] at nD; rw [u2] at nD; cases nD
      have p2 : G4 D = some (.lst ((highsL s b (s.slopes.length + 1)).map V.int)) := by rw [← eH, upd_ne nDd]; exact v3
      refine ⟨_, _, rfl, .inl (.inl p2), List.length_pos_of_mem (highs_has hs), fun m hm1 hm2 => ?_⟩
      rw [highs_most hs hm1 hm2]
      exact q G4 p1
end
end K14
set_option Elab.async false
set_option linter.all false
set_option maxRecDepth 100000
set_option maxHeartbeats 4000000
namespace K14
open PySem PySem.Spec PyProof.Rows L2 WK
local macro_rules | `(tactic| walk_at "rd") => `(tactic| repeat (first | refine Exists.intro _ (And.intro rfl ?_) | refine Exists.intro _ (Exists.intro _ (And.intro rfl (And.intro rfl ?_))) | refine Exists.intro _ (Exists.intro _ (And.intro rfl ?_))))
section
variable {P : Program} {w : World} {K : PySem.W.Frag} {mg : Str → Option Value} {base : Heap} {fCo fWo fWi fSu fLo fHi fLe fBo fHw fHs fHe fAf fWs fLc fLt fEn aNOTHING aE : Addr} {dCo dWo dWi dSu dLo dHi dLe dBo dHw dHs dHe dAf dWs dLc dLt dEn : FuncData}
theorem ok_ended (D : Wks K mg fCo fWo fWi fSu fLo fHi fLe fBo fHw fHs fHe fAf fWs fLc fLt fEn aNOTHING aE dCo dWo dWi dSu dLo dHi dLe dBo dHw dHs dHe dAf dWs dLc dLt dEn) (B : Blt mg) : FnOk P w K mg base CX0 2 fEn dEn ["slots", "x"] (spEnded K) := by
  have GCo : FnOk P w K mg base CX0 1 fCo dCo ["slot", "x"] (spCostK K) := ok_cost D B
  refine D.FEn.ok scEn (fun vs H Q E h => ?_) (fun cdv A outer s H vs Q E hr h => ?_)
  · obtain ⟨p, x, us, v, ss, s, rfl, _⟩ := h
    rfl
  · obtain ⟨p, x, us, v, ss, s, rfl, hp, hs, hv, hn, hf, q⟩ := h
    have hrCo := hr
    refine ⟨_, (pss_one (ps_ret (pe_op (r := rCatA K) op_catA (pe_slice (r := rSlA K) sl_tupA (pv 0) po_none (po_some (pe_un un_neg pe_int))) (pe_tup (pa_cons (pe_tup (pa_cons (pv 1) (pa_cons (pv 1) (pa_cons (pe_call GCo hrCo (by rfl) D.gCo D.FCo.kp D.bCo .nil pass0 (pa_cons (pe_ix (r := rIxT K) ix_tup (pv 0) (pe_un un_neg pe_int) (fun _ _ => rfl)) (pa_cons (pv 1) pa_nil))) (pa_cons (pe_tup pa_nil) pa_nil))))) pa_nil))))), ?_⟩
    walk_at "rd"
    refine slB hp fun p1 G1 g1 e1 => ?_
    rw [cut_init] at e1
    walk_at "rd"
    refine ⟨p, _, _, _, rfl, rfl, sq_same g1 hp, atI_last _ _, ?_⟩
    walk_at "rd"
    refine ⟨v, x, s, rfl, hv.same g1, fun G2 g2 => ?_⟩
    have ec : costV s x = .int (costAt s x) := by
      unfold costV
      rw [if_pos hf]
    rw [ec]
    walk_at "rd"
    refine ⟨by show 0 ≤ sizeLine; decide, fun t1 n1 => ?_⟩
    generalize eH : upd _ _ _ = G3
    obtain ⟨g3, e3⟩ := new_of eH n1
    walk_at "rd"
    refine ⟨by show 4 ≤ sizeLine; decide, fun t2 n2 => ?_⟩
    generalize eH : upd _ _ _ = G4
    obtain ⟨g4, e4⟩ := new_of eH n2
    walk_at "rd"
    refine ⟨by show 1 ≤ sizeLine; decide, fun t3 n3 => ?_⟩
    generalize eH : upd _ _ _ = G5
    obtain ⟨g5, e5⟩ := new_of eH n3
    have g25 := ((g2.trans g3).trans g4).trans g5
    walk_at "rd"
    refine catB (sq_same g25 e1) (sq_of e5) ?_ fun r G6 g6 e6 => ?_
    · have := hs.len
      show us.length + 1 ≤ sizeLine
      exact Nat.le_of_lt (many_small (by omega))
    refine q G6 r _ ((g1.trans g25).trans g6) e6 ((hs.same ((g1.trans g25).trans g6)).snoc ⟨t2, t1, rfl, sq_of (g6 _ _ (g5 _ _ e4)), sq_of (g6 _ _ (g5 _ _ (g4 _ _ e3)))⟩)
end
end K14
set_option Elab.async false
set_option linter.all false
set_option maxRecDepth 100000
set_option maxHeartbeats 4000000
namespace K14
open PySem PySem.Spec PyProof.Rows L2 WK
local macro_rules | `(tactic| walk_at "rd") => `(tactic| repeat (first | refine Exists.intro _ (And.intro rfl ?_) | refine Exists.intro _ (Exists.intro _ (And.intro rfl (And.intro rfl ?_))) | refine Exists.intro _ (Exists.intro _ (And.intro rfl ?_))))
abbrev sLaw : Stmt := topS 31
theorem scLaw : FnScope ["script", "source", "lap", "slots", "b", "late", "need", "most", "first", "slopes", "far", "goings", "work", "due", "least", "turn", "told", "t", "slot", "low", "high", "last", "x", "here"] ["script"] (defScope sLaw) := ⟨rfl, rfl, rfl, by decide +kernel, rfl, by decide +kernel, by decide +kernel⟩
structure Txt (K : PySem.W.Frag) (mg : Str → Option Value) (fP fO fS fSl fG fSC fGo fWt fLw fHg : Addr) (dP dO dS dSl dG dSC dGo dWt dLw dHg : FuncData) : Prop where
  toDrw : Drw K mg fP fO dP dO
  FS : Fun K "_law_source" "_law_source" sSource fS dS
  bS : Binds K dS ["script"] []
  gS : mg "_law_source" = some (.ref fS)
  FSl : Fun K "_law_draw_slots" "_law_draw_slots" sSlots fSl dSl
  bSl : Binds K dSl ["source", "ticks", "most"] []
  gSl : mg "_law_draw_slots" = some (.ref fSl)
  FG : Fun K "_law_great_slots" "_law_great_slots" sGreat fG dG
  bG : Binds K dG ["source", "ticks", "most"] []
  gG : mg "_law_great_slots" = some (.ref fG)
  FSC : Fun K "_law_slot_costs" "_law_slot_costs" sSC fSC dSC
  bSC : Binds K dSC ["slots"] []
  gSC : mg "_law_slot_costs" = some (.ref fSC)
  FGo : Fun K "_law_going" "_law_going" sGo fGo dGo
  bGo : Binds K dGo ["costs", "b"] []
  gGo : mg "_law_going" = some (.ref fGo)
  FWt : Fun K "_law_work_told" "_law_work_told" sWt fWt dWt
  bWt : Binds K dWt ["here"] []
  gWt : mg "_law_work_told" = some (.ref fWt)
  FLw : Fun K "_law_low" "_law_low" sLw fLw dLw
  bLw : Binds K dLw ["here"] []
  gLw : mg "_law_low" = some (.ref fLw)
  FHg : Fun K "_law_high" "_law_high" sHg fHg dHg
  bHg : Binds K dHg ["here", "b"] []
  gHg : mg "_law_high" = some (.ref fHg)
def spLaw (K : PySem.W.Frag) : Sp := fun vs H Q _ => ∃ (a : Addr) (ns : List Int), vs = [.ref a] ∧ SqL K H a (ns.map V.int) ∧ ns.length ≤ 63 ∧ ∀ H', Q (.bl true) H'
section
variable {P : Program} {w : World} {K : PySem.W.Frag} {mg : Str → Option Value} {base : Heap} {fP fO fS fSl fG fSC fGo fWt fLw fHg : Addr} {dP dO dS dSl dG dSC dGo dWt dLw dHg : FuncData} {fCo fWo fWi fSu fLo fHi fLe fBo fHw fHs fHe fAf fWs fLc fLt fEn aNOTHING aE : Addr} {dCo dWo dWi dSu dLo dHi dLe dBo dHw dHs dHe dAf dWs dLc dLt dEn : FuncData}
theorem ok_law {f : Addr} {fd : FuncData} (F : Fun K "law" "law" sLaw f fd) (D : Txt K mg fP fO fS fSl fG fSC fGo fWt fLw fHg dP dO dS dSl dG dSC dGo dWt dLw dHg) (W : Wks K mg fCo fWo fWi fSu fLo fHi fLe fBo fHw fHs fHe fAf fWs fLc fLt fEn aNOTHING aE dCo dWo dWi dSu dLo dHi dLe dBo dHw dHs dHe dAf dWs dLc dLt dEn) (B : Blt mg) : FnG P w K mg base 10 f fd ["script"] (spLaw K) := by
  have GS : FnOk P w K mg base CX0 1 fS dS ["script"] (spSource K) := ok_source D.FS B
  have GP : FnOk P w K mg base CX0 1 fP dP ["source", "many"] spPick := ok_pick D.toDrw.FP B
  have GO : FnOk P w K mg base CX0 2 fO dO ["source", "some"] (spOf K) := ok_of D.toDrw.FO D.toDrw B
  have GSl : FnOk P w K mg base CX0 3 fSl dSl ["source", "ticks", "most"] spSlots := ok_slots D.FSl D.toDrw B
  have GG : FnOk P w K mg base CX0 4 fG dG ["source", "ticks", "most"] spGreat := ok_great D.FG ⟨D.toDrw, D.FSl, D.bSl, D.gSl⟩ B
  have GSC : FnOk P w K mg base CX0 1 fSC dSC ["slots"] spSlotCosts := ok_slotcosts D.FSC B
  have GGo : FnOk P w K mg base CX0 1 fGo dGo ["costs", "b"] spGoing := ok_going D.FGo B
  have GWt : FnOk P w K mg base CX0 1 fWt dWt ["here"] (spTold K) := ok_told D.FWt B
  have GLw : FnOk P w K mg base CX0 1 fLw dLw ["here"] spLLow := ok_llow D.FLw B
  have GHg : FnOk P w K mg base CX0 1 fHg dHg ["here", "b"] spLHigh := ok_lhigh D.FHg B
  have GLt : FnOk P w K mg base CX0 9 fLt dLt ["slots", "b"] (spLeastC K) := ok_leastc W B
  have GLc : FnOk P w K mg base CX0 8 fLc dLc ["slots", "b"] (spLeastsN K) := ok_leasts W B
  have GWs : FnOk P w K mg base CX0 7 fWs dWs ["slots", "b"] (spWorksN K) := ok_works W B
  have GAf : FnOk P w K mg base CX0 6 fAf dAf ["work", "slot", "b"] (spAfter K) := ok_after W B
  have GEn : FnOk P w K mg base CX0 2 fEn dEn ["slots", "x"] (spEnded K) := ok_ended W B
  have GLo : FnOk P w K mg base CX0 1 fLo dLo ["work"] (spLow K) := ok_low W B
  have GHi : FnOk P w K mg base CX0 1 fHi dHi ["work", "b"] (spHigh K) := ok_high W B
  refine okG F scLaw (fun cdv A outer s H vs Q hr hg h => ?_)
  obtain ⟨a, ns, rfl, hS, hlen, q⟩ := h
  have hu64 := hr.units
  have hu := hu_of hr
  have hrLt := hr
  have hrLc := hr.mono (show 8 ≤ 9 by decide)
  have hrWs := hr.mono (show 7 ≤ 9 by decide)
  have hrAf := hr.mono (show 6 ≤ 9 by decide)
  have hrG := hr.mono (show 4 ≤ 9 by decide)
  have hrSl := hr.mono (show 3 ≤ 9 by decide)
  have hrO := hr.mono (show 2 ≤ 9 by decide)
  have hrEn := hrO
  have hrP := hr.mono (show 1 ≤ 9 by decide)
  have hrS := hrP
  have hrSC := hrP
  have hrGo := hrP
  have hrWt := hrP
  have hrLw := hrP
  have hrHg := hrP
  have hrLo := hrP
  have hrHi := hrP
  refine ⟨_, (pss_cons (ps_set (i := 1) scLaw.nd rfl (.inl rfl) (pe_call GS hrS (by rfl) D.gS D.FS.kp D.bS .nil pass0 (pa_cons (pv 0) pa_nil)))
      (pss_cons (ps_for PassesOwn.never rfl (pi_range1 rfl B.range (pa_cons pe_int pa_nil)) (pg_name (i := 2) scLaw.nd rfl (.inl rfl))
        (pss_cons (ps_set (i := 3) scLaw.nd rfl (.inl rfl) (pe_call GG hrG (by rfl) D.gG D.FG.kp D.bG .nil pass0 (pa_cons (pv 1) (pa_cons (pe_call GP hrP (by rfl) D.toDrw.gP D.toDrw.FP.kp D.toDrw.bP .nil pass0 (pa_cons (pv 1) (pa_cons (pe_ix (r := rIxL K) ix_list (pe_lst (pa_cons pe_int (pa_cons pe_int (pa_cons pe_int (pa_cons pe_int (pa_cons pe_int pa_nil)))))) (pv 2) (fun _ _ => rfl)) pa_nil))) (pa_cons (pe_ix (r := rIxL K) ix_list (pe_lst (pa_cons pe_int (pa_cons pe_int (pa_cons pe_int (pa_cons pe_int (pa_cons pe_int pa_nil)))))) (pv 2) (fun _ _ => rfl)) pa_nil)))))
        (pss_cons (ps_set (i := 4) scLaw.nd rfl (.inl rfl) (pe_op op_add pe_int (pe_op op_mul (pe_call GP hrP (by rfl) D.toDrw.gP D.toDrw.FP.kp D.toDrw.bP .nil pass0 (pa_cons (pv 1) (pa_cons pe_int pa_nil))) (pe_call GO hrO (by rfl) D.toDrw.gO D.toDrw.FO.kp D.toDrw.bO .nil pass0 (pa_cons (pv 1) (pa_cons (pe_lst (pa_cons pe_int (pa_cons pe_int (pa_cons (pe_op op_pow pe_int pe_int) (pa_cons (pe_op op_pow pe_int pe_int) pa_nil))))) pa_nil))))))
        (pss_cons (ps_if (pt_cmpR op_eq (pv 2) pe_int (nomark _))
          (pss_cons (ps_par (i := 4) (j := 5) rfl scLaw.nd rfl rfl (by decide) rfl rfl (pa_cons (pe_callB (call_min2 rfl) (by rfl) B.min boot_min (pa_cons (pv 4) (pa_cons (pe_op op_pow pe_int pe_int) pa_nil))) (pa_cons (pe_lst pa_nil) pa_nil)) (by rfl))
          (pss_cons (ps_for PassesOwn.never rfl (pi_tup (pe_call GSl hrSl (by rfl) D.gSl D.FSl.kp D.bSl .nil pass0 (pa_cons (pv 1) (pa_cons (pe_op op_add pe_int (pe_call GP hrP (by rfl) D.toDrw.gP D.toDrw.FP.kp D.toDrw.bP .nil pass0 (pa_cons (pv 1) (pa_cons pe_int pa_nil)))) (pa_cons pe_int pa_nil))))) (pg_tup rfl (pgs_cons (pg_name (i := 6) scLaw.nd rfl (.inl rfl)) (pgs_cons (pg_name (i := 7) scLaw.nd rfl (.inl rfl)) (pgs_cons (pg_name (i := 8) scLaw.nd rfl (.inl rfl)) (pgs_cons (pg_name (i := 9) scLaw.nd rfl (.inl rfl)) pgs_nil)))))
            (pss_cons (ps_set (i := 10) scLaw.nd rfl (.inl rfl) (pe_call GO hrO (by rfl) D.toDrw.gO D.toDrw.FO.kp D.toDrw.bO .nil pass0 (pa_cons (pv 1) (pa_cons (pe_lst (pa_cons pe_int (pa_cons pe_int (pa_cons (pe_op op_sub (pe_op op_pow pe_int pe_int) pe_int) pa_nil)))) pa_nil))))
            (pss_one (ps_expr (pe_bm PySem.F.plainAttrs_list PySem.F.slot_list_append PySem.F.type_list_append mt_append (pv 5) (pa_cons (pe_tup (pa_cons (pe_op op_add (pv 6) (pv 10)) (pa_cons (pe_op op_add (pv 7) (pv 10)) (pa_cons (pv 8) (pa_cons (pv 9) pa_nil))))) pa_nil))))))
          (pss_one (ps_set (i := 3) scLaw.nd rfl (.inl rfl) (pe_callTy call_tuple_of (by rfl) B.tuple (by decide +kernel) (pa_cons (pv 5) pa_nil))))))
          pss_nil)
        (pss_cons (ps_par (i := 11) (j := 12) rfl scLaw.nd rfl rfl (by decide) rfl rfl (pa_cons (pe_call GGo hrGo (by rfl) D.gGo D.FGo.kp D.bGo .nil pass0 (pa_cons (pe_call GSC hrSC (by rfl) D.gSC D.FSC.kp D.bSC .nil pass0 (pa_cons (pv 3) pa_nil)) (pa_cons (pv 4) pa_nil))) (pa_cons (pe_glob (v := .ref aNOTHING) (by rfl) W.gNOTHING rfl) pa_nil)) (by rfl))
        (pss_cons (ps_setLc (i := 13) (own := [("here", 23)]) (g := gName 23) rfl scLaw.nd rfl rfl (sw_true rfl rfl rfl (by decide +kernel)) (pi_list (pv 11)) (blkOk_by (own := [("here", 23)]) (N := ["script", "source", "lap", "slots", "b", "late", "need", "most", "first", "slopes", "far", "goings", "work", "due", "least", "turn", "told", "t", "slot", "low", "high", "last", "x", "here"]) (sc := defScope sLaw) (by decide +kernel)) (fun _ _ _ _ _ => (pg_name (i := 23) scLaw.nd rfl (.inl rfl))) (fun _ _ _ _ _ => pts_nil) (fun _ _ _ _ _ => (pe_call GWt hrWt (by rfl) D.gWt D.FWt.kp D.bWt .nil pass0 (pa_cons (pv 23) pa_nil))))
        (pss_cons (ps_setLc (i := 14) (own := [("here", 23)]) (g := gName 23) rfl scLaw.nd rfl rfl (sw_true rfl rfl rfl (by decide +kernel)) (pi_list (pv 11)) (blkOk_by (own := [("here", 23)]) (N := ["script", "source", "lap", "slots", "b", "late", "need", "most", "first", "slopes", "far", "goings", "work", "due", "least", "turn", "told", "t", "slot", "low", "high", "last", "x", "here"]) (sc := defScope sLaw) (by decide +kernel)) (fun _ _ _ _ _ => (pg_name (i := 23) scLaw.nd rfl (.inl rfl))) (fun _ _ _ _ _ => pts_nil) (fun _ _ _ _ _ => (pe_callB (r := rMin K) (cr_min rfl) (by rfl) B.min (by decide +kernel) (pa_cons (pe_callTy (r := rListV) (cr_listV rfl) (by rfl) B.list (by decide +kernel) (pa_cons (pe_dvals0 (pv 23)) pa_nil)) pa_nil))))
        (pss_cons (ps_for PassesOwn.never rfl (pi_range1 rfl B.range (pa_cons pe_int pa_nil)) (pg_name (i := 15) scLaw.nd rfl (.inl rfl))
          (pss_cons (ps_set (i := 16) scLaw.nd rfl (.inl rfl) (pe_lst (pa_cons (pe_call GWs hrWs (by rfl) W.gWs W.FWs.kp W.bWs .nil pass0 (pa_cons (pv 3) (pa_cons (pv 4) pa_nil))) (pa_cons (pe_call GLc hrLc (by rfl) W.gLc W.FLc.kp W.bLc .nil pass0 (pa_cons (pv 3) (pa_cons (pv 4) pa_nil))) pa_nil))))
          (pss_cons (ps_if (pt_cmpR op_ne (pe_callB (call_reprD hg hu64) (by rfl) B.repr (by decide +kernel) (pa_cons (pv 16) pa_nil)) (pe_callB (call_reprD hg hu64) (by rfl) B.repr (by decide +kernel) (pa_cons (pe_lst (pa_cons (pv 13) (pa_cons (pv 14) pa_nil))) pa_nil)) (nomark _))
            (pss_one (ps_ret pe_bl))
            pss_nil)
          (pss_cons (ps_expr (pe_bm PySem.F.plainAttrs_list PySem.F.slot_list_append PySem.F.type_list_append mt_append (pe_ix (r := rIxL K) ix_list (pv 16) pe_int (fun _ _ => rfl)) (pa_cons pe_non pa_nil)))
          (pss_one (ps_expr (pe_bm PySem.F.plainAttrs_list PySem.F.slot_list_append PySem.F.type_list_append mt_append (pe_ix (r := rIxL K) ix_list (pv 16) pe_int (fun _ _ => rfl)) (pa_cons pe_non pa_nil))))))))
        (pss_cons (ps_for PassesOwn.never rfl (pi_enumT (by rfl) B.enumerate (pa_cons (pv 3) pa_nil)) (pg_tup rfl (pgs_cons (pg_name (i := 17) scLaw.nd rfl (.inl rfl)) (pgs_cons (pg_name (i := 18) scLaw.nd rfl (.inl rfl)) pgs_nil)))
          (pss_cons (ps_set (i := 12) scLaw.nd rfl (.inl rfl) (pe_call GAf hrAf (by rfl) W.gAf W.FAf.kp W.bAf .nil pass0 (pa_cons (pv 12) (pa_cons (pv 18) (pa_cons (pv 4) pa_nil)))))
          (pss_cons (ps_par (i := 19) (j := 20) rfl scLaw.nd rfl rfl (by decide) rfl rfl (pa_cons (pe_call GLo hrLo (by rfl) W.gLo W.FLo.kp W.bLo .nil pass0 (pa_cons (pv 12) pa_nil)) (pa_cons (pe_call GHi hrHi (by rfl) W.gHi W.FHi.kp W.bHi .nil pass0 (pa_cons (pv 12) (pa_cons (pv 4) pa_nil))) pa_nil)) (by rfl))
          (pss_one (ps_if (PW.pt (pw_or (pt_cmpR op_ne (pe_callB (call_reprD hg hu64) (by rfl) B.repr (by decide +kernel) (pa_cons (pe_lst (pa_cons (pv 12) (pa_cons (pv 19) (pa_cons (pv 20) pa_nil)))) pa_nil)) (pe_callB (call_reprD hg hu64) (by rfl) B.repr (by decide +kernel) (pa_cons (pe_lst (pa_cons (pe_ix (r := rIxL K) ix_list (pv 13) (pv 17) (fun _ _ => rfl)) (pa_cons (pe_call GLw hrLw (by rfl) D.gLw D.FLw.kp D.bLw .nil pass0 (pa_cons (pe_ix (r := rIxL K) ix_list (pv 11) (pv 17) (fun _ _ => rfl)) pa_nil)) (pa_cons (pe_call GHg hrHg (by rfl) D.gHg D.FHg.kp D.bHg .nil pass0 (pa_cons (pe_ix (r := rIxL K) ix_list (pv 11) (pv 17) (fun _ _ => rfl)) (pa_cons (pv 4) pa_nil))) pa_nil)))) pa_nil)) (nomark _)) (pw_or1 (pt_cmpR op_gt (pv 19) (pv 20) (nomark _)))))
            (pss_one (ps_ret pe_bl))
            pss_nil)))))
        (pss_cons (ps_if (pt_cmpR op_ne (pe_callB SkE.call_repr_int (by rfl) B.repr (by decide +kernel) (pa_cons (pe_call GLt hrLt (by rfl) W.gLt W.FLt.kp W.bLt .nil pass0 (pa_cons (pv 3) (pa_cons (pv 4) pa_nil))) pa_nil)) (pe_callB SkE.call_repr_int (by rfl) B.repr (by decide +kernel) (pa_cons (pe_ix (r := rIxL K) ix_list (pe_op op_cat (pe_lst (pa_cons pe_int pa_nil)) (pv 14)) (pe_un un_neg pe_int) (fun _ _ => rfl)) pa_nil)) (nomark _))
          (pss_one (ps_ret pe_bl))
          pss_nil)
        (pss_cons (ps_set (i := 21) scLaw.nd rfl (.inl rfl) (pe_ifExp (pt_cmpR (r := rNeNil K) (op_neNil hu64) (pv 11) (pe_lst pa_nil) (nomark _)) (pe_callTy (call_list_dK rfl) (by rfl) B.list (by decide +kernel) (pa_cons (pe_ix (r := rIxL K) ix_list (pv 11) (pe_un un_neg pe_int) (fun _ _ => rfl)) pa_nil)) (pe_lst pa_nil)))
        (pss_one (ps_for PassesOwn.never rfl (pi_list (pe_op op_cat (pe_slice (r := rSlL K) sl_list (pv 21) po_none (po_some pe_int)) (pe_ifExp (pt_cmpR (r := rNeNil K) (op_neNil hu64) (pv 21) (pe_lst pa_nil) (nomark _)) (pe_lst (pa_cons (pe_call GO hrO (by rfl) D.toDrw.gO D.toDrw.FO.kp D.toDrw.bO .nil pass0 (pa_cons (pv 1) (pa_cons (pv 21) pa_nil))) pa_nil)) (pe_lst pa_nil)))) (pg_name (i := 22) scLaw.nd rfl (.inl rfl))
          (pss_one (ps_if (pt_cmpR op_ne (pe_callB SkE.call_repr_int (by rfl) B.repr (by decide +kernel) (pa_cons (pe_call GLt hrLt (by rfl) W.gLt W.FLt.kp W.bLt .nil pass0 (pa_cons (pe_call GEn hrEn (by rfl) W.gEn W.FEn.kp W.bEn .nil pass0 (pa_cons (pv 3) (pa_cons (pv 22) pa_nil))) (pa_cons (pv 4) pa_nil))) pa_nil)) (pe_callB SkE.call_repr_int (by rfl) B.repr (by decide +kernel) (pa_cons (pe_dget hu (pe_ix (r := rIxL K) ix_list (pv 11) (pe_un un_neg pe_int) (fun _ _ => rfl)) (pv 22) (fun _ _ => rfl)) pa_nil)) (nomark _))
            (pss_one (ps_ret pe_bl))
            pss_nil)))))))))))))))
      (pss_cons (ps_if (pt_cmpR op_ne (pe_callB (call_reprD hg hu64) (by rfl) B.repr (by decide +kernel) (pa_cons (pe_glob (v := .ref aNOTHING) (by rfl) W.gNOTHING rfl) pa_nil)) (pe_callB (call_reprD hg hu64) (by rfl) B.repr (by decide +kernel) (pa_cons (pe_tup (pa_cons pe_int (pa_cons pe_int (pa_cons pe_int (pa_cons (pe_tup pa_nil) pa_nil))))) pa_nil)) (nomark _))
        (pss_one (ps_ret pe_bl))
        pss_nil)
      (pss_cons (ps_set (i := 3) scLaw.nd rfl (.inl rfl) (pe_tup (pa_cons (pe_tup (pa_cons pe_int (pa_cons pe_int (pa_cons pe_int (pa_cons (pe_tup (pa_cons pe_int pa_nil)) pa_nil))))) (pa_cons (pe_tup (pa_cons pe_int (pa_cons pe_int (pa_cons pe_int (pa_cons (pe_tup (pa_cons pe_int (pa_cons pe_int pa_nil))) pa_nil))))) (pa_cons (pe_tup (pa_cons pe_int (pa_cons pe_int (pa_cons pe_int (pa_cons (pe_tup (pa_cons pe_int (pa_cons pe_int pa_nil))) pa_nil))))) (pa_cons (pe_tup (pa_cons pe_int (pa_cons pe_int (pa_cons pe_int (pa_cons (pe_tup (pa_cons pe_int pa_nil)) pa_nil))))) pa_nil))))))
      (pss_cons (ps_set (i := 13) scLaw.nd rfl (.inl rfl) (pe_lst (pa_cons (pe_tup (pa_cons pe_int (pa_cons pe_int (pa_cons pe_int (pa_cons (pe_tup (pa_cons pe_int pa_nil)) pa_nil))))) (pa_cons (pe_tup (pa_cons pe_int (pa_cons pe_int (pa_cons pe_int (pa_cons (pe_tup (pa_cons pe_int (pa_cons pe_int pa_nil))) pa_nil))))) (pa_cons (pe_tup (pa_cons pe_int (pa_cons pe_int (pa_cons pe_int (pa_cons (pe_tup (pa_cons pe_int (pa_cons pe_int pa_nil))) pa_nil))))) (pa_cons (pe_tup (pa_cons pe_int (pa_cons pe_int (pa_cons pe_int (pa_cons (pe_tup (pa_cons pe_int pa_nil)) pa_nil))))) pa_nil))))))
      (pss_cons (ps_set (i := 16) scLaw.nd rfl (.inl rfl) (pe_call GWs hrWs (by rfl) W.gWs W.FWs.kp W.bWs .nil pass0 (pa_cons (pv 3) (pa_cons pe_int pa_nil))))
      (pss_cons (ps_if (PW.pt (pw_or (pt_cmpR op_ne (pe_callB (call_reprD hg hu64) (by rfl) B.repr (by decide +kernel) (pa_cons (pv 16) pa_nil)) (pe_callB (call_reprD hg hu64) (by rfl) B.repr (by decide +kernel) (pa_cons (pv 13) pa_nil)) (nomark _)) (pw_or1 (pt_cmpR op_ne (pe_callB (call_reprD hg hu64) (by rfl) B.repr (by decide +kernel) (pa_cons (pe_lc (own := [("work", 12)]) (g := gName 12) rfl scLaw.nd (pi_list (pv 16)) (blkOk_by (own := [("work", 12)]) (N := ["script", "source", "lap", "slots", "b", "late", "need", "most", "first", "slopes", "far", "goings", "work", "due", "least", "turn", "told", "t", "slot", "low", "high", "last", "x", "here"]) (sc := defScope sLaw) (by decide +kernel)) (fun _ _ _ _ _ => (pg_name (i := 12) scLaw.nd rfl (.inl rfl))) (fun _ _ _ _ _ => pts_nil) (fun _ _ _ _ _ => (pe_call GHi hrHi (by rfl) W.gHi W.FHi.kp W.bHi .nil pass0 (pa_cons (pv 12) (pa_cons pe_int pa_nil))))) pa_nil)) (pe_callB (call_reprD hg hu64) (by rfl) B.repr (by decide +kernel) (pa_cons (pe_lst (pa_cons pe_int (pa_cons pe_int (pa_cons pe_int (pa_cons pe_int pa_nil))))) pa_nil)) (nomark _)))))
        (pss_one (ps_ret pe_bl))
        pss_nil)
      (pss_cons (ps_set (i := 16) scLaw.nd rfl (.inl rfl) (pe_lst (pa_cons (pe_call GLc hrLc (by rfl) W.gLc W.FLc.kp W.bLc .nil pass0 (pa_cons (pv 3) (pa_cons pe_int pa_nil))) (pa_cons (pe_lc (own := [("work", 12)]) (g := gName 12) rfl scLaw.nd (pi_list (pv 16)) (blkOk_by (own := [("work", 12)]) (N := ["script", "source", "lap", "slots", "b", "late", "need", "most", "first", "slopes", "far", "goings", "work", "due", "least", "turn", "told", "t", "slot", "low", "high", "last", "x", "here"]) (sc := defScope sLaw) (by decide +kernel)) (fun _ _ _ _ _ => (pg_name (i := 12) scLaw.nd rfl (.inl rfl))) (fun _ _ _ _ _ => pts_nil) (fun _ _ _ _ _ => (pe_call GLo hrLo (by rfl) W.gLo W.FLo.kp W.bLo .nil pass0 (pa_cons (pv 12) pa_nil)))) (pa_cons (pe_call GLt hrLt (by rfl) W.gLt W.FLt.kp W.bLt .nil pass0 (pa_cons (pe_tup pa_nil) (pa_cons pe_int pa_nil))) pa_nil)))))
      (pss_one (ps_ret (pe_cmpR op_eq (pe_callB (call_reprD hg hu64) (by rfl) B.repr (by decide +kernel) (pa_cons (pv 16) pa_nil)) (pe_callB (call_reprD hg hu64) (by rfl) B.repr (by decide +kernel) (pa_cons (pe_lst (pa_cons (pe_lst (pa_cons pe_int (pa_cons pe_int (pa_cons pe_int (pa_cons pe_int pa_nil))))) (pa_cons (pe_lst (pa_cons pe_int (pa_cons pe_int (pa_cons pe_int (pa_cons pe_int pa_nil))))) (pa_cons pe_int pa_nil)))) pa_nil)) (nomark _)))))))))))), ?_⟩
  walk_at "rd"
  refine ⟨_, _, rfl, hS, hlen, fun H1 p c S1 s1 np nc => ?_⟩
  walk_at "rd"
  refine ⟨by decide, by decide, for_range (lo := 0) (n := 5) (fun i σ G => ∃ x2 x3 x4 x5 x6 x7 x8 x9 x10 x11 x12 x13 x14 x15 x16 x17 x18 x19 x20 x21 x22 x23, σ = [some (.ref a), some (.ref p), x2, x3, x4, x5, x6, x7, x8, x9, x10, x11, x12, x13, x14, x15, x16, x17, x18, x19, x20, x21, x22, x23] ∧ Src G p c) ⟨none, none, none, none, none, none, none, none, none, none, none, none, none, none, none, none, none, none, none, none, none, none, rfl, S1⟩ (fun i σ G hi h => ?_) (fun σ G h => ?_)⟩
  · obtain ⟨x2, x3, x4, x5, x6, x7, x8, x9, x10, x11, x12, x13, x14, x15, x16, x17, x18, x19, x20, x21, x22, x23, rfl, S⟩ := h
    obtain ⟨tk, at1, tk0, tk1⟩ : ∃ v : Int, atI (([4, 8, 12, 16, 25] : List Int).map V.int) (0 + (i : Int)) = some (.int v) ∧ 4 ≤ v ∧ v ≤ 25 := by
      rcases (show i = 0 ∨ i = 1 ∨ i = 2 ∨ i = 3 ∨ i = 4 by omega) with rfl | rfl | rfl | rfl | rfl
      · exact ⟨4, rfl, by omega, by omega⟩
      · exact ⟨8, rfl, by omega, by omega⟩
      · exact ⟨12, rfl, by omega, by omega⟩
      · exact ⟨16, rfl, by omega, by omega⟩
      · exact ⟨25, rfl, by omega, by omega⟩
    obtain ⟨ms, at2, ms0, ms1⟩ : ∃ v : Int, atI (([3, 6, 9, 12, 6] : List Int).map V.int) (0 + (i : Int)) = some (.int v) ∧ 3 ≤ v ∧ v ≤ 12 := by
      rcases (show i = 0 ∨ i = 1 ∨ i = 2 ∨ i = 3 ∨ i = 4 by omega) with rfl | rfl | rfl | rfl | rfl
      · exact ⟨3, rfl, by omega, by omega⟩
      · exact ⟨6, rfl, by omega, by omega⟩
      · exact ⟨9, rfl, by omega, by omega⟩
      · exact ⟨12, rfl, by omega, by omega⟩
      · exact ⟨6, rfl, by omega, by omega⟩
    walk_at "rd"
    refine ⟨by show 5 ≤ sizeLine; decide, fun l1 nl1 => ?_⟩
    generalize eH : upd _ _ _ = G1
    obtain ⟨g1, e1⟩ := new_of eH nl1
    refine ⟨_, rfl, _, _, _, _, rfl, rfl, .inl (.inl e1), at1, ?_⟩
    walk_at "rd"
    refine ⟨p, c, tk, rfl, S.same g1, by omega, fun G2 r1 S2 o2 r10 r11 => ?_⟩
    obtain ⟨rn, rfl⟩ := Int.eq_ofNat_of_zero_le r10
    walk_at "rd"
    refine ⟨by show 5 ≤ sizeLine; decide, fun l2 nl2 => ?_⟩
    generalize eH : upd _ _ _ = G3
    obtain ⟨g3, e3⟩ := new_of eH nl2
    refine ⟨_, rfl, _, _, _, _, rfl, rfl, .inl (.inl e3), at2, ?_⟩
    walk_at "rd"
    refine ⟨p, c, rn, ms, rfl, S2.same g3, by omega, by omega, by omega, fun G4 t ws ss S4 o4 e4 nt4 hs hl hok => ?_⟩
    walk_at "rd"
    refine ⟨p, c, 10, rfl, S4, by decide, fun G5 r2 S5 o5 r20 r21 => ?_⟩
    have e5 := o5.tup S4 e4
    have hs5 := hs.mono (Off.tups o5 S4)
    walk_at "rd"
    refine ⟨⟨by decide, by decide, by decide⟩, ?_⟩
    walk_at "rd"
    refine ⟨⟨by decide, by decide, by decide⟩, ?_⟩
    walk_at "rd"
    refine ⟨by show 4 ≤ sizeLine; decide, fun l3 nl3 => ?_⟩
    generalize eH : upd _ _ _ = G6
    obtain ⟨g6, e6⟩ := new_of eH nl3
    walk_at "rd"
    refine ⟨p, c, l3, _, rfl, S5.same g6, fun G' o => .inl (.inl (.inl (o _ _ (S5.ne_p nl3) (S5.ne_c nl3) e6))), by simp, by show 4 ≤ 100000; decide, fun G7 x hx S7 o7 => ?_⟩
    have e7 := o7.tup (S5.same g6) (g6 _ _ e5)
    have hs7 := (hs5.mono (Same.tups g6)).mono (Off.tups o7 (S5.same g6))
    obtain ⟨by1, rfl, t0, t1⟩ : ∃ z, x = .int z ∧ 1 ≤ z ∧ z ≤ 100000000 := by
      simp only [List.mem_cons, List.not_mem_nil, or_false] at hx
      rcases hx with rfl | rfl | rfl | rfl
      · exact ⟨_, rfl, by omega, by omega⟩
      · exact ⟨_, rfl, by omega, by omega⟩
      · exact ⟨(10 : Int) ^ (5 : Int).toNat, rfl, by decide, by decide⟩
      · exact ⟨(10 : Int) ^ (8 : Int).toNat, rfl, by decide, by decide⟩
    have bb : 0 ≤ r2 * by1 ∧ r2 * by1 ≤ 9 * 100000000 := ⟨Int.mul_nonneg r20 (by omega), Int.mul_le_mul (by omega) t1 (by omega) (by omega)⟩
    walk_at "rd"
    refine ⟨mulr ⟨by omega, by omega⟩, ?_⟩
    have b1 : 1 ≤ 1 + r2 * by1 := by omega
    have b2 : 1 + r2 * by1 ≤ 1000000000 := by omega
    have hl25 : ss.length ≤ 25 := by omega
    have hok : ∀ s ∈ ss, s.Ok 1000000 80000000000 1000000000000 ∧ s.most - s.need ≤ 12 := fun s hs => by
      obtain ⟨o, w⟩ := hok s hs
      exact ⟨⟨o.lo, o.mid, o.hi, o.len, o.steep, o.asc, o.pos, by have := o.fst; omega⟩, by omega⟩
    clear bb hx e6 g6 hs5 e5 o5 hs nt4 e4 o4 e3 g3 o2 e1 g1 o7 S5 S4 S2 at1 at2
    refine ⟨_, _, rfl, rfl, ?_⟩
    dsimp only [gName]
    refine seq_R (fun σ G => ∃ (t : Addr) (ws : List V) (ss : List Slt) (b : Int) (x5 x6 x7 x8 x9 x10 : Option V), σ = [some (.ref a), some (.ref p), some (.int (0 + (i : Int))), some (.ref t), some (.int b), x5, x6, x7, x8, x9, x10, x11, x12, x13, x14, x15, x16, x17, x18, x19, x20, x21, x22, x23] ∧
      Src G p c ∧ G t = some (.tup ws) ∧ SltsAt G ws ss ∧ ss.length ≤ 25 ∧ (∀ s ∈ ss, s.Ok 1000000 80000000000 1000000000000 ∧ s.most - s.need ≤ 12) ∧ 1 ≤ b ∧ b ≤ 1000000000) ?_ ?_
    · rintro σ G ⟨t, ws, ss, b, x5, x6, x7, x8, x9, x10, rfl, S, e, hs, hl, hok, b1, b2⟩
      have hfar : ∀ s ∈ ss, s.Far := fun s hs => drn_far (hok s hs)
      have hsm := works_small (b := b) (by omega) b2 hl hok
      have wlen : (worksW w0 b ss).length = ss.length := worksW_len
      have hlens : ∀ s ∈ ss, s.Len := fun s hs => (hfar s hs).wk.len
      walk_at "rd"
      refine ⟨t, ws, ss, rfl, e, hs, by omega, fun s hs => ?_, fun G1 co us s1 nco e1 hc hf => ?_⟩
      · have := (hlens s hs).len
        have := (hok s hs).2
        omega
      walk_at "rd"
      refine ⟨co, us, ss, b, rfl, e1, hc, hfar, by omega, by omega, fun G2 go gs s2 ngo e2 hg hgf => ?_⟩
      have S2 := (S.same s1).same s2
      have e3 := s2 _ _ (s1 _ _ e)
      have hs3 := (hs.mono (Same.tups s1)).mono (Same.tups s2)
      have gop := (S.same s1).ne_p ngo
      have goc := (S.same s1).ne_c ngo
      have hgd : ∀ v ∈ gs, ∃ d, v = .ref d ∧ d ≠ p ∧ d ≠ c := fun v hv => by
        obtain ⟨d, ed, nd⟩ := hgf v hv
        exact ⟨d, ed, (S.same s1).ne_p nd, (S.same s1).ne_c nd⟩
      clear e1 hc hf e hs S
      walk_at "rd"
      refine ⟨⟨_, .inl (.inl e2)⟩, fun D1 nD1 => lc_list (xs := gs) (fun j J => Same G2 J ∧ ∃ vs, J D1 = some (.lst vs) ∧ SltsK K J vs ((worksW w0 b ss).take j)) ⟨same_new nD1, [], upd_same, .nil⟩ (fun j J _ h => .inl (.inl (h.1 _ _ e2))) (fun j x J hx h => ?_) (fun J h => ?_)⟩
      · obtain ⟨sj, vs, k1, k2⟩ := h
        obtain ⟨wk, hwk, d, rfl, hd⟩ := hg.get hx
        have sm := hsm wk (List.mem_of_getElem? hwk)
        refine yesT rfl ?_
        walk_at "rd"
        refine ⟨d, wk, rfl, sj _ _ hd, sm.wk.len, sm.lo, sm.hi, fun J2 v s2 kv => ?_⟩
        have k3 := s2 _ _ k1
        refine ⟨_, k3, ?_, fun c o ec => ?_, _, upd_same, ?_⟩
        · rw [k2.len, List.length_take]
          exact many_small (by omega)
        · rw [upd_ne (ne_of_none ec nD1)]
          exact s2 _ _ (sj _ _ ec)
        · rw [take_snoc1 hwk]
          exact ((k2.same s2).upd k3).snoc (kv.upd k3)
      obtain ⟨sj, dus, k1, k2⟩ := h
      rw [hg.len, List.take_length] at k2
      have e4 := sj _ _ e2
      walk_at "rd"
      refine ⟨⟨_, .inl (.inl e4)⟩, fun D2 nD2 => lc_list (xs := gs) (fun j J2 => Same J J2 ∧ J2 D2 = some (.lst ((((worksW w0 b ss).take j).map leastW).map V.int))) ⟨same_new nD2, upd_same⟩ (fun j J2 _ h => .inl (.inl (h.1 _ _ e4))) (fun j x J2 hx h => ?_) (fun J2 h => ?_)⟩
      · obtain ⟨s2, k3⟩ := h
        obtain ⟨wk, hwk, d, rfl, hd⟩ := hg.get hx
        have sm := hsm wk (List.mem_of_getElem? hwk)
        have hd2 := s2 _ _ (sj _ _ hd)
        refine yesT rfl ?_
        walk_at "rd"
        refine ⟨d, _, rfl, rfl, .inl hd2, fun p1 np1 => ?_⟩
        generalize eH : upd _ _ _ = J3
        obtain ⟨m3, f3⟩ := new_of eH np1
        refine ⟨p1, d, _, rfl, f3, .inl (m3 _ _ hd2), fun p2 np2 => ?_⟩
        generalize eH : upd _ _ _ = J4
        obtain ⟨m4, f4⟩ := new_of eH np2
        rw [costK_vals] at f4
        refine ⟨_, _, rfl, .inl (.inl f4), by unfold valsL; rw [mapr_len]; omega, fun m hm1 hm2 => ?_⟩
        have em := vals_least sm.wk hm1 hm2
        subst em
        have k4 := m4 _ _ (m3 _ _ k3)
        refine ⟨_, k4, ?_, fun c o ec => ?_, ?_⟩
        · rw [List.length_map, List.length_map, List.length_take]
          exact many_small (by omega)
        · rw [upd_ne (ne_of_none ec nD2)]
          exact m4 _ _ (m3 _ _ (s2 _ _ ec))
        · rw [upd_same, take_snoc1 hwk, List.map_append, List.map_append]
          rfl
      obtain ⟨s2, k3⟩ := h
      rw [hg.len, List.take_length] at k3
      have k1 := s2 _ _ k1
      have k2 := k2.same s2
      have e5 := s2 _ _ e4
      have e3 := s2 _ _ (sj _ _ e3)
      have hs3 := hs3.mono (Same.tups (sj.trans s2))
      have hg := hg.mono fun b kvs e => s2 _ _ (sj _ _ e)
      have S2 := (S2.same sj).same s2
      have hwsh : ∀ z ∈ (worksW w0 b ss).map leastW, z.natAbs < 10 ^ 150 := by
        intro z hz
        obtain ⟨v, hv, rfl⟩ := List.mem_map.mp hz
        exact (sml_num (hsm v hv)).2.2.2.1
      have sh := shows_told (l := worksW w0 b ss) (ns := (worksW w0 b ss).map leastW) (by omega) hsm (by rw [List.length_map]; omega) hwsh
      clear e4 sj s2 hgf nD1 nD2 ngo
      walk_at "rd"
      refine ⟨by decide, by decide, for_range (lo := 0) (n := 2) (fun j σ G => ∃ x15 x16, σ = [some (.ref a), some (.ref p), some (.int (0 + (i : Int))), some (.ref t), some (.int b), x5, x6, x7, x8, x9, x10, some (.ref go), some (.ref aNOTHING), some (.ref D1), some (.ref D2), x15, x16, x17, x18, x19, x20, x21, x22, x23] ∧ Same J2 G) ⟨_, _, rfl, Same.refl _⟩ (fun j σ G hj h => ?_) (fun σ G h => ?_)⟩
      · obtain ⟨x15, x16, rfl, sg⟩ := h
        walk_at "rd"
        refine ⟨t, b, ws, ss, rfl, sq_of (sg _ _ e3), slts_k (hs3.mono (Same.tups sg)), hlens, by omega, by omega, by omega, fun L1 l1 w1 q1 n1 f1 r1 => ?_⟩
        have f1z := f1
        walk_at "rd"
        refine ⟨t, b, ws, ss, rfl, sq_of (q1 _ _ (sg _ _ e3)), slts_k (hs3.mono (Same.tups (sg.trans q1))), hlens, by omega, by omega, by omega, fun L2 l2 q2 n2 f2 => ?_⟩
        have f1y := q2 _ _ f1z
        walk_at "rd"
        refine ⟨by show 2 ≤ sizeLine; decide, fun l3 n3 => ?_⟩
        generalize eH : upd _ _ _ = L3
        obtain ⟨q3, f3⟩ := new_of eH n3
        have f1 := q3 _ _ (q2 _ _ f1)
        have f2 := q3 _ _ f2
        have r1 := (r1.same q2).same q3
        have sg3 := ((sg.trans q1).trans q2).trans q3
        walk_at "rd"
        refine ⟨_, _, rfl, .lst (.inl (.inl f3)) (.cons (.lst (.inl (.inl f1)) (dp_slts r1)) (.cons (.lst (.inl (.inl f2)) (dp_ints _)) .nil)), sh, ?_⟩
        walk_at "rd"
        refine ⟨by show 2 ≤ sizeLine; decide, fun l4 n4 => ?_⟩
        generalize eH : upd _ _ _ = L4
        obtain ⟨q4, f4⟩ := new_of eH n4
        have f1 := q4 _ _ f1
        have f2 := q4 _ _ f2
        have f3 := q4 _ _ f3
        have sg4 := sg3.trans q4
        refine ⟨_, _, rfl, .lst (.inl (.inl f4)) (.cons (.lst (.inl (.inl (sg4 _ _ k1))) (dp_slts (k2.same sg4))) (.cons (.lst (.inl (.inl (sg4 _ _ k3))) (dp_ints _)) .nil)), sh, ?_⟩
        refine ⟨rfl, ?_⟩
        walk_at "rd"
        rw [show ∀ z : Str, (!decide (V.str z = V.str z)) = false by intro z; simp]
        refine iteF ?_
        walk_at "rd"
        refine ⟨_, _, _, _, rfl, rfl, .inl (.inl f3), rfl, ?_⟩
        refine ⟨.inl ⟨rfl, _, .inl (.inl f1)⟩, ?_⟩
        walk_at "rd"
        refine ⟨_, _, _, rfl, rfl, f1, ?_, ?_⟩
        · rw [r1.len, wlen]
          exact many_small (by omega)
        have l12 : l1 ≠ l2 := ne_of_none f1z n2
        have l13 : l1 ≠ l3 := ne_of_none f1y n3
        have f2u : upd L4 l1 (.lst (w1 ++ [.non])) l2 = some (.lst (((worksW w0 b ss).map leastW).map V.int)) := by rw [upd_ne l12.symm]; exact f2
        have f3u : upd L4 l1 (.lst (w1 ++ [.non])) l3 = some (.lst [.ref l1, .ref l2]) := by rw [upd_ne l13.symm]; exact f3
        walk_at "rd"
        refine ⟨_, _, _, _, rfl, rfl, .inl (.inl f3u), rfl, ?_⟩
        refine ⟨.inl ⟨rfl, _, .inl (.inl f2u)⟩, ?_⟩
        walk_at "rd"
        refine ⟨_, _, _, rfl, rfl, f2u, ?_, ?_⟩
        · rw [List.length_map, List.length_map, wlen]
          exact many_small (by omega)
        refine ⟨_, _, rfl, fun c o ec => ?_⟩
        rw [upd_ne (ne_of_none ec (Same.free (sg.trans q1) n2)), upd_ne (ne_of_none ec (Same.free sg n1))]
        exact sg4 _ _ ec
      obtain ⟨x15, x16, rfl, sg⟩ := h
      walk_at "rd"
      refine ⟨_, _, rfl, .inl (.inl (sg _ _ e3)), for_it (walk_enumT (K := K) (a := t) (xs := ws)) (fun j σ J => ∃ (x17 x18 x19 x20 : Option V) (v : V), σ = [some (.ref a), some (.ref p), some (.int (0 + (i : Int))), some (.ref t), some (.int b), x5, x6, x7, x8, x9, x10, some (.ref go), some v, some (.ref D1), some (.ref D2), x15, x16, x17, x18, x19, x20, x21, x22, x23] ∧ Same J2 J ∧ SltK K J v (lastW w0 b (ss.take j))) ⟨_, _, _, _, _, rfl, sg, ⟨aNOTHING, aE, rfl, W.nN _, W.nE _⟩⟩ (fun j σ J _ h => ?_) (fun j x σ J J' hj h hy => ?_) (fun σ J h => ?_)⟩
      · obtain ⟨x17, x18, x19, x20, v, rfl, sj, kv⟩ := h
        exact .inl (.inl (sj _ _ e3))
      · obtain ⟨x17, x18, x19, x20, v, rfl, sj, kv⟩ := h
        obtain ⟨T, y1, y2, rfl, nT, rfl, c1, c2⟩ := hy
        have c1 : some (V.int (j : Nat)) = some y1 := c1
        injection c1 with c1
        subst c1
        obtain ⟨sl, hsl, hy2⟩ := hs3.get c2
        have hjl : j < ss.length := (List.getElem?_eq_some_iff.mp hsl).1
        obtain ⟨wk, hwk⟩ : ∃ wk, (worksW w0 b ss)[j]? = some wk := ⟨_, List.getElem?_eq_getElem (by omega)⟩
        obtain ⟨sl', hsl', ewk⟩ := works_at hwk
        have : sl' = sl := by rw [hsl] at hsl'; exact (Option.some.inj hsl').symm
        subst this
        have sm := hsm wk (List.mem_of_getElem? hwk)
        obtain ⟨dv, hdv⟩ : ∃ dv, dus[j]? = some dv := ⟨_, List.getElem?_eq_getElem (by rw [k2.len]; omega)⟩
        obtain ⟨gv, hgv⟩ : ∃ gv, gs[j]? = some gv := ⟨_, List.getElem?_eq_getElem (by rw [hg.len]; omega)⟩
        obtain ⟨wk2, hwk2, kdv⟩ := k2.get hdv
        obtain ⟨wk3, hwk3, gd, rfl, kgv⟩ := hg.get hgv
        have : wk2 = wk := by rw [hwk] at hwk2; exact (Option.some.inj hwk2).symm
        subst this
        have : wk3 = wk2 := by rw [hwk] at hwk3; exact (Option.some.inj hwk3).symm
        subst this
        generalize eH : upd _ _ _ = J1
        obtain ⟨j1, f1⟩ := new_of eH nT
        have sj1 := sj.trans j1
        refine ⟨T, _, rfl, .inl (.inl f1), rfl, _, _, rfl, _, _, rfl, rfl, ?_⟩
        walk_at "rd"
        refine ⟨v, y2, b, lastW w0 b (ss.take j), sl', rfl, kv.same j1, SltK.of (hy2.mono (Same.tups sj1)), lastW_len w0_len (fun s' h => hlens s' (List.mem_of_mem_take h)), hlens sl' (List.mem_of_getElem? hsl), by omega, by omega, fun J3 v3 s3 kv3 => ?_⟩
        rw [← ewk] at kv3
        have w12 : wk3.slopes.length ≤ 1000 := by
          have := sm.wk.len.len
          have := sm.few
          omega
        walk_at "rd"
        refine ⟨v3, wk3, rfl, kv3, w12, fun J4 s4 => ?_⟩
        walk_at "rd"
        refine ⟨v3, b, wk3, rfl, kv3.same s4, w12, fun J5 s5 => ?_⟩
        have s35 := (s3.trans s4).trans s5
        have hlo : (lowW wk3).natAbs < 10 ^ 150 := by
          obtain ⟨q1, q2⟩ := lowW_in sm.wk
          have := sm.lo
          have := sm.hi
          exact nat150 (by omega) (by omega)
        have hhi : (highW wk3 b).natAbs < 10 ^ 150 := by
          obtain ⟨q1, q2⟩ := highW_in (b := b) sm.wk
          have := sm.lo
          have := sm.hi
          exact nat150 (by omega) (by omega)
        have sh1 := shows_one sm hlo hhi
        walk_at "rd"
        refine ⟨by show 3 ≤ sizeLine; decide, fun l5 n5 => ?_⟩
        generalize eH : upd _ _ _ = J6
        obtain ⟨j6, f5⟩ := new_of eH n5
        have kv6 := ((kv3.same s4).same s5).same j6
        have sj6 := (sj1.trans s35).trans j6
        refine ⟨_, _, rfl, .lst (.inl (.inl f5)) (.cons (dp_slt kv6) (.cons (.int _) (.cons (.int _) .nil))), sh1, ?_⟩
        walk_at "rd"
        refine ⟨_, _, _, _, rfl, rfl, .inl (.inl (sj6 _ _ k1)), atI_nat hdv, ?_⟩
        walk_at "rd"
        refine ⟨_, _, _, _, rfl, rfl, .inl (.inl (sj6 _ _ e5)), atI_nat hgv, ?_⟩
        walk_at "rd"
        refine ⟨gd, wk3, rfl, sj6 _ _ kgv, sm.wk, fun J7 s7 => ?_⟩
        have sj7 := sj6.trans s7
        walk_at "rd"
        refine ⟨_, _, _, _, rfl, rfl, .inl (.inl (sj7 _ _ e5)), atI_nat hgv, ?_⟩
        walk_at "rd"
        refine ⟨gd, b, wk3, rfl, sj7 _ _ kgv, sm.wk, fun J8 s8 => ?_⟩
        have sj8 := sj7.trans s8
        walk_at "rd"
        refine ⟨by show 3 ≤ sizeLine; decide, fun l6 n6 => ?_⟩
        generalize eH : upd _ _ _ = J9
        obtain ⟨j9, f6⟩ := new_of eH n6
        have sj9 := sj8.trans j9
        refine ⟨_, _, rfl, .lst (.inl (.inl f6)) (.cons (dp_slt (kdv.same sj9)) (.cons (.int _) (.cons (.int _) .nil))), sh1, ?_⟩
        refine ⟨rfl, ?_⟩
        walk_at "rd"
        rw [show ∀ z : Str, (!decide (V.str z = V.str z)) = false by intro z; simp]
        refine ifF rfl ?_
        have lh := low_high (b := b) (by omega) sm.wk
        walk_at "rd"
        refine ite2 (fun c => absurd (of_decide_eq_true c) (by omega)) (fun _ => ?_)
        refine ⟨_, _, _, _, v3, rfl, sj9, ?_⟩
        rw [take_snoc1 hsl, lastW_snoc, ← ewk]
        exact ((kv6.same s7).same s8).same j9
      · obtain ⟨x17, x18, x19, x20, v, rfl, sj, kv⟩ := h
        have SJ := S2.same sj
        have eT := sj _ _ e3
        have hsT := hs3.mono (Same.tups sj)
        have k3T := sj _ _ k3
        have e5T := sj _ _ e5
        have hgT := hg.mono fun b kvs e => sj _ _ e
        have lnum := last_num hsm
        walk_at "rd"
        refine ⟨t, b, ws, ss, rfl, sq_of eT, slts_k hsT, hlens, by omega, by omega, by omega, fun M1 m1 => ?_⟩
        walk_at "rd"
        refine ⟨lil_int lnum, ?_⟩
        walk_at "rd"
        refine ⟨by show 1 ≤ sizeLine; decide, fun l7 n7 => ?_⟩
        generalize eH : upd _ _ _ = M2
        obtain ⟨m2, f7⟩ := new_of eH n7
        have m12 := m1.trans m2
        walk_at "rd"
        refine ⟨_, _, _, _, rfl, rfl, f7, m12 _ _ k3T, ?_, fun l8 n8 => ?_⟩
        · rw [List.length_map, List.length_map, wlen]
          show 1 + ss.length ≤ sizeLine
          exact Nat.le_of_lt (many_small (by omega))
        generalize eH : upd _ _ _ = M3
        obtain ⟨m3, f8⟩ := new_of eH n8
        have m13 := m12.trans m3
        walk_at "rd"
        refine ⟨_, _, _, _, rfl, rfl, .inl (.inl f8), last_at, ?_⟩
        walk_at "rd"
        refine ⟨lil_int lnum, ?_⟩
        refine ⟨rfl, ?_⟩
        walk_at "rd"
        rw [show ∀ z : Str, (!decide (V.str z = V.str z)) = false by intro z; simp]
        refine iteF ?_
        have SM := SJ.same m13
        have eM := m13 _ _ eT
        have hsM := hsT.mono (Same.tups m13)
        have eGo := m13 _ _ e5T
        have hgM := hgT.mono fun b kvs e => m13 _ _ e
        dsimp only [tNext]
        refine seq_R (fun σ G => ∃ (x12 x13 x14 x15 x16 x17 x18 x19 x20 : Option V) (ll : Addr) (nums : List Int), σ = [some (.ref a), some (.ref p), some (.int (0 + (i : Int))), some (.ref t), some (.int b), x5, x6, x7, x8, x9, x10, some (.ref go), x12, x13, x14, x15, x16, x17, x18, x19, x20, some (.ref ll), x22, x23] ∧
          Same M3 G ∧ M3 ll = none ∧ G ll = some (.lst (nums.map V.int)) ∧ nums.length ≤ 13 ∧ ∀ x ∈ nums, ∃ st sz, ss = st ++ [sz] ∧ fitB sz x = true) ?_ ?_
        · rintro σ G ⟨x12, x13, x14, x15, x16, x17, x18, x19, x20, ll, nums, rfl, sG, nll, ell, hn, hin⟩
          have llp := SM.ne_p nll
          have llc := SM.ne_c nll
          have SG := SM.same sG
          have eG := sG _ _ eM
          have hsG := hsM.mono (Same.tups sG)
          have eGo := sG _ _ eGo
          have hgG := hgM.mono fun b kvs e => sG _ _ e
          walk_at "rd"
          refine ⟨ll, _, rfl, .inl (.inl ell), fun la nla => ?_⟩
          generalize eH : upd _ _ _ = N1
          obtain ⟨o1, f11⟩ := new_of eH nla
          walk_at "rd"
          refine ⟨Nat.zero_le _, fun lb nlb => ?_⟩
          generalize eH : upd _ _ _ = N2
          obtain ⟨o2, f12⟩ := new_of eH nlb
          have o12 := o1.trans o2
          refine ⟨_, _, _, rfl, rfl, .inl (.inl (o12 _ _ ell)), .inl (.inl f12), ?_⟩
          cases nums with
          | nil =>
            walk_at "rd"
            refine ifF rfl ?_
            walk_at "rd"
            refine ⟨Nat.zero_le _, fun lc nlc => ?_⟩
            generalize eH : upd _ _ _ = N4
            obtain ⟨o4, f13⟩ := new_of eH nlc
            refine ⟨_, _, _, _, rfl, rfl, o4 _ _ (o2 _ _ f11), f13, by simp [cutV], fun ld nld => ?_⟩
            generalize eH : upd _ _ _ = N5
            obtain ⟨o5, f14⟩ := new_of eH nld
            have S5 := (SG.same o12).same (o4.trans o5)
            walk_at "rd"
            refine ⟨⟨_, .inl (.inl f14)⟩, for_list (K := K) (a := ld) (xs := _) (fun j σ G => σ = [some (.ref a), some (.ref p), some (.int (0 + (i : Int))), some (.ref t), some (.int b), x5, x6, x7, x8, x9, x10, some (.ref go), x12, x13, x14, x15, x16, x17, x18, x19, x20, some (.ref ll), x22, x23] ∧ Same N5 G) ⟨rfl, Same.refl _⟩ (fun j σ G _ h => .inl (.inl (h.2 _ _ f14))) (fun j x σ G hx h => ?_) (fun σ G h => ?_)⟩
            · simp [cutV] at hx
            · obtain ⟨rfl, sg⟩ := h
              exact ⟨_, _, _, _, _, _, _, _, _, _, _, _, _, _, _, _, _, _, _, _, _, _, rfl, S5.same sg⟩
          | cons z zs =>
            refine ⟨_, rfl, ?_⟩
            refine ifT rfl ?_
            walk_at "rd"
            have lap : la ≠ p := SG.ne_p nla
            have lac : la ≠ c := SG.ne_c nla
            refine ⟨p, c, ll, _, rfl, SG.same o12, fun G' o => .inl (.inl (.inl (o _ _ llp llc (o12 _ _ ell)))), by simp, by rw [List.length_map]; omega, fun N3 x hx S3 o3 => ?_⟩
            obtain ⟨z', hz', rfl⟩ := List.mem_map.mp hx
            have fla := o3 _ _ lap lac (o2 _ _ f11)
            walk_at "rd"
            refine ⟨by show 1 ≤ sizeLine; decide, fun lc nlc => ?_⟩
            generalize eH : upd _ _ _ = N4
            obtain ⟨o4, f13⟩ := new_of eH nlc
            have hcl : cutV ((z :: zs).map V.int) none (some 3) = ((z :: zs).take 3).map V.int := by rw [cut_int (by decide), ← List.map_take]; rfl
            rw [hcl] at fla
            refine ⟨_, _, _, _, rfl, rfl, o4 _ _ fla, f13, ?_, fun ld nld => ?_⟩
            · rw [List.length_map, List.length_take]
              show min 3 _ + 1 ≤ sizeLine
              exact Nat.le_trans (show min 3 _ + 1 ≤ 4 by omega) (by decide)
            generalize eH : upd _ _ _ = N5
            obtain ⟨o5, f14⟩ := new_of eH nld
            have o45 := o4.trans o5
            have S5 := S3.same o45
            have eN := o45 _ _ (o3.tup (SG.same o12) (o12 _ _ eG))
            have hsN := ((hsG.mono (Same.tups o12)).mono (Off.tups o3 (SG.same o12))).mono (Same.tups o45)
            have goN := o45 _ _ (o3 _ _ gop goc (o12 _ _ eGo))
            walk_at "rd"
            refine ⟨⟨_, .inl (.inl f14)⟩, for_list (K := K) (a := ld) (xs := ((z :: zs).take 3).map V.int ++ [V.int z']) (fun j σ G => ∃ x22 x23, σ = [some (.ref a), some (.ref p), some (.int (0 + (i : Int))), some (.ref t), some (.int b), x5, x6, x7, x8, x9, x10, some (.ref go), x12, x13, x14, x15, x16, x17, x18, x19, x20, some (.ref ll), x22, x23] ∧ Same N5 G) ⟨_, _, rfl, Same.refl _⟩ (fun j σ G _ h => ?_) (fun j x σ G hx h => ?_) (fun σ G h => ?_)⟩
            · obtain ⟨x22, x23, rfl, sg⟩ := h
              exact .inl (.inl (sg _ _ f14))
            · obtain ⟨x22, x23, rfl, sg⟩ := h
              obtain ⟨n, rfl, hnn⟩ : ∃ n, x = .int n ∧ n ∈ (z :: zs) := by
                rcases List.mem_append.mp (List.mem_of_getElem? hx) with hm | hm
                · obtain ⟨n, q1, q2⟩ := List.mem_map.mp hm
                  exact ⟨n, q2.symm, List.mem_of_mem_take q1⟩
                · exact ⟨z', List.mem_singleton.mp hm, hz'⟩
              obtain ⟨st, sz, es, hfz⟩ := hin n hnn
              have egl : gs.length = ss.length := by rw [hg.len, wlen]
              have ss1 : ss.length = st.length + 1 := by rw [es, List.length_append]; rfl
              have hst : ∀ s ∈ st, s.Far := fun s hs => hfar s (by rw [es]; exact List.mem_append_left _ hs)
              have hsz : sz.Far := hfar sz (by rw [es]; simp)
              have hsQ := hsN.mono (Same.tups sg)
              rw [es] at hsQ
              obtain ⟨us', v', ew, hu', hv'⟩ := slts_split hsQ
              have eQ' := sg _ _ eN
              rw [ew] at eQ'
              obtain ⟨gv, hgv⟩ : ∃ gv, gs[gs.length - 1]? = some gv := ⟨_, List.getElem?_eq_getElem (by omega)⟩
              obtain ⟨wk, hwk, gd, rfl, kgd⟩ := hgG.get hgv
              obtain ⟨d', ed', dp', dc'⟩ := hgd _ (List.mem_of_getElem? hgv)
              cases ed'
              have kgdN := sg _ _ (o45 _ _ (o3 _ _ dp' dc' (o12 _ _ kgd)))
              obtain ⟨sz', z1, z2⟩ := works_at hwk
              have hszz : sz' = sz := by
                rw [es, List.getElem?_append_right (by omega), show gs.length - 1 - st.length = 0 by omega] at z1
                exact (Option.some.inj z1).symm
              subst hszz
              rw [show ss.take (gs.length - 1) = st by rw [es, List.take_left' (by omega)]] at z2
              have lwk := lastW_wk (b := b) (by omega) st fun s' h => (hst s' h).wk
              obtain ⟨wkw, z3, z4⟩ := after_wk (b := b) (by omega) lwk hsz.wk
              rw [← z2] at z3 z4 wkw
              have smw := hsm wk (List.mem_of_getElem? hwk)
              obtain ⟨nf1, nf2⟩ := fit_iff.mp hfz
              have fw : fitB wk n = true := fit_iff.mpr ⟨by omega, by omega⟩
              have cb := smw.bd n (by omega) (by omega)
              have cnum : (costAt wk n).natAbs < 10 ^ 150 := nat150 (by omega) (by omega)
              have el := ended_least (b := b) (by omega) hst hsz.wk hfz
              rw [← z2] at el
              walk_at "rd"
              refine ⟨t, n, us', v', st, sz', rfl, sq_of eQ', slts_k hu', SltK.of hv', by omega, hfz, fun Q1 r ws' q1 er kr => ?_⟩
              walk_at "rd"
              refine ⟨r, b, ws', st ++ [ptW sz' n], rfl, er, kr, fun s' hs' => ?_, by rw [List.length_append]; show st.length + 1 ≤ 5000; omega, by omega, by omega, fun Q2 q2 => ?_⟩
              · rcases List.mem_append.mp hs' with hs' | hs'
                · exact (hst s' hs').wk.len
                · rw [List.mem_singleton.mp hs']
                  exact ⟨by simp [ptW], Int.le_refl _, by show n - n ≤ 1000; omega⟩
              rw [el]
              walk_at "rd"
              refine ⟨lil_int cnum, ?_⟩
              have sq2 := (sg.trans q1).trans q2
              walk_at "rd"
              refine ⟨_, _, _, _, rfl, rfl, .inl (.inl (sq2 _ _ goN)), at_neg hgv, ?_⟩
              walk_at "rd"
              refine ⟨gd, _, rfl, .inl ⟨_, .inl n, .inl (q2 _ _ (q1 _ _ kgdN)), rfl, (cost_of smw.wk.len.len fw).symm⟩, ?_⟩
              walk_at "rd"
              refine ⟨lil_int cnum, ?_⟩
              refine ⟨rfl, ?_⟩
              walk_at "rd"
              rw [show ∀ z : Str, (!decide (V.str z = V.str z)) = false by intro z; simp]
              refine iteF ?_
              exact ⟨_, _, rfl, sq2⟩
            · obtain ⟨x22, x23, rfl, sg⟩ := h
              exact ⟨_, _, _, _, _, _, _, _, _, _, _, _, _, _, _, _, _, _, _, _, _, _, rfl, S5.same sg⟩
        · intro D2' hD2'
          walk_at "rd"
          refine ⟨Nat.zero_le _, fun l9 n9 => ?_⟩
          generalize eH : upd _ _ _ = M4
          obtain ⟨m4, f9⟩ := new_of eH n9
          have eGo4 := m4 _ _ eGo
          refine ⟨_, _, gs, rfl, rfl, .inl (.inl eGo4), .inl (.inl f9), ?_⟩
          rcases List.eq_nil_or_concat ss with es | ⟨st, sz, es⟩
          · have eg : gs = [] := by
              have := hg.len
              rw [wlen, es] at this
              exact List.eq_nil_of_length_eq_zero this
            rw [eg]
            walk_at "rd"
            refine ifF rfl ?_
            walk_at "rd"
            refine ⟨Nat.zero_le _, fun la nla => ?_⟩
            generalize eH : upd _ _ _ = M5
            obtain ⟨m5, f10⟩ := new_of eH nla
            exact hD2' _ _ ⟨_, _, _, _, _, _, _, _, _, la, [], rfl, m4.trans m5, Same.free m4 nla, f10, by decide, by simp⟩
          · have egl : gs.length = ss.length := by rw [hg.len, wlen]
            have ss1 : ss.length = st.length + 1 := by rw [es, List.concat_eq_append, List.length_append]; rfl
            obtain ⟨gv, hgv⟩ : ∃ gv, gs[gs.length - 1]? = some gv := ⟨_, List.getElem?_eq_getElem (by omega)⟩
            obtain ⟨wk, hwk, gd, rfl, kgd⟩ := hgM.get hgv
            obtain ⟨sz', z1, z2⟩ := works_at hwk
            have fz := hfar sz' (List.mem_of_getElem? z1)
            obtain ⟨_, z3, z4⟩ := after_wk (b := b) (by omega) (lastW_wk (b := b) (by omega) (ss.take (gs.length - 1)) fun s' h => (hfar s' (List.mem_of_mem_take h)).wk) fz.wk
            rw [← z2] at z3 z4
            have smw := hsm wk (List.mem_of_getElem? hwk)
            have ege : (!gs.isEmpty) = true := by
              cases gs with
              | nil => simp at hgv
              | cons _ _ => rfl
            walk_at "rd"
            refine ifT ege ?_
            walk_at "rd"
            refine ⟨_, _, _, _, rfl, rfl, .inl (.inl eGo4), at_neg hgv, ?_⟩
            walk_at "rd"
            refine ⟨gd, _, rfl, m4 _ _ kgd, fun la nla => ?_⟩
            generalize eH : upd _ _ _ = M5
            obtain ⟨m5, f10⟩ := new_of eH nla
            rw [costK_keys] at f10
            refine hD2' _ _ ⟨_, _, _, _, _, _, _, _, _, la, numsL wk (wk.slopes.length + 1), rfl, m4.trans m5, Same.free m4 nla, f10, ?_, fun x hx => ?_⟩
            · unfold numsL
              rw [mapr_len]
              have := smw.wk.len.len
              have := smw.few
              omega
            · refine ⟨ss.take (gs.length - 1), sz', ?_, ?_⟩
              · rw [← take_snoc1 z1, List.take_of_length_le (by omega)]
              · obtain ⟨k, hk, rfl⟩ := List.mem_map.mp hx
                have hk := List.mem_range.mp hk
                have := smw.wk.len.len
                exact fit_iff.mpr ⟨by omega, by omega⟩
    · intro D' hD'
      walk_at "rd"
      refine ⟨rfl, ?_⟩
      refine ⟨_, rfl, ?_⟩
      dsimp only
      refine ite2 (fun a1 => ?_) (fun a1 => ?_)
      · walk_at "rd"
        refine ⟨⟨by decide, by decide, by decide⟩, ?_⟩
        walk_at "rd"
        obtain ⟨b', eb', b1', b2'⟩ : ∃ z : Int, z = (if (10 : Int) ^ (6 : Int).toNat < 1 + r2 * by1 then (10 : Int) ^ (6 : Int).toNat else 1 + r2 * by1) ∧ 1 ≤ z ∧ z ≤ 1000000000 := by
          refine ⟨_, rfl, ?_, ?_⟩ <;> split
          · decide
          · exact b1
          · decide
          · exact b2
        refine ⟨Nat.zero_le _, fun fl nfl => ?_⟩
        generalize eH : upd _ _ _ = J1
        obtain ⟨m1, f1⟩ := new_of eH nfl
        have fnp := S7.ne_p nfl
        have fnc := S7.ne_c nfl
        rw [← eb']
        walk_at "rd"
        refine ⟨p, c, 12, rfl, S7.same m1, by decide, fun J2 r3 T2 u2 r30 r31 => ?_⟩
        obtain ⟨rm, rfl⟩ := Int.eq_ofNat_of_zero_le r30
        have f2 := u2 _ _ fnp fnc f1
        walk_at "rd"
        refine ⟨p, c, 1 + rm, 6, by rw [Int.natCast_add]; rfl, T2, by omega, by omega, by omega, fun J3 t2 ws2 ss2 T3 u3 h2 nt2 hs2 hl2 hok2 => ?_⟩
        have f3 := u3 _ _ fnp fnc f2
        walk_at "rd"
        refine ⟨⟨_, sq_of h2⟩, for_tup (K := K) (a := t2) (xs := ws2) (fun j σ J => ∃ (x6 x7 x8 x9 x10 : Option V) (us : List V) (so : List Slt), σ = [some (.ref a), some (.ref p), some (.int (0 + (i : Int))), some (.ref t), some (.int b'), some (.ref fl), x6, x7, x8, x9, x10, x11, x12, x13, x14, x15, x16, x17, x18, x19, x20, x21, x22, x23] ∧
          Src J p c ∧ J t2 = some (.tup ws2) ∧ SltsAt J ws2 ss2 ∧ J fl = some (.lst us) ∧ SltsAt J us so ∧ so.length = j ∧ (∀ s ∈ so, s.Ok 1000000 80000000000 1000000000000 ∧ s.most - s.need ≤ 12)) ⟨x6, x7, x8, x9, x10, [], [], rfl, T3, h2, hs2, f3, .nil, rfl, by simp⟩ (fun j σ J _ h => ?_) (fun j x σ J hx h => ?_) (fun σ J h => ?_)⟩
        · obtain ⟨x6, x7, x8, x9, x10, us, so, rfl, T, v1, v2, v3, v4, v5, v6⟩ := h
          exact sq_of v1
        · obtain ⟨x6, x7, x8, x9, x10, us, so, rfl, T, v1, v2, v3, v4, v5, v6⟩ := h
          obtain ⟨sl, hsl, tt, uu, rfl, a1, a2⟩ := v2.get hx
          have ok := hok2 sl (List.mem_of_getElem? hsl)
          refine ⟨tt, _, rfl, .inl (.inl a1), rfl, _, _, rfl, _, _, rfl, _, _, rfl, _, _, rfl, rfl, ?_⟩
          walk_at "rd"
          refine ⟨⟨by decide, by decide, by decide⟩, ?_⟩
          walk_at "rd"
          refine ⟨by show 3 ≤ sizeLine; decide, fun l4 nl4 => ?_⟩
          generalize eH : upd _ _ _ = J4
          obtain ⟨m4, f4⟩ := new_of eH nl4
          walk_at "rd"
          refine ⟨p, c, l4, _, rfl, T.same m4, fun G' o => .inl (.inl (.inl (o _ _ (T.ne_p nl4) (T.ne_c nl4) f4))), by simp, by show 3 ≤ 100000; decide, fun J5 x hx5 T5 u5 => ?_⟩
          obtain ⟨fv, rfl, fv0, fv1⟩ : ∃ z, x = .int z ∧ 0 ≤ z ∧ z ≤ 999994 := by
            simp only [List.mem_cons, List.not_mem_nil, or_false] at hx5
            rcases hx5 with rfl | rfl | rfl
            · exact ⟨_, rfl, by omega, by omega⟩
            · exact ⟨_, rfl, by omega, by omega⟩
            · exact ⟨(10 : Int) ^ (6 : Int).toNat - 6, rfl, by decide, by decide⟩
          have tps := (Same.tups m4).trans (Off.tups u5 (T.same m4))
          have v3 := u5 _ _ fnp fnc (m4 _ _ v3)
          have a2 := tps _ _ a2
          walk_at "rd"
          refine ⟨.inl ⟨rfl, _, .inl (.inl v3)⟩, ?_⟩
          walk_at "rd"
          refine ⟨by show 4 ≤ sizeLine; decide, fun l6 nl6 => ?_⟩
          generalize eH : upd _ _ _ = J6
          obtain ⟨m6, f6⟩ := new_of eH nl6
          have v3 := m6 _ _ v3
          have a2 := m6 _ _ a2
          walk_at "rd"
          refine ⟨_, _, _, rfl, rfl, v3, ?_, ?_⟩
          · rw [v4.len, v5]
            have := (List.getElem?_eq_some_iff.mp hsl).1
            exact many_small (by omega)
          have tp7 := (tps.trans (Same.tups m6)).trans (tups_upd (o := .lst (us ++ [.ref l6])) v3)
          refine ⟨_, _, _, _, _, us ++ [.ref l6], so ++ [⟨sl.need + fv, sl.most + fv, sl.first, sl.slopes⟩], rfl, ?_, tp7 _ _ v1, v2.mono tp7, upd_same, (v4.mono tp7).snoc ⟨l6, uu, rfl, ?_, ?_⟩, by rw [List.length_append, v5]; rfl, ?_⟩
          · obtain ⟨cells, q1, q2, q3, z1, z2⟩ := (T5.same m6).ex
            exact ⟨cells, q1, q2, q3, by rw [upd_ne fnp.symm]; exact z1, by rw [upd_ne fnc.symm]; exact z2⟩
          · exact tups_upd v3 _ _ f6
          · exact tups_upd v3 _ _ a2
          · intro s hs
            rcases List.mem_append.mp hs with hs | hs
            · exact v6 s hs
            · rw [List.mem_singleton.mp hs]
              have o1 := ok.lo
              have o2 := ok.mid
              have o3 := ok.hi
              have o4 := ok.len
              have o5 := ok.fst
              exact ⟨⟨by show 0 ≤ sl.need + fv; omega, by show sl.need + fv ≤ sl.most + fv; omega, by show sl.most + fv ≤ 1000000; omega, by show (sl.slopes.length : Int) = sl.most + fv - (sl.need + fv); omega, fun z hz => by have := ok.steep z hz; omega, ok.asc, ok.pos, by show sl.first ≤ 1000000000000; omega⟩, by show sl.most + fv - (sl.need + fv) ≤ 12; omega⟩
        · obtain ⟨x6, x7, x8, x9, x10, us, so, rfl, T, v1, v2, v3, v4, v5, v6⟩ := h
          walk_at "rd"
          refine ⟨_, _, rfl, .inl ⟨.inl (.inl v3), fun pt npt => ?_⟩⟩
          generalize eH : upd _ _ _ = J7
          obtain ⟨m7, f7⟩ := new_of eH npt
          have := hs2.len
          exact hD' _ _ ⟨pt, us, so, b', _, x6, x7, x8, x9, x10, rfl, T.same m7, f7, v4.mono (Same.tups m7), by omega, v6, b1', b2'⟩
      · exact hD' _ _ ⟨t, ws, ss, _, x5, x6, x7, x8, x9, x10, rfl, S7, e7, hs7, hl25, hok, b1, b2⟩
  · obtain ⟨x2, x3, x4, x5, x6, x7, x8, x9, x10, x11, x12, x13, x14, x15, x16, x17, x18, x19, x20, x21, x22, x23, rfl, S⟩ := h
    have NK : ∀ G, SltK K G (.ref aNOTHING) w0 := fun G => ⟨aNOTHING, aE, rfl, W.nN _, W.nE _⟩
    have shN : Shows (sltD w0) := by
      refine shows_of ?_ ?_ ?_
      · simp only [sltD, w0, Lil, LilAll, and_true, intsD, List.map_nil]
        decide
      · simp [sltD, w0, intsD, PyData.depth, PyData.depthAll]
      · simp only [sltD, w0, WK.cost, costAll, intsD, List.map_nil]
        decide
    walk_at "rd"
    refine ⟨_, _, rfl, dp_slt (NK _), shN, ?_⟩
    generalize eQ : PyData.shown _ = shn
    walk_at "rd"
    refine ⟨by show 0 ≤ sizeLine; decide, fun l0 nl0 => ?_⟩
    generalize eH : upd _ _ _ = T0
    obtain ⟨g0, e0⟩ := new_of eH nl0
    clear eH
    walk_at "rd"
    refine ⟨by show 4 ≤ sizeLine; decide, fun l1 nl1 => ?_⟩
    generalize eH : upd _ _ _ = T1
    obtain ⟨g1, e1⟩ := new_of eH nl1
    clear eH
    have e0 := g1 _ _ e0
    refine ⟨_, _, rfl, dp_slt (s := w0) ⟨l1, l0, rfl, sq_of e1, sq_of e0⟩, shN, ?_⟩
    rw [eQ]
    refine ⟨rfl, ?_⟩
    walk_at "rd"
    refine ite2 (fun c => absurd c (by simp)) (fun _ => ?_)
    dsimp only [tNext]
    walk_at "rd"
    refine ⟨by show 1 ≤ sizeLine; decide, fun l2 nl2 => ?_⟩
    generalize eH : upd _ _ _ = T2
    obtain ⟨g2, e2⟩ := new_of eH nl2
    clear eH
    walk_at "rd"
    refine ⟨by show 4 ≤ sizeLine; decide, fun l3 nl3 => ?_⟩
    generalize eH : upd _ _ _ = T3
    obtain ⟨g3, e3⟩ := new_of eH nl3
    clear eH
    have e2 := g3 _ _ e2
    walk_at "rd"
    refine ⟨by show 2 ≤ sizeLine; decide, fun l4 nl4 => ?_⟩
    generalize eH : upd _ _ _ = T4
    obtain ⟨g4, e4⟩ := new_of eH nl4
    clear eH
    have e2 := g4 _ _ e2
    have e3 := g4 _ _ e3
    walk_at "rd"
    refine ⟨by show 4 ≤ sizeLine; decide, fun l5 nl5 => ?_⟩
    generalize eH : upd _ _ _ = T5
    obtain ⟨g5, e5⟩ := new_of eH nl5
    clear eH
    have e2 := g5 _ _ e2
    have e3 := g5 _ _ e3
    have e4 := g5 _ _ e4
    walk_at "rd"
    refine ⟨by show 2 ≤ sizeLine; decide, fun l6 nl6 => ?_⟩
    generalize eH : upd _ _ _ = T6
    obtain ⟨g6, e6⟩ := new_of eH nl6
    clear eH
    have e2 := g6 _ _ e2
    have e3 := g6 _ _ e3
    have e4 := g6 _ _ e4
    have e5 := g6 _ _ e5
    walk_at "rd"
    refine ⟨by show 4 ≤ sizeLine; decide, fun l7 nl7 => ?_⟩
    generalize eH : upd _ _ _ = T7
    obtain ⟨g7, e7⟩ := new_of eH nl7
    clear eH
    have e2 := g7 _ _ e2
    have e3 := g7 _ _ e3
    have e4 := g7 _ _ e4
    have e5 := g7 _ _ e5
    have e6 := g7 _ _ e6
    walk_at "rd"
    refine ⟨by show 1 ≤ sizeLine; decide, fun l8 nl8 => ?_⟩
    generalize eH : upd _ _ _ = T8
    obtain ⟨g8, e8⟩ := new_of eH nl8
    clear eH
    have e2 := g8 _ _ e2
    have e3 := g8 _ _ e3
    have e4 := g8 _ _ e4
    have e5 := g8 _ _ e5
    have e6 := g8 _ _ e6
    have e7 := g8 _ _ e7
    walk_at "rd"
    refine ⟨by show 4 ≤ sizeLine; decide, fun l9 nl9 => ?_⟩
    generalize eH : upd _ _ _ = T9
    obtain ⟨g9, e9⟩ := new_of eH nl9
    clear eH
    have e2 := g9 _ _ e2
    have e3 := g9 _ _ e3
    have e4 := g9 _ _ e4
    have e5 := g9 _ _ e5
    have e6 := g9 _ _ e6
    have e7 := g9 _ _ e7
    have e8 := g9 _ _ e8
    walk_at "rd"
    refine ⟨by show 4 ≤ sizeLine; decide, fun l10 nl10 => ?_⟩
    generalize eH : upd _ _ _ = T10
    obtain ⟨g10, e10⟩ := new_of eH nl10
    clear eH
    have e2 := g10 _ _ e2
    have e3 := g10 _ _ e3
    have e4 := g10 _ _ e4
    have e5 := g10 _ _ e5
    have e6 := g10 _ _ e6
    have e7 := g10 _ _ e7
    have e8 := g10 _ _ e8
    have e9 := g10 _ _ e9
    walk_at "rd"
    refine ⟨by show 1 ≤ sizeLine; decide, fun l11 nl11 => ?_⟩
    generalize eH : upd _ _ _ = T11
    obtain ⟨g11, e11⟩ := new_of eH nl11
    clear eH
    have e2 := g11 _ _ e2
    have e3 := g11 _ _ e3
    have e4 := g11 _ _ e4
    have e5 := g11 _ _ e5
    have e6 := g11 _ _ e6
    have e7 := g11 _ _ e7
    have e8 := g11 _ _ e8
    have e9 := g11 _ _ e9
    have e10 := g11 _ _ e10
    walk_at "rd"
    refine ⟨by show 4 ≤ sizeLine; decide, fun l12 nl12 => ?_⟩
    generalize eH : upd _ _ _ = T12
    obtain ⟨g12, e12⟩ := new_of eH nl12
    clear eH
    have e2 := g12 _ _ e2
    have e3 := g12 _ _ e3
    have e4 := g12 _ _ e4
    have e5 := g12 _ _ e5
    have e6 := g12 _ _ e6
    have e7 := g12 _ _ e7
    have e8 := g12 _ _ e8
    have e9 := g12 _ _ e9
    have e10 := g12 _ _ e10
    have e11 := g12 _ _ e11
    walk_at "rd"
    refine ⟨by show 2 ≤ sizeLine; decide, fun l13 nl13 => ?_⟩
    generalize eH : upd _ _ _ = T13
    obtain ⟨g13, e13⟩ := new_of eH nl13
    clear eH
    have e2 := g13 _ _ e2
    have e3 := g13 _ _ e3
    have e4 := g13 _ _ e4
    have e5 := g13 _ _ e5
    have e6 := g13 _ _ e6
    have e7 := g13 _ _ e7
    have e8 := g13 _ _ e8
    have e9 := g13 _ _ e9
    have e10 := g13 _ _ e10
    have e11 := g13 _ _ e11
    have e12 := g13 _ _ e12
    walk_at "rd"
    refine ⟨by show 4 ≤ sizeLine; decide, fun l14 nl14 => ?_⟩
    generalize eH : upd _ _ _ = T14
    obtain ⟨g14, e14⟩ := new_of eH nl14
    clear eH
    have e2 := g14 _ _ e2
    have e3 := g14 _ _ e3
    have e4 := g14 _ _ e4
    have e5 := g14 _ _ e5
    have e6 := g14 _ _ e6
    have e7 := g14 _ _ e7
    have e8 := g14 _ _ e8
    have e9 := g14 _ _ e9
    have e10 := g14 _ _ e10
    have e11 := g14 _ _ e11
    have e12 := g14 _ _ e12
    have e13 := g14 _ _ e13
    walk_at "rd"
    refine ⟨by show 2 ≤ sizeLine; decide, fun l15 nl15 => ?_⟩
    generalize eH : upd _ _ _ = T15
    obtain ⟨g15, e15⟩ := new_of eH nl15
    clear eH
    have e2 := g15 _ _ e2
    have e3 := g15 _ _ e3
    have e4 := g15 _ _ e4
    have e5 := g15 _ _ e5
    have e6 := g15 _ _ e6
    have e7 := g15 _ _ e7
    have e8 := g15 _ _ e8
    have e9 := g15 _ _ e9
    have e10 := g15 _ _ e10
    have e11 := g15 _ _ e11
    have e12 := g15 _ _ e12
    have e13 := g15 _ _ e13
    have e14 := g15 _ _ e14
    walk_at "rd"
    refine ⟨by show 4 ≤ sizeLine; decide, fun l16 nl16 => ?_⟩
    generalize eH : upd _ _ _ = T16
    obtain ⟨g16, e16⟩ := new_of eH nl16
    clear eH
    have e2 := g16 _ _ e2
    have e3 := g16 _ _ e3
    have e4 := g16 _ _ e4
    have e5 := g16 _ _ e5
    have e6 := g16 _ _ e6
    have e7 := g16 _ _ e7
    have e8 := g16 _ _ e8
    have e9 := g16 _ _ e9
    have e10 := g16 _ _ e10
    have e11 := g16 _ _ e11
    have e12 := g16 _ _ e12
    have e13 := g16 _ _ e13
    have e14 := g16 _ _ e14
    have e15 := g16 _ _ e15
    walk_at "rd"
    refine ⟨by show 1 ≤ sizeLine; decide, fun l17 nl17 => ?_⟩
    generalize eH : upd _ _ _ = T17
    obtain ⟨g17, e17⟩ := new_of eH nl17
    clear eH
    have e2 := g17 _ _ e2
    have e3 := g17 _ _ e3
    have e4 := g17 _ _ e4
    have e5 := g17 _ _ e5
    have e6 := g17 _ _ e6
    have e7 := g17 _ _ e7
    have e8 := g17 _ _ e8
    have e9 := g17 _ _ e9
    have e10 := g17 _ _ e10
    have e11 := g17 _ _ e11
    have e12 := g17 _ _ e12
    have e13 := g17 _ _ e13
    have e14 := g17 _ _ e14
    have e15 := g17 _ _ e15
    have e16 := g17 _ _ e16
    walk_at "rd"
    refine ⟨by show 4 ≤ sizeLine; decide, fun l18 nl18 => ?_⟩
    generalize eH : upd _ _ _ = T18
    obtain ⟨g18, e18⟩ := new_of eH nl18
    clear eH
    have e2 := g18 _ _ e2
    have e3 := g18 _ _ e3
    have e4 := g18 _ _ e4
    have e5 := g18 _ _ e5
    have e6 := g18 _ _ e6
    have e7 := g18 _ _ e7
    have e8 := g18 _ _ e8
    have e9 := g18 _ _ e9
    have e10 := g18 _ _ e10
    have e11 := g18 _ _ e11
    have e12 := g18 _ _ e12
    have e13 := g18 _ _ e13
    have e14 := g18 _ _ e14
    have e15 := g18 _ _ e15
    have e16 := g18 _ _ e16
    have e17 := g18 _ _ e17
    walk_at "rd"
    refine ⟨by show 4 ≤ sizeLine; decide, fun l19 nl19 => ?_⟩
    generalize eH : upd _ _ _ = T19
    obtain ⟨g19, e19⟩ := new_of eH nl19
    clear eH
    have e2 := g19 _ _ e2
    have e3 := g19 _ _ e3
    have e4 := g19 _ _ e4
    have e5 := g19 _ _ e5
    have e6 := g19 _ _ e6
    have e7 := g19 _ _ e7
    have e8 := g19 _ _ e8
    have e9 := g19 _ _ e9
    have e10 := g19 _ _ e10
    have e11 := g19 _ _ e11
    have e12 := g19 _ _ e12
    have e13 := g19 _ _ e13
    have e14 := g19 _ _ e14
    have e15 := g19 _ _ e15
    have e16 := g19 _ _ e16
    have e17 := g19 _ _ e17
    have e18 := g19 _ _ e18
    walk_at "rd"
    have kS : SltsK K T19 [.ref l3, .ref l5, .ref l7, .ref l9] ([⟨1, 2, 1, [1]⟩, ⟨0, 2, 0, [1, 1]⟩, ⟨0, 2, 0, [1, 1]⟩, ⟨1, 2, 1, [1]⟩] : List Slt) := (.cons ⟨l3, l2, rfl, sq_of e3, sq_of e2⟩ (.cons ⟨l5, l4, rfl, sq_of e5, sq_of e4⟩ (.cons ⟨l7, l6, rfl, sq_of e7, sq_of e6⟩ (.cons ⟨l9, l8, rfl, sq_of e9, sq_of e8⟩ .nil))))
    have kD : SltsK K T19 [.ref l12, .ref l14, .ref l16, .ref l18] ([⟨1, 2, 4, [4]⟩, ⟨0, 2, 4, [1, 4]⟩, ⟨0, 2, 4, [2, 4]⟩, ⟨1, 2, 7, [4]⟩] : List Slt) := (.cons ⟨l12, l11, rfl, sq_of e12, sq_of e11⟩ (.cons ⟨l14, l13, rfl, sq_of e14, sq_of e13⟩ (.cons ⟨l16, l15, rfl, sq_of e16, sq_of e15⟩ (.cons ⟨l18, l17, rfl, sq_of e18, sq_of e17⟩ .nil))))
    have wE : worksW w0 3 ([⟨1, 2, 1, [1]⟩, ⟨0, 2, 0, [1, 1]⟩, ⟨0, 2, 0, [1, 1]⟩, ⟨1, 2, 1, [1]⟩] : List Slt) = [⟨1, 2, 4, [4]⟩, ⟨0, 2, 4, [1, 4]⟩, ⟨0, 2, 4, [2, 4]⟩, ⟨1, 2, 7, [4]⟩] := by rfl
    have lE : ∀ s ∈ ([⟨1, 2, 1, [1]⟩, ⟨0, 2, 0, [1, 1]⟩, ⟨0, 2, 0, [1, 1]⟩, ⟨1, 2, 1, [1]⟩] : List Slt), s.Len := by
      intro s hs
      simp only [List.mem_cons, List.not_mem_nil, or_false] at hs
      rcases hs with rfl | rfl | rfl | rfl <;> exact ⟨rfl, by decide, by decide⟩
    have eS := e10
    have eD := e19
    refine ⟨l10, 3, _, _, rfl, sq_of eS, kS, lE, by decide, by decide, by decide, fun U1 u uw y1 nu f1 r1 => ?_⟩
    rw [wE] at r1
    have shD : Shows (.list (([⟨1, 2, 4, [4]⟩, ⟨0, 2, 4, [1, 4]⟩, ⟨0, 2, 4, [2, 4]⟩, ⟨1, 2, 7, [4]⟩] : List Slt).map sltD)) := by
      refine shows_of ?_ ?_ ?_
      · simp only [List.map_cons, List.map_nil, sltD, Lil, LilAll, and_true, intsD]
        decide
      · simp [sltD, intsD, PyData.depth, PyData.depthAll]
      · simp only [List.map_cons, List.map_nil, sltD, WK.cost, costAll, intsD]
        decide
    have lwS : ∀ w ∈ ([⟨1, 2, 4, [4]⟩, ⟨0, 2, 4, [1, 4]⟩, ⟨0, 2, 4, [2, 4]⟩, ⟨1, 2, 7, [4]⟩] : List Slt), w.slopes.length ≤ 1000 := by
      intro s hs
      simp only [List.mem_cons, List.not_mem_nil, or_false] at hs
      rcases hs with rfl | rfl | rfl | rfl <;> decide
    walk_at "rd"
    refine ⟨_, _, rfl, .lst (.inl (.inl f1)) (dp_slts r1), shD, ?_⟩
    generalize eQ : PyData.shown _ = shn
    walk_at "rd"
    refine ⟨_, _, rfl, .lst (.inl (.inl (y1 _ _ eD))) (dp_slts (kD.same y1)), shD, ?_⟩
    rw [eQ]
    clear eQ
    refine ⟨rfl, ?_⟩
    walk_at "rd"
    rw [show ∀ z : Str, (!decide (V.str z = V.str z)) = false by intro z; simp]
    refine ifF rfl ?_
    walk_at "rd"
    refine ⟨⟨_, .inl (.inl f1)⟩, fun D1 nD1 => lc_list (xs := uw) (fun j J => Same U1 J ∧ J D1 = some (.lst (((([⟨1, 2, 4, [4]⟩, ⟨0, 2, 4, [1, 4]⟩, ⟨0, 2, 4, [2, 4]⟩, ⟨1, 2, 7, [4]⟩] : List Slt).take j).map fun w => highW w 3).map V.int))) ⟨same_new nD1, upd_same⟩ (fun j J _ h => .inl (.inl (h.1 _ _ f1))) (fun j x J hx h => ?_) (fun J h => ?_)⟩
    · obtain ⟨sj, k1⟩ := h
      obtain ⟨wk, hwk, kx⟩ := (r1.same sj).get hx
      refine yesT rfl ?_
      walk_at "rd"
      refine ⟨x, 3, wk, rfl, kx, lwS wk (List.mem_of_getElem? hwk), fun J2 s2 => ?_⟩
      refine ⟨_, s2 _ _ k1, ?_, fun c o ec => ?_, ?_⟩
      · rw [List.length_map, List.length_map, List.length_take]
        exact many_small (Nat.le_trans (Nat.min_le_right _ _) (by decide))
      · rw [upd_ne (ne_of_none ec nD1)]
        exact s2 _ _ (sj _ _ ec)
      · rw [upd_same, take_snoc1 hwk, List.map_append, List.map_append]
        rfl
    obtain ⟨sj, k1⟩ := h
    rw [r1.len, List.take_length] at k1
    have hE : (([⟨1, 2, 4, [4]⟩, ⟨0, 2, 4, [1, 4]⟩, ⟨0, 2, 4, [2, 4]⟩, ⟨1, 2, 7, [4]⟩] : List Slt).map fun w => highW w 3) = [1, 1, 1, 1] := by rfl
    rw [hE] at k1
    have shH : Shows (.list (intsD [1, 1, 1, 1])) := shows_ints (by decide) (by intro n hn; simp at hn; subst hn; decide)
    refine ⟨_, _, rfl, .lst (.inl (.inl k1)) (dp_ints _), shH, ?_⟩
    generalize eQ : PyData.shown _ = shn
    walk_at "rd"
    refine ⟨by show 4 ≤ sizeLine; decide, fun lh nlh => ?_⟩
    generalize eH : upd _ _ _ = U2
    obtain ⟨y2, f2⟩ := new_of eH nlh
    clear eH
    have f2 : U2 lh = some (.lst (([1, 1, 1, 1] : List Int).map V.int)) := f2
    refine ⟨_, _, rfl, .lst (.inl (.inl f2)) (dp_ints _), shH, ?_⟩
    rw [eQ]
    clear eQ
    refine ⟨rfl, ?_⟩
    walk_at "rd"
    rw [show ∀ z : Str, (!decide (V.str z = V.str z)) = false by intro z; simp]
    refine ite2 (fun c => absurd c (by simp)) (fun _ => ?_)
    dsimp only [tNext]
    have y12 := (y1.trans sj).trans y2
    walk_at "rd"
    refine ⟨l10, 3, _, _, rfl, sq_of (y12 _ _ eS), kS.same y12, lE, by decide, by decide, by decide, fun U3 l3 y3 n3 f3 => ?_⟩
    rw [wE] at f3
    have y23 := (sj.trans y2).trans y3
    have f4 := y23 _ _ f1
    have r4 := r1.same y23
    walk_at "rd"
    refine ⟨⟨_, .inl (.inl f4)⟩, fun D2 nD2 => lc_list (xs := uw) (fun j J => Same U3 J ∧ J D2 = some (.lst (((([⟨1, 2, 4, [4]⟩, ⟨0, 2, 4, [1, 4]⟩, ⟨0, 2, 4, [2, 4]⟩, ⟨1, 2, 7, [4]⟩] : List Slt).take j).map lowW).map V.int))) ⟨same_new nD2, upd_same⟩ (fun j J _ h => .inl (.inl (h.1 _ _ f4))) (fun j x J hx h => ?_) (fun J h => ?_)⟩
    · obtain ⟨sj, k1⟩ := h
      obtain ⟨wk, hwk, kx⟩ := (r4.same sj).get hx
      refine yesT rfl ?_
      walk_at "rd"
      refine ⟨x, wk, rfl, kx, lwS wk (List.mem_of_getElem? hwk), fun J2 s2 => ?_⟩
      refine ⟨_, s2 _ _ k1, ?_, fun c o ec => ?_, ?_⟩
      · rw [List.length_map, List.length_map, List.length_take]
        exact many_small (Nat.le_trans (Nat.min_le_right _ _) (by decide))
      · rw [upd_ne (ne_of_none ec nD2)]
        exact s2 _ _ (sj _ _ ec)
      · rw [upd_same, take_snoc1 hwk, List.map_append, List.map_append]
        rfl
    obtain ⟨sj3, k3⟩ := h
    rw [r4.len, List.take_length] at k3
    have hL : ([⟨1, 2, 4, [4]⟩, ⟨0, 2, 4, [1, 4]⟩, ⟨0, 2, 4, [2, 4]⟩, ⟨1, 2, 7, [4]⟩] : List Slt).map lowW = [1, 0, 0, 1] := by rfl
    have hM : ([⟨1, 2, 4, [4]⟩, ⟨0, 2, 4, [1, 4]⟩, ⟨0, 2, 4, [2, 4]⟩, ⟨1, 2, 7, [4]⟩] : List Slt).map leastW = [4, 4, 4, 7] := by rfl
    rw [hL] at k3
    rw [hM] at f3
    walk_at "rd"
    refine ⟨by show 0 ≤ sizeLine; decide, fun lx nlx => ?_⟩
    generalize eH : upd _ _ _ = U4
    obtain ⟨y4, f5⟩ := new_of eH nlx
    clear eH
    walk_at "rd"
    refine ⟨lx, 5, [], [], rfl, sq_of f5, .nil, by simp, by decide, by decide, by decide, fun U5 y5 => ?_⟩
    have l0 : leastW (lastW w0 5 []) = 0 := rfl
    rw [l0]
    walk_at "rd"
    refine ⟨by show 3 ≤ sizeLine; decide, fun ly nly => ?_⟩
    generalize eH : upd _ _ _ = U6
    obtain ⟨y6, f6⟩ := new_of eH nly
    clear eH
    have y36 := ((sj3.trans y4).trans y5).trans y6
    have k6 := y6 _ _ (y5 _ _ (y4 _ _ k3))
    have f36 := y36 _ _ f3
    have shF : Shows (.list [.list (intsD [4, 4, 4, 7]), .list (intsD [1, 0, 0, 1]), .int 0]) := by
      refine shows_of ?_ ?_ ?_
      · simp only [List.map_cons, List.map_nil, Lil, LilAll, and_true, intsD]
        decide
      · simp [intsD, PyData.depth, PyData.depthAll]
      · simp only [List.map_cons, List.map_nil, WK.cost, costAll, intsD]
        decide
    walk_at "rd"
    refine ⟨_, _, rfl, .lst (.inl (.inl f6)) (.cons (.lst (.inl (.inl f36)) (dp_ints _)) (.cons (.lst (.inl (.inl k6)) (dp_ints _)) (.cons (.int _) .nil))), shF, ?_⟩
    generalize eQ : PyData.shown _ = shn
    walk_at "rd"
    refine ⟨by show 4 ≤ sizeLine; decide, fun lz nlz => ?_⟩
    generalize eH : upd _ _ _ = U7
    obtain ⟨y7, f7⟩ := new_of eH nlz
    clear eH
    walk_at "rd"
    refine ⟨by show 4 ≤ sizeLine; decide, fun lv nlv => ?_⟩
    generalize eH : upd _ _ _ = U8
    obtain ⟨y8, f8⟩ := new_of eH nlv
    clear eH
    have f7 := y8 _ _ f7
    walk_at "rd"
    refine ⟨by show 3 ≤ sizeLine; decide, fun lu nlu => ?_⟩
    generalize eH : upd _ _ _ = U9
    obtain ⟨y9, f9⟩ := new_of eH nlu
    clear eH
    have f7 : U9 lz = some (.lst (([4, 4, 4, 7] : List Int).map V.int)) := y9 _ _ f7
    have f8 : U9 lv = some (.lst (([1, 0, 0, 1] : List Int).map V.int)) := y9 _ _ f8
    refine ⟨_, _, rfl, .lst (.inl (.inl f9)) (.cons (.lst (.inl (.inl f7)) (dp_ints _)) (.cons (.lst (.inl (.inl f8)) (dp_ints _)) (.cons (.int _) .nil))), shF, ?_⟩
    rw [eQ]
    refine ⟨rfl, ?_⟩
    rw [show ∀ z : Str, decide (V.str z = V.str z) = true by intro z; simp]
    exact q _
end
end K14
set_option Elab.async false
set_option linter.all false
set_option maxRecDepth 100000
namespace K14
open PySem PySem.Spec PyProof.Rows L2 WK
theorem all_mk {l : PySem.W.OpenLaw} {w : World} {K : PySem.W.Frag} {h : Heap} {mg : Str → Option Value} {fa fCo fWo fWi fSu fLo fHi fLe fBo fHw fHs fHe fAf fWs fLc fLt fEn fS fP fO fSl fG fGo fSC fWt fLw fHg fLa : Addr} (X : K.In h) (G : h.Ns mainGlobals mg) (hfa : mg "law" = some (.ref fa))
    {odCo anCo odWo anWo odWi anWi odSu anSu odLo anLo odHi anHi odLe anLe odBo anBo odHw anHw odHs anHs odHe anHe odAf anAf odWs anWs odLc anLc odLt anLt odEn anEn odS anS odP anP odO anO odSl anSl odG anG odGo anGo odSC anSC odWt anWt odLw anLw odHg anHg odLa anLa : Option Addr} {slCo slWo slWi slSu slLo slHi slLe slBo slHw slHs slHe slAf slWs slLc slLt slEn slS slP slO slSl slG slGo slSC slWt slLw slHg slLa : Array (Option Value)} {ocCo kVCo dcCo pmCo cdCo ctCo ocWo kVWo dcWo pmWo cdWo ctWo ocWi kVWi dcWi pmWi cdWi ctWi ocSu kVSu dcSu pmSu cdSu ctSu ocLo kVLo dcLo pmLo cdLo ctLo ocHi kVHi dcHi pmHi cdHi ctHi ocLe kVLe dcLe pmLe cdLe ctLe ocBo kVBo dcBo pmBo cdBo ctBo ocHw kVHw dcHw pmHw cdHw ctHw ocHs kVHs dcHs pmHs cdHs ctHs ocHe kVHe dcHe pmHe cdHe ctHe ocAf kVAf dcAf pmAf cdAf ctAf ocWs kVWs dcWs pmWs cdWs ctWs ocLc kVLc dcLc pmLc cdLc ctLc ocLt kVLt dcLt pmLt cdLt ctLt ocEn kVEn dcEn pmEn cdEn ctEn ocS kVS dcS pmS cdS ctS ocP kVP dcP pmP cdP ctP ocO kVO dcO pmO cdO ctO ocSl kVSl dcSl pmSl cdSl ctSl ocG kVG dcG pmG cdG ctG ocGo kVGo dcGo pmGo cdGo ctGo ocSC kVSC dcSC pmSC cdSC ctSC ocWt kVWt dcWt pmWt cdWt ctWt ocLw kVLw dcLw pmLw cdLw ctLw ocHg kVHg dcHg pmHg cdHg ctHg ocLa kVLa dcLa pmLa cdLa ctLa : Value}
    (aCo : PySem.W.nsIn K mainGlobals "slot_cost" = some (some (.ref fCo))) (lCo : K.lookup fCo = some ⟨ocCo, odCo, .func (PySem.W.fnOf "slot_cost" "slot_cost" (defArgs sCo) (defBody sCo) (defScope sCo) .none kVCo dcCo pmCo anCo cdCo ctCo), slCo⟩)
      (cCo : PySem.W.codeIn K cdCo "slot_cost" = true) (kCo : PySem.W.keepIn K (.ref fCo) = true)
    (aWo : PySem.W.nsIn K mainGlobals "worth_at" = some (some (.ref fWo))) (lWo : K.lookup fWo = some ⟨ocWo, odWo, .func (PySem.W.fnOf "worth_at" "worth_at" (defArgs sWo) (defBody sWo) (defScope sWo) .none kVWo dcWo pmWo anWo cdWo ctWo), slWo⟩)
      (cWo : PySem.W.codeIn K cdWo "worth_at" = true) (kWo : PySem.W.keepIn K (.ref fWo) = true)
    (aWi : PySem.W.nsIn K mainGlobals "slopes_within" = some (some (.ref fWi))) (lWi : K.lookup fWi = some ⟨ocWi, odWi, .func (PySem.W.fnOf "slopes_within" "slopes_within" (defArgs sWi) (defBody sWi) (defScope sWi) .none kVWi dcWi pmWi anWi cdWi ctWi), slWi⟩)
      (cWi : PySem.W.codeIn K cdWi "slopes_within" = true) (kWi : PySem.W.keepIn K (.ref fWi) = true)
    (aSu : PySem.W.nsIn K mainGlobals "sum_of" = some (some (.ref fSu))) (lSu : K.lookup fSu = some ⟨ocSu, odSu, .func (PySem.W.fnOf "sum_of" "sum_of" (defArgs sSu) (defBody sSu) (defScope sSu) .none kVSu dcSu pmSu anSu cdSu ctSu), slSu⟩)
      (cSu : PySem.W.codeIn K cdSu "sum_of" = true) (kSu : PySem.W.keepIn K (.ref fSu) = true)
    (aLo : PySem.W.nsIn K mainGlobals "low_of" = some (some (.ref fLo))) (lLo : K.lookup fLo = some ⟨ocLo, odLo, .func (PySem.W.fnOf "low_of" "low_of" (defArgs sLo) (defBody sLo) (defScope sLo) .none kVLo dcLo pmLo anLo cdLo ctLo), slLo⟩)
      (cLo : PySem.W.codeIn K cdLo "low_of" = true) (kLo : PySem.W.keepIn K (.ref fLo) = true)
    (aHi : PySem.W.nsIn K mainGlobals "high_of" = some (some (.ref fHi))) (lHi : K.lookup fHi = some ⟨ocHi, odHi, .func (PySem.W.fnOf "high_of" "high_of" (defArgs sHi) (defBody sHi) (defScope sHi) .none kVHi dcHi pmHi anHi cdHi ctHi), slHi⟩)
      (cHi : PySem.W.codeIn K cdHi "high_of" = true) (kHi : PySem.W.keepIn K (.ref fHi) = true)
    (aLe : PySem.W.nsIn K mainGlobals "least_worth" = some (some (.ref fLe))) (lLe : K.lookup fLe = some ⟨ocLe, odLe, .func (PySem.W.fnOf "least_worth" "least_worth" (defArgs sLe) (defBody sLe) (defScope sLe) .none kVLe dcLe pmLe anLe cdLe ctLe), slLe⟩)
      (cLe : PySem.W.codeIn K cdLe "least_worth" = true) (kLe : PySem.W.keepIn K (.ref fLe) = true)
    (aBo : PySem.W.nsIn K mainGlobals "bounded" = some (some (.ref fBo))) (lBo : K.lookup fBo = some ⟨ocBo, odBo, .func (PySem.W.fnOf "bounded" "bounded" (defArgs sBo) (defBody sBo) (defScope sBo) .none kVBo dcBo pmBo anBo cdBo ctBo), slBo⟩)
      (cBo : PySem.W.codeIn K cdBo "bounded" = true) (kBo : PySem.W.keepIn K (.ref fBo) = true)
    (aHw : PySem.W.nsIn K mainGlobals "held_worth" = some (some (.ref fHw))) (lHw : K.lookup fHw = some ⟨ocHw, odHw, .func (PySem.W.fnOf "held_worth" "held_worth" (defArgs sHw) (defBody sHw) (defScope sHw) .none kVHw dcHw pmHw anHw cdHw ctHw), slHw⟩)
      (cHw : PySem.W.codeIn K cdHw "held_worth" = true) (kHw : PySem.W.keepIn K (.ref fHw) = true)
    (aHs : PySem.W.nsIn K mainGlobals "held_slopes" = some (some (.ref fHs))) (lHs : K.lookup fHs = some ⟨ocHs, odHs, .func (PySem.W.fnOf "held_slopes" "held_slopes" (defArgs sHs) (defBody sHs) (defScope sHs) .none kVHs dcHs pmHs anHs cdHs ctHs), slHs⟩)
      (cHs : PySem.W.codeIn K cdHs "held_slopes" = true) (kHs : PySem.W.keepIn K (.ref fHs) = true)
    (aHe : PySem.W.nsIn K mainGlobals "held" = some (some (.ref fHe))) (lHe : K.lookup fHe = some ⟨ocHe, odHe, .func (PySem.W.fnOf "held" "held" (defArgs sHe) (defBody sHe) (defScope sHe) .none kVHe dcHe pmHe anHe cdHe ctHe), slHe⟩)
      (cHe : PySem.W.codeIn K cdHe "held" = true) (kHe : PySem.W.keepIn K (.ref fHe) = true)
    (aAf : PySem.W.nsIn K mainGlobals "work_after" = some (some (.ref fAf))) (lAf : K.lookup fAf = some ⟨ocAf, odAf, .func (PySem.W.fnOf "work_after" "work_after" (defArgs sAf) (defBody sAf) (defScope sAf) .none kVAf dcAf pmAf anAf cdAf ctAf), slAf⟩)
      (cAf : PySem.W.codeIn K cdAf "work_after" = true) (kAf : PySem.W.keepIn K (.ref fAf) = true)
    (aWs : PySem.W.nsIn K mainGlobals "works_of" = some (some (.ref fWs))) (lWs : K.lookup fWs = some ⟨ocWs, odWs, .func (PySem.W.fnOf "works_of" "works_of" (defArgs sWs) (defBody sWs) (defScope sWs) .none kVWs dcWs pmWs anWs cdWs ctWs), slWs⟩)
      (cWs : PySem.W.codeIn K cdWs "works_of" = true) (kWs : PySem.W.keepIn K (.ref fWs) = true)
    (aLc : PySem.W.nsIn K mainGlobals "least_costs" = some (some (.ref fLc))) (lLc : K.lookup fLc = some ⟨ocLc, odLc, .func (PySem.W.fnOf "least_costs" "least_costs" (defArgs sLc) (defBody sLc) (defScope sLc) .none kVLc dcLc pmLc anLc cdLc ctLc), slLc⟩)
      (cLc : PySem.W.codeIn K cdLc "least_costs" = true) (kLc : PySem.W.keepIn K (.ref fLc) = true)
    (aLt : PySem.W.nsIn K mainGlobals "least_cost" = some (some (.ref fLt))) (lLt : K.lookup fLt = some ⟨ocLt, odLt, .func (PySem.W.fnOf "least_cost" "least_cost" (defArgs sLt) (defBody sLt) (defScope sLt) .none kVLt dcLt pmLt anLt cdLt ctLt), slLt⟩)
      (cLt : PySem.W.codeIn K cdLt "least_cost" = true) (kLt : PySem.W.keepIn K (.ref fLt) = true)
    (aEn : PySem.W.nsIn K mainGlobals "ended" = some (some (.ref fEn))) (lEn : K.lookup fEn = some ⟨ocEn, odEn, .func (PySem.W.fnOf "ended" "ended" (defArgs sEn) (defBody sEn) (defScope sEn) .none kVEn dcEn pmEn anEn cdEn ctEn), slEn⟩)
      (cEn : PySem.W.codeIn K cdEn "ended" = true) (kEn : PySem.W.keepIn K (.ref fEn) = true)
    (aS : PySem.W.nsIn K mainGlobals "_law_source" = some (some (.ref fS))) (lS : K.lookup fS = some ⟨ocS, odS, .func (PySem.W.fnOf "_law_source" "_law_source" (defArgs sSource) (defBody sSource) (defScope sSource) .none kVS dcS pmS anS cdS ctS), slS⟩)
      (cS : PySem.W.codeIn K cdS "_law_source" = true) (kS : PySem.W.keepIn K (.ref fS) = true)
    (aP : PySem.W.nsIn K mainGlobals "_law_pick" = some (some (.ref fP))) (lP : K.lookup fP = some ⟨ocP, odP, .func (PySem.W.fnOf "_law_pick" "_law_pick" (defArgs sPick) (defBody sPick) (defScope sPick) .none kVP dcP pmP anP cdP ctP), slP⟩)
      (cP : PySem.W.codeIn K cdP "_law_pick" = true) (kP : PySem.W.keepIn K (.ref fP) = true)
    (aO : PySem.W.nsIn K mainGlobals "_law_of" = some (some (.ref fO))) (lO : K.lookup fO = some ⟨ocO, odO, .func (PySem.W.fnOf "_law_of" "_law_of" (defArgs sOf) (defBody sOf) (defScope sOf) .none kVO dcO pmO anO cdO ctO), slO⟩)
      (cO : PySem.W.codeIn K cdO "_law_of" = true) (kO : PySem.W.keepIn K (.ref fO) = true)
    (aSl : PySem.W.nsIn K mainGlobals "_law_draw_slots" = some (some (.ref fSl))) (lSl : K.lookup fSl = some ⟨ocSl, odSl, .func (PySem.W.fnOf "_law_draw_slots" "_law_draw_slots" (defArgs sSlots) (defBody sSlots) (defScope sSlots) .none kVSl dcSl pmSl anSl cdSl ctSl), slSl⟩)
      (cSl : PySem.W.codeIn K cdSl "_law_draw_slots" = true) (kSl : PySem.W.keepIn K (.ref fSl) = true)
    (aG : PySem.W.nsIn K mainGlobals "_law_great_slots" = some (some (.ref fG))) (lG : K.lookup fG = some ⟨ocG, odG, .func (PySem.W.fnOf "_law_great_slots" "_law_great_slots" (defArgs sGreat) (defBody sGreat) (defScope sGreat) .none kVG dcG pmG anG cdG ctG), slG⟩)
      (cG : PySem.W.codeIn K cdG "_law_great_slots" = true) (kG : PySem.W.keepIn K (.ref fG) = true)
    (aGo : PySem.W.nsIn K mainGlobals "_law_going" = some (some (.ref fGo))) (lGo : K.lookup fGo = some ⟨ocGo, odGo, .func (PySem.W.fnOf "_law_going" "_law_going" (defArgs sGo) (defBody sGo) (defScope sGo) .none kVGo dcGo pmGo anGo cdGo ctGo), slGo⟩)
      (cGo : PySem.W.codeIn K cdGo "_law_going" = true) (kGo : PySem.W.keepIn K (.ref fGo) = true)
    (aSC : PySem.W.nsIn K mainGlobals "_law_slot_costs" = some (some (.ref fSC))) (lSC : K.lookup fSC = some ⟨ocSC, odSC, .func (PySem.W.fnOf "_law_slot_costs" "_law_slot_costs" (defArgs sSC) (defBody sSC) (defScope sSC) .none kVSC dcSC pmSC anSC cdSC ctSC), slSC⟩)
      (cSC : PySem.W.codeIn K cdSC "_law_slot_costs" = true) (kSC : PySem.W.keepIn K (.ref fSC) = true)
    (aWt : PySem.W.nsIn K mainGlobals "_law_work_told" = some (some (.ref fWt))) (lWt : K.lookup fWt = some ⟨ocWt, odWt, .func (PySem.W.fnOf "_law_work_told" "_law_work_told" (defArgs sWt) (defBody sWt) (defScope sWt) .none kVWt dcWt pmWt anWt cdWt ctWt), slWt⟩)
      (cWt : PySem.W.codeIn K cdWt "_law_work_told" = true) (kWt : PySem.W.keepIn K (.ref fWt) = true)
    (aLw : PySem.W.nsIn K mainGlobals "_law_low" = some (some (.ref fLw))) (lLw : K.lookup fLw = some ⟨ocLw, odLw, .func (PySem.W.fnOf "_law_low" "_law_low" (defArgs sLw) (defBody sLw) (defScope sLw) .none kVLw dcLw pmLw anLw cdLw ctLw), slLw⟩)
      (cLw : PySem.W.codeIn K cdLw "_law_low" = true) (kLw : PySem.W.keepIn K (.ref fLw) = true)
    (aHg : PySem.W.nsIn K mainGlobals "_law_high" = some (some (.ref fHg))) (lHg : K.lookup fHg = some ⟨ocHg, odHg, .func (PySem.W.fnOf "_law_high" "_law_high" (defArgs sHg) (defBody sHg) (defScope sHg) .none kVHg dcHg pmHg anHg cdHg ctHg), slHg⟩)
      (cHg : PySem.W.codeIn K cdHg "_law_high" = true) (kHg : PySem.W.keepIn K (.ref fHg) = true)
    (aLa : PySem.W.nsIn K mainGlobals "law" = some (some (.ref fLa))) (lLa : K.lookup fLa = some ⟨ocLa, odLa, .func (PySem.W.fnOf "law" "law" (defArgs sLaw) (defBody sLaw) (defScope sLaw) .none kVLa dcLa pmLa anLa cdLa ctLa), slLa⟩)
      (cLa : PySem.W.codeIn K cdLa "law" = true) (kLa : PySem.W.keepIn K (.ref fLa) = true)
    (zint : PySem.W.nsIn K mainGlobals "int" = some none)
    (zabs : PySem.W.nsIn K mainGlobals "abs" = some none)
    (zlen : PySem.W.nsIn K mainGlobals "len" = some none)
    (zmax : PySem.W.nsIn K mainGlobals "max" = some none)
    (zmin : PySem.W.nsIn K mainGlobals "min" = some none)
    (ztuple : PySem.W.nsIn K mainGlobals "tuple" = some none)
    (zrange : PySem.W.nsIn K mainGlobals "range" = some none)
    (zzip : PySem.W.nsIn K mainGlobals "zip" = some none)
    (zenumerate : PySem.W.nsIn K mainGlobals "enumerate" = some none)
    (zrepr : PySem.W.nsIn K mainGlobals "repr" = some none)
    (zsum : PySem.W.nsIn K mainGlobals "sum" = some none)
    (zall : PySem.W.nsIn K mainGlobals "all" = some none)
    (zany : PySem.W.nsIn K mainGlobals "any" = some none)
    (zsorted : PySem.W.nsIn K mainGlobals "sorted" = some none)
    (zlist : PySem.W.nsIn K mainGlobals "list" = some none)
    {aNOTHING aE : Addr} {odN odE : Option Addr} {nn ne : Nat} {slN slE : Array (Option Value)} {tk1 tk2 tk3 : Tok}
    (aN : PySem.W.nsIn K mainGlobals "NOTHING" = some (some (.ref aNOTHING))) (lN : K.lookup aNOTHING = some ⟨.type "tuple", odN, .seq #[.int 0 tk1, .int 0 tk2, .int 0 tk3, .ref aE] nn, slN⟩)
    (lE : K.lookup aE = some ⟨.type "tuple", odE, .seq #[] ne, slE⟩)
    : ∃ fd : FuncData, (∀ (s : Shared) (v : Value), BindsTo s fd ⟨[v], []⟩ [("script", v)]) ∧ ∀ base : Heap, K.In base → base.Ns mainGlobals mg → FnG l.prog w K mg base 10 fa fd ["script"] (spLaw K) := by
  have vN : Vals [.int 0, .int 0, .int 0, .ref aE] [.int 0 tk1, .int 0 tk2, .int 0 tk3, .ref aE] := .cons ⟨_, rfl⟩ (.cons ⟨_, rfl⟩ (.cons ⟨_, rfl⟩ (.cons rfl .nil)))
  have e := hfa.symm.trans (PySem.W.mg_of X G aLa)
  cases e
  have FCo := fun_mk (st := sCo) lCo cCo kCo
  have FWo := fun_mk (st := sWo) lWo cWo kWo
  have FWi := fun_mk (st := sWi) lWi cWi kWi
  have FSu := fun_mk (st := sSu) lSu cSu kSu
  have FLo := fun_mk (st := sLo) lLo cLo kLo
  have FHi := fun_mk (st := sHi) lHi cHi kHi
  have FLe := fun_mk (st := sLe) lLe cLe kLe
  have FBo := fun_mk (st := sBo) lBo cBo kBo
  have FHw := fun_mk (st := sHw) lHw cHw kHw
  have FHs := fun_mk (st := sHs) lHs cHs kHs
  have FHe := fun_mk (st := sHe) lHe cHe kHe
  have FAf := fun_mk (st := sAf) lAf cAf kAf
  have FWs := fun_mk (st := sWs) lWs cWs kWs
  have FLc := fun_mk (st := sLc) lLc cLc kLc
  have FLt := fun_mk (st := sLt) lLt cLt kLt
  have FEn := fun_mk (st := sEn) lEn cEn kEn
  have FS := fun_mk (st := sSource) lS cS kS
  have FP := fun_mk (st := sPick) lP cP kP
  have FO := fun_mk (st := sOf) lO cO kO
  have FSl := fun_mk (st := sSlots) lSl cSl kSl
  have FG := fun_mk (st := sGreat) lG cG kG
  have FGo := fun_mk (st := sGo) lGo cGo kGo
  have FSC := fun_mk (st := sSC) lSC cSC kSC
  have FWt := fun_mk (st := sWt) lWt cWt kWt
  have FLw := fun_mk (st := sLw) lLw cLw kLw
  have FHg := fun_mk (st := sHg) lHg cHg kHg
  have FLa := fun_mk (st := sLaw) lLa cLa kLa
  have bCo := FCo.binds (ps := ["slot", "x"]) fun _ _ _ _ _ _ us hl => match us, hl with | [_, _], _ => rfl
  have gCo := PySem.W.mg_of X G aCo
  have bWo := FWo.binds (ps := ["work", "x"]) fun _ _ _ _ _ _ us hl => match us, hl with | [_, _], _ => rfl
  have gWo := PySem.W.mg_of X G aWo
  have bWi := FWi.binds (ps := ["work", "low", "high"]) fun _ _ _ _ _ _ us hl => match us, hl with | [_, _, _], _ => rfl
  have gWi := PySem.W.mg_of X G aWi
  have bSu := FSu.binds (ps := ["one", "other"]) fun _ _ _ _ _ _ us hl => match us, hl with | [_, _], _ => rfl
  have gSu := PySem.W.mg_of X G aSu
  have bLo := FLo.binds (ps := ["work"]) fun _ _ _ _ _ _ us hl => match us, hl with | [_], _ => rfl
  have gLo := PySem.W.mg_of X G aLo
  have bHi := FHi.binds (ps := ["work", "b"]) fun _ _ _ _ _ _ us hl => match us, hl with | [_, _], _ => rfl
  have gHi := PySem.W.mg_of X G aHi
  have bLe := FLe.binds (ps := ["work"]) fun _ _ _ _ _ _ us hl => match us, hl with | [_], _ => rfl
  have gLe := PySem.W.mg_of X G aLe
  have bBo := FBo.binds (ps := ["slopes", "b"]) fun _ _ _ _ _ _ us hl => match us, hl with | [_, _], _ => rfl
  have gBo := PySem.W.mg_of X G aBo
  have bHw := FHw.binds (ps := ["work", "b", "x"]) fun _ _ _ _ _ _ us hl => match us, hl with | [_, _, _], _ => rfl
  have gHw := PySem.W.mg_of X G aHw
  have bHs := FHs.binds (ps := ["work", "b", "low", "high"]) fun _ _ _ _ _ _ us hl => match us, hl with | [_, _, _, _], _ => rfl
  have gHs := PySem.W.mg_of X G aHs
  have bHe := FHe.binds (ps := ["work", "b", "low", "high"]) fun _ _ _ _ _ _ us hl => match us, hl with | [_, _, _, _], _ => rfl
  have gHe := PySem.W.mg_of X G aHe
  have bAf := FAf.binds (ps := ["work", "slot", "b"]) fun _ _ _ _ _ _ us hl => match us, hl with | [_, _, _], _ => rfl
  have gAf := PySem.W.mg_of X G aAf
  have bWs := FWs.binds (ps := ["slots", "b"]) fun _ _ _ _ _ _ us hl => match us, hl with | [_, _], _ => rfl
  have gWs := PySem.W.mg_of X G aWs
  have bLc := FLc.binds (ps := ["slots", "b"]) fun _ _ _ _ _ _ us hl => match us, hl with | [_, _], _ => rfl
  have gLc := PySem.W.mg_of X G aLc
  have bLt := FLt.binds (ps := ["slots", "b"]) fun _ _ _ _ _ _ us hl => match us, hl with | [_, _], _ => rfl
  have gLt := PySem.W.mg_of X G aLt
  have bEn := FEn.binds (ps := ["slots", "x"]) fun _ _ _ _ _ _ us hl => match us, hl with | [_, _], _ => rfl
  have gEn := PySem.W.mg_of X G aEn
  have bS := FS.binds (ps := ["script"]) fun _ _ _ _ _ _ us hl => match us, hl with | [_], _ => rfl
  have gS := PySem.W.mg_of X G aS
  have bP := FP.binds (ps := ["source", "many"]) fun _ _ _ _ _ _ us hl => match us, hl with | [_, _], _ => rfl
  have gP := PySem.W.mg_of X G aP
  have bO := FO.binds (ps := ["source", "some"]) fun _ _ _ _ _ _ us hl => match us, hl with | [_, _], _ => rfl
  have gO := PySem.W.mg_of X G aO
  have bSl := FSl.binds (ps := ["source", "ticks", "most"]) fun _ _ _ _ _ _ us hl => match us, hl with | [_, _, _], _ => rfl
  have gSl := PySem.W.mg_of X G aSl
  have bG := FG.binds (ps := ["source", "ticks", "most"]) fun _ _ _ _ _ _ us hl => match us, hl with | [_, _, _], _ => rfl
  have gG := PySem.W.mg_of X G aG
  have bGo := FGo.binds (ps := ["costs", "b"]) fun _ _ _ _ _ _ us hl => match us, hl with | [_, _], _ => rfl
  have gGo := PySem.W.mg_of X G aGo
  have bSC := FSC.binds (ps := ["slots"]) fun _ _ _ _ _ _ us hl => match us, hl with | [_], _ => rfl
  have gSC := PySem.W.mg_of X G aSC
  have bWt := FWt.binds (ps := ["here"]) fun _ _ _ _ _ _ us hl => match us, hl with | [_], _ => rfl
  have gWt := PySem.W.mg_of X G aWt
  have bLw := FLw.binds (ps := ["here"]) fun _ _ _ _ _ _ us hl => match us, hl with | [_], _ => rfl
  have gLw := PySem.W.mg_of X G aLw
  have bHg := FHg.binds (ps := ["here", "b"]) fun _ _ _ _ _ _ us hl => match us, hl with | [_, _], _ => rfl
  have gHg := PySem.W.mg_of X G aHg
  have B : Blt mg := { int := PySem.W.mg_none_of X G zint, abs := PySem.W.mg_none_of X G zabs, len := PySem.W.mg_none_of X G zlen, max := PySem.W.mg_none_of X G zmax, min := PySem.W.mg_none_of X G zmin, tuple := PySem.W.mg_none_of X G ztuple, range := PySem.W.mg_none_of X G zrange, zip := PySem.W.mg_none_of X G zzip, enumerate := PySem.W.mg_none_of X G zenumerate, repr := PySem.W.mg_none_of X G zrepr, sum := PySem.W.mg_none_of X G zsum, all := PySem.W.mg_none_of X G zall, any := PySem.W.mg_none_of X G zany, sorted := PySem.W.mg_none_of X G zsorted, list := PySem.W.mg_none_of X G zlist }
  have D : Txt K mg fP fO fS fSl fG fSC fGo fWt fLw fHg _ _ _ _ _ _ _ _ _ _ := { toDrw := { FP := FP, bP := bP, gP := gP, FO := FO, bO := bO, gO := gO }, FS := FS, bS := bS, gS := gS, FSl := FSl, bSl := bSl, gSl := gSl, FG := FG, bG := bG, gG := gG, FSC := FSC, bSC := bSC, gSC := gSC, FGo := FGo, bGo := bGo, gGo := gGo, FWt := FWt, bWt := bWt, gWt := gWt, FLw := FLw, bLw := bLw, gLw := gLw, FHg := FHg, bHg := bHg, gHg := gHg }
  have W : Wks K mg fCo fWo fWi fSu fLo fHi fLe fBo fHw fHs fHe fAf fWs fLc fLt fEn aNOTHING aE _ _ _ _ _ _ _ _ _ _ _ _ _ _ _ _ := { FCo := FCo, bCo := bCo, gCo := gCo, FWo := FWo, bWo := bWo, gWo := gWo, FWi := FWi, bWi := bWi, gWi := gWi, FSu := FSu, bSu := bSu, gSu := gSu, FLo := FLo, bLo := bLo, gLo := gLo, FHi := FHi, bHi := bHi, gHi := gHi, FLe := FLe, bLe := bLe, gLe := gLe, FBo := FBo, bBo := bBo, gBo := gBo, FHw := FHw, bHw := bHw, gHw := gHw, FHs := FHs, bHs := bHs, gHs := gHs, FHe := FHe, bHe := bHe, gHe := gHe, FAf := FAf, bAf := bAf, gAf := gAf, FWs := FWs, bWs := bWs, gWs := gWs, FLc := FLc, bLc := bLc, gLc := gLc, FLt := FLt, bLt := bLt, gLt := gLt, FEn := FEn, bEn := bEn, gEn := gEn, gNOTHING := PySem.W.mg_of X G aN, nN := fun H => .inr ⟨_, _, _, lN, rfl, rfl, by show 4 ≤ sizeLine; decide, vN⟩, nE := fun H => .inr ⟨_, _, _, lE, rfl, rfl, by show 0 ≤ sizeLine; decide, .nil⟩ }
  exact ⟨PySem.W.fnOf "law" "law" (defArgs sLaw) (defBody sLaw) (defScope sLaw) .none kVLa dcLa pmLa anLa cdLa ctLa, fun s v => .of_eq rfl, fun base _ _ => ok_law FLa D W B⟩
end K14
open PySem PySem.W PyProof.Rows
set_option maxRecDepth 100000 in
set_option maxHeartbeats 0 in
theorem PySem.Challenge.cw_wakedenough_k14_whole_works_of_slots_holds : PySem.Challenge.rw_wakedenough_k14_whole_works_of_slots.Holds := by
  w_on; o_law; k_head; (case hw => w_witness2)
  k_fill
  refine WK.walk_ofG (l := PySem.Challenge.rw_wakedenough_k14_whole_works_of_slots) (n := 63) (k := 10) (x := "script") (sp := fun w => K14.spLaw _) rfl (by decide) rfl ⟨rfl, by decide, by decide⟩ (fun w h Y => PySem.W.kIn_of Y) ?F (fun _ _ a ns hl _ hS => ⟨a, ns, rfl, hS, hl, fun _ => rfl⟩)
  case F =>
    intro w mg fa h KX G hmg
    refine' K14.all_mk KX G hmg ?aCo ?lCo ?cCo ?kCo ?aWo ?lWo ?cWo ?kWo ?aWi ?lWi ?cWi ?kWi ?aSu ?lSu ?cSu ?kSu ?aLo ?lLo ?cLo ?kLo ?aHi ?lHi ?cHi ?kHi ?aLe ?lLe ?cLe ?kLe ?aBo ?lBo ?cBo ?kBo ?aHw ?lHw ?cHw ?kHw ?aHs ?lHs ?cHs ?kHs ?aHe ?lHe ?cHe ?kHe ?aAf ?lAf ?cAf ?kAf ?aWs ?lWs ?cWs ?kWs ?aLc ?lLc ?cLc ?kLc ?aLt ?lLt ?cLt ?kLt ?aEn ?lEn ?cEn ?kEn ?aS ?lS ?cS ?kS ?aP ?lP ?cP ?kP ?aO ?lO ?cO ?kO ?aSl ?lSl ?cSl ?kSl ?aG ?lG ?cG ?kG ?aGo ?lGo ?cGo ?kGo ?aSC ?lSC ?cSC ?kSC ?aWt ?lWt ?cWt ?kWt ?aLw ?lLw ?cLw ?kLw ?aHg ?lHg ?cHg ?kHg ?aLa ?lLa ?cLa ?kLa ?zint ?zabs ?zlen ?zmax ?zmin ?ztuple ?zrange ?zzip ?zenumerate ?zrepr ?zsum ?zall ?zany ?zsorted ?zlist ?aN ?lN ?lE
    (case aCo => k_is); (case lCo => k_is); (case cCo => k_is); (case kCo => k_is); (case aWo => k_is); (case lWo => k_is); (case cWo => k_is); (case kWo => k_is); (case aWi => k_is); (case lWi => k_is); (case cWi => k_is); (case kWi => k_is); (case aSu => k_is); (case lSu => k_is); (case cSu => k_is); (case kSu => k_is); (case aLo => k_is); (case lLo => k_is); (case cLo => k_is); (case kLo => k_is); (case aHi => k_is); (case lHi => k_is); (case cHi => k_is); (case kHi => k_is); (case aLe => k_is); (case lLe => k_is); (case cLe => k_is); (case kLe => k_is); (case aBo => k_is); (case lBo => k_is); (case cBo => k_is); (case kBo => k_is); (case aHw => k_is); (case lHw => k_is); (case cHw => k_is); (case kHw => k_is); (case aHs => k_is); (case lHs => k_is); (case cHs => k_is); (case kHs => k_is); (case aHe => k_is); (case lHe => k_is); (case cHe => k_is); (case kHe => k_is); (case aAf => k_is); (case lAf => k_is); (case cAf => k_is); (case kAf => k_is); (case aWs => k_is); (case lWs => k_is); (case cWs => k_is); (case kWs => k_is); (case aLc => k_is); (case lLc => k_is); (case cLc => k_is); (case kLc => k_is); (case aLt => k_is); (case lLt => k_is); (case cLt => k_is); (case kLt => k_is); (case aEn => k_is); (case lEn => k_is); (case cEn => k_is); (case kEn => k_is); (case aS => k_is); (case lS => k_is); (case cS => k_is); (case kS => k_is); (case aP => k_is); (case lP => k_is); (case cP => k_is); (case kP => k_is); (case aO => k_is); (case lO => k_is); (case cO => k_is); (case kO => k_is); (case aSl => k_is); (case lSl => k_is); (case cSl => k_is); (case kSl => k_is); (case aG => k_is); (case lG => k_is); (case cG => k_is); (case kG => k_is); (case aGo => k_is); (case lGo => k_is); (case cGo => k_is); (case kGo => k_is); (case aSC => k_is); (case lSC => k_is); (case cSC => k_is); (case kSC => k_is); (case aWt => k_is); (case lWt => k_is); (case cWt => k_is); (case kWt => k_is); (case aLw => k_is); (case lLw => k_is); (case cLw => k_is); (case kLw => k_is); (case aHg => k_is); (case lHg => k_is); (case cHg => k_is); (case kHg => k_is); (case aLa => k_is); (case lLa => k_is); (case cLa => k_is); (case kLa => k_is); (case zint => k_is); (case zabs => k_is); (case zlen => k_is); (case zmax => k_is); (case zmin => k_is); (case ztuple => k_is); (case zrange => k_is); (case zzip => k_is); (case zenumerate => k_is); (case zrepr => k_is); (case zsum => k_is); (case zall => k_is); (case zany => k_is); (case zsorted => k_is); (case zlist => k_is); (case aN => k_is); (case lN => k_is); (case lE => k_is)
