import PyProof.Rows.All
import Wide.All
import OpenK.AllK
import Wide.FinOn
import PyProof.ReprRoads
import PyProof.ReprLen
import KE.GoesMore
import HandS.Base
import HandS.Call
import HandS.List
import HandS.Comp
import HandS.Ends
import HandS.Dict
import HandS.Iter
import HandS.Text
import HandS.Words
import HandS.WordsList
import HandS.WordsDict
import HandS.Walk
import HandS.Style
import HandS.Zip
import HandS.TupAny
import HandS.SortInts
import HandS.Wide
import HandS.Star
import KE.GoesZip
import HandS.Zip0
import HandS.TupMul
import HandS.TupSets
import HandS.DictTup
import HandS.Conv
import KE.KDictCopyH
import HandS.RaiseMore
import HandS.SortKw
import KE.DataMinMax
import HandS.IsInst
import KE.KItemsList
import PySem.Challenge.RW_wakedenough_k32_whole_bounds_of_prices
set_option Elab.async false
set_option linter.all false
set_option maxRecDepth 100000
namespace WK
open PySem PySem.Spec PyProof.Rows L2

/-! ### a def that may ask for repr: what is printed around the call is known to be nothing -/
abbrev NoE : XK := fun _ _ _ => False
structure FnG (P : Program) (w : World) (K : PySem.W.Frag) (mg : Str → Option Value) (base : Heap) (k : Nat) (f : Addr) (fd : FuncData) (ps : List Str) (sp : Sp) : Prop where
  go : ∀ (A : Around) (outer : List Env) (s : Shared) (H : Hp) (args : Args) (us : List Value) (vs : List V) (Q : VK),
    A.guards = some [] → Room k A → Env0 P w K mg base A outer s H →
    BindsTo s fd args (ps.zip us) → Vals vs us → vs.length = ps.length → sp vs H Q NoE →
    codeAny (model P w) A (.call (.ref f) args) (CR CX0 outer P w H s Q NoE) s

theorem guards_deeper {A : Around} {env : Env} (h : A.guards = some []) : (A.deeper env).guards = some [] := h

section
variable {P : Program} {w : World} {K : PySem.W.Frag} {mg : Str → Option Value} {base : Heap}
theorem okG {x qual : Str} {st : Stmt} {f : Addr} {fd : FuncData} {N ps : List Str} {k : Nat} {sp : Sp}
    (F : Fun K x qual st f fd) (S : FnScope N ps (defScope st))
    (bd : ∀ (cdv : Value) (A : Around) (outer : List Env) (s : Shared) (H : Hp) (vs : List V) (Q : VK),
      Room k (A.deeper (envOfC qual (defScope st) s.heap.objs.size f cdv)) → A.guards = some [] → sp vs H Q NoE →
      ∃ t, PSs (cxOf CX0 P w K mg base N qual (defScope st) f cdv A outer s H NoE).nox (defBody st) t ∧
        t { nx := fun _ G => Q .non G, rt := Q } (start N vs) H) :
    FnG P w K mg base (k + 1) f fd ps sp := by
  obtain ⟨oc, od, kV, doc, pm, an, cdv, ct, osl, rfl, lk, hcd⟩ := F.ex
  constructor
  intro A outer s H args us vs Q gd room env bind rel hl hsp
  have inK : K.In s.heap := env.mod.kin.keeps (fun b o e => (env.bs b o e).1)
  have noLim : s.heap.NoLimit := env.mod.nolimit.keeps (fun b o e => (env.bs b o e).1)
  have kinds : ∀ y ∈ ps.zip us,
      (defScope st).names.lookup y.1 = some .local ∨
      ((defScope st).names.lookup y.1 = some .cell ∧
        ((cellsFrom (s.heap.objs.size + 1) (defScope st).names []).lookup y.1).isSome = true) := by
    rintro ⟨n, v⟩ hy
    cases S.par n (List.of_mem_zip hy).1 with
    | inl q => exact Or.inl q
    | inr q => exact Or.inr ⟨q, PySem.W.cellsFrom_some _ _ _ (Or.inl q)⟩
  refine codeAny_call_function room.depth
    (inK _ _ lk) rfl S.co S.gen rfl
    (PySem.W.codeRec_of inK hcd) (bind _ _ _ _ ?_)
  refine wpAny_newFunctionEnv_cells S.kind kinds ?_
  intro e1 he s1 ic
  subst he
  refine ⟨noLim.keeps ic.toInCall.keep, ?_⟩
  apply codeAny_func
  obtain ⟨t, ht, hq⟩ := bd cdv A outer s H vs Q (room.deeper _) gd hsp
  have I0 := inv_start (CX := CX0) (P := P) (w := w) (K := K) (mg := mg) (base := base) (E := NoE) S room.hd env hl rel ic
  refine wpAny_mono (ht.nox.run [] s1 (start N vs) H _ I0 hq) ?_ (fun _ _ z => z)
  intro fl s2 hs
  cases fl with
  | brk => obtain ⟨_, _, _, q⟩ := hs; exact q.elim
  | cont => obtain ⟨_, _, _, q⟩ := hs; exact q.elim
  | ret u =>
    obtain ⟨v, σ', H', J, rv, q⟩ := hs
    exact ⟨v, H', J.os, J.bare, J.base, J.hok, rv, q⟩
  | next =>
    obtain ⟨σ', H', J, q⟩ := hs
    exact ⟨V.non, H', J.os, J.bare, J.base, J.hok, rfl, q⟩
end
end WK
set_option Elab.async false
set_option linter.all false
set_option maxRecDepth 100000
namespace WK
open PySem PySem.Spec PyProof.Rows L2

/-! ### repr of data -/
mutual
theorem dp_nodict {K : PySem.W.Frag} {H : Hp} : ∀ (d : PyData) (v : V), Dp K H v d → d.hasDict = false
  | .none, _, _ => rfl
  | .bool _, _, _ => rfl
  | .int _, _, _ => rfl
  | .str _, _, _ => rfl
  | .list ds, _, h => by
    cases h with
    | lst _ q => simpa only [PyData.hasDict] using dp_nodictAll ds _ q
  | .tuple ds, _, h => by
    cases h with
    | tup _ q => simpa only [PyData.hasDict] using dp_nodictAll ds _ q
  | .dict _, _, h => by cases h
theorem dp_nodictAll {K : PySem.W.Frag} {H : Hp} : ∀ (ds : List PyData) (vs : List V), DpAll K H vs ds → PyData.hasDictAll ds = false
  | [], _, _ => rfl
  | d :: ds, _, h => by
    cases h with
    | cons a b => simp only [PyData.hasDictAll, dp_nodict d _ a, dp_nodictAll ds _ b, Bool.or_self]
end

/-- data that repr shows in room -/
structure Shows (d : PyData) : Prop where
  ok : d.showable = true
  dep : d.depth ≤ 20
  len : d.shown.length ≤ sizeLine

def rRepr (K : PySem.W.Frag) : List V → Hp → VK → Prop := fun xs H Q => ∃ (a : Addr) (d : PyData), xs = [.ref a] ∧ Dp K H (.ref a) d ∧ Shows d ∧ Q (.str d.shown) H
theorem call_reprD {X : Cx} (hg : X.A.guards = some []) (hu : X.A.units + 64 < cLine) : CallR X (.builtin "repr") (rRepr X.K) := by
  rintro pins s σ H xs us Q I r ⟨a, d, rfl, hd, sh, q⟩
  obtain ⟨u, rfl, ru⟩ := vals1 r
  cases ru
  obtain ⟨as, r1⟩ := Dp.reads I d _ _ hd rfl
  have hdep := sh.dep
  exact repr_of_reads' r1 sh.ok (PyData.noDict_hsm (dp_nodict d _ hd)) hg (by omega) (fun _ _ e => e)
    (fun h' u tk hk => ⟨.str d.shown, H, I.kept hk, ⟨u, rfl⟩, q⟩) sh.len

/-! ### the law's call, where nothing is printed around it -/
theorem law_callG {P : Program} {w : World} {K : PySem.W.Frag} {mg mb : Str → Option Value} {k : Nat} {fa a : Addr} {fd : FuncData} {x : Str} {sp : Sp} {s₁ : Shared} {vs : List Value} {ns : List Int}
    (KX : K.In s₁.heap) (hns : s₁.heap.Ns mainGlobals mg) (hb : s₁.heap.Ns builtinsNs mb) (hbb : ∀ x : Str, x ≠ "__name__" → mb x = bootBuiltins x) (hlim : s₁.heap.NoLimit) (hg : s₁.gens = #[])
    (ha : s₁.heap.get? a = some { cls := .type "list", data := .seq vs.toArray }) (hi : IntsAre vs ns) (hl : ns.length ≤ sizeLine) (hr : Room k callerA)
    (F : ∀ base : Heap, K.In base → base.Ns mainGlobals mg → FnG P w K mg base k fa fd [x] sp)
    (hbind : ∀ (s : Shared) (u : Value), BindsTo s fd ⟨[u], []⟩ [(x, u)])
    (hsp : ∀ H : Hp, Only H → SqL K H a (ns.map V.int) → sp [.ref a] H (fun v _ => v = .bl true) NoE) :
    codeAny (model P w) callerA (.call (.ref fa) ⟨[.ref a], []⟩)
      (fun r s' => r = .ok (.ret (.bool true)) ∧ OldK s₁.heap s'.heap ∧ s'.os = s₁.os ∧ AllBare s'.gens) s₁ := by
  have main : ∀ H : Hp, Only H → SqL K H a (ns.map V.int) → HOk P w H s₁.heap →
      (∀ b, H b ≠ none → b = a) → (H a ≠ none → K.lookup a = none) →
      codeAny (model P w) callerA (.call (.ref fa) ⟨[.ref a], []⟩)
        (fun r s' => r = .ok (.ret (.bool true)) ∧ OldK s₁.heap s'.heap ∧ s'.os = s₁.os ∧ AllBare s'.gens) s₁ := by
    intro H only seq hok justA notK
    have isA : ∀ {b : Addr} {u : HO}, H b = some u → b = a := by
      intro b u q
      exact justA b (by simp [q])
    have hid : ∀ {b : Addr} {o : Obj}, s₁.heap.get? b = some o → H b = none → (hidT s₁.heap H).get? b = some o :=
      fun e n => hidT_get e n
    have dictFree : ∀ {b : Addr} {o : Obj} {es : Array DictEntry} {ep : Nat}, s₁.heap.get? b = some o → o.data = .dict es ep → H b = none := by
      intro b o es ep e d
      match q : H b with
      | none => rfl
      | some u =>
        have := isA q
        subst this
        rw [ha] at e
        injection e with e
        subst e
        exact nomatch d
    have spaces : ∀ {b : Addr} {m : Str → Option Value}, s₁.heap.Ns b m → (hidT s₁.heap H).Ns b m := by
      rintro b m ⟨o, es, ep, e, d, rest⟩
      exact ⟨o, es, ep, hid e (dictFree e d), d, rest⟩
    have inK : K.In (hidT s₁.heap H) := by
      intro b o e
      refine hid (KX b o e) ?_
      match q : H b with
      | none => rfl
      | some u =>
        have := isA q
        subst this
        have z := notK (by simp [q])
        rw [e] at z
        exact nomatch z
    have md : Mod K mg (hidT s₁.heap H) := by
      obtain ⟨mc, l1, l2⟩ := hlim
      exact ⟨inK, spaces hns, ⟨mb, spaces hb, hbb⟩, ⟨mc, spaces l1, l2⟩⟩
    have none0 : ∀ b : Addr, ¬ b ∈ ([] : List Addr) := fun b z => nomatch z
    have env : Env0 P w K mg (hidT s₁.heap H) callerA [] s₁ H :=
      { frames := rfl, mod := md, bs := fun b o e => of_hidT e, bsz := Nat.le_of_eq (hidT_size _ _), funs := trivial,
        frf := fun b z => absurd z (none0 b), hok := hok, bare := .of_eq hg }
    have run := (F _ inK (spaces hns)).go callerA [] s₁ H ⟨[.ref a], []⟩ [.ref a] [.ref a] (fun v _ => v = .bl true) rfl hr env
      (hbind s₁ (.ref a)) (.cons rfl .nil) rfl (hsp H only seq)
    refine codeAny_mono run ?_
    intro r s' h
    match r, h with
    | .error e, h => exact False.elim h
    | .ok .next, h => exact False.elim h
    | .ok .brk, h => exact False.elim h
    | .ok .cont, h => exact False.elim h
    | .ok (.ret u), h =>
      obtain ⟨v, H', os, bare, un, hok', rel, ev⟩ := h
      have ev : v = .bl true := ev
      subst ev
      have eu : u = Value.bool true := rel
      subst eu
      refine ⟨rfl, OldK.of_keep ?_, os, bare⟩
      intro b o e
      match q : H b with
      | none => exact un.keep b o e q (none0 b) (none0 b)
      | some v =>
        cases only b with
        | inl z => rw [q] at z; exact nomatch z
        | inr z =>
          obtain ⟨ob, xs, z⟩ := z
          have here := (hok b _ z).1
          have there := (hok' b _ (un.frzs b ob _ z)).1
          rw [e] at here
          injection here with here
          subst here
          exact there
  have rel := vals_ints hi
  match hk : K.lookup a with
  | some o =>
    have e := KX a o hk
    rw [ha] at e
    injection e with e
    subst e
    refine main (fun _ => none) (fun _ => Or.inl rfl) (Or.inr ⟨_, vs.toArray, _, hk, rfl, rfl, rfl, ?_, ?_⟩) ?_ (fun b z => absurd rfl z) (fun z => absurd rfl z)
    · rw [List.size_toArray, hi.length]; exact hl
    · simpa using rel
    · intro b u z; exact nomatch z
  | none =>
    let H0 : Hp := fun b => if b = a then some (.frz { cls := .type "list", data := .seq vs.toArray } (.lst (ns.map V.int))) else none
    have atA : H0 a = some (.frz { cls := .type "list", data := .seq vs.toArray } (.lst (ns.map V.int))) := if_pos rfl
    have off : ∀ b, b ≠ a → H0 b = none := fun b n => if_neg n
    refine main H0 ?_ (Or.inl (Or.inr ⟨_, atA⟩)) ?_ ?_ (fun _ => hk)
    · intro b
      by_cases e : b = a
      · subst e; exact Or.inr ⟨_, _, atA⟩
      · exact Or.inl (off b e)
    · intro b u z
      by_cases e : b = a
      · subst e
        rw [atA] at z
        injection z with z
        subst z
        exact ⟨ha, by rw [List.length_map]; exact hl, vs, _, rel, ha⟩
      · rw [off b e] at z; exact nomatch z
    · intro b z
      by_cases e : b = a
      · exact e
      · exact absurd (off b e) z

theorem walk_ofG {l : PySem.W.OpenLaw} {n k : Nat} {q : Program} {loose : List Str} {XP : (Str → Option Value) → Heap → Prop} {YP : World → Heap → Prop} {d : DefRec} {K : Params → PySem.W.Frag} {sp : World → Sp} {x : Str}
    (hn : l.most = some n) (hn2 : n ≤ sizeLine) (hdf : d.params.defaults = []) (hr : Room k callerA)
    (hY : ∀ (w : World) (h : Heap), YP w h → (K w.params).In h)
    (F : ∀ (w : World) (mg : Str → Option Value) (fa : Addr) (h : Heap), (K w.params).In h → h.Ns mainGlobals mg → mg d.name = some (.ref fa) →
      ∃ fd : FuncData, (∀ (s : Shared) (u : Value), BindsTo s fd ⟨[u], []⟩ [(x, u)]) ∧
        ∀ base : Heap, (K w.params).In base → base.Ns mainGlobals mg → FnG l.prog w (K w.params) mg base k fa fd [x] (sp w))
    (hsp : ∀ (w : World) (H : Hp) (a : Addr) (ns : List Int), ns.length ≤ n → Only H → SqL (K w.params) H a (ns.map V.int) → sp w [.ref a] H (fun v _ => v = .bl true) NoE) :
    PySem.W.WalkO q loose XP YP l.row.toRowW d [] (fun f vs => PySem.call f vs) := by
  apply Att.attach_call hn hdf
  intro w s₀ s₁ mg mb fa o pm cd doc a vs ns G Y ho hd hcd hmg hobj hints hlen hg
  obtain ⟨fd, hb, hF⟩ := F w mg fa _ (hY w _ Y) G.T.g hmg
  exact law_callG (hY w _ Y) G.T.g G.T.b G.T.builtins G.T.nolimit hg hobj hints (Nat.le_trans hlen hn2) hr hF hb
    (fun H hO hS => hsp w H a ns hlen hO hS)
end WK
set_option Elab.async false
set_option linter.all false
set_option maxRecDepth 100000
namespace WK
open PySem PySem.Spec PyProof.Rows L2

/-! ### heaps that go on -/
/-- all but p and c stays -/
def Off (p c : Addr) (H H' : Hp) : Prop := ∀ b o, b ≠ p → b ≠ c → H b = some o → H' b = some o
theorem Off.refl (p c : Addr) (H : Hp) : Off p c H H := fun _ _ _ _ h => h
theorem Off.trans {p c : Addr} {H H1 H2 : Hp} (a : Off p c H H1) (b : Off p c H1 H2) : Off p c H H2 := fun x o h1 h2 e => b x o h1 h2 (a x o h1 h2 e)
theorem Same.off {p c : Addr} {H H' : Hp} (a : Same H H') : Off p c H H' := fun b o _ _ e => a b o e
theorem same_new {H : Hp} {p : Addr} {o : HO} (h : H p = none) : Same H (upd H p o) := fun b x e => by
  rw [upd_ne (ne_of_none e h)]
  exact e
/-- a new object stands at p: go on with any heap that holds all that was, and it -/
theorem fresh {H : Hp} {p : Addr} {o : HO} {G : Hp → Prop} (np : H p = none) (k : ∀ H1, Same H H1 → H1 p = some o → G H1) : G (upd H p o) := k _ (same_new np) upd_same
theorem Off.at_p {p c : Addr} {H : Hp} {o : HO} : Off p c H (upd H p o) := fun b x h1 _ e => by
  rw [upd_ne h1]
  exact e
theorem Off.at_c {p c : Addr} {H : Hp} {o : HO} : Off p c H (upd H c o) := fun b x _ h2 e => by
  rw [upd_ne h2]
  exact e

/-! ### the source of draws -/
def srcK (c : Addr) (l m t : Int) : List (Key × V) := [(.inr "cells", .ref c), (.inr "left", .int l), (.inr "mixed", .int m), (.inr "turn", .int t)]
theorem k12 : ¬ (("cells" : Str) = "left") := by decide +kernel
theorem k13 : ¬ (("cells" : Str) = "mixed") := by decide +kernel
theorem k14 : ¬ (("cells" : Str) = "turn") := by decide +kernel
theorem k23 : ¬ (("left" : Str) = "mixed") := by decide +kernel
theorem k24 : ¬ (("left" : Str) = "turn") := by decide +kernel
theorem k34 : ¬ (("mixed" : Str) = "turn") := by decide +kernel
theorem kne {a b : Str} (h : ¬ a = b) : ¬ ((.inr a : Key) = .inr b) := fun e => h (Sum.inr.inj e)
section
variable {c : Addr} {l m t x : Int}
theorem src_cells : valV (srcK c l m t) (.inr "cells") = some (.ref c) := valV_pos rfl
theorem src_left : valV (srcK c l m t) (.inr "left") = some (.int l) := (valV_neg (kne k12)).trans (valV_pos rfl)
theorem src_mixed : valV (srcK c l m t) (.inr "mixed") = some (.int m) := (valV_neg (kne k13)).trans ((valV_neg (kne k23)).trans (valV_pos rfl))
theorem src_turn : valV (srcK c l m t) (.inr "turn") = some (.int t) := (valV_neg (kne k14)).trans ((valV_neg (kne k24)).trans ((valV_neg (kne k34)).trans (valV_pos rfl)))
theorem put_left : putK (srcK c l m t) (.inr "left") (.int x) = srcK c x m t := by
  simp [putK, srcK, k12, k13, k14, k23, k24, k34, Ne.symm k23, Ne.symm k24, Ne.symm k34]
theorem put_mixed : putK (srcK c l m t) (.inr "mixed") (.int x) = srcK c l x t := by
  simp [putK, srcK, k12, k13, k14, k23, k24, k34, Ne.symm k23, Ne.symm k24, Ne.symm k34]
theorem put_turn : putK (srcK c l m t) (.inr "turn") (.int x) = srcK c l m x := by
  simp [putK, srcK, k12, k13, k14, k23, k24, k34, Ne.symm k23, Ne.symm k24, Ne.symm k34]
end
/-- the source at p, its cells at c -/
structure Src (H : Hp) (p c : Addr) : Prop where
  ex : ∃ (cells : List Int) (l m t : Int), H p = some (.dK (srcK c l m t)) ∧ H c = some (.lst (cells.map V.int))
theorem Src.ne {H : Hp} {p c : Addr} (S : Src H p c) : p ≠ c := by
  obtain ⟨_, _, _, _, a, b⟩ := S.ex
  exact ne_of a b (by intro z; cases z)
theorem Src.same {H H' : Hp} {p c : Addr} (S : Src H p c) (s : Same H H') : Src H' p c := by
  obtain ⟨cells, l, m, t, a, b⟩ := S.ex
  exact ⟨cells, l, m, t, s _ _ a, s _ _ b⟩
theorem Src.ne_p {H : Hp} {p c a : Addr} (S : Src H p c) (n : H a = none) : a ≠ p := by
  obtain ⟨_, _, _, _, q, _⟩ := S.ex
  exact (ne_of_none q n).symm
theorem Src.ne_c {H : Hp} {p c a : Addr} (S : Src H p c) (n : H a = none) : a ≠ c := by
  obtain ⟨_, _, _, _, _, q⟩ := S.ex
  exact (ne_of_none q n).symm
theorem Src.tup_ne {H : Hp} {p c a : Addr} {xs : List V} (S : Src H p c) (n : H a = some (.tup xs)) : a ≠ p ∧ a ≠ c := by
  obtain ⟨_, _, _, _, q1, q2⟩ := S.ex
  exact ⟨ne_of n q1 (by intro z; cases z), ne_of n q2 (by intro z; cases z)⟩
theorem Off.tup {H H' : Hp} {p c a : Addr} {xs : List V} (o : Off p c H H') (S : Src H p c) (n : H a = some (.tup xs)) : H' a = some (.tup xs) :=
  o a _ (S.tup_ne n).1 (S.tup_ne n).2 n

/-! ### what the helpers promise -/
def spSource (K : PySem.W.Frag) : Sp := fun vs H Q _ => ∃ (a : Addr) (ns : List Int), vs = [.ref a] ∧ SqL K H a (ns.map V.int) ∧ ns.length ≤ 63 ∧
  ∀ H' p c, Src H' p c → Same H H' → H p = none → H c = none → Q (.ref p) H'
def spPick : Sp := fun vs H Q _ => ∃ (p c : Addr) (many : Int), vs = [.ref p, .int many] ∧ Src H p c ∧ many < 1073741824 ∧
  ∀ H' r, Src H' p c → Off p c H H' → 0 ≤ r → (r < many ∨ r = 0) → Q (.int r) H'
def spOf (K : PySem.W.Frag) : Sp := fun vs H Q _ => ∃ (p c l : Addr) (xs : List V), vs = [.ref p, .ref l] ∧ Src H p c ∧ (∀ H', Off p c H H' → SqL K H' l xs ∨ SqT K H' l xs) ∧ xs ≠ [] ∧ xs.length ≤ 100000 ∧
  ∀ H' x, x ∈ xs → Src H' p c → Off p c H H' → Q x H'

/-! ### data and heaps -/
mutual
theorem dp_same {K : PySem.W.Frag} {H H' : Hp} (s : Same H H') : ∀ (d : PyData) (v : V), Dp K H v d → Dp K H' v d
  | .none, _, h => by cases h; exact .non
  | .bool _, _, h => by cases h; exact .bl _
  | .int _, _, h => by cases h; exact .int _
  | .str _, _, h => by cases h; exact .str _
  | .list ds, _, h => by
    cases h with
    | lst a q => exact .lst (s.seq a) (dp_sameAll s ds _ q)
  | .tuple ds, _, h => by
    cases h with
    | tup a q =>
      refine .tup ?_ (dp_sameAll s ds _ q)
      rcases a with (a | ⟨o, a⟩) | a
      · exact .inl (.inl (s _ _ a))
      · exact .inl (.inr ⟨o, s _ _ a⟩)
      · exact .inr a
  | .dict _, _, h => by cases h
theorem dp_sameAll {K : PySem.W.Frag} {H H' : Hp} (s : Same H H') : ∀ (ds : List PyData) (vs : List V), DpAll K H vs ds → DpAll K H' vs ds
  | [], _, h => by cases h; exact .nil
  | d :: ds, _, h => by
    cases h with
    | cons a b => exact .cons (dp_same s d _ a) (dp_sameAll s ds _ b)
end
theorem dp_ints {K : PySem.W.Frag} {H : Hp} : ∀ ns : List Int, DpAll K H (ns.map V.int) (ns.map PyData.int)
  | [] => .nil
  | n :: ns => .cons (.int n) (dp_ints ns)
theorem dp_snoc {K : PySem.W.Frag} {H : Hp} : ∀ {vs : List V} {ds : List PyData} {v : V} {d : PyData}, DpAll K H vs ds → Dp K H v d → DpAll K H (vs ++ [v]) (ds ++ [d])
  | _, _, _, _, .nil, h => .cons h .nil
  | _, _, _, _, .cons a b, h => .cons a (dp_snoc b h)
theorem dp_len {K : PySem.W.Frag} {H : Hp} : ∀ {vs : List V} {ds : List PyData}, DpAll K H vs ds → vs.length = ds.length
  | _, _, .nil => rfl
  | _, _, .cons _ b => congrArg (· + 1) (dp_len b)
/-! ### small things -/
theorem int_at {ns : List Int} {i : Nat} {x : V} (h : (ns.map V.int)[i]? = some x) : ∃ z, ns[i]? = some z ∧ x = .int z := by
  rw [List.getElem?_map] at h
  obtain ⟨z, e, r⟩ := Option.map_eq_some_iff.mp h
  exact ⟨z, e, r.symm⟩
theorem mulr {i j : Int} (h : -(2 ^ 64) < j ∧ j < 2 ^ 64) : CMul i j := .inr h
theorem mull {i j : Int} (h : -(2 ^ 64) < i ∧ i < 2 ^ 64) : CMul i j := .inl h
theorem new_of {H H2 : Hp} {p : Addr} {o : HO} (e : upd H p o = H2) (np : H p = none) : Same H H2 ∧ H2 p = some o := by
  subst e
  exact ⟨same_new np, upd_same⟩
theorem chg {H H2 : Hp} {p : Addr} {o : HO} (e : upd H p o = H2) : H2 p = some o ∧ ∀ b, b ≠ p → H2 b = H b := by
  subst e
  exact ⟨upd_same, fun b h => upd_ne h⟩
theorem small63 {n : Nat} (h : n ≤ 63) : n < sizeLine := Nat.lt_of_le_of_lt h (by decide)
theorem abs_eq (z : Int) : (if z < 0 then -z else z) = (z.natAbs : Int) := by split <;> omega
theorem take_snoc {α β : Type} {xs : List α} {i : Nat} {z : α} (h : xs[i]? = some z) (f : α → β) : ((xs.take (i + 1)).map f) = (xs.take i).map f ++ [f z] := by
  rw [List.take_add_one, h, List.map_append]
  rfl
theorem yesT {σ : L2.St} {H : Hp} {A B : Bool → Hp → Prop} {s t : L2.St} (e : s = t) (h : A true H) : s = t ∧ tYes σ H fun b G => if b = true then A b G else B b G := ⟨e, h⟩
theorem ifT {A B : Prop} {c : Bool} (e : c = true) (h : A) : if c = true then A else B := by
  subst e
  exact h
theorem while3 {c : TT} {tb : TS} {D : Ends} {σ : L2.St} {H : Hp} (Pv : Nat → L2.St → Hp → Prop) (n : Nat) (h0 : Pv n σ H) (after : ∀ m σ H, Pv m σ H → D.nx σ H)
    (turn : (∀ m σ H, Pv m σ H → D.nx σ H) → ∀ m σ H, Pv m σ H → c σ H fun b H1 => if b = true then
      ∃ N : L2.St → Hp → Prop, (∀ σ' H', N σ' H' → ∃ m', m' < m ∧ Pv m' σ' H') ∧ tb { D with nx := N, ct := N, bk := D.nx } σ H1 else D.nx σ H1) : tWhile c tb D σ H :=
  ⟨Pv, ⟨n, h0⟩, turn after⟩
theorem src_get {H : Hp} {p : Addr} {kvs : List (Key × V)} {x : Str} {v : V} (h : H p = some (.dK kvs)) (e : valV kvs (.inr x) = some v) : DGet H p (.str x) (some v) := .inl ⟨kvs, .inr x, .inl h, rfl, e.symm⟩
theorem src_put {H H' : Hp} {p : Addr} {kvs kvs' : List (Key × V)} {x : Str} {v : V} (h : H p = some (.dK kvs)) (l : kvs.length = 4) (e : putK kvs (.inr x) v = kvs') (hH : H' = upd H p (.dK kvs')) : DPut H p (.str x) v H' :=
  .inl ⟨kvs, .inr x, h, rfl, by rw [l]; decide, by rw [e]; exact hH⟩
theorem fmod_bounds {a b : Int} (h : 0 < b) : 0 ≤ a.fmod b ∧ a.fmod b < b := by
  rw [Int.fmod_eq_emod_of_nonneg a (by omega)]
  exact ⟨Int.emod_nonneg _ (by omega), Int.emod_lt_of_pos _ h⟩
end WK
set_option Elab.async false
set_option linter.all false
set_option maxRecDepth 100000
namespace BV
open PySem PySem.Spec PyProof.Rows L2 WK

/-! ### data: what a value is, without addresses -/
structure Sr where
  cells : List Int
  left : Int
  mixed : Int
  turn : Int
inductive D where
  | non | bl (b : Bool) | int (i : Int) | str (x : Str)
  | tup (ds : List D) | lst (ds : List D) | dct (kvs : List (Key × D)) | dtt (kvs : List (List Key × D))
  | src (s : Sr) | scr (ns : List Int)
/-- an object that is read: it stands outside of W, or it is the module's own -/
def LsZ (H : Hp) (W : Addr → Prop) (a : Addr) (xs : List V) : Prop := H a = some (.lst xs) ∧ ¬ W a
def TpZ (K : PySem.W.Frag) (H : Hp) (W : Addr → Prop) (a : Addr) (xs : List V) : Prop :=
  (Rd H a (.tup xs) ∧ ¬ W a) ∨
    ∃ (o : Obj) (its : Array Value) (n : Nat), K.lookup a = some o ∧ o.cls = .type "tuple" ∧ o.data = .seq its n ∧ its.size ≤ sizeLine ∧ Vals xs its.toList
/-- the script -/
def ScZ (K : PySem.W.Frag) (H : Hp) (W : Addr → Prop) (a : Addr) (xs : List V) : Prop :=
  (Rd H a (.lst xs) ∧ ¬ W a) ∨
    ∃ (o : Obj) (its : Array Value) (n : Nat), K.lookup a = some o ∧ o.cls = .type "list" ∧ o.dict = none ∧ o.data = .seq its n ∧ its.size ≤ sizeLine ∧ Vals xs its.toList
mutual
/-- v shows d: all that it leads to stands outside of W -/
inductive Rp (K : PySem.W.Frag) (H : Hp) (W : Addr → Prop) : V → D → Prop
  | non : Rp K H W .non .non
  | bl (b : Bool) : Rp K H W (.bl b) (.bl b)
  | int (i : Int) : Rp K H W (.int i) (.int i)
  | str (x : Str) : Rp K H W (.str x) (.str x)
  | tup {a : Addr} {vs : List V} {ds : List D} : TpZ K H W a vs → RpA K H W vs ds → Rp K H W (.ref a) (.tup ds)
  | lst {a : Addr} {vs : List V} {ds : List D} : LsZ H W a vs → RpA K H W vs ds → Rp K H W (.ref a) (.lst ds)
  | dct {a : Addr} {vs : List (Key × V)} {ds : List (Key × D)} : Rd H a (.dK vs) → ¬ W a → RpK K H W vs ds → Rp K H W (.ref a) (.dct ds)
  | dtt {a : Addr} {vs : List (List Key × V)} {ds : List (List Key × D)} : Rd H a (.dT vs) → ¬ W a → RpT K H W vs ds → Rp K H W (.ref a) (.dtt ds)
  | scr {a : Addr} {ns : List Int} : ScZ K H W a (ns.map V.int) → Rp K H W (.ref a) (.scr ns)
inductive RpA (K : PySem.W.Frag) (H : Hp) (W : Addr → Prop) : List V → List D → Prop
  | nil : RpA K H W [] []
  | cons {v : V} {vs : List V} {d : D} {ds : List D} : Rp K H W v d → RpA K H W vs ds → RpA K H W (v :: vs) (d :: ds)
inductive RpK (K : PySem.W.Frag) (H : Hp) (W : Addr → Prop) : List (Key × V) → List (Key × D) → Prop
  | nil : RpK K H W [] []
  | cons {k : Key} {v : V} {vs : List (Key × V)} {d : D} {ds : List (Key × D)} : Rp K H W v d → RpK K H W vs ds → RpK K H W ((k, v) :: vs) ((k, d) :: ds)
inductive RpT (K : PySem.W.Frag) (H : Hp) (W : Addr → Prop) : List (List Key × V) → List (List Key × D) → Prop
  | nil : RpT K H W [] []
  | cons {k : List Key} {v : V} {vs : List (List Key × V)} {d : D} {ds : List (List Key × D)} : Rp K H W v d → RpT K H W vs ds → RpT K H W ((k, v) :: vs) ((k, d) :: ds)
end
section
variable {K : PySem.W.Frag} {H H' : Hp} {W W' : Addr → Prop}
theorem rd_some {a : Addr} {u : HO} (h : Rd H a u) : H a ≠ none := by
  rcases h with h | ⟨o, h⟩ <;> rw [h] <;> exact fun z => nomatch z
def nofrz : HO → Prop | .frz _ _ => False | _ => True
/-- what is between two heaps -/
structure Go (H : Hp) (W : Addr → Prop) (H' : Hp) (W' : Addr → Prop) : Prop where
  ls : ∀ b xs, ¬ W b → H b = some (.lst xs) → H' b = some (.lst xs)
  fr : ∀ b u, nofrz u → ¬ W b → Rd H b u → Rd H' b u
  nw : ∀ b, W' b → W b ∨ H b = none
theorem Go.not {b : Addr} {u : HO} (g : Go H W H' W') (n : ¬ W b) (h : Rd H b u) : ¬ W' b := fun z => by
  rcases g.nw b z with z | z
  · exact n z
  · exact rd_some h z
theorem LsZ.go {a : Addr} {xs : List V} (g : Go H W H' W') (h : LsZ H W a xs) : LsZ H' W' a xs := ⟨g.ls _ _ h.2 h.1, g.not h.2 (.inl h.1)⟩
theorem TpZ.go {a : Addr} {xs : List V} (g : Go H W H' W') (h : TpZ K H W a xs) : TpZ K H' W' a xs := by
  rcases h with ⟨h, n⟩ | h
  · exact .inl ⟨g.fr _ _ trivial n h, g.not n h⟩
  · exact .inr h
theorem ScZ.go {a : Addr} {xs : List V} (g : Go H W H' W') (h : ScZ K H W a xs) : ScZ K H' W' a xs := by
  rcases h with ⟨h, n⟩ | h
  · exact .inl ⟨g.fr _ _ trivial n h, g.not n h⟩
  · exact .inr h
theorem ScZ.sq {a : Addr} {xs : List V} (h : ScZ K H W a xs) : SqL K H a xs := by
  rcases h with ⟨h, _⟩ | h
  · exact .inl h
  · exact .inr h
mutual
theorem Rp.go (g : Go H W H' W') : ∀ {v : V} {d : D}, Rp K H W v d → Rp K H' W' v d
  | _, _, .non => .non
  | _, _, .bl b => .bl b
  | _, _, .int i => .int i
  | _, _, .str x => .str x
  | _, _, .tup a q => .tup (a.go g) (RpA.go g q)
  | _, _, .lst a q => .lst (a.go g) (RpA.go g q)
  | _, _, .dct a n q => .dct (g.fr _ _ trivial n a) (g.not n a) (RpK.go g q)
  | _, _, .dtt a n q => .dtt (g.fr _ _ trivial n a) (g.not n a) (RpT.go g q)
  | _, _, .scr a => .scr (a.go g)
theorem RpA.go (g : Go H W H' W') : ∀ {vs : List V} {ds : List D}, RpA K H W vs ds → RpA K H' W' vs ds
  | _, _, .nil => .nil
  | _, _, .cons a b => .cons (Rp.go g a) (RpA.go g b)
theorem RpK.go (g : Go H W H' W') : ∀ {vs : List (Key × V)} {ds : List (Key × D)}, RpK K H W vs ds → RpK K H' W' vs ds
  | _, _, .nil => .nil
  | _, _, .cons a b => .cons (Rp.go g a) (RpK.go g b)
theorem RpT.go (g : Go H W H' W') : ∀ {vs : List (List Key × V)} {ds : List (List Key × D)}, RpT K H W vs ds → RpT K H' W' vs ds
  | _, _, .nil => .nil
  | _, _, .cons a b => .cons (Rp.go g a) (RpT.go g b)
end
/-- fewer that it must avoid -/
theorem Go.sub (h : ∀ b, W' b → W b) : Go H W H W' := ⟨fun _ _ _ e => e, fun _ _ _ _ r => r, fun b z => .inl (h b z)⟩
theorem LsZ.sq {a : Addr} {xs : List V} (h : LsZ H W a xs) : SqL K H a xs := .inl (.inl h.1)
theorem TpZ.sq {a : Addr} {xs : List V} (h : TpZ K H W a xs) : SqT K H a xs := by
  rcases h with ⟨h, _⟩ | h
  · exact .inl h
  · exact .inr h
theorem RpA.len : ∀ {vs : List V} {ds : List D}, RpA K H W vs ds → vs.length = ds.length
  | _, _, .nil => rfl
  | _, _, .cons _ b => congrArg (· + 1) b.len
theorem RpA.get : ∀ {vs : List V} {ds : List D} {i : Nat} {d : D}, RpA K H W vs ds → ds[i]? = some d → ∃ v, vs[i]? = some v ∧ Rp K H W v d
  | _, _, _, _, .nil, e => by simp at e
  | _, _, 0, _, .cons a _, e => by simp at e; subst e; exact ⟨_, rfl, a⟩
  | _, _, i + 1, _, .cons _ b, e => by
    obtain ⟨v, e1, e2⟩ := b.get (i := i) (by simpa using e)
    exact ⟨v, by simpa using e1, e2⟩
theorem RpA.get' : ∀ {vs : List V} {ds : List D} {i : Nat} {v : V}, RpA K H W vs ds → vs[i]? = some v → ∃ d, ds[i]? = some d ∧ Rp K H W v d
  | _, _, _, _, .nil, e => by simp at e
  | _, _, 0, _, .cons a _, e => by simp at e; subst e; exact ⟨_, rfl, a⟩
  | _, _, i + 1, _, .cons _ b, e => by
    obtain ⟨v, e1, e2⟩ := b.get' (i := i) (by simpa using e)
    exact ⟨v, by simpa using e1, e2⟩
theorem RpA.append : ∀ {vs us : List V} {ds es : List D}, RpA K H W vs ds → RpA K H W us es → RpA K H W (vs ++ us) (ds ++ es)
  | _, _, _, _, .nil, h => h
  | _, _, _, _, .cons a b, h => .cons a (b.append h)
theorem RpA.snoc {vs : List V} {ds : List D} {v : V} {d : D} (a : RpA K H W vs ds) (b : Rp K H W v d) : RpA K H W (vs ++ [v]) (ds ++ [d]) := a.append (.cons b .nil)
theorem RpA.take : ∀ {vs : List V} {ds : List D} (n : Nat), RpA K H W vs ds → RpA K H W (vs.take n) (ds.take n)
  | _, _, 0, _ => .nil
  | _, _, _ + 1, .nil => .nil
  | _, _, n + 1, .cons a b => .cons a (b.take n)
theorem RpA.drop : ∀ {vs : List V} {ds : List D} (n : Nat), RpA K H W vs ds → RpA K H W (vs.drop n) (ds.drop n)
  | _, _, 0, r => r
  | _, _, _ + 1, .nil => .nil
  | _, _, n + 1, .cons _ b => b.drop n
theorem RpA.set : ∀ {vs : List V} {ds : List D} {v : V} {d : D} (n : Nat), RpA K H W vs ds → Rp K H W v d → RpA K H W (vs.set n v) (ds.set n d)
  | _, _, _, _, _, .nil, _ => .nil
  | _, _, _, _, 0, .cons _ b, h => .cons h b
  | _, _, _, _, n + 1, .cons a b, h => .cons a (b.set n h)
theorem RpA.rev {vs : List V} {ds : List D} (h : RpA K H W vs ds) : RpA K H W vs.reverse ds.reverse := by
  induction vs generalizing ds with
  | nil => cases h; exact .nil
  | cons v vs ih => cases h with | cons a b => rw [List.reverse_cons, List.reverse_cons]; exact (ih b).snoc a
theorem RpA.ints : ∀ {vs : List V} {ns : List Int}, RpA K H W vs (ns.map D.int) → vs = ns.map V.int
  | _, [], .nil => rfl
  | _, n :: ns, .cons a b => by
    cases a
    rw [List.map_cons, b.ints]
theorem RpA.of_ints : ∀ ns : List Int, RpA K H W (ns.map V.int) (ns.map D.int)
  | [] => .nil
  | n :: ns => .cons (.int n) (of_ints ns)
theorem RpA.bls : ∀ {vs : List V} {ns : List Bool}, RpA K H W vs (ns.map D.bl) → vs = ns.map V.bl
  | _, [], .nil => rfl
  | _, n :: ns, .cons a b => by
    cases a
    rw [List.map_cons, b.bls]
theorem RpA.of_bls : ∀ ns : List Bool, RpA K H W (ns.map V.bl) (ns.map D.bl)
  | [] => .nil
  | n :: ns => .cons (.bl n) (of_bls ns)
end

/-! ### who may write -/
inductive Cl | fz | o1 | src
  deriving DecidableEq
/-- v shows d, as one that is of class c: F are the objects that only it leads to -/
def Own (K : PySem.W.Frag) (H : Hp) (W : Addr → Prop) : Cl → V → D → List Addr → Prop
  | .fz, v, d, F => F = [] ∧ Rp K H W v d
  | .o1, v, d, F => ∃ a, v = .ref a ∧ F = [a] ∧ ((∃ vs ds, d = .lst ds ∧ H a = some (.lst vs) ∧ RpA K H W vs ds) ∨
      (∃ vs ds, d = .dct ds ∧ H a = some (.dK vs) ∧ RpK K H W vs ds) ∨ (∃ vs ds, d = .dtt ds ∧ H a = some (.dT vs) ∧ RpT K H W vs ds))
  | .src, v, d, F => ∃ (p c : Addr) (s : Sr), v = .ref p ∧ d = .src s ∧ F = [p, c] ∧ p ≠ c ∧ H p = some (.dK (srcK c s.left s.mixed s.turn)) ∧ H c = some (.lst (s.cells.map V.int))
/-- what is known of a slot: nothing, or that its value is of a class -/
inductive Sl | u | v (c : Cl)
  deriving DecidableEq
abbrev Env := List (Option D)
def Ws (X : Addr → Prop) (F : Nat → List Addr) : Addr → Prop := fun b => X b ∨ ∃ i, b ∈ F i
def Slot (K : PySem.W.Frag) (H : Hp) (W : Addr → Prop) (g : Option Sl) (s : Option (Option V)) (r : Option (Option D)) (F : List Addr) : Prop :=
  match g with
  | some (.v c) => match r with
    | some (some d) => ∃ v, s = some (some v) ∧ Own K H W c v d F
    | _ => F = []
  | _ => F = []
/-- the slots σ show the data ρ, in the heap H -/
structure Rep (K : PySem.W.Frag) (X : Addr → Prop) (Γ : List Sl) (σ : L2.St) (ρ : Env) (F : Nat → List Addr) (H : Hp) : Prop where
  len : σ.length = ρ.length
  gl : Γ.length = ρ.length
  at_ : ∀ i, Slot K H (Ws X F) Γ[i]? σ[i]? ρ[i]? (F i)
  dis : ∀ i j b, b ∈ F i → b ∈ F j → i = j
  xt : ∀ b, X b → H b ≠ none ∧ ∀ i, b ∉ F i
  ft : ∀ i b, b ∈ F i → H b ≠ none
structure Stp (F : Nat → List Addr) (H : Hp) (F' : Nat → List Addr) (H' : Hp) : Prop where
  fr : ∀ b o, H b = some o → (∀ i, b ∉ F i) → H' b = some o
  nw : ∀ i b, b ∈ F' i → (∃ j, b ∈ F j) ∨ H b = none
section
variable {K : PySem.W.Frag} {X Y : Addr → Prop} {Γ Γ' : List Sl} {σ : L2.St} {ρ : Env} {F F1 F2 : Nat → List Addr} {H H1 H2 : Hp}
theorem Stp.refl (F : Nat → List Addr) (H : Hp) : Stp F H F H := ⟨fun _ _ h _ => h, fun i b h => .inl ⟨i, h⟩⟩
theorem Stp.trans (a : Stp F H F1 H1) (b : Stp F1 H1 F2 H2) : Stp F H F2 H2 := by
  refine ⟨fun c o e n => ?_, fun i c h => ?_⟩
  · refine b.fr c o (a.fr c o e n) fun i z => ?_
    rcases a.nw i c z with ⟨j, z⟩ | z
    · exact n j z
    · rw [e] at z; exact nomatch z
  · rcases b.nw i c h with ⟨j, h⟩ | h
    · exact a.nw j c h
    · by_cases hc : ∃ j, c ∈ F j
      · exact .inl hc
      · refine .inr ?_
        cases e : H c with
        | none => rfl
        | some o => rw [a.fr c o e fun i z => hc ⟨i, z⟩] at h; exact nomatch h
theorem Stp.go (a : Stp F H F1 H1) : Go H (Ws X F) H1 (Ws X F1) := by
  refine ⟨fun b xs n e => a.fr b _ e fun i z => n (.inr ⟨i, z⟩), fun b u _ n r => ?_, fun b z => ?_⟩
  · have nF : ∀ i, b ∉ F i := fun i z => n (.inr ⟨i, z⟩)
    rcases r with r | ⟨o, r⟩
    · exact .inl (a.fr b _ r nF)
    · exact .inr ⟨o, a.fr b _ r nF⟩
  · rcases z with z | ⟨i, z⟩
    · exact .inl (.inl z)
    · rcases a.nw i b z with z | z
      · exact .inl (.inr z)
      · exact .inr z
/-- all that was stays -/
theorem Stp.same {H' : Hp} (s : Same H H') : Stp F H F H' := ⟨fun b o e _ => s b o e, fun i b h => .inl ⟨i, h⟩⟩
theorem Go.same {W : Addr → Prop} {H' : Hp} (s : Same H H') : Go H W H' W := ⟨fun b xs _ e => s b _ e, fun b u _ _ r => by
  rcases r with r | ⟨o, r⟩
  · exact .inl (s b _ r)
  · exact .inr ⟨o, s b _ r⟩, fun b z => .inl z⟩
theorem Own.go {W W' : Addr → Prop} {c : Cl} {v : V} {d : D} {G : List Addr} (g : Go H W H1 W') (k : ∀ b ∈ G, ∀ o, H b = some o → H1 b = some o) (h : Own K H W c v d G) : Own K H1 W' c v d G := by
  cases c with
  | fz => exact ⟨h.1, h.2.go g⟩
  | o1 =>
    obtain ⟨a, rfl, rfl, h⟩ := h
    refine ⟨a, rfl, rfl, ?_⟩
    rcases h with ⟨vs, ds, rfl, e, q⟩ | ⟨vs, ds, rfl, e, q⟩ | ⟨vs, ds, rfl, e, q⟩
    · exact .inl ⟨vs, ds, rfl, k a (by simp) _ e, q.go g⟩
    · exact .inr (.inl ⟨vs, ds, rfl, k a (by simp) _ e, q.go g⟩)
    · exact .inr (.inr ⟨vs, ds, rfl, k a (by simp) _ e, q.go g⟩)
  | src =>
    obtain ⟨p, c, s, rfl, rfl, rfl, n, e1, e2⟩ := h
    exact ⟨p, c, s, rfl, rfl, rfl, n, k p (by simp) _ e1, k c (by simp) _ e2⟩
theorem Own.tracked {W : Addr → Prop} {c : Cl} {v : V} {d : D} {G : List Addr} (h : Own K H W c v d G) : ∀ b ∈ G, H b ≠ none := by
  intro b hb
  cases c with
  | fz => rw [h.1] at hb; exact nomatch hb
  | o1 =>
    obtain ⟨a, rfl, rfl, h⟩ := h
    have : b = a := by simpa using hb
    subst this
    rcases h with ⟨vs, ds, rfl, e, q⟩ | ⟨vs, ds, rfl, e, q⟩ | ⟨vs, ds, rfl, e, q⟩ <;> rw [e] <;> exact fun z => nomatch z
  | src =>
    obtain ⟨p, c, s, rfl, rfl, rfl, n, e1, e2⟩ := h
    have : b = p ∨ b = c := by simpa using hb
    rcases this with rfl | rfl
    · rw [e1]; exact fun z => nomatch z
    · rw [e2]; exact fun z => nomatch z
/-- owned, read as one that is not -/
theorem Own.rp {W : Addr → Prop} {c : Cl} {v : V} {d : D} {G : List Addr} (h : Own K H W c v d G) (hc : c ≠ .src) (W' : Addr → Prop) (sub : ∀ b, W' b → W b) (n : ∀ b ∈ G, ¬ W' b) : Rp K H W' v d := by
  cases c with
  | fz => exact h.2.go (Go.sub sub)
  | o1 =>
    obtain ⟨a, rfl, rfl, h⟩ := h
    rcases h with ⟨vs, ds, rfl, e, q⟩ | ⟨vs, ds, rfl, e, q⟩ | ⟨vs, ds, rfl, e, q⟩
    · exact .lst ⟨e, n a (by simp)⟩ (q.go (Go.sub sub))
    · exact .dct (.inl e) (n a (by simp)) (q.go (Go.sub sub))
    · exact .dtt (.inl e) (n a (by simp)) (q.go (Go.sub sub))
  | src => exact absurd rfl hc
theorem Slot.go {W W' : Addr → Prop} {g : Option Sl} {s : Option (Option V)} {r : Option (Option D)} {G : List Addr} (h : Slot K H W g s r G) (o : Go H W H1 W') (k : ∀ b ∈ G, ∀ o, H b = some o → H1 b = some o) : Slot K H1 W' g s r G := by
  unfold Slot at h ⊢
  cases g with
  | none => exact h
  | some g =>
    cases g with
    | u => exact h
    | v c =>
      cases r with
      | none => exact h
      | some r =>
        cases r with
        | none => exact h
        | some d =>
          obtain ⟨v, e, q⟩ := h
          exact ⟨v, e, q.go o k⟩
/-- nothing is changed, new objects come -/
theorem Rep.same {H' : Hp} (h : Rep K X Γ σ ρ F H) (s : Same H H') : Rep K X Γ σ ρ F H' := by
  refine ⟨h.len, h.gl, fun i => (h.at_ i).go (Go.same s) fun b _ o e => s b o e, h.dis, fun b z => ⟨fun e => ?_, (h.xt b z).2⟩, fun i b z e => ?_⟩
  · cases q : H b with
    | none => exact (h.xt b z).1 q
    | some o => rw [s b o q] at e; exact nomatch e
  · cases q : H b with
    | none => exact h.ft i b z q
    | some o => rw [s b o q] at e; exact nomatch e
theorem Rep.less {Y : Addr → Prop} (h : Rep K X Γ σ ρ F H) (s : ∀ b, Y b → X b) : Rep K Y Γ σ ρ F H :=
  ⟨h.len, h.gl, fun i => (h.at_ i).go (Go.sub fun b z => z.imp (s b) id) fun _ _ _ e => e, h.dis, fun b z => h.xt b (s b z), h.ft⟩
/-- a new address is none of the held ones -/
theorem Rep.fresh {p : Addr} (h : Rep K X Γ σ ρ F H) (n : H p = none) : ¬ Ws X F p := fun z => by
  rcases z with z | ⟨i, z⟩
  · exact (h.xt p z).1 n
  · exact h.ft i p z n
end
end BV
set_option Elab.async false
set_option linter.all false
set_option maxRecDepth 100000
namespace WK
open PySem PySem.Spec PyProof.Rows L2

/-! ### data that repr shows, and how long that is -/
mutual
def Lil : PyData → Prop
  | .none => True
  | .bool _ => True
  | .int i => i.natAbs < 10 ^ 150
  | .str x => ∀ c ∈ x.cps.toList, c < 16 ^ 8
  | .list xs => LilAll xs
  | .tuple xs => LilAll xs
  | .dict _ => False
def LilAll : List PyData → Prop
  | [] => True
  | x :: xs => Lil x ∧ LilAll xs
end
mutual
def cost : PyData → Nat
  | .none => 5
  | .bool _ => 5
  | .int _ => 151
  | .str x => 10 * x.length + 4
  | .list xs => costAll xs + 3
  | .tuple xs => costAll xs + 3
  | .dict _ => 0
def costAll : List PyData → Nat
  | [] => 0
  | x :: xs => cost x + 2 + costAll xs
end
theorem lil_int {i : Int} (h : i.natAbs < 10 ^ 150) : i.natAbs.log2 < 1920 := by
  by_cases h0 : i.natAbs = 0
  · rw [h0]; decide
  · exact (Nat.log2_lt h0).mpr (Nat.lt_of_lt_of_le h (by decide +kernel))
theorem shown_int {i : Int} (h : i.natAbs < 10 ^ 150) : (PyData.shown (.int i)).length ≤ 151 := by
  have e : PyData.shown (.int i) = Str.ofString (toString i) := rfl
  rw [e, PySem.ofString_length]
  exact int_text_length_le10 (k := 150) (by decide) h
mutual
theorem lil_show : ∀ d : PyData, Lil d → d.showable = true ∧ d.shown.length ≤ cost d
  | .none, _ => ⟨rfl, by decide⟩
  | .bool b, _ => ⟨rfl, by cases b <;> decide⟩
  | .int i, h => ⟨by simpa only [PyData.showable, decide_eq_true_eq] using lil_int (by simpa only [Lil] using h), shown_int (by simpa only [Lil] using h)⟩
  | .str x, h => ⟨rfl, by
      have e := StrLaws.reprText_len x (by simpa only [Lil] using h)
      simp only [PyData.shown, cost]
      omega⟩
  | .list xs, h => by
    obtain ⟨a, b⟩ := lil_showAll xs (by simpa only [Lil] using h)
    have l := listText_len_le (PyData.shownAll xs)
    have n := PyData.shownAll_length xs
    refine ⟨by simpa only [PyData.showable] using a, ?_⟩
    simp only [PyData.shown, cost]
    omega
  | .tuple xs, h => by
    obtain ⟨a, b⟩ := lil_showAll xs (by simpa only [Lil] using h)
    have l := tupleText_len_le (PyData.shownAll xs)
    have n := PyData.shownAll_length xs
    refine ⟨by simpa only [PyData.showable] using a, ?_⟩
    simp only [PyData.shown, cost]
    omega
  | .dict _, h => by simp only [Lil] at h
theorem lil_showAll : ∀ xs : List PyData, LilAll xs → PyData.showableAll xs = true ∧ ((PyData.shownAll xs).map (·.length)).sum + 2 * xs.length ≤ costAll xs
  | [], _ => ⟨rfl, by simp [PyData.shownAll, costAll]⟩
  | x :: xs, h => by
    have h' : Lil x ∧ LilAll xs := by simpa only [LilAll] using h
    obtain ⟨a, b⟩ := lil_show x h'.1
    obtain ⟨c, d⟩ := lil_showAll xs h'.2
    refine ⟨by simp only [PyData.showableAll, a, c, Bool.and_self], ?_⟩
    simp only [PyData.shownAll, costAll, List.map_cons, List.sum_cons, List.length_cons]
    omega
end
theorem shows_of {d : PyData} (h : Lil d) (hd : d.depth ≤ 20) (hc : cost d ≤ sizeLine) : Shows d :=
  ⟨(lil_show d h).1, hd, Nat.le_trans (lil_show d h).2 hc⟩
theorem lilAll_iff : ∀ {xs : List PyData}, LilAll xs ↔ ∀ x ∈ xs, Lil x
  | [] => by simp [LilAll]
  | x :: xs => by simp [LilAll, lilAll_iff (xs := xs)]
theorem costAll_le {c : Nat} : ∀ {xs : List PyData}, (∀ x ∈ xs, cost x ≤ c) → costAll xs ≤ xs.length * (c + 2)
  | [], _ => by simp [costAll]
  | x :: xs, h => by
    have h1 := h x (List.mem_cons_self ..)
    have h2 := costAll_le (xs := xs) fun y hy => h y (List.mem_cons_of_mem _ hy)
    simp only [costAll, List.length_cons, Nat.add_mul]
    omega
theorem depthAll_le {c : Nat} : ∀ {xs : List PyData}, (∀ x ∈ xs, x.depth ≤ c) → PyData.depthAll xs ≤ c
  | [], _ => by simp [PyData.depthAll]
  | x :: xs, h => by
    have h1 := h x (List.mem_cons_self ..)
    have h2 := depthAll_le (xs := xs) fun y hy => h y (List.mem_cons_of_mem _ hy)
    simp only [PyData.depthAll]
    omega
theorem canLayAll_iff : ∀ {xs : List PyData}, PyData.canLayAll0 xs = true ↔ ∀ x ∈ xs, x.canLay0 = true
  | [] => by simp [PyData.canLayAll0]
  | x :: xs => by simp [PyData.canLayAll0, canLayAll_iff (xs := xs)]
/-- a row of ints as data -/
abbrev intsD (ns : List Int) : List PyData := ns.map PyData.int
theorem lil_ints {ns : List Int} (h : ∀ n ∈ ns, n.natAbs < 10 ^ 150) : LilAll (intsD ns) := by
  rw [lilAll_iff]
  intro x hx
  obtain ⟨n, hn, rfl⟩ := List.mem_map.mp hx
  simpa only [Lil] using h n hn
theorem cost_ints {ns : List Int} : costAll (intsD ns) ≤ ns.length * 153 := by
  have := costAll_le (c := 151) (xs := intsD ns) (fun x hx => by
    obtain ⟨n, hn, rfl⟩ := List.mem_map.mp hx
    simp only [cost]
    omega)
  rw [List.length_map] at this
  exact this
theorem depth_ints {ns : List Int} : PyData.depthAll (intsD ns) = 0 := by
  have := depthAll_le (c := 0) (xs := intsD ns) (fun x hx => by
    obtain ⟨n, hn, rfl⟩ := List.mem_map.mp hx
    simp only [PyData.depth]
    omega)
  omega
theorem lay_ints {ns : List Int} : PyData.canLayAll0 (intsD ns) = true := by
  rw [canLayAll_iff]
  intro x hx
  obtain ⟨n, hn, rfl⟩ := List.mem_map.mp hx
  rfl
theorem shaped_list_ints {ns : List Int} : SeqAt.shaped (.list (intsD ns)) = true := by
  simp only [SeqAt.shaped, PyData.canLay0, lay_ints, PyData.depth, depth_ints]
  decide
theorem shaped_tup_ints {ns : List Int} : SeqAt.shaped (.tuple (intsD ns)) = true := by
  simp only [SeqAt.shaped, PyData.canLay0, lay_ints, PyData.depth, depth_ints]
  decide
theorem eqv_nil {ns : List Int} : PyData.eqv (.list (intsD ns)) (.list []) = decide (ns = []) := by
  cases ns with
  | nil => simp [PyData.eqv, PyData.eqvAll]
  | cons n ns => simp [PyData.eqv, PyData.eqvAll]
theorem nul_ints {K : PySem.W.Frag} {H : Hp} {a : Addr} {ns : List Int} (h : H a = some (.lst (ns.map V.int))) : Dp K H (.ref a) (.list (intsD ns)) := .lst (.inl (.inl h)) (dp_ints ns)

/-! ### slices -/
theorem cut_take {xs : List V} {k : Nat} : cutV xs none (some (k : Int)) = xs.take k := by
  unfold cutV
  rw [HT.sIx_nat, HT.sIx_none, List.drop_zero, Nat.sub_zero, List.take_eq_take_iff]
  omega
theorem cut_drop1 {xs : List V} : cutV xs (some 1) none = xs.drop 1 := by
  unfold cutV
  rw [show HT.sIx xs.length 0 (some 1) = min 1 xs.length from HT.sIx_nat xs.length 0 1, HT.sIx_none]
  cases xs with
  | nil => rfl
  | cons x r =>
    have e : min 1 (x :: r).length = 1 := by simp only [List.length_cons]; omega
    rw [e, List.drop_one, List.tail_cons, List.length_cons, Nat.add_sub_cancel, List.take_length]
theorem Off.new {p c a : Addr} {H H1 : Hp} {o : HO} (s : Off p c H H1) (n : H a = none) : Off p c H (upd H1 a o) := fun b x h1 h2 e => by
  rw [upd_ne (ne_of_none e n)]
  exact s b x h1 h2 e
theorem Off.free {p c a : Addr} {H H1 : Hp} (s : Off p c H H1) (n : H1 a = none) (h1 : a ≠ p) (h2 : a ≠ c) : H a = none := by
  match q : H a with
  | none => rfl
  | some o =>
    have := s a o h1 h2 q
    rw [n] at this
    exact nomatch this
theorem Src.free {p c a : Addr} {H H1 : Hp} (s : Off p c H H1) (S : Src H1 p c) (n : H1 a = none) : H a = none := s.free n (S.ne_p n) (S.ne_c n)
theorem Src.upd_new {p c a : Addr} {H : Hp} {o : HO} (S : Src H p c) (h1 : a ≠ p) (h2 : a ≠ c) : Src (upd H a o) p c := by
  obtain ⟨cells, l, m, t, e1, e2⟩ := S.ex
  exact ⟨cells, l, m, t, by rw [upd_ne h1.symm]; exact e1, by rw [upd_ne h2.symm]; exact e2⟩
def spDraw : Sp := fun vs H Q _ => ∃ (p c : Addr) (ticks : Nat) (most : Int), vs = [.ref p, .int ticks, .int most] ∧ Src H p c ∧ ticks ≤ 1000 ∧ 1 ≤ most ∧ most < 1000000000 ∧
  ∀ (H' : Hp) (t : Addr) (ns : List Int), Src H' p c → Off p c H H' → H' t = some (.tup (ns.map V.int)) → H t = none → ns.length = ticks → (∀ z ∈ ns, 0 ≤ z ∧ z ≤ most) → Q (.ref t) H'
theorem while4 {c : TT} {tb : TS} {D : Ends} {σ : L2.St} {H : Hp} (Pv : Nat → L2.St → Hp → Prop) (Pa : L2.St → Hp → Prop) (n : Nat) (h0 : Pv n σ H) (after : ∀ σ H, Pa σ H → D.nx σ H)
    (turn : (∀ σ H, Pa σ H → D.nx σ H) → ∀ m σ H, Pv m σ H → c σ H fun b H1 => if b = true then
      ∃ N : L2.St → Hp → Prop, (∀ σ' H', N σ' H' → ∃ m', m' < m ∧ Pv m' σ' H') ∧ tb { D with nx := N, ct := N, bk := D.nx } σ H1 else D.nx σ H1) : tWhile c tb D σ H :=
  ⟨Pv, ⟨n, h0⟩, turn after⟩
theorem rep1 {z : Int} : ∀ {k : Nat}, (List.replicate k [V.int z]).flatten = (List.replicate k z).map V.int
  | 0 => rfl
  | k + 1 => by
    rw [List.replicate_succ, List.flatten_cons, rep1, List.replicate_succ, List.map_cons]
    rfl
theorem many_small {n : Nat} (h : n ≤ 100000) : n < sizeLine := Nat.lt_of_le_of_lt h (by decide)
theorem tif_R {t : TT} {ta tb : TE} {σ : L2.St} {H : Hp} {Q : VK} (R : V → Hp → Prop) (key : ∀ v H, R v H → Q v H) (h : ∀ Q' : VK, (∀ v H, R v H → Q' v H) → tIf t ta tb σ H Q') : tIf t ta tb σ H Q := h Q key
end WK
set_option Elab.async false
set_option linter.all false
set_option maxRecDepth 100000
namespace WK
open PySem PySem.Spec PyProof.Rows L2
open AutoSeq1 (wpAny_loadPart')

/-! ### enumerate of a tuple -/
def it_obj (t : Addr) : Obj := { cls := .type "tuple_iterator", data := .fields #[.ref t, .int 0 0] }
def en_obj (i : Addr) : Obj := { cls := .type "enumerate", data := .fields #[.none, .bool false, .ref i, rawInt 0, .none, .none] }
def enum_heap (h : Heap) (t : Addr) : Heap := (h.push (it_obj t)).push (en_obj h.objs.size)
theorem enum_make (t : Addr) (its : Array Value) (n : Nat) (dct : Option Addr) (sl : Array (Option Value)) :
    Meets (Builtin.«enumerate.__new__» ⟨[.type "enumerate", .ref t], []⟩)
      (fun _ R s => s.heap.get? t = some { cls := .type "tuple", dict := dct, data := .seq its n, slots := sl } ∧
        R (.ok (.ret (.ref (s.heap.push (it_obj t)).objs.size)))
          { s with heap := enum_heap s.heap t }) :=
  .of_wp fun prog w A R s h => by
    obtain ⟨hp, g, d, tk, os⟩ := s
    obtain ⟨ht, h⟩ := h
    have hsub := sub_enumerate
    have tup : Heap.IsTuple (Shared.heap ⟨hp, g, d, tk, os⟩) t its := ⟨_, ht, rfl, n, rfl⟩
    wp_walk using wpAny_loadPart' ht
    refine wpAny_stack_any fun st => wpAny_pure ?_
    split
    · rename_i c _ _ _ _ _
      cases (c == Value.type "enumerate")
      · wp_walk using wpAny_loadPart' ht, wpAny_pyIter_tuple tup
        exact ⟨_, rfl, h⟩
      · wp_walk using wpAny_loadPart' ht, wpAny_pyIter_tuple tup
        exact ⟨_, rfl, h⟩
    · wp_walk using wpAny_loadPart' ht, wpAny_pyIter_tuple tup
      exact ⟨_, rfl, h⟩
section
variable {prog : Program} {w : World} {A : Around} {E : Value → Shared → Prop} {s : Shared}
theorem call_enumT {t : Addr} {its : Array Value} {Q : Value → Shared → Prop} (tup : s.heap.IsTuple t its)
    (h : ∀ h', IsEnum h' (s.heap.objs.size + 1) s.heap.objs.size 0 .none → h'.IsTupleIter s.heap.objs.size t 0 →
      (∀ b o, s.heap.get? b = some o → h'.get? b = some o) → Q (.ref (s.heap.objs.size + 1)) { s with heap := h' }) :
    wpAny (model prog w) A (call (.type "enumerate") [.ref t]) Q E s := by
  obtain ⟨⟨c, dct, dt, sl⟩, ht, hc, n, hd⟩ := tup
  have hc : c = .type "tuple" := hc
  have hd : dt = .seq its n := hd
  subst hc
  subst hd
  have size1 : (s.heap.push (it_obj t)).objs.size = s.heap.objs.size + 1 := Heap.size_push ..
  have en : (enum_heap s.heap t).get? (s.heap.objs.size + 1) = some (en_obj s.heap.objs.size) := by
    have := Heap.get?_push_size (s.heap.push (it_obj t)) (o := en_obj s.heap.objs.size) rfl
    rw [size1] at this
    exact this
  refine callType_new F.called_enumerate (by decide) (F.typeCall_enumerate_1 _) (F.newCall_enumerate_1 _)
    (fun obj => F.args_object_init_2 obj _) F.entry_enumerate_new (enum_make t its n dct sl) ⟨ht, ?_⟩
  show _ ∧ _
  rw [size1]
  refine ⟨⟨_, en, rfl⟩, h _ en ?_ ?_⟩
  · exact ⟨_, Heap.get?_push_of_some _ (Heap.get?_push_size _ rfl), rfl, rfl⟩
  · intro b o x
    exact Heap.get?_push_of_some _ (Heap.get?_push_of_some _ x)
end

/-- the tuple at a as it stands, each item with its number in a new pair -/
def IteT (K : PySem.W.Frag) (a : Addr) : It :=
  ⟨fun i H => ∃ (xs : List V) (x : V), SqT K H a xs ∧ xs[i]? = some x,
   fun i H v H' => ∃ T x, v = .ref T ∧ H T = none ∧ H' = upd H T (.tup [.int (i : Nat), x]) ∧ ∀ xs, SqT K H a xs → xs[i]? = some x,
   fun i H => ∃ xs : List V, SqT K H a xs ∧ xs.length ≤ i⟩
theorem turn_enumT {P : Program} {w : World} {K : PySem.W.Frag} {elts : List Expr} {kk : Nat} {tpos : Pos} (a e it : Addr) :
    Turn P w K (.Tuple elts kk tpos) (IteT K a) [e, it] e
      (fun i h => (∃ old, IsEnum h e it ((i : Nat) : Int) old) ∧ h.IsTupleIter it a i ∧ e ≠ it) where
  mem := by simp
  obj := by
    rintro i h ⟨⟨old, he⟩, ⟨o, ho, hc, hd⟩, _⟩ b hb
    rcases List.mem_cons.mp hb with z | z
    · rw [z]
      exact ⟨_, he, fun v q => nomatch q⟩
    · rw [List.mem_singleton.mp z]
      exact ⟨o, ho, fun v q => by rw [hd] at q; exact nomatch q⟩
  keep := by
    rintro i h h' ⟨⟨old, he⟩, hi, hne⟩ k
    exact ⟨⟨old, k e (by simp) _ he⟩, hi.at (fun o q => k it (by simp) o q), hne⟩
  item := by
    intro X hP hw hK hc i pins s σ H E I hf st hg
    subst hP hw hK
    obtain ⟨⟨old, he⟩, hit, hne⟩ := st
    obtain ⟨xs, x, hq, hx⟩ := hg
    obtain ⟨its, rv, tp, _⟩ := I.tuple hq
    obtain ⟨u, hu, ru⟩ := rv.get hx
    have le : e < s.heap.objs.size := Heap.lt_size he
    have li : it < s.heap.objs.size := by
      obtain ⟨_, q, _⟩ := hit
      exact Heap.lt_size q
    have ait : a ≠ it := by
      rintro rfl
      obtain ⟨o1, q1, c1, _⟩ := tp
      obtain ⟨o2, q2, c2, _⟩ := hit
      rw [q1] at q2
      injection q2 with q2
      subst q2
      rw [c1] at c2
      injection c2 with c2
      exact absurd c2 (by decide)
    have ae : e ≠ a := by
      rintro rfl
      obtain ⟨o1, q1, c1, _⟩ := tp
      have he' : s.heap.get? e = some _ := he
      rw [he'] at q1
      injection q1 with q1
      subst q1
      injection c1 with c1
      exact absurd c1 (by decide)
    have szI : i < its.toArray.size := by
      rw [List.size_toArray]
      exact (List.getElem?_eq_some_iff.mp hu).1
    refine wpAny_pyNext_enum_itemD (Draws.tuple (A := X.A.in1) (I.ok.hd hc) it a ait its.toArray) he ⟨hit, tp⟩ szI hne (by simp [hne, ae]) ?_
    intro x' h' tk px out st' hT hsz hk
    have hxx : its.toArray[i]? = some x' := px
    have exu : x' = u := by
      rw [List.getElem?_toArray, hu] at hxx
      injection hxx with z
      exact z.symm
    subst exu
    refine ⟨_, rfl, wpAny_letOwnedTupleGo_enum (s := { s with heap := h', toks := tk + 1 }) out ?_⟩
    intro h'' he' sb
    have T2 : h''.get? s.heap.objs.size = some { cls := .type "tuple", data := .seq #[.int i tk, x'] } := (sb.2 _ (Nat.ne_of_gt le)).trans hT
    have new : ObjOk X.prog X.w (upd H s.heap.objs.size (.tup [.int (i : Nat), x])) h'' s.heap.objs.size (.tup [.int (i : Nat), x]) := by
      refine ⟨by show 2 ≤ sizeLine; decide, [.int i tk, x'], .cons ⟨_, rfl⟩ (.cons ru .nil), ⟨_, T2, rfl, _, rfl⟩⟩
    have I1 : Inv X pins σ (upd H s.heap.objs.size (.tup [.int (i : Nat), x])) { s with heap := h'', toks := tk + 1 } := by
      refine I.turnedNew (ch := [e, it]) ?_ hf (Nat.le_refl _) new
      intro b o hb q
      have b1 : b ≠ e := fun z => hb (by simp [z])
      have b2 : b ≠ it := fun z => hb (by simp [z])
      exact (sb.2 b b1).trans (hk b o b1 b2 q)
    refine ⟨.ref s.heap.objs.size, _, I1, rfl, ?_, ⟨⟨x', ?_⟩, ?_, hne⟩, ?_⟩
    · refine ⟨_, x, rfl, I.hok.fresh (Nat.le_refl _), rfl, ?_⟩
      intro ys hy
      rw [I.tuple_inj hy hq]
      exact hx
    · have e1 : ((i + 1 : Nat) : Int) = (i : Int) + 1 := by omega
      rw [e1]
      exact he'
    · exact st'.1.at fun o q => (sb.2 it (Ne.symm hne)).trans q
    · intro b hb
      have lb : b < s.heap.objs.size := by
        rcases List.mem_cons.mp hb with z | z
        · rw [z]; exact le
        · rw [List.mem_singleton.mp z]; exact li
      rw [upd_ne (Nat.ne_of_lt lb)]
      exact (hf b hb).1
  done := by
    intro X hP hw hK hc i pins s σ H E I hf st hg
    subst hP hw hK
    obtain ⟨⟨old, he⟩, hit, hne⟩ := st
    obtain ⟨xs, hq, hx⟩ := hg
    obtain ⟨its, rv, tp, _⟩ := I.tuple hq
    have hl := rv.length
    have over : its.toArray[i + 0]? = none := by
      rw [List.getElem?_toArray]
      exact List.getElem?_eq_none_iff.mpr (by omega)
    have D0 : Draws X.prog X.w X.A.in1 it [it, a] 0 (fun _ _ => False) (fun j h => h.IsTupleIter it a (i + j) ∧ h.IsTuple a its.toArray) :=
      { live := fun _ _ z => by
          obtain ⟨o, ho, _⟩ := z.1
          exact ⟨o, ho⟩
        frame := fun _ _ _ z hk => ⟨z.1.at (fun o e => hk it (by simp) o e), z.2.at (fun o e => hk a (by simp) o e)⟩
        item := fun _ _ _ _ z => absurd z (Nat.not_lt_zero _)
        done := fun s Q E z hE => wpAny_nextOf_tuple_end (I.ok.hd hc) z.1 z.2 over hE }
    obtain ⟨f0, f1, f2, f3, f4, f5⟩ := hf it (by simp)
    refine wpAny_pyNext_enum_endD D0 he ⟨hit, tp⟩ ?_
    intro h' eb
    exact ⟨rfl, I.turned (t' := s.toks) (fun b o hb q => eb b o hb q) f0 f1 f3 f4 f5⟩
  self := fun A i s Q E st h => by
    obtain ⟨⟨_, he⟩, _⟩ := st
    exact wpAny_pyIter_enum he h
def iEnumT (K : PySem.W.Frag) (ta : TA) : TI := fun σ H R => ta σ H fun vs H1 => ∃ a xs, vs = [.ref a] ∧ SqT K H1 a xs ∧ R (IteT K a) H1
theorem pi_enumT {X : Cx} {e : Expr} {ta : TA} {p pos tpos : Pos} {elts : List Expr} {kk : Nat} (hg : Gl X "enumerate") (hm : X.mg "enumerate" = none) (ha : PA X [e] ta)
    (hs : starEach [e] X.env = [(false, eval e X.env)] := by rfl) :
    PI X (.Tuple elts kk tpos) (.Call (.Name "enumerate" p) [e] [] pos) (iEnumT X.K ta) := by
  constructor
  intro pins s σ H R I h
  have go := ha.run pos pins s σ H _ I h
  refine Call_ (ld_blt I hg hm boot_enumerate (PyProof.Rows.callWith_type1 (thn go ?_) hs rfl))
  rintro us s1 ⟨vs, H1, I1, r1, a, xs, rfl, hq, q⟩
  obtain ⟨u, rfl, r⟩ := vals1 r1
  cases r
  obtain ⟨its, rv, tp, _⟩ := I1.tuple hq
  refine call_enumT tp ?_
  intro h' en hit hk
  refine wpAny_pyIter_enum en ?_
  have I2 : Inv X pins σ H1 { s1 with heap := h' } := I1.kept (t' := s1.toks) hk
  refine ⟨s1.heap.objs.size + 1, [s1.heap.objs.size + 1, s1.heap.objs.size], _, _, H1, rfl, I2,
    turn_enumT a (s1.heap.objs.size + 1) s1.heap.objs.size, ⟨⟨.none, en⟩, hit, Nat.succ_ne_self _⟩, ?_, q⟩
  intro b hb
  have le : s1.heap.objs.size ≤ b := by
    rcases List.mem_cons.mp hb with z | z
    · rw [z]; exact Nat.le_add_right _ _
    · rw [List.mem_singleton.mp z]; exact Nat.le_refl _
  exact I1.fpOk le (I1.hok.fresh le)
theorem walk_enumT {K : PySem.W.Frag} {a : Addr} {xs : List V} : Walk (IteT K a) xs.length (fun H => SqT K H a xs) (YPair (fun i => some (.int (i : Nat))) (fun i => xs[i]?)) := by
  constructor
  · intro i H hi q
    exact ⟨xs, xs[i], q, by simp [hi]⟩
  · intro H q
    exact ⟨xs, q, Nat.le_refl _⟩
  · rintro i H v H' _ q ⟨T, x, h1, h2, h3, h4⟩
    exact ⟨T, .int (i : Nat), x, h1, h2, h3, rfl, h4 xs q⟩
end WK
set_option Elab.async false
set_option linter.all false
set_option maxRecDepth 100000
namespace WK
open PySem PySem.Spec PyProof.Rows L2

/-! ### sum of a tuple -/
def rSumT (K : PySem.W.Frag) : List V → Hp → VK → Prop := fun vs H Q => ∃ (a : Addr) (ns : List Int), vs = [V.ref a] ∧ SqT K H a (ns.map V.int) ∧ Q (.int ns.sum) H
theorem cr_sumT {X : Cx} (hc : X.calm = true) : CallR X (.builtin "sum") (rSumT X.K) := by
  rintro pins s σ H vs us Q I r ⟨a, ns, rfl, hs, q⟩
  obtain ⟨its, rv, tp, _⟩ := I.tuple hs
  rw [Vals.ref1 r]
  have hi := rv.ints
  obtain ⟨xs, e⟩ := hi.allInts.items
  have hn : numsOf (intItems xs).toList = ns := by
    rw [← e]
    exact hi.numsOf
  rw [nums_intItems] at hn
  rw [e] at tp
  have tp' : s.heap.IsTuple a (intItems xs) := tp
  have lt : a < s.heap.objs.size := by
    obtain ⟨_, g, _⟩ := tp
    exact Heap.lt_size g
  refine call_sum_walkG (wpAny_pyIter_tuple tp' ?_)
  refine ⟨s.heap.objs.size, [s.heap.objs.size, a], [s.heap.objs.size], _, _, _, numAt xs, rfl,
    Walks.tuple (A := X.A.in1) (I.ok.hd hc) s.heap.objs.size a (Nat.ne_of_lt lt) (intItems xs),
    ⟨⟨_, Heap.get?_push_size _ rfl, rfl, rfl⟩, tp'.push _⟩, ?_, fun _ _ => intItems_at, ?_⟩
  · intro b hb
    show b < (s.heap.push _).objs.size
    rw [Heap.size_push]
    rcases List.mem_cons.mp hb with z | z
    · rw [z]; exact Nat.lt_succ_self _
    · rw [List.mem_singleton.mp z]; exact Nat.lt_succ_of_lt lt
  · intro h' tk t' hk
    have k : ∀ b o, s.heap.get? b = some o → h'.get? b = some o := by
      intro b o x
      refine hk b o (fun z => ?_) (Heap.get?_push_of_some _ x)
      rw [List.mem_singleton.mp z] at x
      exact absurd (Heap.lt_size x) (Nat.lt_irrefl _)
    have ev : preSum (numAt xs) (intItems xs).size = ns.sum := by
      rw [preSum_eq, List.take_of_length_le (by simp [intItems]), hn]
    rw [ev]
    exact ⟨.int ns.sum, H, I.kept k, ⟨t', rfl⟩, q⟩

/-! ### zip of a list and a tuple -/
def z1 (h : Heap) (l : Addr) : Heap := h.push { cls := .type "list_iterator", data := .fields #[.ref l, .int 0 0] }
def z2 (h : Heap) (l t : Addr) : Heap := (z1 h l).push { cls := .type "tuple_iterator", data := .fields #[.ref t, .int 0 0] }
def z3 (h : Heap) (l t : Addr) : Heap := (z2 h l t).push { cls := .type "tuple", data := .seq #[.ref h.objs.size, .ref (z1 h l).objs.size] }
def z4 (h : Heap) (l t : Addr) : Heap := (z3 h l t).push { cls := .type "tuple", data := .seq #[.none, .none] }
def z5 (h : Heap) (l t : Addr) : Heap := (z4 h l t).push { cls := .type "zip", data := .fields #[.none, .bool false, .bool false, .ref (z2 h l t).objs.size, .ref (z3 h l t).objs.size] }
theorem zipM_make (l t : Addr) (xs ys : Array Value) :
    Meets (Builtin.«zip.__new__» ⟨[.type "zip", .ref l, .ref t], []⟩)
      (fun _ R s => s.heap.IsList l xs ∧ s.heap.IsTuple t ys ∧ R (.ok (.ret (.ref (z4 s.heap l t).objs.size))) { s with heap := z5 s.heap l t }) :=
  .of_wp fun prog w A R s h => by
    obtain ⟨hp, g, d, tk, os⟩ := s
    obtain ⟨hl, ht, h⟩ := h
    have hsub := sub_zip
    have a1 : Heap.IsList (Shared.heap ⟨hp, g, d, tk, os⟩) l xs := hl
    have a2 : Heap.IsTuple (Shared.heap ⟨hp.push { cls := .type "list_iterator", data := .fields #[.ref l, .int 0 0] }, g, d, tk, os⟩) t ys := Heap.IsTuple.push ht _
    wp_walk using wpAny_pyIter_list a1, wpAny_pyIter_tuple a2
    exact ⟨_, rfl, h⟩
section
variable {prog : Program} {w : World} {A : Around} {E : Value → Shared → Prop} {s : Shared}
theorem call_zipM {l t : Addr} {xs ys : Array Value} {Q : Value → Shared → Prop} (hl : s.heap.IsList l xs) (ht : s.heap.IsTuple t ys)
    (h : ∀ h', IsZip h' (s.heap.objs.size + 4) (s.heap.objs.size + 2) (s.heap.objs.size + 3) .none →
      PySem.IsPair h' (s.heap.objs.size + 2) (.ref s.heap.objs.size) (.ref (s.heap.objs.size + 1)) → PySem.IsPair h' (s.heap.objs.size + 3) .none .none →
      h'.IsListIter s.heap.objs.size l 0 → h'.IsTupleIter (s.heap.objs.size + 1) t 0 →
      (∀ c o, s.heap.get? c = some o → h'.get? c = some o) → Q (.ref (s.heap.objs.size + 4)) { s with heap := h' }) :
    wpAny (model prog w) A (call (.type "zip") [.ref l, .ref t]) Q E s := by
  refine callType_new F.called_zip (by decide) (F.typeCall_zip_2 _ _) (F.newCall_zip_2 _ _)
    (fun obj => F.args_object_init_3 obj _ _) F.entry_zip_new (zipM_make l t xs ys) ⟨hl, ht, ?_⟩
  have n1 : (z1 s.heap l).objs.size = s.heap.objs.size + 1 := Heap.size_push ..
  have n2 : (z2 s.heap l t).objs.size = s.heap.objs.size + 2 := (Heap.size_push ..).trans (congrArg (· + 1) n1)
  have n3 : (z3 s.heap l t).objs.size = s.heap.objs.size + 3 := (Heap.size_push ..).trans (congrArg (· + 1) n2)
  have n4 : (z4 s.heap l t).objs.size = s.heap.objs.size + 4 := (Heap.size_push ..).trans (congrArg (· + 1) n3)
  have p5 : (z5 s.heap l t).get? (z4 s.heap l t).objs.size = some _ := Heap.get?_push_size _ rfl
  have p4 : (z5 s.heap l t).get? (z3 s.heap l t).objs.size = some _ := Heap.get?_push_of_some _ (Heap.get?_push_size _ rfl)
  have p3 : (z5 s.heap l t).get? (z2 s.heap l t).objs.size = some _ :=
    Heap.get?_push_of_some _ (Heap.get?_push_of_some _ (Heap.get?_push_size _ rfl))
  have p2 : (z5 s.heap l t).get? (z1 s.heap l).objs.size = some _ :=
    Heap.get?_push_of_some _ (Heap.get?_push_of_some _ (Heap.get?_push_of_some _ (Heap.get?_push_size _ rfl)))
  have p1 : (z5 s.heap l t).get? s.heap.objs.size = some _ :=
    Heap.get?_push_of_some _ (Heap.get?_push_of_some _ (Heap.get?_push_of_some _ (Heap.get?_push_of_some _ (Heap.get?_push_size _ rfl))))
  show _ ∧ _
  rw [n2, n3, n4] at p5
  rw [n1, n2] at p3
  rw [n3] at p4
  rw [n1] at p2
  rw [n4]
  refine ⟨⟨_, p5, rfl⟩, h _ p5 p3 p4 ⟨_, p1, rfl, rfl⟩ ⟨_, p2, rfl, rfl⟩ ?_⟩
  intro c o x
  exact Heap.get?_push_of_some _ (Heap.get?_push_of_some _ (Heap.get?_push_of_some _ (Heap.get?_push_of_some _ (Heap.get?_push_of_some _ x))))
end
/-- the list at a and the tuple at b as they stand, the items in new pairs -/
def ItzM (K : PySem.W.Frag) (a b : Addr) : It :=
  ⟨fun i H => ∃ (xs ys : List V) (x y : V), SqL K H a xs ∧ SqT K H b ys ∧ xs[i]? = some x ∧ ys[i]? = some y,
   fun i H v H' => ∃ T x y, v = .ref T ∧ H T = none ∧ H' = upd H T (.tup [x, y]) ∧ (∀ xs, SqL K H a xs → xs[i]? = some x) ∧ ∀ ys, SqT K H b ys → ys[i]? = some y,
   fun i H => ∃ xs ys : List V, SqL K H a xs ∧ SqT K H b ys ∧ (i = xs.length ∧ i ≤ ys.length ∨ i = ys.length ∧ i ≤ xs.length)⟩
theorem sep_of {z TI TO i1 i2 a b : Addr} (D : ZipApart z TI TO i1 i2 a b) : ZipSep2 z TI TO i1 i2 [i1, a] [i2, b] := by
  refine ⟨D.TIz, D.TOz, D.TITO, D.TIi1, by simp, ?_, ?_, D.TIi2, by simp, ?_, ?_, ?_, ?_⟩
  · simp [D.i1z.symm, D.l1z.symm]
  · simp [D.TOi1, D.l1TO.symm]
  · simp [D.i2z.symm, D.l2z.symm]
  · simp [D.TOi2, D.l2TO.symm]
  · simp [D.i12, D.l2i1.symm]
  · simp [D.i12.symm, D.l1i2.symm]
theorem turn_zipM {P : Program} {w : World} {K : PySem.W.Frag} {elts : List Expr} {kk : Nat} {tpos : Pos} {a b z TI TO i1 i2 : Addr} (D : ZipApart z TI TO i1 i2 a b) :
    Turn P w K (.Tuple elts kk tpos) (ItzM K a b) [z, TI, TO, i1, i2] z
      (fun i h => IsZip h z TI TO .none ∧ PySem.IsPair h TI (.ref i1) (.ref i2) ∧ (∃ x y, PySem.IsPair h TO x y) ∧ h.IsListIter i1 a i ∧ h.IsTupleIter i2 b i) where
  mem := by simp
  obj := by
    rintro i h ⟨hz, hTI, ⟨x, y, hTO⟩, ⟨o1, e1, _, d1⟩, ⟨o2, e2, _, d2⟩⟩ c hc
    have e' : c = z ∨ c = TI ∨ c = TO ∨ c = i1 ∨ c = i2 := by simpa using hc
    rcases e' with rfl | rfl | rfl | rfl | rfl
    · exact ⟨_, hz, fun v q => nomatch q⟩
    · exact ⟨_, hTI, fun v q => nomatch q⟩
    · exact ⟨_, hTO, fun v q => nomatch q⟩
    · exact ⟨o1, e1, fun v q => by rw [d1] at q; exact nomatch q⟩
    · exact ⟨o2, e2, fun v q => by rw [d2] at q; exact nomatch q⟩
  keep := by
    rintro i h h' ⟨hz, hTI, ⟨x, y, hTO⟩, q1, q2⟩ k
    exact ⟨k z (by simp) _ hz, k TI (by simp) _ hTI, ⟨x, y, k TO (by simp) _ hTO⟩, q1.at (fun o q => k i1 (by simp) o q), q2.at (fun o q => k i2 (by simp) o q)⟩
  item := by
    intro X hP hw hK hc i pins s σ H E I hf st hg
    subst hP hw hK
    obtain ⟨hz, hTI, ⟨x0, y0, hTO⟩, q1, q2⟩ := st
    obtain ⟨xs, ys, x, y, hqx, hqy, hx, hy⟩ := hg
    obtain ⟨its, rv, pl, _⟩ := I.list hqx
    obtain ⟨jts, rv2, tp, _⟩ := I.tuple hqy
    obtain ⟨u, hu, ru⟩ := rv.get hx
    obtain ⟨u2, hu2, ru2⟩ := rv2.get hy
    have hzl : z < s.heap.objs.size := Heap.lt_size hz
    have s1 : i < its.toArray.size := by
      rw [List.size_toArray]
      exact (List.getElem?_eq_some_iff.mp hu).1
    have s2 : i < jts.toArray.size := by
      rw [List.size_toArray]
      exact (List.getElem?_eq_some_iff.mp hu2).1
    have tp' : s.heap.IsTuple b jts.toArray := tp
    refine wpAny_pyNext_zipD2_item (sep_of D) (Draws.list (A := X.A.in1) (I.ok.hd hc) i1 a D.l1i1 its.toArray) (Draws.tuple (A := X.A.in1) (I.ok.hd hc) i2 b D.l2i2 jts.toArray)
      hz hTI hTO ⟨q1, pl.isList⟩ ⟨q2, tp'⟩ s1 s2 ?_
    intro v1 v2 h' tk e1 e2 hz' hTO' st1 st2 hT hsz hk
    have e1 : its.toArray[i]? = some v1 := e1
    have e2 : jts.toArray[i]? = some v2 := e2
    rw [List.getElem?_toArray, hu] at e1
    rw [List.getElem?_toArray, hu2] at e2
    injection e1 with e1
    injection e2 with e2
    subst e1
    subst e2
    refine ⟨_, rfl, wpAny_letOwnedTupleGo_zip (s := { s with heap := h', toks := tk }) hz' ?_⟩
    intro h'' hz'' sb
    have T2 : h''.get? s.heap.objs.size = some { cls := .type "tuple", data := .seq #[u, u2] } := (sb.2 _ (Nat.ne_of_gt hzl)).trans hT
    have new : ObjOk X.prog X.w (upd H s.heap.objs.size (.tup [x, y])) h'' s.heap.objs.size (.tup [x, y]) :=
      ⟨by show 2 ≤ sizeLine; decide, [u, u2], .cons ru (.cons ru2 .nil), ⟨_, T2, rfl, _, rfl⟩⟩
    have I1 : Inv X pins σ (upd H s.heap.objs.size (.tup [x, y])) { s with heap := h'', toks := tk } := by
      refine I.turnedNew (ch := [z, TI, TO, i1, i2]) ?_ hf (Nat.le_refl _) new
      intro c o hb q
      have c1 : c ≠ z := fun e => hb (by simp [e])
      have c2 : c ≠ TO := fun e => hb (by simp [e])
      have c3 : c ≠ i1 := fun e => hb (by simp [e])
      have c4 : c ≠ i2 := fun e => hb (by simp [e])
      exact (sb.2 c c1).trans (hk c o c1 c2 c3 c4 q)
    refine ⟨.ref s.heap.objs.size, _, I1, rfl, ⟨_, x, y, rfl, I.hok.fresh (Nat.le_refl _), rfl, ?_, ?_⟩, ⟨hz'', ?_, ⟨u, u2, ?_⟩, ?_, ?_⟩, ?_⟩
    · intro l hl
      rw [I.list_inj hl hqx]
      exact hx
    · intro l hl
      rw [I.tuple_inj hl hqy]
      exact hy
    · exact (sb.2 _ D.TIz).trans (hk _ _ D.TIz D.TITO D.TIi1 D.TIi2 hTI)
    · exact (sb.2 _ D.TOz).trans hTO'
    · exact st1.1.at fun o q => (sb.2 _ D.i1z).trans q
    · exact st2.1.at fun o q => (sb.2 _ D.i2z).trans q
    · intro c hcm
      obtain ⟨o1, g1, _⟩ := q1
      obtain ⟨o2, g2, _⟩ := q2
      have lt : c < s.heap.objs.size := by
        have e' : c = z ∨ c = TI ∨ c = TO ∨ c = i1 ∨ c = i2 := by simpa using hcm
        rcases e' with rfl | rfl | rfl | rfl | rfl
        · exact hzl
        · exact Heap.lt_size hTI
        · exact Heap.lt_size hTO
        · exact Heap.lt_size g1
        · exact Heap.lt_size g2
      rw [upd_ne (Nat.ne_of_lt lt)]
      exact (hf c hcm).1
  done := by
    intro X hP hw hK hc i pins s σ H E I hf st hg
    subst hP hw hK
    obtain ⟨hz, hTI, ⟨x0, y0, hTO⟩, q1, q2⟩ := st
    obtain ⟨xs, ys, hqx, hqy, hend⟩ := hg
    obtain ⟨its, rv, pl, _⟩ := I.list hqx
    obtain ⟨jts, rv2, tp, _⟩ := I.tuple hqy
    have l1 := rv.length
    have l2 := rv2.length
    have tp' : s.heap.IsTuple b jts.toArray := tp
    refine wpAny_pyNext_zipD2_end (i := i) (sep_of D) (Draws.list (A := X.A.in1) (I.ok.hd hc) i1 a D.l1i1 its.toArray) (Draws.tuple (A := X.A.in1) (I.ok.hd hc) i2 b D.l2i2 jts.toArray)
      hz hTI hTO ⟨q1, pl.isList⟩ ⟨q2, tp'⟩ ?_ ?_ ?_ ?_
    · rw [List.size_toArray]; omega
    · rw [List.size_toArray]; omega
    · rw [List.size_toArray, List.size_toArray]; omega
    · intro h' tk hk
      refine ⟨rfl, I.turnedL (t' := tk) (ch := [z, TI, TO, i1, i2]) ?_ hf⟩
      intro c o hb q
      exact hk c o (fun e => hb (by simp [e])) (fun e => hb (by simp [e])) (fun e => hb (by simp [e])) (fun e => hb (by simp [e])) q
  self := fun A i s Q E st h => wpAny_pyIter_zip st.1 h
def iZipM (K : PySem.W.Frag) (ta : TA) : TI := fun σ H R => ta σ H fun vs H1 => ∃ a b xs ys, vs = [.ref a, .ref b] ∧ SqL K H1 a xs ∧ SqT K H1 b ys ∧ R (ItzM K a b) H1
theorem pi_zipM {X : Cx} {e e2 : Expr} {ta : TA} {p pos tpos : Pos} {elts : List Expr} {kk : Nat} (hg : Gl X "zip") (hm : X.mg "zip" = none) (ha : PA X [e, e2] ta)
    (hs : starEach [e, e2] X.env = (false, eval e X.env) :: starEach [e2] X.env := by rfl) (hpl : (backTo pos (starEach [e2] X.env)).any (·.1) = false := by rfl) :
    PI X (.Tuple elts kk tpos) (.Call (.Name "zip" p) [e, e2] [] pos) (iZipM X.K ta) := by
  constructor
  intro pins s σ H R I h
  have go := ha.run pos pins s σ H _ I h
  refine Call_ (ld_blt I hg hm PyProof.Rows.boot_zip (PyProof.Rows.callWith_type1 (thn go ?_) hs hpl))
  rintro us s1 ⟨vs, H1, I1, r1, a, b, xs, ys, rfl, hqx, hqy, q⟩
  obtain ⟨u1, u2, rfl, r, r'⟩ := vals2 r1
  cases r
  cases r'
  obtain ⟨its, rv, pl, _⟩ := I1.list hqx
  obtain ⟨jts, rv2, tp, _⟩ := I1.tuple hqy
  have tp' : s1.heap.IsTuple b jts.toArray := tp
  have la : a < s1.heap.objs.size := pl.lt
  have lb : b < s1.heap.objs.size := by
    obtain ⟨_, g, _⟩ := tp
    exact Heap.lt_size g
  refine call_zipM pl.isList tp' ?_
  intro h' hz hTI hTO q1 q2 hk
  refine wpAny_pyIter_zip hz ?_
  have I2 : Inv X pins σ H1 { s1 with heap := h' } := I1.kept (t' := s1.toks) hk
  refine ⟨s1.heap.objs.size + 4, [s1.heap.objs.size + 4, s1.heap.objs.size + 2, s1.heap.objs.size + 3, s1.heap.objs.size, s1.heap.objs.size + 1], _, _, H1, rfl, I2,
    turn_zipM (PySem.W.ktu_apart s1.heap.objs.size a b la lb), ⟨hz, hTI, ⟨_, _, hTO⟩, q1, q2⟩, ?_, q⟩
  intro c hcm
  have hle : s1.heap.objs.size ≤ c := by
    have e' : c = s1.heap.objs.size + 4 ∨ c = s1.heap.objs.size + 2 ∨ c = s1.heap.objs.size + 3 ∨ c = s1.heap.objs.size ∨ c = s1.heap.objs.size + 1 := by simpa using hcm
    rcases e' with e | e | e | e | e <;> rw [e]
    · exact Nat.le_add_right _ 4
    · exact Nat.le_add_right _ 2
    · exact Nat.le_add_right _ 3
    · exact Nat.le_refl _
    · exact Nat.le_add_right _ 1
  exact I1.fpOk hle (I1.hok.fresh hle)
theorem walk_zipM {K : PySem.W.Frag} {a b : Addr} {xs ys : List V} {n : Nat} (hn : n = min xs.length ys.length) :
    Walk (ItzM K a b) n (fun H => SqL K H a xs ∧ SqT K H b ys) (YPair (fun i => xs[i]?) (fun i => ys[i]?)) := by
  subst hn
  constructor
  · rintro i H hi ⟨q1, q2⟩
    have h1 : i < xs.length := by omega
    have h2 : i < ys.length := by omega
    exact ⟨xs, ys, xs[i], ys[i], q1, q2, by simp [h1], by simp [h2]⟩
  · rintro H ⟨q1, q2⟩
    exact ⟨xs, ys, q1, q2, by omega⟩
  · rintro i H v H' _ ⟨q1, q2⟩ ⟨T, x, y, h1, h2, h3, h4, h5⟩
    exact ⟨T, x, y, h1, h2, h3, h4 xs q1, h5 ys q2⟩
/-- zip of two tuples -/
theorem walk_zipT {K : PySem.W.Frag} {a b : Addr} {xs ys : List V} {n : Nat} (hn : n = min xs.length ys.length) :
    Walk (RZ.ItzT K a b) n (fun H => SqT K H a xs ∧ SqT K H b ys) (YPair (fun i => xs[i]?) (fun i => ys[i]?)) := by
  subst hn
  constructor
  · rintro i H hi ⟨q1, q2⟩
    have h1 : i < xs.length := by omega
    have h2 : i < ys.length := by omega
    exact ⟨xs, ys, xs[i], ys[i], q1, q2, by simp [h1], by simp [h2]⟩
  · rintro H ⟨q1, q2⟩
    exact ⟨xs, ys, q1, q2, by omega⟩
  · rintro i H v H' _ ⟨q1, q2⟩ ⟨T, x, y, h1, h2, h3, h4, h5⟩
    exact ⟨T, x, y, h1, h2, h3, h4 xs q1, h5 ys q2⟩
end WK
set_option Elab.async false
set_option linter.all false
set_option maxRecDepth 100000
namespace WK
open PySem PySem.Spec PyProof.Rows L2
structure Blt (mg : Str → Option Value) : Prop where
  int : mg "int" = none
  abs : mg "abs" = none
  len : mg "len" = none
  max : mg "max" = none
  min : mg "min" = none
  tuple : mg "tuple" = none
  range : mg "range" = none
  zip : mg "zip" = none
  enumerate : mg "enumerate" = none
  repr : mg "repr" = none
  sum : mg "sum" = none
  all : mg "all" = none
  any : mg "any" = none
  sorted : mg "sorted" = none
  list : mg "list" = none
/-! ### tuples stay -/
def Tups (H H' : Hp) : Prop := ∀ b xs, H b = some (.tup xs) → H' b = some (.tup xs)
theorem Tups.refl (H : Hp) : Tups H H := fun _ _ h => h
theorem Tups.trans {H H1 H2 : Hp} (a : Tups H H1) (b : Tups H1 H2) : Tups H H2 := fun x xs h => b x xs (a x xs h)
theorem Same.tups {H H' : Hp} (s : Same H H') : Tups H H' := fun b xs h => s b _ h
theorem Off.tups {H H' : Hp} {p c : Addr} (o : Off p c H H') (S : Src H p c) : Tups H H' := fun b xs h => o.tup S h
theorem tups_upd {H : Hp} {a : Addr} {xs : List V} {o : HO} (h : H a = some (.lst xs)) : Tups H (upd H a o) := fun b ys e => by
  rw [upd_ne (ne_of e h (by intro z; cases z))]
  exact e
/-! ### slots -/
structure Slt where
  need : Int
  most : Int
  first : Int
  slopes : List Int
def SltAt (H : Hp) (v : V) (s : Slt) : Prop := ∃ t u, v = .ref t ∧ H t = some (.tup [.int s.need, .int s.most, .int s.first, .ref u]) ∧ H u = some (.tup (s.slopes.map V.int))
theorem SltAt.mono {H H' : Hp} {v : V} {s : Slt} (k : Tups H H') (h : SltAt H v s) : SltAt H' v s := by
  obtain ⟨t, u, e, a, b⟩ := h
  exact ⟨t, u, e, k _ _ a, k _ _ b⟩
abbrev SltsAt (H : Hp) : List V → List Slt → Prop := Paired (SltAt H)
theorem SltsAt.mono {H H' : Hp} (k : Tups H H') : ∀ {vs : List V} {ss : List Slt}, SltsAt H vs ss → SltsAt H' vs ss
  | _, _, .nil => .nil
  | _, _, .cons a b => .cons (a.mono k) (SltsAt.mono k b)
theorem SltsAt.len {H : Hp} : ∀ {vs : List V} {ss : List Slt}, SltsAt H vs ss → vs.length = ss.length
  | _, _, .nil => rfl
  | _, _, .cons _ b => congrArg (· + 1) (SltsAt.len b)
theorem SltsAt.snoc {H : Hp} : ∀ {vs : List V} {ss : List Slt} {v : V} {s : Slt}, SltsAt H vs ss → SltAt H v s → SltsAt H (vs ++ [v]) (ss ++ [s])
  | _, _, _, _, .nil, h => .cons h .nil
  | _, _, _, _, .cons a b, h => .cons a (SltsAt.snoc b h)
theorem SltsAt.get {H : Hp} : ∀ {vs : List V} {ss : List Slt} {i : Nat} {v : V}, SltsAt H vs ss → vs[i]? = some v → ∃ s, ss[i]? = some s ∧ SltAt H v s
  | _, _, _, _, .nil, e => by simp at e
  | _, _, 0, v, .cons a _, e => by
    have e : _ = v := Option.some.inj e
    subst e
    exact ⟨_, rfl, a⟩
  | _, _, i + 1, v, .cons _ b, e => SltsAt.get (i := i) b e
/-- a slot of the document, within bounds: m its greatest number, b how steep, f its first cost's bound -/
structure Slt.Ok (s : Slt) (m b f : Int) : Prop where
  lo : 0 ≤ s.need
  mid : s.need ≤ s.most
  hi : s.most ≤ m
  len : (s.slopes.length : Int) = s.most - s.need
  steep : ∀ z ∈ s.slopes, -b ≤ z ∧ z ≤ b
  asc : s.slopes.Pairwise (· ≤ ·)
  pos : ∀ k, 0 ≤ s.first + (s.slopes.take k).sum
  fst : s.first ≤ f
def costAt (s : Slt) (x : Int) : Int := s.first + (s.slopes.take (x - s.need).toNat).sum
theorem sum_bounds {b : Int} : ∀ {l : List Int}, (∀ z ∈ l, -b ≤ z ∧ z ≤ b) → -(b * l.length) ≤ l.sum ∧ l.sum ≤ b * l.length
  | [], _ => by simp
  | z :: l, h => by
    have h1 := h z (List.mem_cons_self ..)
    have h2 := sum_bounds (l := l) fun y hy => h y (List.mem_cons_of_mem _ hy)
    rw [List.sum_cons, List.length_cons, Int.natCast_add, Int.mul_add]
    omega
/-- the sums of the first ones -/
def sumsL (l : List Int) (i : Nat) : List Int := (List.range i).map fun k => (l.take (k + 1)).sum
theorem sumsL_succ {l : List Int} {i : Nat} : sumsL l (i + 1) = sumsL l i ++ [(l.take (i + 1)).sum] := by
  unfold sumsL
  rw [List.range_succ, List.map_append]
  rfl
theorem sumsL_len {l : List Int} {i : Nat} : (sumsL l i).length = i := by
  unfold sumsL
  rw [List.length_map, List.length_range]
theorem low_le {l : List Int} {m : Int} (h : ∀ y ∈ (0 :: sumsL l l.length), m ≤ y) (k : Nat) : m ≤ (l.take k).sum := by
  have h0 : m ≤ 0 := h 0 (List.mem_cons_self ..)
  have step : ∀ j, j < l.length → m ≤ (l.take (j + 1)).sum := fun j hj =>
    h _ (List.mem_cons_of_mem _ (List.mem_map.mpr ⟨j, List.mem_range.mpr hj, rfl⟩))
  by_cases hk : k ≤ l.length
  · cases k with
    | zero => simpa using h0
    | succ j => exact step j (by omega)
  · rw [List.take_of_length_le (by omega)]
    by_cases hz : l.length = 0
    · have : l = [] := List.length_eq_zero_iff.mp hz
      subst this
      simpa using h0
    · have := step (l.length - 1) (by omega)
      rw [show l.length - 1 + 1 = l.length by omega, List.take_length] at this
      exact this
theorem low_ge {l : List Int} {m b : Int} (hb : 0 ≤ b) (hl : ∀ z ∈ l, -b ≤ z ∧ z ≤ b) (h : m ∈ (0 :: sumsL l l.length)) : -(b * l.length) ≤ m := by
  rcases List.mem_cons.mp h with e | e
  · subst e
    have : 0 ≤ b * (l.length : Int) := Int.mul_nonneg hb (Int.natCast_nonneg _)
    omega
  · obtain ⟨k, hk, rfl⟩ := List.mem_map.mp e
    have hk := List.mem_range.mp hk
    have s := sum_bounds (l := l.take (k + 1)) (b := b) fun z hz => hl z (List.mem_of_mem_take hz)
    rw [List.length_take, Nat.min_eq_left (by omega)] at s
    have le : b * ((k + 1 : Nat) : Int) ≤ b * (l.length : Int) := Int.mul_le_mul_of_nonneg_left (by omega) hb
    omega
def spSlots : Sp := fun vs H Q _ => ∃ (p c : Addr) (ticks : Nat) (most : Int), vs = [.ref p, .int ticks, .int most] ∧ Src H p c ∧ ticks ≤ 1000 ∧ 0 ≤ most ∧ most ≤ 1000 ∧
  ∀ (H' : Hp) (t : Addr) (ws : List V) (ss : List Slt), Src H' p c → Off p c H H' → H' t = some (.tup ws) → H t = none → SltsAt H' ws ss → ss.length = ticks → (∀ s ∈ ss, s.Ok most 8 (3 + 8 * most)) → Q (.ref t) H'
def spGreat : Sp := fun vs H Q _ => ∃ (p c : Addr) (ticks : Nat) (most : Int), vs = [.ref p, .int ticks, .int most] ∧ Src H p c ∧ ticks ≤ 1000 ∧ 0 ≤ most ∧ most ≤ 1000 ∧
  ∀ (H' : Hp) (t : Addr) (ws : List V) (ss : List Slt), Src H' p c → Off p c H H' → H' t = some (.tup ws) → H t = none → SltsAt H' ws ss → ss.length = ticks →
    (∀ s ∈ ss, s.Ok 1000000 80000000000 (10000000000 * (3 + 8 * most)) ∧ s.most - s.need ≤ most) → Q (.ref t) H'
theorem mul_sum {b : Int} : ∀ {l : List Int}, (l.map (· * b)).sum = l.sum * b
  | [] => by simp
  | z :: l => by
    rw [List.map_cons, List.sum_cons, List.sum_cons, mul_sum, Int.add_mul]
theorem Slt.Ok.great {s : Slt} {m f far by1 : Int} (h : s.Ok m 8 f) (h0 : 0 ≤ far) (hf : far + m ≤ 1000000) (b1 : 1 ≤ by1) (b2 : by1 ≤ 10000000000) (f0 : 0 ≤ f) :
    Slt.Ok ⟨s.need + far, s.most + far, s.first * by1, s.slopes.map (· * by1)⟩ 1000000 80000000000 (10000000000 * f) := by
  constructor
  · show 0 ≤ s.need + far
    have := h.lo
    omega
  · show s.need + far ≤ s.most + far
    have := h.mid
    omega
  · show s.most + far ≤ 1000000
    have := h.hi
    omega
  · show ((s.slopes.map (· * by1)).length : Int) = s.most + far - (s.need + far)
    rw [List.length_map, h.len]
    omega
  · intro z hz
    obtain ⟨y, hy, rfl⟩ := List.mem_map.mp hz
    obtain ⟨a, b⟩ := h.steep y hy
    show -80000000000 ≤ y * by1 ∧ y * by1 ≤ 80000000000
    have u : y * by1 ≤ 8 * by1 := Int.mul_le_mul_of_nonneg_right b (by omega)
    have l : -8 * by1 ≤ y * by1 := Int.mul_le_mul_of_nonneg_right a (by omega)
    omega
  · show (s.slopes.map (· * by1)).Pairwise (· ≤ ·)
    rw [List.pairwise_map]
    exact h.asc.imp fun {a b} z => Int.mul_le_mul_of_nonneg_right z (by omega)
  · intro k
    show 0 ≤ s.first * by1 + ((s.slopes.map (· * by1)).take k).sum
    rw [← List.map_take, mul_sum, ← Int.add_mul]
    exact Int.mul_nonneg (h.pos k) (by omega)
  · show s.first * by1 ≤ 10000000000 * f
    have p0 : 0 ≤ s.first := by simpa using h.pos 0
    have a : s.first * by1 ≤ f * by1 := Int.mul_le_mul_of_nonneg_right h.fst (by omega)
    have b : f * by1 ≤ f * 10000000000 := Int.mul_le_mul_of_nonneg_left b2 f0
    omega
end WK
set_option Elab.async false
set_option linter.all false
set_option maxRecDepth 100000
namespace WK
open PySem PySem.Spec PyProof.Rows L2
/-! ### layers and gaps -/
def layerL (ns : List Int) (k : Int) : List Int := ns.map fun x => if k ≤ x then 1 else 0
def onL (ns : List Int) (k : Int) (i : Nat) : List Int := ((List.range i).filter fun t => decide (k ≤ ns.getD t 0)).map fun (t : Nat) => (t : Int)
def pairsL (os : List Int) (i : Nat) : List (Int × Int) := ((List.range i).filter fun j => decide (1 < os.getD (j + 1) 0 - os.getD j 0)).map fun j => (os.getD j 0 + 1, os.getD (j + 1) 0 - os.getD j 0 - 1)
def prD (p : Int × Int) : PyData := .tuple [.int p.1, .int p.2]
def gapsL (ns : List Int) (k : Int) : List (Int × Int) := pairsL (onL ns k ns.length) ((onL ns k ns.length).length - 1)
theorem getD_of {ns : List Int} {i : Nat} {x : Int} (h : ns[i]? = some x) : ns.getD i 0 = x := by
  rw [List.getD_eq_getElem?_getD, h]
  rfl
theorem onL_yes {ns : List Int} {k x : Int} {i : Nat} (h : ns[i]? = some x) (hk : k ≤ x) : onL ns k (i + 1) = onL ns k i ++ [(i : Int)] := by
  unfold onL
  rw [List.range_succ, List.filter_append, List.map_append, List.filter_cons, if_pos (by rw [getD_of h]; exact decide_eq_true hk)]
  rfl
theorem onL_no {ns : List Int} {k x : Int} {i : Nat} (h : ns[i]? = some x) (hk : ¬ k ≤ x) : onL ns k (i + 1) = onL ns k i := by
  unfold onL
  rw [List.range_succ, List.filter_append, List.map_append, List.filter_cons, if_neg (by rw [getD_of h]; simpa using hk)]
  simp
theorem onL_len {ns : List Int} {k : Int} {i : Nat} : (onL ns k i).length ≤ i := by
  unfold onL
  rw [List.length_map]
  refine Nat.le_trans (List.length_filter_le _ (List.range i)) ?_
  rw [List.length_range]
  exact Nat.le_refl _
theorem pairsL_yes {os : List Int} {a b : Int} {i : Nat} (h : os[i]? = some a) (h1 : os[i + 1]? = some b) (hk : 1 < b - a) : pairsL os (i + 1) = pairsL os i ++ [(a + 1, b - a - 1)] := by
  unfold pairsL
  rw [List.range_succ, List.filter_append, List.map_append, List.filter_cons, if_pos (by rw [getD_of h, getD_of h1]; exact decide_eq_true hk)]
  simp only [List.filter_nil, List.map_cons, List.map_nil, getD_of h, getD_of h1]
theorem pairsL_no {os : List Int} {a b : Int} {i : Nat} (h : os[i]? = some a) (h1 : os[i + 1]? = some b) (hk : ¬ 1 < b - a) : pairsL os (i + 1) = pairsL os i := by
  unfold pairsL
  rw [List.range_succ, List.filter_append, List.map_append, List.filter_cons, if_neg (by rw [getD_of h, getD_of h1]; simpa using hk)]
  simp
theorem pairsL_len {os : List Int} {i : Nat} : (pairsL os i).length ≤ i := by
  unfold pairsL
  rw [List.length_map]
  refine Nat.le_trans (List.length_filter_le _ (List.range i)) ?_
  rw [List.length_range]
  exact Nat.le_refl _
/-- pairs stand, whatever list is stored -/
theorem dp_pairs_upd {K : PySem.W.Frag} {H : Hp} {a : Addr} {xs ys : List V} : ∀ {ps : List (Int × Int)} {ws : List V}, DpAll K H ws (ps.map prD) → H a = some (.lst xs) → DpAll K (upd H a (.lst ys)) ws (ps.map prD)
  | [], _, h, _ => by
    cases h
    exact .nil
  | p :: ps, _, h, ha => by
    cases h with
    | cons h1 h2 =>
      refine .cons ?_ (dp_pairs_upd h2 ha)
      cases h1 with
      | @tup a' xs' ds' h3 h4 =>
        have h5 : DpAll K (upd H a (.lst ys)) xs' [PyData.int p.1, PyData.int p.2] := by
          cases h4 with
          | cons q1 q2 =>
            cases q1
            cases q2 with
            | cons q3 q4 =>
              cases q3
              cases q4
              exact .cons (.int _) (.cons (.int _) .nil)
        refine .tup ?_ h5
        rcases h3 with (h3 | ⟨o, h3⟩) | h3
        · exact .inl (.inl (by rw [upd_ne (ne_of h3 ha (by intro z; cases z))]; exact h3))
        · exact .inl (.inr ⟨o, by rw [upd_ne (ne_of h3 ha (by intro z; cases z))]; exact h3⟩)
        · exact .inr h3
def spLayer : Sp := fun vs H Q _ => ∃ (t : Addr) (k : Int) (ns : List Int), vs = [.ref t, .int k] ∧ H t = some (.tup (ns.map V.int)) ∧ ns.length ≤ 5000 ∧
  ∀ H' u, Same H H' → H u = none → H' u = some (.tup ((layerL ns k).map V.int)) → Q (.ref u) H'
def spGaps (K : PySem.W.Frag) : Sp := fun vs H Q _ => ∃ (t : Addr) (k : Int) (ns : List Int), vs = [.ref t, .int k] ∧ H t = some (.tup (ns.map V.int)) ∧ ns.length ≤ 5000 ∧
  ∀ H' g ws, Same H H' → H g = none → H' g = some (.lst ws) → DpAll K H' ws ((gapsL ns k).map prD) → Q (.ref g) H'
end WK
namespace WK
open PySem PySem.Spec PyProof.Rows L2
def lgD (ns : List Int) (k : Int) : PyData := .list [.tuple (intsD (layerL ns k)), .list ((gapsL ns k).map prD)]
theorem layerL_len {ns : List Int} {k : Int} : (layerL ns k).length = ns.length := List.length_map ..
theorem layerL_small {ns : List Int} {k : Int} : ∀ z ∈ layerL ns k, z.natAbs < 10 ^ 150 := by
  intro z hz
  obtain ⟨x, _, rfl⟩ := List.mem_map.mp hz
  have e : (1 : Nat) < 10 ^ 150 := by decide +kernel
  split <;> omega
theorem onL_mem {ns : List Int} {k : Int} {i : Nat} : ∀ z ∈ onL ns k i, 0 ≤ z ∧ z < i := by
  intro z hz
  obtain ⟨t, ht, rfl⟩ := List.mem_map.mp hz
  have := List.mem_range.mp (List.mem_filter.mp ht).1
  omega
theorem getD_mem {os : List Int} {j : Nat} {n : Nat} (h : ∀ z ∈ os, 0 ≤ z ∧ z < (n : Int)) : 0 ≤ os.getD j 0 ∧ os.getD j 0 ≤ n := by
  rw [List.getD_eq_getElem?_getD]
  match e : os[j]? with
  | none => exact ⟨Int.le_refl _, Int.natCast_nonneg _⟩
  | some z =>
    have := h z (List.mem_of_getElem? e)
    exact ⟨this.1, Int.le_of_lt this.2⟩
theorem gapsL_small {ns : List Int} {k : Int} (hl : ns.length ≤ 5000) : ∀ p ∈ gapsL ns k, p.1.natAbs < 10 ^ 150 ∧ p.2.natAbs < 10 ^ 150 := by
  intro p hp
  obtain ⟨j, _, rfl⟩ := List.mem_map.mp hp
  have a := getD_mem (j := j) (onL_mem (ns := ns) (k := k) (i := ns.length))
  have b := getD_mem (j := j + 1) (onL_mem (ns := ns) (k := k) (i := ns.length))
  have e : (20000 : Nat) < 10 ^ 150 := by decide +kernel
  constructor <;> (show Int.natAbs _ < _) <;> omega
theorem gapsL_len {ns : List Int} {k : Int} : (gapsL ns k).length ≤ ns.length := by
  refine Nat.le_trans pairsL_len ?_
  have := onL_len (ns := ns) (k := k) (i := ns.length)
  omega
theorem lil_pairs {ps : List (Int × Int)} (h : ∀ p ∈ ps, p.1.natAbs < 10 ^ 150 ∧ p.2.natAbs < 10 ^ 150) : LilAll (ps.map prD) := by
  rw [lilAll_iff]
  intro x hx
  obtain ⟨p, hp, rfl⟩ := List.mem_map.mp hx
  simpa only [prD, Lil, LilAll, and_true] using h p hp
theorem cost_pairs {ps : List (Int × Int)} : costAll (ps.map prD) ≤ ps.length * 311 := by
  have := costAll_le (c := 309) (xs := ps.map prD) (fun x hx => by
    obtain ⟨p, hp, rfl⟩ := List.mem_map.mp hx
    simp only [prD, cost, costAll]
    omega)
  rw [List.length_map] at this
  exact this
theorem depth_pairs {ps : List (Int × Int)} : PyData.depthAll (ps.map prD) ≤ 1 :=
  depthAll_le fun x hx => by
    obtain ⟨p, hp, rfl⟩ := List.mem_map.mp hx
    simp only [prD, PyData.depth, PyData.depthAll]
    omega
theorem lg_shows {ns : List Int} {k : Int} (hl : ns.length ≤ 1000) : Shows (lgD ns k) := by
  have dp := depth_pairs (ps := gapsL ns k)
  have ci := cost_ints (ns := layerL ns k)
  have cp := cost_pairs (ps := gapsL ns k)
  have l1 := layerL_len (ns := ns) (k := k)
  have l2 := gapsL_len (ns := ns) (k := k)
  refine shows_of ?_ ?_ ?_
  · simp only [lgD, Lil, LilAll, and_true]
    exact ⟨lil_ints layerL_small, lil_pairs (gapsL_small (by omega))⟩
  · simp only [lgD, PyData.depth, PyData.depthAll, depth_ints]
    omega
  · simp only [lgD, cost, costAll]
    rw [l1] at ci
    refine Nat.le_trans (show _ ≤ 500000 by omega) (by decide)
theorem lg_dp {K : PySem.W.Frag} {H : Hp} {l u g : Addr} {ns : List Int} {k : Int} {ws : List V} (hl : H l = some (.lst [.ref u, .ref g])) (hu : H u = some (.tup ((layerL ns k).map V.int)))
    (hg : H g = some (.lst ws)) (hw : DpAll K H ws ((gapsL ns k).map prD)) : Dp K H (.ref l) (lgD ns k) :=
  .lst (.inl (.inl hl)) (.cons (.tup (.inl (.inl hu)) (dp_ints _)) (.cons (.lst (.inl (.inl hg)) hw) .nil))
theorem shows_row {ns : List Int} (h : ∀ z ∈ ns, z.natAbs < 10 ^ 150) (hl : ns.length ≤ 5000) : Shows (.tuple (intsD ns)) := by
  have ci := cost_ints (ns := ns)
  refine shows_of (by simpa only [Lil] using lil_ints h) ?_ ?_
  · simp only [PyData.depth, depth_ints]
    omega
  · simp only [cost]
    refine Nat.le_trans (show _ ≤ 1000000 by omega) (by decide)
theorem row_dp {K : PySem.W.Frag} {H : Hp} {t : Addr} {ns : List Int} (h : H t = some (.tup (ns.map V.int))) : Dp K H (.ref t) (.tuple (intsD ns)) := .tup (.inl (.inl h)) (dp_ints _)
end WK
namespace WK
open PySem PySem.Spec PyProof.Rows L2
/-- the heap without what stands at D -/
def era (H : Hp) (D : Addr) : Hp := fun b => if b = D then none else H b
theorem era_ne {H : Hp} {D b : Addr} (h : b ≠ D) : era H D b = H b := if_neg h
theorem era_some {H : Hp} {D b : Addr} {o : HO} (h : era H D b = some o) : H b = some o := by
  by_cases e : b = D
  · have : era H D b = none := if_pos e
    rw [this] at h
    exact nomatch h
  · exact (era_ne (H := H) e).symm.trans h
theorem era_same (H : Hp) (D : Addr) : Same (era H D) H := fun _ _ h => era_some h
theorem era_upd {H : Hp} {D : Addr} {o : HO} : era (upd H D o) D = era H D := by
  funext b
  by_cases e : b = D
  · rw [e]; exact (if_pos rfl).trans (if_pos rfl).symm
  · rw [era_ne e, era_ne e, upd_ne e]
theorem era_mono {H H' : Hp} {D : Addr} (s : Same H H') : Same (era H D) (era H' D) := fun b o h => by
  by_cases e : b = D
  · have : era H D b = none := if_pos e
    rw [this] at h
    exact nomatch h
  · rw [era_ne e] at h ⊢
    exact s _ _ h
theorem dp_pairs_era {K : PySem.W.Frag} {H : Hp} {a : Addr} {xs : List V} : ∀ {ps : List (Int × Int)} {ws : List V}, DpAll K H ws (ps.map prD) → H a = some (.lst xs) → DpAll K (era H a) ws (ps.map prD)
  | [], _, h, _ => by
    cases h
    exact .nil
  | p :: ps, _, h, ha => by
    cases h with
    | cons h1 h2 =>
      refine .cons ?_ (dp_pairs_era h2 ha)
      cases h1 with
      | @tup a' xs' ds' h3 h4 =>
        have h5 : DpAll K (era H a) xs' [PyData.int p.1, PyData.int p.2] := by
          cases h4 with
          | cons q1 q2 =>
            cases q1
            cases q2 with
            | cons q3 q4 =>
              cases q3
              cases q4
              exact .cons (.int _) (.cons (.int _) .nil)
        refine .tup ?_ h5
        rcases h3 with (h3 | ⟨o, h3⟩) | h3
        · exact .inl (.inl ((era_ne (ne_of h3 ha (by intro z; cases z))).trans h3))
        · exact .inl (.inr ⟨o, (era_ne (ne_of h3 ha (by intro z; cases z))).trans h3⟩)
        · exact .inr h3
end WK
set_option Elab.async false
set_option linter.all false
set_option maxRecDepth 100000
namespace WK
/-! ### valleys by a stack -/
abbrev V4 := Int × Int × Int × Int
/-- the need of a tick -/
def nd (ns : List Int) (t : Nat) : Int := ns.getD t 0
def popV (ns : List Int) (n : Int) (t : Nat) : List Nat → List V4 → List Nat × List V4
  | [], f => ([], f)
  | s :: r, f => if nd ns s < n then
      (match r with
       | [] => popV ns n t [] f
       | a :: r' => popV ns n t (a :: r') (f ++ [((a : Int) + 1, (t : Int) - a - 1, nd ns s, min (nd ns a) n)]))
    else (s :: r, f)
/-- what stands on the stack behind a tick, the last tick first -/
def stkV (ns : List Int) : Nat → List Nat
  | 0 => []
  | t + 1 => t :: (let S := (popV ns (nd ns t) t (stkV ns t) []).1
                   match S with
                   | [] => []
                   | s :: r => if nd ns s = nd ns t then r else s :: r)
def newV (ns : List Int) (t : Nat) : List V4 := (popV ns (nd ns t) t (stkV ns t) []).2
def valV4 (ns : List Int) : Nat → List V4
  | 0 => []
  | t + 1 => valV4 ns t ++ newV ns t
theorem popV_app (ns : List Int) (n : Int) (t : Nat) : ∀ (S : List Nat) (f : List V4), popV ns n t S f = ((popV ns n t S []).1, f ++ (popV ns n t S []).2)
  | [], f => by simp [popV]
  | [s], f => by
    unfold popV
    split
    · simp [popV]
    · simp
  | s :: a :: r, f => by
    unfold popV
    split
    · dsimp only
      rw [popV_app ns n t (a :: r) (f ++ _), popV_app ns n t (a :: r) ([] ++ _)]
      simp
    · simp
def vcost (b : Int) (v : V4) : Int := (v.2.2.2 - v.2.2.1) * min v.2.1 b
def vsC (b : Int) (l : List V4) : Int := (l.map (vcost b)).sum
theorem vsC_app (b : Int) (l m : List V4) : vsC b (l ++ m) = vsC b l + vsC b m := by simp [vsC]
/-- what a layer pays at a tick by the last tick ahead at which it is on -/
def gS (ns : List Int) (b : Int) (t : Nat) (S : List Nat) (k : Int) : Int :=
  match S.find? (fun s => decide (k ≤ nd ns s)) with
  | some p => min ((t : Int) - p - 1) b
  | none => 0
def sumK (f : Int → Int) (lo : Int) : Nat → Int
  | 0 => 0
  | m + 1 => sumK f lo m + f (lo + 1 + m)
theorem sumK_congr {f g : Int → Int} {lo : Int} : ∀ {m : Nat}, (∀ k, lo < k → k ≤ lo + m → f k = g k) → sumK f lo m = sumK g lo m
  | 0, _ => rfl
  | m + 1, h => by
    unfold sumK
    rw [sumK_congr fun k h1 h2 => h k h1 (by omega), h _ (by omega) (by omega)]
theorem sumK_const {c lo : Int} : ∀ {m : Nat}, sumK (fun _ => c) lo m = c * m
  | 0 => by simp [sumK]
  | m + 1 => by
    unfold sumK
    rw [sumK_const]
    rw [Int.natCast_add, Int.mul_add]
    simp
theorem sumK_add {f : Int → Int} {lo : Int} {m : Nat} : ∀ {j : Nat}, sumK f lo (m + j) = sumK f lo m + sumK f (lo + m) j
  | 0 => by simp [sumK]
  | j + 1 => by
    show sumK f lo (m + j) + f (lo + 1 + ((m + j : Nat) : Int)) = sumK f lo m + (sumK f (lo + m) j + f (lo + m + 1 + j))
    rw [sumK_add (j := j), show lo + 1 + ((m + j : Nat) : Int) = lo + m + 1 + j by omega]
    omega
theorem sumK_zero {f : Int → Int} {lo : Int} {m : Nat} (h : ∀ k, lo < k → k ≤ lo + m → f k = 0) : sumK f lo m = 0 := by
  rw [sumK_congr (g := fun _ => 0) h, sumK_const]
  omega
def Inc (ns : List Int) (S : List Nat) : Prop := S.Pairwise fun s a => nd ns s < nd ns a
/-- what a tick pays for the valleys that end there: all layers above the last need, up to its own -/
theorem pop_cost (ns : List Int) (n b : Int) (t : Nat) : ∀ (s : Nat) (r : List Nat), Inc ns (s :: r) → nd ns s ≤ n →
    vsC b (popV ns n t (s :: r) []).2 = sumK (gS ns b t (s :: r)) (nd ns s) (n - nd ns s).toNat
  | s, [], _, h => by
    unfold popV
    rw [sumK_zero]
    · split <;> simp [popV, vsC]
    · intro k h1 h2
      unfold gS
      rw [List.find?_cons_of_neg (by simpa using h1)]
      rfl
  | s, a :: r, hi, h => by
    have hi2 : Inc ns (a :: r) := (List.pairwise_cons.mp hi).2
    have hsa : nd ns s < nd ns a := (List.pairwise_cons.mp hi).1 a (by simp)
    have hg : ∀ k, nd ns s < k → gS ns b t (s :: a :: r) k = gS ns b t (a :: r) k := by
      intro k hk
      unfold gS
      rw [List.find?_cons_of_neg (by simpa using hk)]
    by_cases hlt : nd ns s < n
    · unfold popV
      rw [if_pos hlt]
      dsimp only
      rw [popV_app, vsC_app]
      rw [sumK_congr (g := gS ns b t (a :: r)) fun k h1 _ => hg k h1]
      have hfst : ∀ k, k ≤ nd ns a → gS ns b t (a :: r) k = min ((t : Int) - a - 1) b := by
        intro k hk
        unfold gS
        rw [List.find?_cons_of_pos (by simpa using hk)]
      by_cases han : nd ns a ≤ n
      · rw [pop_cost ns n b t a r hi2 han, show (n - nd ns s).toNat = (nd ns a - nd ns s).toNat + (n - nd ns a).toNat by omega, sumK_add]
        rw [sumK_congr (g := fun _ => min ((t : Int) - a - 1) b) (lo := nd ns s) fun k _ h2 => hfst k (by omega), sumK_const, show nd ns s + ((nd ns a - nd ns s).toNat : Int) = nd ns a by omega]
        have e : min (nd ns a) n = nd ns a := by omega
        simp only [vsC, List.map_cons, List.map_nil, List.nil_append, List.sum_cons, List.sum_nil, vcost, e, Int.add_zero]
        rw [Int.mul_comm, show ((nd ns a - nd ns s).toNat : Int) = nd ns a - nd ns s by omega]
      · rw [sumK_congr (g := fun _ => min ((t : Int) - a - 1) b) (lo := nd ns s) fun k _ h2 => hfst k (by omega), sumK_const]
        have e : min (nd ns a) n = n := by omega
        have e2 : (popV ns n t (a :: r) []).2 = [] := by
          unfold popV
          rw [if_neg (by omega)]
        simp only [vsC, List.map_cons, List.map_nil, List.nil_append, List.sum_cons, List.sum_nil, vcost, e, e2, Int.add_zero]
        rw [Int.mul_comm, show ((n - nd ns s).toNat : Int) = n - nd ns s by omega]
    · have e : n = nd ns s := by omega
      unfold popV
      rw [if_neg hlt, e]
      simp [vsC, sumK]
def eqPop (ns : List Int) (n : Int) : List Nat → List Nat
  | [] => []
  | s :: r => if nd ns s = n then r else s :: r
theorem stk_eq (ns : List Int) (t : Nat) : stkV ns (t + 1) = t :: eqPop ns (nd ns t) (popV ns (nd ns t) t (stkV ns t) []).1 := by
  show t :: _ = _
  dsimp only
  congr 1
/-- the stack behind the pops -/
theorem pop_drop (ns : List Int) (n : Int) (t : Nat) : ∀ (S : List Nat) (f : List V4), (popV ns n t S f).1 = S.dropWhile fun s => decide (nd ns s < n)
  | [], f => by simp [popV]
  | [s], f => by
    unfold popV
    split
    · rename_i h
      simp [popV, h]
    · rename_i h
      simp [h]
  | s :: a :: r, f => by
    unfold popV
    split
    · rename_i h
      dsimp only
      rw [pop_drop ns n t (a :: r)]
      simp [List.dropWhile_cons, h]
    · rename_i h
      simp [List.dropWhile_cons, h]
def restV (ns : List Int) (n : Int) (S : List Nat) : List Nat := S.dropWhile fun s => decide (nd ns s ≤ n)
theorem rest_is {ns : List Int} {n : Int} : ∀ {S : List Nat}, Inc ns S → (match S.dropWhile (fun s => decide (nd ns s < n)) with
      | [] => []
      | s :: r => if nd ns s = n then r else s :: r) = restV ns n S
  | [], _ => rfl
  | s :: r, h => by
    unfold restV
    by_cases h1 : nd ns s < n
    · rw [List.dropWhile_cons_of_pos (by simpa using h1), List.dropWhile_cons_of_pos (by simp; omega)]
      exact rest_is (List.pairwise_cons.mp h).2
    · rw [List.dropWhile_cons_of_neg (by simpa using h1)]
      by_cases h2 : nd ns s = n
      · rw [List.dropWhile_cons_of_pos (by simp; omega)]
        simp only [h2, if_true]
        have h3 := (List.pairwise_cons.mp h).1
        cases r with
        | nil => rfl
        | cons a r' =>
          rw [List.dropWhile_cons_of_neg]
          have := h3 a (by simp)
          simp
          omega
      · rw [List.dropWhile_cons_of_neg (by simp; omega)]
        simp only [h2, if_false]
/-- the stack tells for each layer the last tick at which it is on -/
structure StkOk (ns : List Int) (t : Nat) (S : List Nat) : Prop where
  inc : Inc ns S
  last : ∀ k, (onL ns k t).getLast? = (S.find? fun s => decide (k ≤ nd ns s)).map fun (s : Nat) => (s : Int)
  head : ∀ s r, S = s :: r → s + 1 = t
  lt : ∀ s ∈ S, s < t
  some : 0 < t → S ≠ []
theorem find_rest {ns : List Int} {n k : Int} (hk : n < k) : ∀ {S : List Nat}, (restV ns n S).find? (fun s => decide (k ≤ nd ns s)) = S.find? fun s => decide (k ≤ nd ns s)
  | [] => rfl
  | s :: r => by
    unfold restV
    by_cases h1 : nd ns s ≤ n
    · rw [List.dropWhile_cons_of_pos (by simpa using h1), List.find?_cons_of_neg (by simp; omega)]
      exact find_rest hk
    · rw [List.dropWhile_cons_of_neg (by simpa using h1)]
theorem inc_rest {ns : List Int} {n : Int} : ∀ {S : List Nat}, Inc ns S → Inc ns (restV ns n S) ∧ ∀ s ∈ restV ns n S, n < nd ns s ∧ s ∈ S
  | [], _ => ⟨List.Pairwise.nil, fun _ h => by simp [restV] at h⟩
  | s :: r, h => by
    unfold restV
    by_cases h1 : nd ns s ≤ n
    · rw [List.dropWhile_cons_of_pos (by simpa using h1)]
      have := inc_rest (n := n) (List.pairwise_cons.mp h).2
      exact ⟨this.1, fun x hx => ⟨(this.2 x hx).1, List.mem_cons_of_mem _ (this.2 x hx).2⟩⟩
    · rw [List.dropWhile_cons_of_neg (by simpa using h1)]
      refine ⟨h, fun x hx => ⟨?_, hx⟩⟩
      rcases List.mem_cons.mp hx with rfl | hx
      · omega
      · have := (List.pairwise_cons.mp h).1 x hx
        omega
theorem stk_succ {ns : List Int} {t : Nat} (h : Inc ns (stkV ns t)) : stkV ns (t + 1) = t :: restV ns (nd ns t) (stkV ns t) := by
  show t :: _ = _
  dsimp only
  rw [pop_drop, rest_is h]
theorem stk_ok {ns : List Int} : ∀ t, t ≤ ns.length → StkOk ns t (stkV ns t)
  | 0, _ => ⟨List.Pairwise.nil, fun k => by simp [onL, stkV], fun _ _ e => by simp [stkV] at e, fun _ e => by simp [stkV] at e, fun e => by omega⟩
  | t + 1, hl => by
    have O := stk_ok (ns := ns) t (by omega)
    have hx : ns[t]? = some (nd ns t) := by
      unfold nd
      rw [List.getD_eq_getElem?_getD, List.getElem?_eq_getElem (by omega)]
      rfl
    have R := inc_rest (n := nd ns t) O.inc
    rw [stk_succ O.inc]
    refine ⟨List.pairwise_cons.mpr ⟨fun x hx => (R.2 x hx).1, R.1⟩, fun k => ?_, fun s r e => ?_, fun s hs => ?_, fun _ => by simp⟩
    · by_cases hk : k ≤ nd ns t
      · rw [onL_yes hx hk, List.find?_cons_of_pos (by simpa using hk)]
        simp
      · rw [onL_no hx hk, List.find?_cons_of_neg (by simpa using hk), find_rest (by omega)]
        exact O.last k
    · injection e with e _
      omega
    · rcases List.mem_cons.mp hs with rfl | hs
      · omega
      · have := O.lt s (R.2 s hs).2
        omega
/-! ### what the gaps of a layer cost -/
def gsum (b : Int) (l : List (Int × Int)) : Int := (l.map fun p => min p.2 b).sum
def gapC (ns : List Int) (b k : Int) (t : Nat) : Int := gsum b (pairsL (onL ns k t) ((onL ns k t).length - 1))
theorem pairs_snoc (b : Int) (hb : 0 ≤ b) (os : List Int) (x : Int) (hx : ∀ p, os.getLast? = some p → p < x) :
    gsum b (pairsL (os ++ [x]) (os.length)) = gsum b (pairsL os (os.length - 1)) + match os.getLast? with
      | some p => min (x - p - 1) b
      | none => 0 := by
  cases hos : os.length with
  | zero =>
    have : os = [] := List.length_eq_zero_iff.mp hos
    subst this
    simp [pairsL, gsum]
  | succ m =>
    have hl : os.getLast? = os[m]? := by rw [List.getLast?_eq_getElem?, hos]; rfl
    have hm : os[m]? = some (os.getD m 0) := by
      rw [List.getD_eq_getElem?_getD, List.getElem?_eq_getElem (by omega)]
      rfl
    rw [hl, hm]
    dsimp only
    have hp := hx _ (hl.trans hm)
    have e1 : (os ++ [x]).getD (m + 1) 0 = x := by
      rw [List.getD_eq_getElem?_getD, List.getElem?_append_right (by omega), hos]
      simp
    have e2 : ∀ j, j ≤ m → (os ++ [x]).getD j 0 = os.getD j 0 := by
      intro j hj
      rw [List.getD_eq_getElem?_getD, List.getElem?_append_left (by omega), List.getD_eq_getElem?_getD]
    have e3 : pairsL (os ++ [x]) m = pairsL os m := by
      unfold pairsL
      have hf : (List.range m).filter (fun j => decide (1 < (os ++ [x]).getD (j + 1) 0 - (os ++ [x]).getD j 0)) = (List.range m).filter fun j => decide (1 < os.getD (j + 1) 0 - os.getD j 0) := by
        refine List.filter_congr fun j hj => ?_
        have := List.mem_range.mp hj
        rw [e2 _ (by omega), e2 _ (by omega)]
      rw [hf]
      refine List.map_congr_left fun j hj => ?_
      have := List.mem_range.mp (List.mem_filter.mp hj).1
      rw [e2 _ (by omega), e2 _ (by omega)]
    have e4 : pairsL (os ++ [x]) (m + 1) = pairsL os m ++ if 1 < x - os.getD m 0 then [(os.getD m 0 + 1, x - os.getD m 0 - 1)] else [] := by
      rw [← e3]
      unfold pairsL
      rw [List.range_succ, List.filter_append, List.map_append, List.filter_cons, e1, e2 m (Nat.le_refl m)]
      congr 1
      by_cases h : 1 < x - os.getD m 0
      · rw [if_pos (decide_eq_true h), if_pos h]
        simp only [List.filter_nil, List.map_cons, List.map_nil, e1, e2 m (Nat.le_refl m)]
      · rw [if_neg (by simpa using h), if_neg h]
        rfl
    rw [e4, Nat.add_sub_cancel]
    by_cases h : 1 < x - os.getD m 0
    · rw [if_pos h]
      simp [gsum]
    · rw [if_neg h]
      have e0 : min (x - os.getD m 0 - 1) b = 0 := by omega
      rw [List.append_nil, e0, Int.add_zero]
theorem gap_step {ns : List Int} {b k : Int} (hb : 0 ≤ b) {t : Nat} (ht : t < ns.length) : gapC ns b k (t + 1) = gapC ns b k t + if k ≤ nd ns t then gS ns b t (stkV ns t) k else 0 := by
  have hx : ns[t]? = some (nd ns t) := by
    unfold nd
    rw [List.getD_eq_getElem?_getD, List.getElem?_eq_getElem ht]
    rfl
  have O := stk_ok (ns := ns) t (by omega)
  by_cases hk : k ≤ nd ns t
  · unfold gapC
    rw [onL_yes hx hk, if_pos hk]
    have hlen : ((onL ns k t ++ [(t : Int)]).length - 1) = (onL ns k t).length := by simp
    rw [hlen, pairs_snoc b hb]
    · rw [O.last k]
      unfold gS
      cases (stkV ns t).find? fun s => decide (k ≤ nd ns s) <;> rfl
    · intro p hp
      rw [O.last k] at hp
      cases h : (stkV ns t).find? fun s => decide (k ≤ nd ns s) with
      | none => rw [h] at hp; cases hp
      | some s =>
        rw [h] at hp
        have hp : (s : Int) = p := Option.some.inj hp
        have := O.lt s (List.mem_of_find?_eq_some h)
        omega
  · unfold gapC
    rw [onL_no hx hk, if_neg hk, Int.add_zero]
/-- the greatest need up to a tick, 0 if there is none -/
def topV (ns : List Int) : Nat → Int
  | 0 => 0
  | t + 1 => max (topV ns t) (nd ns t)
theorem top_nn {ns : List Int} : ∀ t, 0 ≤ topV ns t
  | 0 => Int.le_refl 0
  | t + 1 => by
    have := top_nn (ns := ns) t
    show 0 ≤ max _ _
    omega
theorem top_ge {ns : List Int} : ∀ t i, i < t → nd ns i ≤ topV ns t
  | t + 1, i, h => by
    show nd ns i ≤ max _ _
    by_cases e : i = t
    · subst e; omega
    · have := top_ge (ns := ns) t i (by omega)
      omega
theorem gap_above {ns : List Int} {b k : Int} : ∀ {t : Nat}, t ≤ ns.length → topV ns t < k → onL ns k t = [] ∧ gapC ns b k t = 0
  | 0, _, _ => by simp [onL, gapC, pairsL, gsum]
  | t + 1, hl, h => by
    have h : max (topV ns t) (nd ns t) < k := h
    have hx : ns[t]? = some (nd ns t) := by
      unfold nd
      rw [List.getD_eq_getElem?_getD, List.getElem?_eq_getElem (by omega)]
      rfl
    have := gap_above (ns := ns) (b := b) (k := k) (t := t) (by omega) (by omega)
    have e := onL_no hx (k := k) (by omega)
    refine ⟨e.trans this.1, ?_⟩
    unfold gapC at this ⊢
    rw [e]
    exact this.2
def gapsC (ns : List Int) (b : Int) (t : Nat) : Int := sumK (fun k => gapC ns b k t) 0 (topV ns t).toNat
theorem sumK_plus {f g : Int → Int} {lo : Int} : ∀ {m : Nat}, sumK (fun k => f k + g k) lo m = sumK f lo m + sumK g lo m
  | 0 => rfl
  | m + 1 => by
    unfold sumK
    rw [sumK_plus]
    omega
theorem new_cost {ns : List Int} {b : Int} (hb : 0 ≤ b) (hn : ∀ i, 0 ≤ nd ns i) {t : Nat} (ht : t < ns.length) :
    vsC b (newV ns t) = sumK (gS ns b t (stkV ns t)) 0 (nd ns t).toNat := by
  have O := stk_ok (ns := ns) t (by omega)
  unfold newV
  cases hS : stkV ns t with
  | nil =>
    rw [sumK_zero]
    · simp [popV, vsC]
    · intro k _ _
      simp [gS]
  | cons s r =>
    have hs : s + 1 = t := O.head s r hS
    have low : ∀ k, k ≤ nd ns s → gS ns b t (s :: r) k = 0 := by
      intro k hk
      unfold gS
      rw [List.find?_cons_of_pos (by simpa using hk)]
      dsimp only
      omega
    by_cases h : nd ns s ≤ nd ns t
    · rw [pop_cost ns _ b t s r (hS ▸ O.inc) h]
      have := hn s
      rw [show (nd ns t).toNat = (nd ns s).toNat + (nd ns t - nd ns s).toNat by omega, sumK_add, sumK_zero (lo := 0) fun k _ h2 => low k (by omega), Int.zero_add, show (0 : Int) + ((nd ns s).toNat : Int) = nd ns s by omega]
    · rw [sumK_zero fun k _ h2 => low k (by omega)]
      unfold popV
      rw [if_neg (by omega)]
      rfl
theorem gaps_step {ns : List Int} {b : Int} (hb : 0 ≤ b) (hn : ∀ i, 0 ≤ nd ns i) {t : Nat} (ht : t < ns.length) : gapsC ns b (t + 1) = gapsC ns b t + vsC b (newV ns t) := by
  have ht0 := top_nn (ns := ns) t
  have hN := hn t
  unfold gapsC
  rw [sumK_congr (g := fun k => gapC ns b k t + if k ≤ nd ns t then gS ns b t (stkV ns t) k else 0) fun k _ _ => gap_step hb ht, sumK_plus, new_cost hb hn ht]
  have e : topV ns (t + 1) = max (topV ns t) (nd ns t) := rfl
  congr 1
  · rw [show (topV ns (t + 1)).toNat = (topV ns t).toNat + ((topV ns (t + 1)).toNat - (topV ns t).toNat) by omega, sumK_add]
    rw [sumK_zero (lo := 0 + ((topV ns t).toNat : Int)) fun k h1 _ => (gap_above (ns := ns) (b := b) (k := k) (t := t) (by omega) (by omega)).2, Int.add_zero]
  · rw [show (topV ns (t + 1)).toNat = (nd ns t).toNat + ((topV ns (t + 1)).toNat - (nd ns t).toNat) by omega, sumK_add]
    rw [sumK_zero (lo := 0 + ((nd ns t).toNat : Int)) fun k h1 _ => by rw [if_neg (by omega)], Int.add_zero]
    exact sumK_congr fun k _ h2 => by rw [if_pos (by omega)]
/-- the sum of all valleys is what the gaps of all layers cost -/
theorem val_gaps {ns : List Int} {b : Int} (hb : 0 ≤ b) (hn : ∀ i, 0 ≤ nd ns i) : ∀ t, t ≤ ns.length → vsC b (valV4 ns t) = gapsC ns b t
  | 0, _ => by simp [vsC, valV4, gapsC, topV, sumK]
  | t + 1, h => by
    show vsC b (valV4 ns t ++ newV ns t) = _
    rw [vsC_app, val_gaps hb hn t (by omega), gaps_step hb hn (by omega)]
/-- the least cost by layers, up to a tick -/
def layC (ns : List Int) (b : Int) (t : Nat) : Int := (ns.take t).sum + b * topV ns t + gapsC ns b t
/-! ### where valleys lie -/
structure VOk (ns : List Int) (t : Nat) (v : V4) : Prop where
  beg : 0 ≤ v.1
  len : 0 ≤ v.2.1
  fin : v.1 + v.2.1 = t
  low : v.2.2.1 < v.2.2.2
  lows : ∃ i, i < t ∧ v.2.2.1 = nd ns i
  high : v.2.2.2 ≤ nd ns t
theorem pop_ok (ns : List Int) (n : Int) (t : Nat) (hn : n = nd ns t) : ∀ (S : List Nat), Inc ns S → (∀ s ∈ S, s < t) → (∀ v ∈ (popV ns n t S []).2, VOk ns t v) ∧ (popV ns n t S []).2.length + (popV ns n t S []).1.length ≤ S.length
  | [], _, _ => by simp [popV]
  | [s], _, _ => by
    unfold popV
    split <;> simp [popV]
  | s :: a :: r, h, hl => by
    have ih := pop_ok ns n t hn (a :: r) (List.pairwise_cons.mp h).2 (fun x hx => hl x (List.mem_cons_of_mem _ hx))
    have hsa : nd ns s < nd ns a := (List.pairwise_cons.mp h).1 a (by simp)
    have h1 := hl s (by simp)
    have h2 := hl a (by simp)
    unfold popV
    split
    · rename_i hlt
      dsimp only
      rw [popV_app]
      refine ⟨fun v hv => ?_, ?_⟩
      · rcases List.mem_append.mp hv with hv | hv
        · simp only [List.nil_append, List.mem_singleton] at hv
          subst hv
          refine ⟨?_, ?_, ?_, ?_, ⟨s, h1, rfl⟩, ?_⟩ <;> dsimp only <;> omega
        · exact ih.1 v hv
      · simp only [List.nil_append, List.length_append, List.length_cons, List.length_nil]
        have := ih.2
        simp only [List.length_cons] at this
        omega
    · simp
theorem new_ok {ns : List Int} {t : Nat} (ht : t ≤ ns.length) : ∀ v ∈ newV ns t, VOk ns t v :=
  (pop_ok ns _ t rfl _ (stk_ok t ht).inc (stk_ok t ht).lt).1
theorem val_ok {ns : List Int} : ∀ t, t ≤ ns.length → ∀ v ∈ valV4 ns t, ∃ i, i < t ∧ VOk ns i v
  | 0, _, v, hv => by simp [valV4] at hv
  | t + 1, h, v, hv => by
    rcases List.mem_append.mp (show v ∈ valV4 ns t ++ newV ns t from hv) with hv | hv
    · obtain ⟨i, hi, o⟩ := val_ok t (by omega) v hv
      exact ⟨i, by omega, o⟩
    · exact ⟨t, by omega, new_ok (by omega) v hv⟩
theorem rest_len {ns : List Int} {n : Int} {S : List Nat} : (restV ns n S).length ≤ (S.dropWhile fun s => decide (nd ns s < n)).length := by
  induction S with
  | nil => simp [restV]
  | cons s r ih =>
    unfold restV at ih ⊢
    by_cases h1 : nd ns s < n
    · rw [List.dropWhile_cons_of_pos (by simp; omega), List.dropWhile_cons_of_pos (by simpa using h1)]
      exact ih
    · rw [List.dropWhile_cons_of_neg (p := fun s => decide (nd ns s < n)) (by simpa using h1)]
      exact (List.dropWhile_sublist _).length_le
theorem val_len {ns : List Int} : ∀ t, t ≤ ns.length → (valV4 ns t).length + (stkV ns t).length ≤ t
  | 0, _ => by simp [valV4, stkV]
  | t + 1, h => by
    have O := stk_ok (ns := ns) t (by omega)
    have ih := val_len (ns := ns) t (by omega)
    have p := (pop_ok ns (nd ns t) t rfl _ O.inc O.lt).2
    rw [pop_drop] at p
    have r := rest_len (ns := ns) (n := nd ns t) (S := stkV ns t)
    rw [stk_succ O.inc]
    show (valV4 ns t ++ newV ns t).length + (t :: restV ns (nd ns t) (stkV ns t)).length ≤ t + 1
    rw [List.length_append, List.length_cons]
    unfold newV
    omega
end WK
set_option Elab.async false
set_option linter.all false
set_option maxRecDepth 100000
namespace WK
open PySem PySem.Spec PyProof.Rows L2
theorem slA {K : PySem.W.Frag} {lo hi : Option Int} {H : Hp} {Q : VK} {a : Addr} {xs : List V} (ht : H a = some (.tup xs))
    (k : ∀ p H', Same H H' → H' p = some (.tup (cutV xs lo hi)) → Q (.ref p) H') : rSlA K (.ref a) lo hi H Q := by
  refine ⟨a, xs, rfl, .inl (.inl ht), fun w => k a H (Same.refl _) ?_, fun _ p np => k p _ (same_new np) upd_same⟩
  rw [ht]
  unfold cutV
  rw [w.1, w.2, List.drop_zero, Nat.sub_zero, List.take_length]
theorem cut_int {xs : List V} {z : Int} (h : 0 ≤ z) : cutV xs none (some z) = xs.take z.toNat := by
  obtain ⟨n, rfl⟩ := Int.eq_ofNat_of_zero_le h
  rw [Int.toNat_natCast]
  exact cut_take
theorem cut_drop {xs : List V} {n : Nat} : cutV xs (some (n : Int)) none = xs.drop n := by
  unfold cutV
  rw [HT.sIx_nat, HT.sIx_none]
  by_cases h : n ≤ xs.length
  · rw [Nat.min_eq_left h, List.take_of_length_le (by rw [List.length_drop]; exact Nat.le_refl _)]
  · rw [Nat.min_eq_right (by omega), List.drop_of_length_le (by omega), List.drop_of_length_le (by omega), List.take_nil]
/-! ### rows of slots -/
def fitB (s : Slt) (x : Int) : Bool := decide (s.need ≤ x) && decide (x ≤ s.most)
def costV (s : Slt) (x : Int) : V := if fitB s x = true then .int (costAt s x) else .non
def s0 : Slt := ⟨0, 0, 0, []⟩
def servesB (ss : List Slt) (xs : List Int) (i : Nat) : List Bool := (List.range i).map fun t => fitB (ss.getD t s0) (xs.getD t 0)
def up (d : Int) : Int := if d > 0 then d else 0
def startsT (xs : List Int) (i : Nat) : List Int := (List.range i).map fun t => up (xs.getD t 0 - (0 :: xs).getD t 0)
def stopsT (xs : List Int) (i : Nat) : List Int := (List.range i).map fun t => up ((0 :: xs).getD t 0 - xs.getD t 0)
def runT (ss : List Slt) (xs : List Int) (i : Nat) : List Int := (List.range i).map fun t => costAt (ss.getD t s0) (xs.getD t 0)
def servesL (ss : List Slt) (xs : List Int) : Bool := (servesB ss xs xs.length).all id
def startsL (xs : List Int) : Int := (startsT xs xs.length).sum
def stopsL (xs : List Int) : Int := (stopsT xs xs.length).sum
def runL (ss : List Slt) (xs : List Int) : Int := (runT ss xs xs.length).sum
theorem mapr_succ {α : Type} {f : Nat → α} {i : Nat} : (List.range (i + 1)).map f = (List.range i).map f ++ [f i] := by
  rw [List.range_succ, List.map_append]
  rfl
theorem getD_at {α : Type} {l : List α} {i : Nat} {x d : α} (h : l[i]? = some x) : l.getD i d = x := by
  rw [List.getD_eq_getElem?_getD, h]
  rfl
theorem mapr_len {α : Type} {f : Nat → α} {i : Nat} : ((List.range i).map f).length = i := by
  rw [List.length_map, List.length_range]
def spCost : Sp := fun vs H Q _ => ∃ (t : V) (x : Int) (s : Slt), vs = [t, .int x] ∧ SltAt H t s ∧ ∀ H', Same H H' → Q (costV s x) H'
def spServes : Sp := fun vs H Q _ => ∃ (a b : Addr) (ws : List V) (ss : List Slt) (xs : List Int), vs = [.ref a, .ref b] ∧ H a = some (.tup ws) ∧ SltsAt H ws ss ∧ H b = some (.tup (xs.map V.int)) ∧ xs.length = ss.length ∧ xs.length ≤ 5000 ∧
  ∀ H', Same H H' → Q (.bl (servesL ss xs)) H'
def spStarts : Sp := fun vs H Q _ => ∃ (b : Addr) (xs : List Int), vs = [.ref b] ∧ H b = some (.tup (xs.map V.int)) ∧ xs.length ≤ 5000 ∧ ∀ H', Same H H' → Q (.int (startsL xs)) H'
def spStops : Sp := fun vs H Q _ => ∃ (b : Addr) (xs : List Int), vs = [.ref b] ∧ H b = some (.tup (xs.map V.int)) ∧ xs.length ≤ 5000 ∧ ∀ H', Same H H' → Q (.int (stopsL xs)) H'
def spRunning : Sp := fun vs H Q _ => ∃ (a b : Addr) (ws : List V) (ss : List Slt) (xs : List Int), vs = [.ref a, .ref b] ∧ H a = some (.tup ws) ∧ SltsAt H ws ss ∧ H b = some (.tup (xs.map V.int)) ∧ xs.length = ss.length ∧ xs.length ≤ 5000 ∧
  ∀ H', Same H H' → Q (if servesL ss xs = true then .int (runL ss xs) else .non) H'
def spRowCost : Sp := fun vs H Q _ => ∃ (a b : Addr) (B : Int) (ws : List V) (ss : List Slt) (xs : List Int), vs = [.ref a, .int B, .ref b] ∧ -(2 ^ 64) < B ∧ B < 2 ^ 64 ∧ H a = some (.tup ws) ∧ SltsAt H ws ss ∧ H b = some (.tup (xs.map V.int)) ∧ xs.length = ss.length ∧ xs.length ≤ 5000 ∧
  ∀ H', Same H H' → Q (if servesL ss xs = true then .int (runL ss xs + B * startsL xs) else .non) H'
/-- what is served is served at each tick -/
theorem serves_at {ss : List Slt} {xs : List Int} (h : servesL ss xs = true) {i : Nat} {s : Slt} {x : Int} (hs : ss[i]? = some s) (hx : xs[i]? = some x) : fitB s x = true := by
  have hi : i < xs.length := (List.getElem?_eq_some_iff.mp hx).1
  have hm : fitB s x ∈ servesB ss xs xs.length := by
    refine List.mem_map.mpr ⟨i, List.mem_range.mpr hi, ?_⟩
    rw [getD_at hs, getD_at hx]
  exact List.all_eq_true.mp h _ hm
end WK
set_option Elab.async false
set_option linter.all false
set_option maxRecDepth 100000
namespace WK
open PySem PySem.Spec PyProof.Rows L2
/-! ### the costs of slots, told in dicts -/
def costK (s : Slt) (n : Nat) : List (Key × V) := (List.range n).map fun (k : Nat) => (Sum.inl (s.need + k), V.int (s.first + (s.slopes.take k).sum))
theorem costK_succ {s : Slt} {n : Nat} : costK s (n + 1) = costK s n ++ [(Sum.inl (s.need + n), V.int (s.first + (s.slopes.take n).sum))] := by
  unfold costK
  rw [mapr_succ]
theorem costK_val {s : Slt} : ∀ {n : Nat} {z : Int}, valV (costK s n) (.inl z) = if s.need ≤ z ∧ z < s.need + n then some (.int (s.first + (s.slopes.take (z - s.need).toNat).sum)) else none
  | 0, z => by
    rw [if_neg (by omega)]
    rfl
  | n + 1, z => by
    have h0 : valV (costK s n) (Sum.inl (s.need + n) : Key) = none := by
      rw [costK_val, if_neg (by omega)]
    rw [costK_succ, valV_snoc _ _ _ _ h0, costK_val]
    by_cases e : z = s.need + n
    · subst e
      rw [if_pos rfl, if_pos (by omega), show (s.need + (n : Int) - s.need).toNat = n by omega]
    · rw [if_neg (fun q => e (Sum.inl.inj q))]
      by_cases h : s.need ≤ z ∧ z < s.need + n
      · rw [if_pos h, if_pos (by omega)]
      · rw [if_neg h, if_neg (by omega)]
theorem costK_put {s : Slt} {n : Nat} : putK (costK s n) (.inl (s.need + n)) (.int (s.first + (s.slopes.take n).sum)) = costK s (n + 1) := by
  rw [putK_new _ (by rw [costK_val, if_neg (by omega)]), costK_succ]
theorem costK_len {s : Slt} {n : Nat} : (costK s n).length = n := mapr_len
def CostAt (H : Hp) (v : V) (s : Slt) : Prop := ∃ d, v = .ref d ∧ H d = some (.dK (costK s (s.slopes.length + 1)))
abbrev CostsAt (H : Hp) : List V → List Slt → Prop := Paired (CostAt H)
theorem CostsAt.mono {H H' : Hp} (k : ∀ b kvs, H b = some (.dK kvs) → H' b = some (.dK kvs)) : ∀ {vs : List V} {ss : List Slt}, CostsAt H vs ss → CostsAt H' vs ss
  | _, _, .nil => .nil
  | _, _, .cons a b => by
    obtain ⟨d, e, h⟩ := a
    exact .cons ⟨d, e, k _ _ h⟩ (CostsAt.mono k b)
theorem CostsAt.len {H : Hp} : ∀ {vs : List V} {ss : List Slt}, CostsAt H vs ss → vs.length = ss.length
  | _, _, .nil => rfl
  | _, _, .cons _ b => congrArg (· + 1) (CostsAt.len b)
theorem CostsAt.snoc {H : Hp} : ∀ {vs : List V} {ss : List Slt} {v : V} {s : Slt}, CostsAt H vs ss → CostAt H v s → CostsAt H (vs ++ [v]) (ss ++ [s])
  | _, _, _, _, .nil, h => .cons h .nil
  | _, _, _, _, .cons a b, h => .cons a (CostsAt.snoc b h)
theorem CostsAt.get {H : Hp} : ∀ {vs : List V} {ss : List Slt} {i : Nat} {v : V}, CostsAt H vs ss → vs[i]? = some v → ∃ s, ss[i]? = some s ∧ CostAt H v s
  | _, _, _, _, .nil, e => by simp at e
  | _, _, 0, v, .cons a _, e => by
    have e : _ = v := Option.some.inj e
    subst e
    exact ⟨_, rfl, a⟩
  | _, _, i + 1, v, .cons _ b, e => CostsAt.get (i := i) b e
theorem dks_upd {H : Hp} {a : Addr} {xs : List V} {o : HO} (h : H a = some (.lst xs)) : ∀ b kvs, H b = some (.dK kvs) → upd H a o b = some (.dK kvs) := fun b ys e => by
  rw [upd_ne (ne_of e h (by intro z; cases z))]
  exact e
theorem take_sum {l : List Int} {i : Nat} {z : Int} (h : l[i]? = some z) : (l.take (i + 1)).sum = (l.take i).sum + z := by
  rw [List.take_add_one, h, List.sum_append]
  simp
def spSlotCosts : Sp := fun vs H Q _ => ∃ (a : Addr) (ws : List V) (ss : List Slt), vs = [.ref a] ∧ H a = some (.tup ws) ∧ SltsAt H ws ss ∧ ss.length ≤ 5000 ∧ (∀ s ∈ ss, s.slopes.length ≤ 5000) ∧
  ∀ (H' : Hp) (l : Addr) (vs' : List V), Same H H' → H l = none → H' l = some (.lst vs') → CostsAt H' vs' ss → (∀ v ∈ vs', ∃ d, v = .ref d ∧ H d = none) → Q (.ref l) H'
theorem CostsAt.off {H H' : Hp} {p c : Addr} (o : Off p c H H') : ∀ {vs : List V} {ss : List Slt}, CostsAt H vs ss → (∀ v ∈ vs, ∃ d, v = .ref d ∧ d ≠ p ∧ d ≠ c) → CostsAt H' vs ss
  | _, _, .nil, _ => .nil
  | _, _, .cons a b, h => by
    obtain ⟨d, e, hd⟩ := a
    obtain ⟨d', e', n1, n2⟩ := h _ (List.mem_cons_self ..)
    rw [e] at e'
    injection e' with e'
    subst e'
    exact .cons ⟨d, e, o _ _ n1 n2 hd⟩ (CostsAt.off o b fun v hv => h v (List.mem_cons_of_mem _ hv))
def spSomeRow : Sp := fun vs H Q _ => ∃ (p c a : Addr) (ws : List V) (ss : List Slt), vs = [.ref p, .ref a] ∧ Src H p c ∧ H a = some (.tup ws) ∧ SltsAt H ws ss ∧ ss.length ≤ 5000 ∧ (∀ s ∈ ss, s.need ≤ s.most ∧ s.most - s.need ≤ 1000) ∧
  ∀ (H' : Hp) (t : Addr) (xs : List Int), Src H' p c → Off p c H H' → H t = none → H' t = some (.tup (xs.map V.int)) → xs.length = ss.length → (∀ (i : Nat) (s : Slt) (x : Int), ss[i]? = some s → xs[i]? = some x → s.need ≤ x ∧ x ≤ s.most) → Q (.ref t) H'
/-- what a price is -/
def priceD (ss : List Slt) (xs : List Int) (B : Int) : List Int := if servesL ss xs = true then [runL ss xs + B * startsL xs] else []
def spPrice : Sp := fun vs H Q _ => ∃ (l b : Addr) (B : Int) (us : List V) (ss : List Slt) (xs : List Int), vs = [.ref l, .ref b, .int B] ∧ -(2 ^ 64) < B ∧ B < 2 ^ 64 ∧ H l = some (.lst us) ∧ CostsAt H us ss ∧ (∀ s ∈ ss, (s.slopes.length : Int) = s.most - s.need ∧ s.need ≤ s.most) ∧ H b = some (.tup (xs.map V.int)) ∧ xs.length = ss.length ∧ xs.length ≤ 5000 ∧
  ∀ (H' : Hp) (t : Addr), Same H H' → H t = none → H' t = some (.lst ((priceD ss xs B).map V.int)) → Q (.ref t) H'
end WK
namespace WK
open PySem PySem.Spec PyProof.Rows L2
def badL (ss : List Slt) (xs : List Int) (i : Nat) : List Int := ((List.range i).filter fun t => !fitB (ss.getD t s0) (xs.getD t 0)).map fun (t : Nat) => (t : Int)
theorem badL_yes {ss : List Slt} {xs : List Int} {i : Nat} {s : Slt} {x : Int} (hs : ss[i]? = some s) (hx : xs[i]? = some x) (h : fitB s x = false) : badL ss xs (i + 1) = badL ss xs i ++ [(i : Int)] := by
  unfold badL
  rw [List.range_succ, List.filter_append, List.map_append, List.filter_cons, if_pos (by rw [getD_at hs, getD_at hx, h]; rfl)]
  rfl
theorem badL_no {ss : List Slt} {xs : List Int} {i : Nat} {s : Slt} {x : Int} (hs : ss[i]? = some s) (hx : xs[i]? = some x) (h : fitB s x = true) : badL ss xs (i + 1) = badL ss xs i := by
  unfold badL
  rw [List.range_succ, List.filter_append, List.map_append, List.filter_cons, if_neg (by rw [getD_at hs, getD_at hx, h]; simp)]
  simp
theorem badL_len {ss : List Slt} {xs : List Int} {i : Nat} : (badL ss xs i).length ≤ i := by
  unfold badL
  rw [List.length_map]
  refine Nat.le_trans (List.length_filter_le _ (List.range i)) ?_
  rw [List.length_range]
  exact Nat.le_refl _
theorem badL_iff {ss : List Slt} {xs : List Int} : badL ss xs xs.length = [] ↔ servesL ss xs = true := by
  unfold badL servesL servesB
  rw [List.map_eq_nil_iff, List.filter_eq_nil_iff, List.all_eq_true]
  constructor
  · intro h b hb
    obtain ⟨t, ht, rfl⟩ := List.mem_map.mp hb
    have := h t ht
    simpa using this
  · intro h t ht
    have := h _ (List.mem_map.mpr ⟨t, ht, rfl⟩)
    simpa using this
theorem cost_in {s : Slt} {x : Int} (hl : (s.slopes.length : Int) = s.most - s.need) : (valV (costK s (s.slopes.length + 1)) (.inl x)).isSome = fitB s x := by
  rw [costK_val]
  unfold fitB
  by_cases h : s.need ≤ x ∧ x ≤ s.most
  · rw [if_pos (by omega), decide_eq_true h.1, decide_eq_true h.2]
    rfl
  · rw [if_neg (by omega)]
    by_cases h1 : s.need ≤ x
    · rw [decide_eq_true h1, decide_eq_false (fun z => h ⟨h1, z⟩)]
      rfl
    · rw [decide_eq_false h1]
      rfl
theorem cost_of {s : Slt} {x : Int} (hl : (s.slopes.length : Int) = s.most - s.need) (h : fitB s x = true) : valV (costK s (s.slopes.length + 1)) (.inl x) = some (.int (costAt s x)) := by
  have h' : s.need ≤ x ∧ x ≤ s.most := by simpa [fitB] using h
  rw [costK_val, if_pos (by omega)]
  rfl
end WK
set_option Elab.async false
set_option linter.all false
set_option maxRecDepth 100000
namespace WK
open PySem PySem.Spec PyProof.Rows L2
theorem seq_R {t u : TS} {D : Ends} {σ : L2.St} {H : Hp} (R : L2.St → Hp → Prop) (key : ∀ σ H, R σ H → u D σ H) (h : ∀ D' : Ends, (∀ σ H, R σ H → D'.nx σ H) → t D' σ H) : tSeq t u D σ H := h _ key
theorem catA {K : PySem.W.Frag} {H : Hp} {Q : VK} {a b : Addr} {xs ys : List V} (ha : H a = some (.tup xs)) (hb : H b = some (.tup ys)) (hl : xs.length + ys.length ≤ sizeLine)
    (k : ∀ p H', Same H H' → H' p = some (.tup (xs ++ ys)) → Q (.ref p) H') : rCatA K (.ref a) (.ref b) H Q := by
  refine ⟨a, b, xs, ys, rfl, rfl, .inl (.inl ha), .inl (.inl hb), hl, fun e => ?_, fun _ e => ?_, fun _ _ p np => k p _ (same_new np) upd_same⟩
  · subst e
    exact k b H (Same.refl _) hb
  · subst e
    refine k a H (Same.refl _) ?_
    rw [List.append_nil]
    exact ha
def within (m : Int) (xs : List Int) : Prop := ∀ x ∈ xs, -m ≤ x ∧ x ≤ m
theorem within_getD {m : Int} {xs : List Int} (h : within m xs) (h0 : 0 ≤ m) (i : Nat) : -m ≤ xs.getD i 0 ∧ xs.getD i 0 ≤ m := by
  rw [List.getD_eq_getElem?_getD]
  match e : xs[i]? with
  | none =>
    show -m ≤ 0 ∧ 0 ≤ m
    omega
  | some z => exact h z (List.mem_of_getElem? e)
theorem up_within {d m : Int} (h : -m ≤ d ∧ d ≤ m) : -m ≤ up d ∧ up d ≤ m := by
  unfold up
  split <;> omega
theorem startsL_b {m : Int} {xs : List Int} (h : within m xs) (h0 : 0 ≤ m) : -(2 * m * xs.length) ≤ startsL xs ∧ startsL xs ≤ 2 * m * xs.length := by
  have := sum_bounds (b := 2 * m) (l := startsT xs xs.length) (fun z hz => by
    obtain ⟨t, _, rfl⟩ := List.mem_map.mp hz
    have a := within_getD h h0 t
    have b := within_getD (m := m) (xs := 0 :: xs) (fun x hx => by
      rcases List.mem_cons.mp hx with e | e
      · rw [e]; omega
      · exact h x e) h0 t
    exact up_within (by omega))
  rw [show (startsT xs xs.length).length = xs.length from mapr_len] at this
  exact this
theorem stopsL_b {m : Int} {xs : List Int} (h : within m xs) (h0 : 0 ≤ m) : -(2 * m * xs.length) ≤ stopsL xs ∧ stopsL xs ≤ 2 * m * xs.length := by
  have := sum_bounds (b := 2 * m) (l := stopsT xs xs.length) (fun z hz => by
    obtain ⟨t, _, rfl⟩ := List.mem_map.mp hz
    have a := within_getD h h0 t
    have b := within_getD (m := m) (xs := 0 :: xs) (fun x hx => by
      rcases List.mem_cons.mp hx with e | e
      · rw [e]; omega
      · exact h x e) h0 t
    exact up_within (by omega))
  rw [show (stopsT xs xs.length).length = xs.length from mapr_len] at this
  exact this
theorem runL_b {B : Int} {ss : List Slt} {xs : List Int} (h : ∀ s ∈ ss, ∀ x, -B ≤ costAt s x ∧ costAt s x ≤ B) (hl : xs.length = ss.length) : -(B * xs.length) ≤ runL ss xs ∧ runL ss xs ≤ B * xs.length := by
  have := sum_bounds (b := B) (l := runT ss xs xs.length) (fun z hz => by
    obtain ⟨t, ht, rfl⟩ := List.mem_map.mp hz
    have ht : t < ss.length := by rw [← hl]; exact List.mem_range.mp ht
    rw [getD_at (List.getElem?_eq_getElem ht)]
    exact h _ (List.getElem_mem ht) _)
  rw [show (runT ss xs xs.length).length = xs.length from mapr_len] at this
  exact this
theorem cost_b {s : Slt} {m b f : Int} (h : s.Ok m b f) (hw : s.most - s.need ≤ 1000) (b0 : 0 ≤ b) (x : Int) : -(f + b * 1000) ≤ costAt s x ∧ costAt s x ≤ f + b * 1000 := by
  have p := h.pos (x - s.need).toNat
  have f1 := h.fst
  have sb := sum_bounds (b := b) (l := s.slopes.take (x - s.need).toNat) fun z hz => h.steep z (List.mem_of_mem_take hz)
  have ll : ((s.slopes.take (x - s.need).toNat).length : Int) ≤ 1000 := by
    rw [List.length_take]
    have := h.len
    omega
  have u : b * ((s.slopes.take (x - s.need).toNat).length : Int) ≤ b * 1000 := Int.mul_le_mul_of_nonneg_left ll b0
  have f0 : 0 ≤ f := by
    have := h.pos 0
    simp only [List.take_zero, List.sum_nil] at this
    omega
  have u0 : 0 ≤ b * 1000 := Int.mul_nonneg b0 (by decide)
  show -(f + b * 1000) ≤ s.first + _ ∧ s.first + _ ≤ f + b * 1000
  omega
/-- what is told of a row -/
def rowD (sv : Bool) (st sp run cost : Int) : PyData := .list [.bool sv, .int st, .int sp, if sv = true then .int run else .none, if sv = true then .int cost else .none]
theorem rowD_shows {sv : Bool} {st sp run cst : Int} (h1 : st.natAbs < 10 ^ 150) (h2 : sp.natAbs < 10 ^ 150) (h3 : run.natAbs < 10 ^ 150) (h4 : cst.natAbs < 10 ^ 150) : Shows (rowD sv st sp run cst) := by
  cases sv with
  | true =>
    refine shows_of ?_ ?_ ?_
    · simp only [rowD, Lil, LilAll, and_true, true_and, if_true]
      exact ⟨h1, h2, h3, h4⟩
    · simp [rowD, PyData.depth, PyData.depthAll]
    · simp only [rowD, WK.cost, costAll, if_true]
      decide
  | false =>
    refine shows_of ?_ ?_ ?_
    · simp only [rowD, Lil, LilAll, and_true, true_and, Bool.false_eq_true, if_false]
      exact ⟨h1, h2⟩
    · simp [rowD, PyData.depth, PyData.depthAll]
    · simp only [rowD, WK.cost, costAll, Bool.false_eq_true, if_false]
      decide
theorem cutset {k : Nat} {xs : List Int} {z : Int} (hk : k < xs.length) : (xs.take k ++ [z] ++ xs.drop (k + 1)).length = xs.length := by
  rw [List.length_append, List.length_append, List.length_take, List.length_drop, List.length_singleton]
  omega
theorem cutset_within {k : Nat} {xs : List Int} {z m m' : Int} (h : within m xs) (hm : m ≤ m') (hz : -m' ≤ z ∧ z ≤ m') : within m' (xs.take k ++ [z] ++ xs.drop (k + 1)) := by
  intro x hx
  rcases List.mem_append.mp hx with hx | hx
  · rcases List.mem_append.mp hx with hx | hx
    · have := h x (List.mem_of_mem_take hx)
      omega
    · rw [List.mem_singleton.mp hx]
      exact hz
  · have := h x (List.mem_of_mem_drop hx)
    omega
end WK
set_option Elab.async false
set_option linter.all false
set_option maxRecDepth 100000
set_option maxHeartbeats 4000000
namespace WK
open PySem PySem.Spec PyProof.Rows L2
/-! ### tuple * int, any number -/
theorem tuple_mul1 (l : Addr) (items : Array Value) (n : Nat) (dd : Option Addr) (sl : Array (Option Value)) (x : Int) (u : Tok) (c0 : (decide (x < -(2 ^ 63)) || decide (x ≥ 2 ^ 63)) = false) (c1 : (items.isEmpty || x == 1) = true) :
    Meets (Builtin.«tuple.__mul__» ⟨[.ref l, .int x u], []⟩) (fun _ R s => s.heap.get? l = some { cls := .type "tuple", dict := dd, data := .seq items n, slots := sl } ∧
      R (.ok (.ret (Value.ref l))) { s with heap := s.heap, toks := s.toks }) :=
  .of_wp fun prog w A R s h => by
    obtain ⟨hp, g, d, tk, os⟩ := s
    obtain ⟨hl, h⟩ := h
    have f1 := AutoSeq1.idx_int
    wp_walk using wpAny_loadPart' hl
    repeat (first
      | (refine wpAny_ite_false (decide_eq_false (by rw [c0]; exact Bool.false_ne_true)) ?_; wp_walk using wpAny_loadPart' hl)
      | (refine wpAny_ite_true (decide_eq_true c1) ?_; wp_walk using wpAny_loadPart' hl))
    exact ⟨_, rfl, h⟩
theorem tuple_mul0 (l : Addr) (items : Array Value) (n : Nat) (dd : Option Addr) (sl : Array (Option Value)) (x : Int) (u : Tok) (c0 : (decide (x < -(2 ^ 63)) || decide (x ≥ 2 ^ 63)) = false) (c1 : (items.isEmpty || x == 1) = false) (c2 : (decide (x ≤ 0) || items.isEmpty) = true) :
    Meets (Builtin.«tuple.__mul__» ⟨[.ref l, .int x u], []⟩) (fun _ R s => s.heap.get? l = some { cls := .type "tuple", dict := dd, data := .seq items n, slots := sl } ∧
      R (.ok (.ret (Value.ref s.heap.objs.size))) { s with heap := s.heap.push { cls := Value.type "tuple", data := Data.seq #[] }, toks := s.toks }) :=
  .of_wp fun prog w A R s h => by
    obtain ⟨hp, g, d, tk, os⟩ := s
    obtain ⟨hl, h⟩ := h
    have f1 := AutoSeq1.idx_int
    wp_walk using wpAny_loadPart' hl
    repeat (first
      | (refine wpAny_ite_false (decide_eq_false (by rw [c0]; exact Bool.false_ne_true)) ?_; wp_walk using wpAny_loadPart' hl)
      | (refine wpAny_ite_false (decide_eq_false (by rw [c1]; exact Bool.false_ne_true)) ?_; wp_walk using wpAny_loadPart' hl)
      | (refine wpAny_ite_true (decide_eq_true c2) ?_; wp_walk using wpAny_loadPart' hl))
    exact ⟨_, rfl, h⟩
def rRepA (K : PySem.W.Frag) : R2 := fun x y H Q => ∃ l k xs, x = .ref l ∧ y = .int k ∧ SqT K H l xs ∧ -(2 ^ 62) ≤ k ∧ k ≤ 1000 ∧ xs.length ≤ 1000 ∧ ((k = 1 ∨ xs = []) → Q (.ref l) H) ∧
  (¬ (k = 1 ∨ xs = []) → ∀ p, H p = none → Q (.ref p) (upd H p (.tup (List.replicate k.toNat xs).flatten)))
section
variable {X : Cx}
theorem op_repA : OpR X (binaryOp .Mult) (rRepA X.K) := by
  intro pins s σ H x y v u Q I rx ry h
  obtain ⟨l, k, xs, rfl, rfl, hT, h1, h2, hz, q1, q2⟩ := h
  by_cases hk : 2 ≤ k ∧ xs ≠ []
  · exact op_repT pins s σ H _ _ v u Q I rx ry ⟨l, k, xs, rfl, rfl, hT, hk.2, hk.1, h2, hz, q2 (fun e => by
      rcases e with e | e
      · omega
      · exact hk.2 e)⟩
  cases rx
  obtain ⟨t, rfl⟩ := ry
  obtain ⟨its, r, ⟨⟨cls, dd, data, sl⟩, ho, hc, n, hd⟩, hs⟩ := I.tuple hT
  simp only at hc hd
  subst hc hd
  have hle : its.length = xs.length := r.length.symm
  have c0 : (decide (k < -(2 ^ 63)) || decide (k ≥ 2 ^ 63)) = false := by
    rw [decide_eq_false (by omega), decide_eq_false (by omega)] <;> rfl
  by_cases e : k = 1 ∨ xs = []
  · have c1 : (its.toArray.isEmpty || k == 1) = true := by
      rcases e with e | e
      · rw [e, beq_self_eq_true, Bool.or_true]
      · rw [e] at hle
        rw [List.eq_nil_of_length_eq_zero hle]
        rfl
    exact wpAny_binaryOp_repeat_ref (T := "tuple") (U := "int") (by decide) ⟨_, ho, rfl⟩ (fun s' => typeIs_int s' k t) noFill_tuple_mul F.fills_int_mul F.slot_int_rmul repeat_tuple F.slot_int_index.lookup
      (call_meets F.slot_int_rmul (typeIs_int s k t) F.entry_int_rmul (F.args_int_rmul_2 _ _) (int_rmul_tuple k t l its.toArray n dd sl)
        ⟨ho, rfl, ⟨_, ho, rfl⟩, call_meets F.slot_tuple_mul ⟨_, ho, rfl⟩ F.entry_tuple_mul (F.args_tuple_mul_2 _ _) (tuple_mul1 l its.toArray n dd sl k t c0 c1) ⟨ho, ⟨.ref l, H, I, rfl, q1 e⟩⟩⟩)
  · have hne : xs ≠ [] := fun z => e (.inr z)
    have hk1 : k ≠ 1 := fun z => e (.inl z)
    have hk0 : k ≤ 0 := by
      by_cases z : 2 ≤ k
      · exact absurd ⟨z, hne⟩ hk
      · omega
    have hi : its.toArray.isEmpty = false := by
      cases its with
      | nil =>
        cases xs with
        | nil => exact absurd rfl hne
        | cons a b => cases hle
      | cons a b => rfl
    have c1 : (its.toArray.isEmpty || k == 1) = false := by
      rw [hi, Bool.false_or]
      exact beq_eq_false_iff_ne.mpr hk1
    have c2 : (decide (k ≤ 0) || its.toArray.isEmpty) = true := by
      rw [hi, Bool.or_false]
      exact decide_eq_true hk0
    refine wpAny_binaryOp_repeat_ref (T := "tuple") (U := "int") (by decide) ⟨_, ho, rfl⟩ (fun s' => typeIs_int s' k t) noFill_tuple_mul F.fills_int_mul F.slot_int_rmul repeat_tuple F.slot_int_index.lookup
      (call_meets F.slot_int_rmul (typeIs_int s k t) F.entry_int_rmul (F.args_int_rmul_2 _ _) (int_rmul_tuple k t l its.toArray n dd sl)
        ⟨ho, rfl, ⟨_, ho, rfl⟩, call_meets F.slot_tuple_mul ⟨_, ho, rfl⟩ F.entry_tuple_mul (F.args_tuple_mul_2 _ _) (tuple_mul0 l its.toArray n dd sl k t c0 c1 c2) ⟨ho, ?_⟩⟩)
    have e0 : (List.replicate k.toNat xs).flatten = [] := by
      rw [Int.toNat_of_nonpos hk0]
      rfl
    refine ⟨.ref s.heap.objs.size, _, I.laid (t' := s.toks) (o := .tup (List.replicate k.toNat xs).flatten) (fun b ob q => Heap.get?_push_of_some _ q) (Nat.le_refl _) ?_, rfl, q2 e _ (I.hok.fresh (Nat.le_refl _))⟩
    rw [e0]
    exact ⟨by show 0 ≤ sizeLine; decide, [], .nil, IsTup.new _ _⟩
end
end WK
set_option Elab.async false
set_option linter.all false
set_option maxRecDepth 100000
namespace WK
open PySem PySem.Spec PyProof.Rows L2
theorem sq_same {K : PySem.W.Frag} {H H' : Hp} {a : Addr} {xs : List V} (e : Same H H') (h : SqT K H a xs) : SqT K H' a xs := by
  rcases h with (h | ⟨o, h⟩) | h
  · exact .inl (.inl (e _ _ h))
  · exact .inl (.inr ⟨o, e _ _ h⟩)
  · exact .inr h
theorem sq_of {K : PySem.W.Frag} {H : Hp} {a : Addr} {xs : List V} (h : H a = some (.tup xs)) : SqT K H a xs := .inl (.inl h)
theorem slB {K : PySem.W.Frag} {lo hi : Option Int} {H : Hp} {Q : VK} {a : Addr} {xs : List V} (ht : SqT K H a xs)
    (k : ∀ p H', Same H H' → SqT K H' p (cutV xs lo hi) → Q (.ref p) H') : rSlA K (.ref a) lo hi H Q := by
  refine ⟨a, xs, rfl, ht, fun w => k a H (Same.refl _) ?_, fun _ p np => k p _ (same_new np) (sq_of upd_same)⟩
  have e : cutV xs lo hi = xs := by
    unfold cutV
    rw [w.1, w.2, List.drop_zero, Nat.sub_zero, List.take_length]
  rw [e]
  exact ht
theorem catB {K : PySem.W.Frag} {H : Hp} {Q : VK} {a b : Addr} {xs ys : List V} (ha : SqT K H a xs) (hb : SqT K H b ys) (hl : xs.length + ys.length ≤ sizeLine)
    (k : ∀ p H', Same H H' → SqT K H' p (xs ++ ys) → Q (.ref p) H') : rCatA K (.ref a) (.ref b) H Q := by
  refine ⟨a, b, xs, ys, rfl, rfl, ha, hb, hl, fun e => ?_, fun _ e => ?_, fun _ _ p np => k p _ (same_new np) (sq_of upd_same)⟩
  · subst e
    exact k b H (Same.refl _) hb
  · subst e
    refine k a H (Same.refl _) ?_
    rw [List.append_nil]
    exact ha
theorem repB {K : PySem.W.Frag} {H : Hp} {Q : VK} {a : Addr} {z k : Int} (ha : SqT K H a [.int z]) (h1 : -(2 ^ 62) ≤ k) (h2 : k ≤ 1000)
    (q : ∀ p H', Same H H' → SqT K H' p ((List.replicate k.toNat z).map V.int) → Q (.ref p) H') : rRepA K (.ref a) (.int k) H Q := by
  refine ⟨a, k, [.int z], rfl, rfl, ha, h1, h2, by show 1 ≤ 1000; decide, fun e => ?_, fun _ p np => q p _ (same_new np) ?_⟩
  · rcases e with rfl | e
    · exact q a H (Same.refl _) ha
    · cases e
  · rw [rep1]
    exact sq_of upd_same
/-! ### slots and works, also where they stand in the module -/
def SltK (K : PySem.W.Frag) (H : Hp) (v : V) (s : Slt) : Prop := ∃ t u, v = .ref t ∧ SqT K H t [.int s.need, .int s.most, .int s.first, .ref u] ∧ SqT K H u (s.slopes.map V.int)
theorem SltK.same {K : PySem.W.Frag} {H H' : Hp} {v : V} {s : Slt} (e : Same H H') (h : SltK K H v s) : SltK K H' v s := by
  obtain ⟨t, u, rfl, a, b⟩ := h
  exact ⟨t, u, rfl, sq_same e a, sq_same e b⟩
theorem SltK.of {K : PySem.W.Frag} {H : Hp} {v : V} {s : Slt} (h : SltAt H v s) : SltK K H v s := by
  obtain ⟨t, u, rfl, a, b⟩ := h
  exact ⟨t, u, rfl, sq_of a, sq_of b⟩
inductive SltsK (K : PySem.W.Frag) (H : Hp) : List V → List Slt → Prop
  | nil : SltsK K H [] []
  | cons {v : V} {vs : List V} {s : Slt} {ss : List Slt} : SltK K H v s → SltsK K H vs ss → SltsK K H (v :: vs) (s :: ss)
theorem SltsK.same {K : PySem.W.Frag} {H H' : Hp} (e : Same H H') : ∀ {vs : List V} {ss : List Slt}, SltsK K H vs ss → SltsK K H' vs ss
  | _, _, .nil => .nil
  | _, _, .cons a b => .cons (a.same e) (SltsK.same e b)
theorem SltsK.len {K : PySem.W.Frag} {H : Hp} : ∀ {vs : List V} {ss : List Slt}, SltsK K H vs ss → vs.length = ss.length
  | _, _, .nil => rfl
  | _, _, .cons _ b => congrArg (· + 1) (SltsK.len b)
theorem SltsK.snoc {K : PySem.W.Frag} {H : Hp} : ∀ {vs : List V} {ss : List Slt} {v : V} {s : Slt}, SltsK K H vs ss → SltK K H v s → SltsK K H (vs ++ [v]) (ss ++ [s])
  | _, _, _, _, .nil, h => .cons h .nil
  | _, _, _, _, .cons a b, h => .cons a (SltsK.snoc b h)
theorem SltsK.app {K : PySem.W.Frag} {H : Hp} : ∀ {vs ws : List V} {ss ts : List Slt}, SltsK K H vs ss → SltsK K H ws ts → SltsK K H (vs ++ ws) (ss ++ ts)
  | _, _, _, _, .nil, h => h
  | _, _, _, _, .cons a b, h => .cons a (SltsK.app b h)
theorem SltsK.get {K : PySem.W.Frag} {H : Hp} : ∀ {vs : List V} {ss : List Slt} {i : Nat} {v : V}, SltsK K H vs ss → vs[i]? = some v → ∃ s, ss[i]? = some s ∧ SltK K H v s
  | _, _, _, _, .nil, e => by simp at e
  | _, _, 0, v, .cons a _, e => by
    have e : _ = v := Option.some.inj e
    subst e
    exact ⟨_, rfl, a⟩
  | _, _, i + 1, v, .cons _ b, e => by
    rw [List.getElem?_cons_succ] at e ⊢
    exact SltsK.get b e
def mx (i j : Int) : Int := if j > i then j else i
def mn (i j : Int) : Int := if j < i then j else i
theorem mx_eq (i j : Int) : mx i j = max i j := by
  unfold mx
  split <;> omega
theorem mn_eq (i j : Int) : mn i j = min i j := by
  unfold mn
  split <;> omega
structure Slt.Len (s : Slt) : Prop where
  len : (s.slopes.length : Int) = s.most - s.need
  mid : s.need ≤ s.most
  wide : s.most - s.need ≤ 1000
/-- slopes from low to high -/
def winL (s : Slt) (lo hi : Int) : List Int := (s.slopes.drop (lo - s.need).toNat).take ((hi - s.need).toNat - (lo - s.need).toNat)
theorem winL_len {s : Slt} {lo hi : Int} (h : s.Len) (h1 : s.need ≤ lo) (h2 : lo ≤ hi) (h3 : hi ≤ s.most) : ((winL s lo hi).length : Int) = hi - lo := by
  have := h.len
  unfold winL
  rw [List.length_take, List.length_drop]
  omega
theorem cut_win {s : Slt} {lo hi : Int} (h : s.Len) (h1 : s.need ≤ lo) (h2 : lo ≤ hi) (h3 : hi ≤ s.most) : cutV (s.slopes.map V.int) (some (lo - s.need)) (some (hi - s.need)) = (winL s lo hi).map V.int := by
  have hl := h.len
  obtain ⟨m, hm⟩ := Int.eq_ofNat_of_zero_le (show 0 ≤ lo - s.need by omega)
  obtain ⟨n, hn⟩ := Int.eq_ofNat_of_zero_le (show 0 ≤ hi - s.need by omega)
  unfold cutV winL
  rw [hm, hn, HT.sIx_nat, HT.sIx_nat, List.length_map, Int.toNat_natCast, Int.toNat_natCast, Nat.min_eq_left (by omega), Nat.min_eq_left (by omega), List.map_take, List.map_drop]
def addL (a b : List Int) : List Int := List.zipWith (· + ·) a b
/-- two works, added -/
def sumW (a b : Slt) : Option Slt :=
  if mx a.need b.need > mn a.most b.most then none
  else some ⟨mx a.need b.need, mn a.most b.most, costAt a (mx a.need b.need) + costAt b (mx a.need b.need), addL (winL a (mx a.need b.need) (mn a.most b.most)) (winL b (mx a.need b.need) (mn a.most b.most))⟩
def lowW (s : Slt) : Int := s.need + ((s.slopes.filter fun z => decide (z < 0)).length : Nat)
def highW (s : Slt) (b : Int) : Int := s.need + ((s.slopes.filter fun z => decide (z ≤ b)).length : Nat)
def leastW (s : Slt) : Int := costAt s (lowW s)
def clampL (l : List Int) (b : Int) : List Int := l.map fun z => mn (mx 0 z) b
def heldWorth (s : Slt) (b x : Int) : Int := leastW s + ((clampL s.slopes b).take (mx 0 (x - s.need)).toNat).sum + b * mx 0 (x - s.most)
def heldMid (s : Slt) (b lo hi : Int) : List Int := ((clampL s.slopes b).drop (mx 0 (lo - s.need)).toNat).take ((mx 0 (hi - s.need)).toNat - (mx 0 (lo - s.need)).toNat)
def heldSlopes (s : Slt) (b lo hi : Int) : List Int := List.replicate (mx 0 (mn hi s.need - lo)).toNat 0 ++ heldMid s b lo hi ++ List.replicate (mx 0 (hi - mx lo s.most)).toNat b
def heldW (s : Slt) (b lo hi : Int) : Slt := ⟨lo, hi, heldWorth s b lo, heldSlopes s b lo hi⟩
theorem heldW_len {s : Slt} {b lo hi : Int} (h : s.Len) (h1 : lo ≤ hi) (h2 : hi - lo ≤ 1000) : (heldW s b lo hi).Len := by
  refine ⟨?_, h1, h2⟩
  have hl := h.len
  have hm := h.mid
  show ((heldSlopes s b lo hi).length : Int) = hi - lo
  unfold heldSlopes heldMid clampL
  rw [List.length_append, List.length_append, List.length_replicate, List.length_replicate, List.length_take, List.length_drop, List.length_map]
  simp only [mx_eq, mn_eq]
  omega
theorem sumW_len {a b c : Slt} (ha : a.Len) (hb : b.Len) (h : sumW a b = some c) : c.Len := by
  unfold sumW at h
  split at h
  · cases h
  · rename_i hle
    have h := Option.some.inj h
    subst h
    have hle : mx a.need b.need ≤ mn a.most b.most := by omega
    have e1 : a.need ≤ mx a.need b.need ∧ b.need ≤ mx a.need b.need := by rw [mx_eq]; omega
    have e2 : mn a.most b.most ≤ a.most ∧ mn a.most b.most ≤ b.most := by rw [mn_eq]; omega
    refine ⟨?_, hle, by have := ha.wide; show mn a.most b.most - mx a.need b.need ≤ 1000; omega⟩
    show ((addL _ _).length : Int) = _
    unfold addL
    rw [List.length_zipWith]
    have l1 := winL_len ha e1.1 hle e2.1
    have l2 := winL_len hb e1.2 hle e2.2
    show ((min _ _ : Nat) : Int) = mn a.most b.most - mx a.need b.need
    omega
theorem low_in {s : Slt} (h : s.Len) : s.need ≤ lowW s ∧ lowW s ≤ s.most := by
  have hl := h.len
  have := List.length_filter_le (fun z => decide (z < 0)) s.slopes
  unfold lowW
  omega
end WK
namespace WK
open PySem PySem.Spec PyProof.Rows L2
def spCostK (K : PySem.W.Frag) : Sp := fun vs H Q _ => ∃ (t : V) (x : Int) (s : Slt), vs = [t, .int x] ∧ SltK K H t s ∧ ∀ H', Same H H' → Q (costV s x) H'
def spWithin (K : PySem.W.Frag) : Sp := fun vs H Q _ => ∃ (t : V) (lo hi : Int) (s : Slt), vs = [t, .int lo, .int hi] ∧ SltK K H t s ∧ s.Len ∧ s.need ≤ lo ∧ lo ≤ hi ∧ hi ≤ s.most ∧
  ∀ H' p, Same H H' → SqT K H' p ((winL s lo hi).map V.int) → Q (.ref p) H'
def spSum (K : PySem.W.Frag) : Sp := fun vs H Q _ => ∃ (t u : V) (a b : Slt), vs = [t, u] ∧ SltK K H t a ∧ SltK K H u b ∧ a.Len ∧ b.Len ∧ (sumW a b = none → ∀ H', Same H H' → Q .non H') ∧
  ∀ c, sumW a b = some c → ∀ H' v, Same H H' → SltK K H' v c → Q v H'
def spLow (K : PySem.W.Frag) : Sp := fun vs H Q _ => ∃ (t : V) (s : Slt), vs = [t] ∧ SltK K H t s ∧ s.slopes.length ≤ 1000 ∧ ∀ H', Same H H' → Q (.int (lowW s)) H'
def spHigh (K : PySem.W.Frag) : Sp := fun vs H Q _ => ∃ (t : V) (b : Int) (s : Slt), vs = [t, .int b] ∧ SltK K H t s ∧ s.slopes.length ≤ 1000 ∧ ∀ H', Same H H' → Q (.int (highW s b)) H'
def spLeast (K : PySem.W.Frag) : Sp := fun vs H Q _ => ∃ (t : V) (s : Slt), vs = [t] ∧ SltK K H t s ∧ s.Len ∧ ∀ H', Same H H' → Q (.int (leastW s)) H'
def spBounded (K : PySem.W.Frag) : Sp := fun vs H Q _ => ∃ (p : Addr) (b : Int) (l : List Int), vs = [.ref p, .int b] ∧ SqT K H p (l.map V.int) ∧ l.length ≤ 1000 ∧ ∀ H' q, Same H H' → SqT K H' q ((clampL l b).map V.int) → Q (.ref q) H'
def spHW (K : PySem.W.Frag) : Sp := fun vs H Q _ => ∃ (t : V) (b x : Int) (s : Slt), vs = [t, .int b, .int x] ∧ SltK K H t s ∧ s.Len ∧ -(2 ^ 64) < b ∧ b < 2 ^ 64 ∧ ∀ H', Same H H' → Q (.int (heldWorth s b x)) H'
def spHS (K : PySem.W.Frag) : Sp := fun vs H Q _ => ∃ (t : V) (b lo hi : Int) (s : Slt), vs = [t, .int b, .int lo, .int hi] ∧ SltK K H t s ∧ s.Len ∧ lo ≤ hi ∧ hi - lo ≤ 1000 ∧
  ∀ H' p, Same H H' → SqT K H' p ((heldSlopes s b lo hi).map V.int) → Q (.ref p) H'
def spHeld (K : PySem.W.Frag) : Sp := fun vs H Q _ => ∃ (t : V) (b lo hi : Int) (s : Slt), vs = [t, .int b, .int lo, .int hi] ∧ SltK K H t s ∧ s.Len ∧ -(2 ^ 64) < b ∧ b < 2 ^ 64 ∧ lo ≤ hi ∧ hi - lo ≤ 1000 ∧
  ∀ H' v, Same H H' → SltK K H' v (heldW s b lo hi) → Q v H'
def afterW (a s : Slt) (b : Int) : Slt := (sumW s (heldW a b s.need s.most)).getD s0
theorem after_some {a s : Slt} {b : Int} (h : s.Len) : sumW s (heldW a b s.need s.most) = some (afterW a s b) := by
  have e : ¬ mx s.need s.need > mn s.most s.most := by
    have := h.mid
    rw [mx_eq, mn_eq]
    omega
  unfold afterW sumW
  show (if mx s.need s.need > mn s.most s.most then none else _) = some ((if mx s.need s.need > mn s.most s.most then none else _).getD s0)
  rw [if_neg e]
  rfl
theorem after_len {a s : Slt} {b : Int} (ha : a.Len) (h : s.Len) : (afterW a s b).Len := sumW_len h (heldW_len ha h.mid h.wide) (after_some h)
def spAfter (K : PySem.W.Frag) : Sp := fun vs H Q _ => ∃ (t u : V) (b : Int) (a s : Slt), vs = [t, u, .int b] ∧ SltK K H t a ∧ SltK K H u s ∧ a.Len ∧ s.Len ∧ -(2 ^ 64) < b ∧ b < 2 ^ 64 ∧
  ∀ H' v, Same H H' → SltK K H' v (afterW a s b) → Q v H'
/-- nothing yet -/
def w0 : Slt := ⟨0, 0, 0, []⟩
theorem w0_len : w0.Len := ⟨rfl, by decide, by decide⟩
def worksW (a : Slt) (b : Int) : List Slt → List Slt
  | [] => []
  | s :: ss => afterW a s b :: worksW (afterW a s b) b ss
theorem worksW_len {a : Slt} {b : Int} : ∀ {ss : List Slt}, (worksW a b ss).length = ss.length
  | [] => rfl
  | _ :: _ => congrArg (· + 1) worksW_len
theorem worksW_Len {b : Int} : ∀ {ss : List Slt} {a : Slt}, a.Len → (∀ s ∈ ss, s.Len) → ∀ x ∈ worksW a b ss, x.Len
  | [], _, _, _, x, hx => by cases hx
  | s :: ss, a, ha, hs, x, hx => by
    have hl := after_len (b := b) ha (hs s (List.mem_cons_self ..))
    rcases List.mem_cons.mp hx with e | e
    · rw [e]; exact hl
    · exact worksW_Len hl (fun s' h => hs s' (List.mem_cons_of_mem _ h)) x e
/-- the last work -/
def lastW (a : Slt) (b : Int) (ss : List Slt) : Slt := ss.foldl (fun w s => afterW w s b) a
theorem worksW_snoc {b : Int} : ∀ {ss : List Slt} {a s : Slt}, worksW a b (ss ++ [s]) = worksW a b ss ++ [afterW (lastW a b ss) s b]
  | [], _, _ => rfl
  | t :: ts, a, s => by
    show afterW a t b :: worksW (afterW a t b) b (ts ++ [s]) = afterW a t b :: (worksW (afterW a t b) b ts ++ [afterW (lastW (afterW a t b) b ts) s b])
    rw [worksW_snoc]
theorem lastW_len {b : Int} : ∀ {ss : List Slt} {a : Slt}, a.Len → (∀ s ∈ ss, s.Len) → (lastW a b ss).Len
  | [], _, ha, _ => ha
  | s :: ss, a, ha, hs => lastW_len (ss := ss) (after_len ha (hs s (List.mem_cons_self ..))) (fun s' h => hs s' (List.mem_cons_of_mem _ h))
def spWorks (K : PySem.W.Frag) : Sp := fun vs H Q _ => ∃ (p : Addr) (b : Int) (us : List V) (ss : List Slt), vs = [.ref p, .int b] ∧ SqT K H p us ∧ SltsK K H us ss ∧ (∀ s ∈ ss, s.Len) ∧ ss.length ≤ 5000 ∧ -(2 ^ 64) < b ∧ b < 2 ^ 64 ∧
  ∀ H' l ws, Same H H' → H' l = some (.lst ws) → SltsK K H' ws (worksW w0 b ss) → Q (.ref l) H'
def spLeasts (K : PySem.W.Frag) : Sp := fun vs H Q _ => ∃ (p : Addr) (b : Int) (us : List V) (ss : List Slt), vs = [.ref p, .int b] ∧ SqT K H p us ∧ SltsK K H us ss ∧ (∀ s ∈ ss, s.Len) ∧ ss.length ≤ 5000 ∧ -(2 ^ 64) < b ∧ b < 2 ^ 64 ∧
  ∀ H' l, Same H H' → H' l = some (.lst (((worksW w0 b ss).map leastW).map V.int)) → Q (.ref l) H'
def spLeastC (K : PySem.W.Frag) : Sp := fun vs H Q _ => ∃ (p : Addr) (b : Int) (us : List V) (ss : List Slt), vs = [.ref p, .int b] ∧ SqT K H p us ∧ SltsK K H us ss ∧ (∀ s ∈ ss, s.Len) ∧ ss.length ≤ 5000 ∧ -(2 ^ 64) < b ∧ b < 2 ^ 64 ∧
  ∀ H', Same H H' → Q (.int (leastW (lastW w0 b ss))) H'
def plainW (need most price : Int) : Slt := ⟨need, most, need * price, List.replicate (most - need).toNat price⟩
theorem plainW_len {need most price : Int} (h : need ≤ most) (h2 : most - need ≤ 1000) : (plainW need most price).Len := by
  refine ⟨?_, h, h2⟩
  show ((List.replicate _ _).length : Int) = most - need
  rw [List.length_replicate]
  omega
def spPlain (K : PySem.W.Frag) : Sp := fun vs H Q _ => ∃ (need most price : Int), vs = [.int need, .int most, .int price] ∧ need ≤ most ∧ most - need ≤ 1000 ∧ -(2 ^ 64) < price ∧ price < 2 ^ 64 ∧
  ∀ H' v, Same H H' → SltK K H' v (plainW need most price) → Q v H'
theorem cut_mid {xs : List V} {m n : Nat} : cutV xs (some (m : Int)) (some (n : Int)) = (xs.drop m).take (n - m) := by
  unfold cutV
  rw [HT.sIx_nat, HT.sIx_nat]
  by_cases h : m ≤ xs.length
  · rw [Nat.min_eq_left h]
    by_cases h2 : n ≤ xs.length
    · rw [Nat.min_eq_left h2]
    · rw [Nat.min_eq_right (by omega), List.take_of_length_le (by rw [List.length_drop]; omega), List.take_of_length_le (by rw [List.length_drop]; omega)]
  · rw [Nat.min_eq_right (a := m) (by omega), List.drop_of_length_le (by omega), List.drop_of_length_le (by omega), List.take_nil, List.take_nil]
end WK
namespace WK
open PySem PySem.Spec PyProof.Rows L2
theorem filt_yes {p : Int → Bool} {l : List Int} {i : Nat} {z : Int} (h : l[i]? = some z) (c : p z = true) : ((l.take (i + 1)).filter p).map V.int = ((l.take i).filter p).map V.int ++ [.int z] := by
  obtain ⟨hi, e⟩ := List.getElem?_eq_some_iff.mp h
  rw [List.take_succ_eq_append_getElem hi, List.filter_append, e, List.filter_cons, if_pos c, List.map_append]
  rfl
theorem filt_no {p : Int → Bool} {l : List Int} {i : Nat} {z : Int} (h : l[i]? = some z) (c : ¬ p z = true) : ((l.take (i + 1)).filter p).map V.int = ((l.take i).filter p).map V.int := by
  obtain ⟨hi, e⟩ := List.getElem?_eq_some_iff.mp h
  rw [List.take_succ_eq_append_getElem hi, List.filter_append, e, List.filter_cons, if_neg c, List.filter_nil, List.append_nil]
theorem filt_len {p : Int → Bool} {l : List Int} {i : Nat} : ((l.take i).filter p).length ≤ l.length :=
  Nat.le_trans (List.length_filter_le _ _) (by rw [List.length_take]; exact Nat.min_le_right _ _)
end WK
namespace WK
open PySem PySem.Spec PyProof.Rows L2
theorem addL_snoc {xs ys : List Int} {i : Nat} {x y : Int} (hx : xs[i]? = some x) (hy : ys[i]? = some y) : addL (xs.take (i + 1)) (ys.take (i + 1)) = addL (xs.take i) (ys.take i) ++ [x + y] := by
  obtain ⟨h1, e1⟩ := List.getElem?_eq_some_iff.mp hx
  obtain ⟨h2, e2⟩ := List.getElem?_eq_some_iff.mp hy
  unfold addL
  rw [List.take_succ_eq_append_getElem h1, List.take_succ_eq_append_getElem h2, e1, e2, List.zipWith_append (by rw [List.length_take, List.length_take]; omega)]
  rfl
end WK
namespace WK
open PySem PySem.Spec PyProof.Rows L2
theorem sq_upd {K : PySem.W.Frag} {H : Hp} {l a : Addr} {xs ys : List V} {o : HO} (h : H l = some (.lst xs)) (e : SqT K H a ys) : SqT K (upd H l o) a ys := by
  rcases e with (e | ⟨o', e⟩) | e
  · refine .inl (.inl ?_)
    rw [upd_ne (fun z => by rw [z, h] at e; cases e)]
    exact e
  · refine .inl (.inr ⟨o', ?_⟩)
    rw [upd_ne (fun z => by rw [z, h] at e; cases e)]
    exact e
  · exact .inr e
theorem SltK.upd {K : PySem.W.Frag} {H : Hp} {l : Addr} {xs : List V} {o : HO} {v : V} {s : Slt} (h : H l = some (.lst xs)) (e : SltK K H v s) : SltK K (L2.upd H l o) v s := by
  obtain ⟨t, u, rfl, a, b⟩ := e
  exact ⟨t, u, rfl, sq_upd h a, sq_upd h b⟩
theorem SltsK.upd {K : PySem.W.Frag} {H : Hp} {l : Addr} {xs : List V} {o : HO} (h : H l = some (.lst xs)) : ∀ {vs : List V} {ss : List Slt}, SltsK K H vs ss → SltsK K (L2.upd H l o) vs ss
  | _, _, .nil => .nil
  | _, _, .cons a b => .cons (a.upd h) (SltsK.upd h b)
theorem lastW_snoc {a s : Slt} {b : Int} {ss : List Slt} : lastW a b (ss ++ [s]) = afterW (lastW a b ss) s b := by
  unfold lastW
  rw [List.foldl_append]
  rfl
theorem take_snoc1 {α : Type} {l : List α} {i : Nat} {x : α} (h : l[i]? = some x) : l.take (i + 1) = l.take i ++ [x] := by
  obtain ⟨hi, e⟩ := List.getElem?_eq_some_iff.mp h
  rw [List.take_succ_eq_append_getElem hi, e]
end WK
set_option Elab.async false
set_option linter.all false
set_option maxRecDepth 100000
namespace WK
open PySem PySem.Spec PyProof.Rows L2
/-! ### zip of a list and a tuple -/
def y1 (h : Heap) (l : Addr) : Heap := h.push { cls := .type "tuple_iterator", data := .fields #[.ref l, .int 0 0] }
def y2 (h : Heap) (l t : Addr) : Heap := (y1 h l).push { cls := .type "list_iterator", data := .fields #[.ref t, .int 0 0] }
def y3 (h : Heap) (l t : Addr) : Heap := (y2 h l t).push { cls := .type "tuple", data := .seq #[.ref h.objs.size, .ref (y1 h l).objs.size] }
def y4 (h : Heap) (l t : Addr) : Heap := (y3 h l t).push { cls := .type "tuple", data := .seq #[.none, .none] }
def y5 (h : Heap) (l t : Addr) : Heap := (y4 h l t).push { cls := .type "zip", data := .fields #[.none, .bool false, .bool false, .ref (y2 h l t).objs.size, .ref (y3 h l t).objs.size] }
theorem zipN_make (l t : Addr) (xs ys : Array Value) :
    Meets (Builtin.«zip.__new__» ⟨[.type "zip", .ref l, .ref t], []⟩)
      (fun _ R s => s.heap.IsTuple l xs ∧ s.heap.IsList t ys ∧ R (.ok (.ret (.ref (y4 s.heap l t).objs.size))) { s with heap := y5 s.heap l t }) :=
  .of_wp fun prog w A R s h => by
    obtain ⟨hp, g, d, tk, os⟩ := s
    obtain ⟨hl, ht, h⟩ := h
    have hsub := sub_zip
    have a1 : Heap.IsTuple (Shared.heap ⟨hp, g, d, tk, os⟩) l xs := hl
    have a2 : Heap.IsList (Shared.heap ⟨hp.push { cls := .type "tuple_iterator", data := .fields #[.ref l, .int 0 0] }, g, d, tk, os⟩) t ys := Heap.IsList.push ht _
    wp_walk using wpAny_pyIter_tuple a1, wpAny_pyIter_list a2
    exact ⟨_, rfl, h⟩
section
variable {prog : Program} {w : World} {A : Around} {E : Value → Shared → Prop} {s : Shared}
theorem call_zipN {l t : Addr} {xs ys : Array Value} {Q : Value → Shared → Prop} (hl : s.heap.IsTuple l xs) (ht : s.heap.IsList t ys)
    (h : ∀ h', IsZip h' (s.heap.objs.size + 4) (s.heap.objs.size + 2) (s.heap.objs.size + 3) .none →
      PySem.IsPair h' (s.heap.objs.size + 2) (.ref s.heap.objs.size) (.ref (s.heap.objs.size + 1)) → PySem.IsPair h' (s.heap.objs.size + 3) .none .none →
      h'.IsTupleIter s.heap.objs.size l 0 → h'.IsListIter (s.heap.objs.size + 1) t 0 →
      (∀ c o, s.heap.get? c = some o → h'.get? c = some o) → Q (.ref (s.heap.objs.size + 4)) { s with heap := h' }) :
    wpAny (model prog w) A (call (.type "zip") [.ref l, .ref t]) Q E s := by
  refine callType_new F.called_zip (by decide) (F.typeCall_zip_2 _ _) (F.newCall_zip_2 _ _)
    (fun obj => F.args_object_init_3 obj _ _) F.entry_zip_new (zipN_make l t xs ys) ⟨hl, ht, ?_⟩
  have n1 : (y1 s.heap l).objs.size = s.heap.objs.size + 1 := Heap.size_push ..
  have n2 : (y2 s.heap l t).objs.size = s.heap.objs.size + 2 := (Heap.size_push ..).trans (congrArg (· + 1) n1)
  have n3 : (y3 s.heap l t).objs.size = s.heap.objs.size + 3 := (Heap.size_push ..).trans (congrArg (· + 1) n2)
  have n4 : (y4 s.heap l t).objs.size = s.heap.objs.size + 4 := (Heap.size_push ..).trans (congrArg (· + 1) n3)
  have p5 : (y5 s.heap l t).get? (y4 s.heap l t).objs.size = some _ := Heap.get?_push_size _ rfl
  have p4 : (y5 s.heap l t).get? (y3 s.heap l t).objs.size = some _ := Heap.get?_push_of_some _ (Heap.get?_push_size _ rfl)
  have p3 : (y5 s.heap l t).get? (y2 s.heap l t).objs.size = some _ :=
    Heap.get?_push_of_some _ (Heap.get?_push_of_some _ (Heap.get?_push_size _ rfl))
  have p2 : (y5 s.heap l t).get? (y1 s.heap l).objs.size = some _ :=
    Heap.get?_push_of_some _ (Heap.get?_push_of_some _ (Heap.get?_push_of_some _ (Heap.get?_push_size _ rfl)))
  have p1 : (y5 s.heap l t).get? s.heap.objs.size = some _ :=
    Heap.get?_push_of_some _ (Heap.get?_push_of_some _ (Heap.get?_push_of_some _ (Heap.get?_push_of_some _ (Heap.get?_push_size _ rfl))))
  show _ ∧ _
  rw [n2, n3, n4] at p5
  rw [n1, n2] at p3
  rw [n3] at p4
  rw [n1] at p2
  rw [n4]
  refine ⟨⟨_, p5, rfl⟩, h _ p5 p3 p4 ⟨_, p1, rfl, rfl⟩ ⟨_, p2, rfl, rfl⟩ ?_⟩
  intro c o x
  exact Heap.get?_push_of_some _ (Heap.get?_push_of_some _ (Heap.get?_push_of_some _ (Heap.get?_push_of_some _ (Heap.get?_push_of_some _ x))))
end
/-- the list at a and the tuple at b as they stand, the items in new pairs -/
def ItzN (K : PySem.W.Frag) (a b : Addr) : It :=
  ⟨fun i H => ∃ (xs ys : List V) (x y : V), SqT K H a xs ∧ SqL K H b ys ∧ xs[i]? = some x ∧ ys[i]? = some y,
   fun i H v H' => ∃ T x y, v = .ref T ∧ H T = none ∧ H' = upd H T (.tup [x, y]) ∧ (∀ xs, SqT K H a xs → xs[i]? = some x) ∧ ∀ ys, SqL K H b ys → ys[i]? = some y,
   fun i H => ∃ xs ys : List V, SqT K H a xs ∧ SqL K H b ys ∧ (i = xs.length ∧ i ≤ ys.length ∨ i = ys.length ∧ i ≤ xs.length)⟩
theorem turn_zipN {P : Program} {w : World} {K : PySem.W.Frag} {elts : List Expr} {kk : Nat} {tpos : Pos} {a b z TI TO i1 i2 : Addr} (D : ZipApart z TI TO i1 i2 a b) :
    Turn P w K (.Tuple elts kk tpos) (ItzN K a b) [z, TI, TO, i1, i2] z
      (fun i h => IsZip h z TI TO .none ∧ PySem.IsPair h TI (.ref i1) (.ref i2) ∧ (∃ x y, PySem.IsPair h TO x y) ∧ h.IsTupleIter i1 a i ∧ h.IsListIter i2 b i) where
  mem := by simp
  obj := by
    rintro i h ⟨hz, hTI, ⟨x, y, hTO⟩, ⟨o1, e1, _, d1⟩, ⟨o2, e2, _, d2⟩⟩ c hc
    have e' : c = z ∨ c = TI ∨ c = TO ∨ c = i1 ∨ c = i2 := by simpa using hc
    rcases e' with rfl | rfl | rfl | rfl | rfl
    · exact ⟨_, hz, fun v q => nomatch q⟩
    · exact ⟨_, hTI, fun v q => nomatch q⟩
    · exact ⟨_, hTO, fun v q => nomatch q⟩
    · exact ⟨o1, e1, fun v q => by rw [d1] at q; exact nomatch q⟩
    · exact ⟨o2, e2, fun v q => by rw [d2] at q; exact nomatch q⟩
  keep := by
    rintro i h h' ⟨hz, hTI, ⟨x, y, hTO⟩, q1, q2⟩ k
    exact ⟨k z (by simp) _ hz, k TI (by simp) _ hTI, ⟨x, y, k TO (by simp) _ hTO⟩, q1.at (fun o q => k i1 (by simp) o q), q2.at (fun o q => k i2 (by simp) o q)⟩
  item := by
    intro X hP hw hK hc i pins s σ H E I hf st hg
    subst hP hw hK
    obtain ⟨hz, hTI, ⟨x0, y0, hTO⟩, q1, q2⟩ := st
    obtain ⟨xs, ys, x, y, hqx, hqy, hx, hy⟩ := hg
    obtain ⟨its, rv, pl, _⟩ := I.tuple hqx
    obtain ⟨jts, rv2, tp, _⟩ := I.list hqy
    obtain ⟨u, hu, ru⟩ := rv.get hx
    obtain ⟨u2, hu2, ru2⟩ := rv2.get hy
    have hzl : z < s.heap.objs.size := Heap.lt_size hz
    have s1 : i < its.toArray.size := by
      rw [List.size_toArray]
      exact (List.getElem?_eq_some_iff.mp hu).1
    have s2 : i < jts.toArray.size := by
      rw [List.size_toArray]
      exact (List.getElem?_eq_some_iff.mp hu2).1
    have tp' : s.heap.IsList b jts.toArray := tp.isList
    refine wpAny_pyNext_zipD2_item (sep_of D) (Draws.tuple (A := X.A.in1) (I.ok.hd hc) i1 a D.l1i1 its.toArray) (Draws.list (A := X.A.in1) (I.ok.hd hc) i2 b D.l2i2 jts.toArray)
      hz hTI hTO ⟨q1, pl⟩ ⟨q2, tp'⟩ s1 s2 ?_
    intro v1 v2 h' tk e1 e2 hz' hTO' st1 st2 hT hsz hk
    have e1 : its.toArray[i]? = some v1 := e1
    have e2 : jts.toArray[i]? = some v2 := e2
    rw [List.getElem?_toArray, hu] at e1
    rw [List.getElem?_toArray, hu2] at e2
    injection e1 with e1
    injection e2 with e2
    subst e1
    subst e2
    refine ⟨_, rfl, wpAny_letOwnedTupleGo_zip (s := { s with heap := h', toks := tk }) hz' ?_⟩
    intro h'' hz'' sb
    have T2 : h''.get? s.heap.objs.size = some { cls := .type "tuple", data := .seq #[u, u2] } := (sb.2 _ (Nat.ne_of_gt hzl)).trans hT
    have new : ObjOk X.prog X.w (upd H s.heap.objs.size (.tup [x, y])) h'' s.heap.objs.size (.tup [x, y]) :=
      ⟨by show 2 ≤ sizeLine; decide, [u, u2], .cons ru (.cons ru2 .nil), ⟨_, T2, rfl, _, rfl⟩⟩
    have I1 : Inv X pins σ (upd H s.heap.objs.size (.tup [x, y])) { s with heap := h'', toks := tk } := by
      refine I.turnedNew (ch := [z, TI, TO, i1, i2]) ?_ hf (Nat.le_refl _) new
      intro c o hb q
      have c1 : c ≠ z := fun e => hb (by simp [e])
      have c2 : c ≠ TO := fun e => hb (by simp [e])
      have c3 : c ≠ i1 := fun e => hb (by simp [e])
      have c4 : c ≠ i2 := fun e => hb (by simp [e])
      exact (sb.2 c c1).trans (hk c o c1 c2 c3 c4 q)
    refine ⟨.ref s.heap.objs.size, _, I1, rfl, ⟨_, x, y, rfl, I.hok.fresh (Nat.le_refl _), rfl, ?_, ?_⟩, ⟨hz'', ?_, ⟨u, u2, ?_⟩, ?_, ?_⟩, ?_⟩
    · intro l hl
      rw [I.tuple_inj hl hqx]
      exact hx
    · intro l hl
      rw [I.list_inj hl hqy]
      exact hy
    · exact (sb.2 _ D.TIz).trans (hk _ _ D.TIz D.TITO D.TIi1 D.TIi2 hTI)
    · exact (sb.2 _ D.TOz).trans hTO'
    · exact st1.1.at fun o q => (sb.2 _ D.i1z).trans q
    · exact st2.1.at fun o q => (sb.2 _ D.i2z).trans q
    · intro c hcm
      obtain ⟨o1, g1, _⟩ := q1
      obtain ⟨o2, g2, _⟩ := q2
      have lt : c < s.heap.objs.size := by
        have e' : c = z ∨ c = TI ∨ c = TO ∨ c = i1 ∨ c = i2 := by simpa using hcm
        rcases e' with rfl | rfl | rfl | rfl | rfl
        · exact hzl
        · exact Heap.lt_size hTI
        · exact Heap.lt_size hTO
        · exact Heap.lt_size g1
        · exact Heap.lt_size g2
      rw [upd_ne (Nat.ne_of_lt lt)]
      exact (hf c hcm).1
  done := by
    intro X hP hw hK hc i pins s σ H E I hf st hg
    subst hP hw hK
    obtain ⟨hz, hTI, ⟨x0, y0, hTO⟩, q1, q2⟩ := st
    obtain ⟨xs, ys, hqx, hqy, hend⟩ := hg
    obtain ⟨its, rv, pl, _⟩ := I.tuple hqx
    obtain ⟨jts, rv2, tp, _⟩ := I.list hqy
    have l1 := rv.length
    have l2 := rv2.length
    have tp' : s.heap.IsList b jts.toArray := tp.isList
    refine wpAny_pyNext_zipD2_end (i := i) (sep_of D) (Draws.tuple (A := X.A.in1) (I.ok.hd hc) i1 a D.l1i1 its.toArray) (Draws.list (A := X.A.in1) (I.ok.hd hc) i2 b D.l2i2 jts.toArray)
      hz hTI hTO ⟨q1, pl⟩ ⟨q2, tp'⟩ ?_ ?_ ?_ ?_
    · rw [List.size_toArray]; omega
    · rw [List.size_toArray]; omega
    · rw [List.size_toArray, List.size_toArray]; omega
    · intro h' tk hk
      refine ⟨rfl, I.turnedL (t' := tk) (ch := [z, TI, TO, i1, i2]) ?_ hf⟩
      intro c o hb q
      exact hk c o (fun e => hb (by simp [e])) (fun e => hb (by simp [e])) (fun e => hb (by simp [e])) (fun e => hb (by simp [e])) q
  self := fun A i s Q E st h => wpAny_pyIter_zip st.1 h
def iZipN (K : PySem.W.Frag) (ta : TA) : TI := fun σ H R => ta σ H fun vs H1 => ∃ a b xs ys, vs = [.ref a, .ref b] ∧ SqT K H1 a xs ∧ SqL K H1 b ys ∧ R (ItzN K a b) H1
theorem pi_zipN {X : Cx} {e e2 : Expr} {ta : TA} {p pos tpos : Pos} {elts : List Expr} {kk : Nat} (hg : Gl X "zip") (hm : X.mg "zip" = none) (ha : PA X [e, e2] ta)
    (hs : starEach [e, e2] X.env = (false, eval e X.env) :: starEach [e2] X.env := by rfl) (hpl : (backTo pos (starEach [e2] X.env)).any (·.1) = false := by rfl) :
    PI X (.Tuple elts kk tpos) (.Call (.Name "zip" p) [e, e2] [] pos) (iZipN X.K ta) := by
  constructor
  intro pins s σ H R I h
  have go := ha.run pos pins s σ H _ I h
  refine Call_ (ld_blt I hg hm PyProof.Rows.boot_zip (PyProof.Rows.callWith_type1 (thn go ?_) hs hpl))
  rintro us s1 ⟨vs, H1, I1, r1, a, b, xs, ys, rfl, hqx, hqy, q⟩
  obtain ⟨u1, u2, rfl, r, r'⟩ := vals2 r1
  cases r
  cases r'
  obtain ⟨its, rv, pl, _⟩ := I1.tuple hqx
  obtain ⟨jts, rv2, tp, _⟩ := I1.list hqy
  have tp' : s1.heap.IsList b jts.toArray := tp.isList
  have la : a < s1.heap.objs.size := by
    obtain ⟨_, g, _⟩ := pl
    exact Heap.lt_size g
  have lb : b < s1.heap.objs.size := by
    obtain ⟨_, g, _⟩ := tp.isList
    exact Heap.lt_size g
  refine call_zipN pl tp' ?_
  intro h' hz hTI hTO q1 q2 hk
  refine wpAny_pyIter_zip hz ?_
  have I2 : Inv X pins σ H1 { s1 with heap := h' } := I1.kept (t' := s1.toks) hk
  refine ⟨s1.heap.objs.size + 4, [s1.heap.objs.size + 4, s1.heap.objs.size + 2, s1.heap.objs.size + 3, s1.heap.objs.size, s1.heap.objs.size + 1], _, _, H1, rfl, I2,
    turn_zipN (PySem.W.ktu_apart s1.heap.objs.size a b la lb), ⟨hz, hTI, ⟨_, _, hTO⟩, q1, q2⟩, ?_, q⟩
  intro c hcm
  have hle : s1.heap.objs.size ≤ c := by
    have e' : c = s1.heap.objs.size + 4 ∨ c = s1.heap.objs.size + 2 ∨ c = s1.heap.objs.size + 3 ∨ c = s1.heap.objs.size ∨ c = s1.heap.objs.size + 1 := by simpa using hcm
    rcases e' with e | e | e | e | e <;> rw [e]
    · exact Nat.le_add_right _ 4
    · exact Nat.le_add_right _ 2
    · exact Nat.le_add_right _ 3
    · exact Nat.le_refl _
    · exact Nat.le_add_right _ 1
  exact I1.fpOk hle (I1.hok.fresh hle)
theorem walk_zipN {K : PySem.W.Frag} {a b : Addr} {xs ys : List V} {n : Nat} (hn : n = min xs.length ys.length) :
    Walk (ItzN K a b) n (fun H => SqT K H a xs ∧ SqL K H b ys) (YPair (fun i => xs[i]?) (fun i => ys[i]?)) := by
  subst hn
  constructor
  · rintro i H hi ⟨q1, q2⟩
    have h1 : i < xs.length := by omega
    have h2 : i < ys.length := by omega
    exact ⟨xs, ys, xs[i], ys[i], q1, q2, by simp [h1], by simp [h2]⟩
  · rintro H ⟨q1, q2⟩
    exact ⟨xs, ys, q1, q2, by omega⟩
  · rintro i H v H' _ ⟨q1, q2⟩ ⟨T, x, y, h1, h2, h3, h4, h5⟩
    exact ⟨T, x, y, h1, h2, h3, h4 xs q1, h5 ys q2⟩
end WK
set_option Elab.async false
set_option linter.all false
set_option maxRecDepth 100000
namespace WK
open PySem PySem.Spec PyProof.Rows L2
theorem get_listB {X : Cx} : PGet X (fun x y H Q => ∃ p xs i v, x = .ref p ∧ y = .int i ∧ SqL X.K H p xs ∧ 0 ≤ i ∧ xs[i.toNat]? = some v ∧ Q v H) := by
  intro pins s σ H x y v u Q I rx ry h
  obtain ⟨p, xs, i, z, rfl, rfl, hq, h0, he, q⟩ := h
  cases rx
  obtain ⟨t, rfl⟩ := ry
  obtain ⟨its, r, pl, hz⟩ := I.list hq
  obtain ⟨w, ew, rw'⟩ := r.get he
  have hn := line63
  have hi := (List.getElem?_eq_some_iff.mp he).1
  exact wpAny_getItem_list pl.isList h0 (by omega) (by simpa using ew) ⟨z, H, I, rw', q⟩
def v4L (v : V4) : List Int := [v.1, v.2.1, v.2.2.1, v.2.2.2]
/-- a row of tuples of numbers -/
inductive AllT (K : PySem.W.Frag) (H : Hp) : List V → List (List Int) → Prop
  | nil : AllT K H [] []
  | cons {v : V} {vs : List V} {s : List Int} {ss : List (List Int)} : TupI K H v s → AllT K H vs ss → AllT K H (v :: vs) (s :: ss)
theorem TupI.same {K : PySem.W.Frag} {H H' : Hp} {v : V} {s : List Int} (e : Same H H') (h : TupI K H v s) : TupI K H' v s := by
  obtain ⟨t, rfl, h⟩ := h
  exact ⟨t, rfl, sq_same e h⟩
theorem AllT.same {K : PySem.W.Frag} {H H' : Hp} (e : Same H H') : ∀ {vs : List V} {ss : List (List Int)}, AllT K H vs ss → AllT K H' vs ss
  | _, _, .nil => .nil
  | _, _, .cons a b => .cons (TupI.same e a) (AllT.same e b)
theorem sqt_upd {K : PySem.W.Frag} {H : Hp} {a t : Addr} {xs : List V} {o : HO} {l : List V} (h : SqT K H t l) (ha : H a = some (.lst xs)) : SqT K (upd H a o) t l := by
  rcases h with (h | ⟨q, h⟩) | h
  · exact .inl (.inl (by rw [upd_ne (ne_of h ha (by intro z; cases z))]; exact h))
  · exact .inl (.inr ⟨q, by rw [upd_ne (ne_of h ha (by intro z; cases z))]; exact h⟩)
  · exact .inr h
theorem AllT.upd {K : PySem.W.Frag} {H : Hp} {a : Addr} {xs : List V} {o : HO} (ha : H a = some (.lst xs)) : ∀ {vs : List V} {ss : List (List Int)}, AllT K H vs ss → AllT K (upd H a o) vs ss
  | _, _, .nil => .nil
  | _, _, .cons ⟨t, e, h⟩ b => .cons ⟨t, e, sqt_upd h ha⟩ (AllT.upd ha b)
theorem AllT.len {K : PySem.W.Frag} {H : Hp} : ∀ {vs : List V} {ss : List (List Int)}, AllT K H vs ss → vs.length = ss.length
  | _, _, .nil => rfl
  | _, _, .cons _ b => congrArg (· + 1) (AllT.len b)
theorem AllT.snoc {K : PySem.W.Frag} {H : Hp} : ∀ {vs : List V} {ss : List (List Int)} {v : V} {s : List Int}, AllT K H vs ss → TupI K H v s → AllT K H (vs ++ [v]) (ss ++ [s])
  | _, _, _, _, .nil, h => .cons h .nil
  | _, _, _, _, .cons a b, h => .cons a (AllT.snoc b h)
theorem AllT.get {K : PySem.W.Frag} {H : Hp} : ∀ {vs : List V} {ss : List (List Int)} {i : Nat} {v : V}, AllT K H vs ss → vs[i]? = some v → ∃ s, ss[i]? = some s ∧ TupI K H v s
  | _, _, _, _, .nil, e => by simp at e
  | _, _, 0, v, .cons a _, e => by
    have e : _ = v := Option.some.inj e
    subst e
    exact ⟨_, rfl, a⟩
  | _, _, i + 1, v, .cons _ b, e => AllT.get (i := i) b e
theorem AllT.mem {K : PySem.W.Frag} {H : Hp} : ∀ {vs : List V} {ss : List (List Int)} {v : V}, AllT K H vs ss → v ∈ vs → ∃ s, s ∈ ss ∧ TupI K H v s
  | _, _, _, .nil, e => by simp at e
  | _, _, v, .cons a b, e => by
    rcases List.mem_cons.mp e with rfl | e
    · exact ⟨_, by simp, a⟩
    · obtain ⟨s, h1, h2⟩ := AllT.mem b e
      exact ⟨s, List.mem_cons_of_mem _ h1, h2⟩
theorem AllT.perm {K : PySem.W.Frag} {H : Hp} {vs ws : List V} (p : ws.Perm vs) : ∀ {ss : List (List Int)}, AllT K H vs ss → ∃ ts, ts.Perm ss ∧ AllT K H ws ts := by
  have q := p.symm
  clear p
  induction q with
  | nil => exact fun h => ⟨_, .refl _, h⟩
  | cons x _ ih =>
    intro ss h
    cases h with
    | cons a b =>
      obtain ⟨ts, h1, h2⟩ := ih b
      exact ⟨_, h1.cons _, .cons a h2⟩
  | swap x y l =>
    intro ss h
    cases h with
    | cons a b =>
      cases b with
      | cons b c => exact ⟨_, .swap _ _ _, .cons b (.cons a c)⟩
  | trans _ _ i1 i2 =>
    intro ss h
    obtain ⟨t1, p1, h1⟩ := i1 h
    obtain ⟨t2, p2, h2⟩ := i2 h1
    exact ⟨t2, p2.trans p1, h2⟩
theorem perm_map_v4 : ∀ {ts : List (List Int)} {l : List V4}, ts.Perm (l.map v4L) → ∃ l' : List V4, l'.Perm l ∧ ts = l'.map v4L := by
  intro ts l p
  generalize e : l.map v4L = ss at p
  have q := p.symm
  clear p
  induction q generalizing l with
  | nil => cases l with | nil => exact ⟨[], .refl _, rfl⟩ | cons _ _ => cases e
  | cons x _ ih =>
    cases l with
    | nil => cases e
    | cons v r =>
      injection e with e1 e2
      obtain ⟨l', h1, h2⟩ := ih e2
      exact ⟨v :: l', h1.cons _, by rw [h2, ← e1]; rfl⟩
  | swap x y l0 =>
    cases l with
    | nil => cases e
    | cons v r =>
      cases r with
      | nil => injection e with _ e; cases e
      | cons v2 r =>
        injection e with e1 e2
        injection e2 with e2 e3
        exact ⟨v2 :: v :: r, .swap _ _ _, by rw [← e1, ← e2, ← e3]; rfl⟩
  | trans _ _ i1 i2 =>
    obtain ⟨l1, p1, h1⟩ := i1 e
    obtain ⟨l2, p2, h2⟩ := i2 h1.symm
    exact ⟨l2, p2.trans p1, h2⟩
/-! ### contracts of valleys -/
def BV : Int := 2000000000
/-- needs of the document, not too many -/
structure Nds (ns : List Int) : Prop where
  len : ns.length ≤ 63
  pos : ∀ z ∈ ns, 0 ≤ z ∧ z ≤ 1000000000
theorem Nds.nd {ns : List Int} (h : Nds ns) (i : Nat) : 0 ≤ nd ns i ∧ nd ns i ≤ 1000000000 := by
  unfold WK.nd
  rw [List.getD_eq_getElem?_getD]
  cases e : ns[i]? with
  | none => simp
  | some z => exact h.pos z (List.mem_of_getElem? e)
def CodeLe (l : List V4) : Prop := l.Pairwise fun v u => TS.code BV (v4L v) ≤ TS.code BV (v4L u)
def spValleys (K : PySem.W.Frag) : Sp := fun vs H Q _ => ∃ (t : Addr) (ns : List Int), vs = [.ref t] ∧ SqT K H t (ns.map V.int) ∧ Nds ns ∧
  ∀ H' g ws (l : List V4), Same H H' → H g = none → H' g = some (.lst ws) → AllT K H' ws (l.map v4L) → l.Perm (valV4 ns ns.length) → CodeLe l → Q (.ref g) H'
def spVCost (K : PySem.W.Frag) : Sp := fun vs H Q _ => ∃ (v : V) (x : V4) (b : Int), vs = [v, .int b] ∧ TupI K H v (v4L x) ∧ 0 ≤ x.2.1 ∧ x.2.1 ≤ 1000000 ∧ 0 ≤ b ∧ (∀ H', Same H H' → Q (.int (vcost b x)) H')
end WK
namespace WK
open PySem PySem.Spec PyProof.Rows L2
theorem ifF {A B : Prop} {c : Bool} (e : c = false) (h : B) : if c = true then A else B := by
  rw [if_neg (by rw [e]; exact Bool.false_ne_true)]
  exact h
theorem same_upd {H G : Hp} {a : Addr} {o : HO} (sm : Same H G) (ha : H a = none) : Same H (upd G a o) := fun b x e => by
  rw [upd_ne (ne_of_none e ha)]
  exact sm _ _ e
theorem revL (r : List Nat) (s : Nat) : ((s :: r).reverse.map fun (s : Nat) => V.int s) = (r.reverse.map fun (s : Nat) => V.int s) ++ [V.int s] := by
  rw [List.reverse_cons, List.map_append]
  rfl
theorem ndAt {ns : List Int} {s : Nat} (h : s < ns.length) : (ns.map V.int)[s]? = some (V.int (nd ns s)) := by
  rw [List.getElem?_map]
  unfold nd
  rw [List.getD_eq_getElem?_getD, List.getElem?_eq_getElem h]
  rfl
theorem lastAt {l : List V} {v : V} : (l ++ [v])[(l ++ [v]).length - 1]? = some v := by
  rw [List.getElem?_append_right (by simp)]
  simp
end WK
namespace WK
open PySem PySem.Spec PyProof.Rows L2
theorem AllT.memR {K : PySem.W.Frag} {H : Hp} : ∀ {vs : List V} {ss : List (List Int)} {s : List Int}, AllT K H vs ss → s ∈ ss → ∃ v, v ∈ vs ∧ TupI K H v s
  | _, _, _, .nil, e => by simp at e
  | _, _, s, .cons a b, e => by
    rcases List.mem_cons.mp e with rfl | e
    · exact ⟨_, by simp, a⟩
    · obtain ⟨v, h1, h2⟩ := AllT.memR b e
      exact ⟨v, List.mem_cons_of_mem _ h1, h2⟩
theorem val_bd {ns : List Int} (hN : Nds ns) : ∀ v ∈ valV4 ns ns.length, TS.Bd BV (v4L v) := by
  intro v hv
  obtain ⟨i, hi, o⟩ := val_ok ns.length (Nat.le_refl _) v hv
  obtain ⟨j, hj, hl⟩ := o.lows
  have h1 := hN.nd j
  have h2 := hN.nd i
  have := hN.len
  have := o.beg
  have := o.len
  have := o.fin
  have := o.low
  have := o.high
  intro m hm
  unfold BV
  simp only [v4L, List.mem_cons, List.not_mem_nil, or_false] at hm
  rcases hm with rfl | rfl | rfl | rfl <;> omega
theorem code_le {K : PySem.W.Frag} {H : Hp} : ∀ {ys : List V} {l : List V4}, AllT K H ys (l.map v4L) → ys.Pairwise (fun x y => ∀ n m, TupI K H x n → TupI K H y m → TS.code BV n ≤ TS.code BV m) → CodeLe l
  | [], [], _, _ => List.Pairwise.nil
  | y :: ys, v :: l, .cons a b, h => by
    have h' := List.pairwise_cons.mp h
    refine List.pairwise_cons.mpr ⟨fun u hu => ?_, code_le b h'.2⟩
    obtain ⟨x, hx, hxu⟩ := AllT.memR b (List.mem_map.mpr ⟨u, hu, rfl⟩)
    exact h'.1 x hx _ _ a hxu
end WK
namespace WK
open PySem PySem.Spec PyProof.Rows L2
/-! ### least costs so far, least costs by layers -/
def riseL (ns : List Int) (b : Int) (l : List V4) : List Int := (List.range ns.length).map fun j => nd ns j + vsC b (l.filter fun v => decide (v.1 + v.2.1 = (j : Int)))
theorem riseL_at {ns : List Int} {b : Int} {l : List V4} {j : Nat} (h : j < ns.length) : (riseL ns b l)[j]? = some (nd ns j + vsC b (l.filter fun v => decide (v.1 + v.2.1 = (j : Int)))) := by
  unfold riseL
  rw [List.getElem?_map, List.getElem?_range h]
  rfl
theorem riseL_len (ns : List Int) (b : Int) (l : List V4) : (riseL ns b l).length = ns.length := by simp [riseL]
theorem nd_at {ns : List Int} {i : Nat} (h : i < ns.length) : ns[i]? = some (nd ns i) := by
  unfold nd
  rw [List.getD_eq_getElem?_getD, List.getElem?_eq_getElem h]
  rfl
theorem riseL_nil (ns : List Int) (b : Int) : riseL ns b [] = ns := by
  refine List.ext_getElem? fun i => ?_
  by_cases h : i < ns.length
  · rw [riseL_at h, nd_at h]
    simp [vsC]
  · rw [List.getElem?_eq_none (by rw [riseL_len]; omega), List.getElem?_eq_none (by omega)]
theorem riseL_snoc {ns : List Int} {b : Int} {l : List V4} {v : V4} {j : Nat} (hj : v.1 + v.2.1 = (j : Int)) (h : j < ns.length) :
    (riseL ns b l).set j (nd ns j + vsC b (l.filter fun v => decide (v.1 + v.2.1 = (j : Int))) + vcost b v) = riseL ns b (l ++ [v]) := by
  refine List.ext_getElem? fun i => ?_
  rw [List.getElem?_set]
  have hlen := riseL_len ns b l
  by_cases hi : i < ns.length
  · rw [riseL_at hi (l := l ++ [v]), List.filter_append, vsC_app]
    by_cases e : j = i
    · subst e
      rw [if_pos rfl, if_pos (by omega)]
      simp [hj, vsC, Int.add_assoc]
    · rw [if_neg e, riseL_at hi]
      have : ¬ v.1 + v.2.1 = (i : Int) := by omega
      simp [this, vsC]
  · have h2 := riseL_len ns b (l ++ [v])
    rw [List.getElem?_eq_none (l := riseL ns b (l ++ [v])) (by omega)]
    split
    · omega
    · rw [List.getElem?_eq_none (by omega)]
theorem vsC_perm {b : Int} {l m : List V4} (p : l.Perm m) : vsC b l = vsC b m := by
  unfold vsC
  induction p with
  | nil => rfl
  | cons x _ ih => simp [ih]
  | swap x y l => simp; omega
  | trans _ _ a b => exact a.trans b
theorem filter_new {ns : List Int} {j : Nat} : ∀ t, t ≤ ns.length → (valV4 ns t).filter (fun v => decide (v.1 + v.2.1 = (j : Int))) = if j < t then newV ns j else []
  | 0, _ => by simp [valV4]
  | t + 1, h => by
    show (valV4 ns t ++ newV ns t).filter _ = _
    rw [List.filter_append, filter_new t (by omega)]
    by_cases e : j = t
    · subst e
      rw [if_neg (by omega), if_pos (by omega), List.nil_append]
      refine List.filter_eq_self.mpr fun v hv => ?_
      exact decide_eq_true (new_ok (by omega) v hv).fin
    · have : (newV ns t).filter (fun v => decide (v.1 + v.2.1 = (j : Int))) = [] := by
        refine List.filter_eq_nil_iff.mpr fun v hv => ?_
        have := (new_ok (by omega) v hv).fin
        simp
        omega
      rw [this, List.append_nil]
      by_cases h1 : j < t
      · rw [if_pos h1, if_pos (by omega)]
      · rw [if_neg h1, if_neg (by omega)]
theorem rise_new {ns : List Int} {b : Int} {l : List V4} (p : l.Perm (valV4 ns ns.length)) {j : Nat} (h : j < ns.length) : (riseL ns b l)[j]? = some (nd ns j + vsC b (newV ns j)) := by
  rw [riseL_at h, vsC_perm (p.filter _), filter_new _ (Nat.le_refl _), if_pos h]
/-- what has been paid for the ticks up to one, and the gaps that they close -/
def paidV (ns : List Int) (b : Int) : Nat → Int
  | 0 => 0
  | t + 1 => paidV ns b t + (nd ns t + vsC b (newV ns t))
theorem take_nd {ns : List Int} {t : Nat} (h : t < ns.length) : (ns.take (t + 1)).sum = (ns.take t).sum + nd ns t := by
  rw [List.take_add_one, nd_at h]
  simp
theorem paid_is {ns : List Int} {b : Int} : ∀ t, t ≤ ns.length → paidV ns b t = (ns.take t).sum + vsC b (valV4 ns t)
  | 0, _ => by simp [paidV, valV4, vsC]
  | t + 1, h => by
    show paidV ns b t + _ = _
    rw [paid_is t (by omega), take_nd (by omega)]
    show _ = _ + vsC b (valV4 ns t ++ newV ns t)
    rw [vsC_app]
    omega
def soFar (ns : List Int) (b : Int) (i : Nat) : List Int := (List.range i).map fun t => layC ns b (t + 1)
theorem paid_lay {ns : List Int} {b : Int} (hb : 0 ≤ b) (hn : ∀ i, 0 ≤ nd ns i) {t : Nat} (h : t ≤ ns.length) : paidV ns b t + b * topV ns t = layC ns b t := by
  unfold layC
  rw [paid_is t h, val_gaps hb hn t h]
  omega
theorem soFar_succ {ns : List Int} {b : Int} {i : Nat} : soFar ns b (i + 1) = soFar ns b i ++ [layC ns b (i + 1)] := by
  unfold soFar
  rw [List.range_succ, List.map_append]
  rfl
def spSoFar (K : PySem.W.Frag) : Sp := fun vs H Q _ => ∃ (t : Addr) (ns : List Int) (b : Int), vs = [.ref t, .int b] ∧ SqT K H t (ns.map V.int) ∧ Nds ns ∧ 0 ≤ b ∧
  ∀ H' g, Same H H' → H g = none → H' g = some (.lst ((soFar ns b ns.length).map V.int)) → Q (.ref g) H'
def spLayCost (K : PySem.W.Frag) : Sp := fun vs H Q _ => ∃ (t : Addr) (ns : List Int) (b : Int), vs = [.ref t, .int b] ∧ H t = some (.tup (ns.map V.int)) ∧ Nds ns ∧ 0 ≤ b ∧
  ∀ H', Same H H' → Q (.int (layC ns b ns.length)) H'
/-- the law's own sum, layer by layer -/
def lawLay (ns : List Int) (b : Int) : Nat → Int
  | 0 => ns.sum
  | m + 1 => lawLay ns b m + b + gsum b (gapsL ns (1 + m))
theorem lawLay_is {ns : List Int} {b : Int} : ∀ m, lawLay ns b m = ns.sum + b * m + sumK (fun k => gapC ns b k ns.length) 0 m
  | 0 => by simp [lawLay, sumK]
  | m + 1 => by
    show lawLay ns b m + b + gsum b (gapsL ns (1 + m)) = _
    rw [lawLay_is m]
    show _ = ns.sum + b * ((m + 1 : Nat) : Int) + (sumK (fun k => gapC ns b k ns.length) 0 m + gapC ns b (0 + 1 + m) ns.length)
    rw [Int.natCast_add, Int.mul_add, show (0 : Int) + 1 + m = 1 + m by omega]
    unfold gapsL gapC
    simp only [Int.natCast_one, Int.mul_one]
    omega
theorem lawLay_top {ns : List Int} {b : Int} : lawLay ns b (topV ns ns.length).toNat = layC ns b ns.length := by
  rw [lawLay_is]
  unfold layC gapsC
  rw [List.take_length, Int.toNat_of_nonneg (top_nn _)]
theorem top_max {ns : List Int} {m : Int} (h1 : m ∈ (0 : Int) :: ns) (h2 : ∀ y ∈ (0 : Int) :: ns, y ≤ m) : m = topV ns ns.length := by
  have h0 := top_nn (ns := ns) ns.length
  have key : ∀ t, t ≤ ns.length → topV ns t ≤ m := by
    intro t
    induction t with
    | zero =>
      intro _
      exact h2 0 (by simp)
    | succ t ih =>
      intro h
      have a := ih (by omega)
      have c : nd ns t ∈ ns := by
        unfold nd
        rw [List.getD_eq_getElem?_getD, List.getElem?_eq_getElem (by omega)]
        exact List.getElem_mem _
      have := h2 _ (List.mem_cons_of_mem _ c)
      show max _ _ ≤ _
      omega
  have k := key _ (Nat.le_refl _)
  rcases List.mem_cons.mp h1 with rfl | h1
  · omega
  · obtain ⟨i, hi, e⟩ := List.getElem_of_mem h1
    have := top_ge (ns := ns) ns.length i hi
    have e2 : nd ns i = m := by
      unfold nd
      rw [List.getD_eq_getElem?_getD, List.getElem?_eq_getElem hi, ← e]
      rfl
    omega
end WK
namespace WK
open PySem PySem.Spec PyProof.Rows L2
theorem ixN_nat {n k : Nat} {z : Int} (e : z = (k : Int)) (h : k < n) : ixN n z = some k := by
  subst e
  unfold ixN
  rw [if_pos (by omega), if_pos (by omega)]
  rfl
end WK
namespace WK
open PySem PySem.Spec PyProof.Rows L2
theorem top_le {ns : List Int} (hN : Nds ns) : ∀ t, topV ns t ≤ 1000000000
  | 0 => by show (0 : Int) ≤ _; decide
  | t + 1 => by
    have h1 := top_le hN t
    have h2 := (hN.nd t).2
    show max _ _ ≤ _
    omega
end WK
namespace WK
open PySem PySem.Spec PyProof.Rows L2
theorem gaps_get {K : PySem.W.Frag} {H : Hp} : ∀ {ps : List (Int × Int)} {ws : List V} {i : Nat} {x : V}, DpAll K H ws (ps.map prD) → ws[i]? = some x → ∃ p, ps[i]? = some p ∧ ∃ t, x = .ref t ∧ SqT K H t [.int p.1, .int p.2]
  | [], ws, i, x, h, e => by
    cases h
    simp at e
  | p :: ps, ws, i, x, h, e => by
    cases h with
    | cons h1 h2 =>
      cases i with
      | zero =>
        have e : some _ = some x := e
        injection e with e
        subst e
        cases h1 with
        | tup h3 h5 =>
          refine ⟨p, rfl, _, rfl, ?_⟩
          cases h5 with
          | cons q1 q2 =>
            cases q2 with
            | cons q3 q4 =>
              cases q4
              cases q1
              cases q3
              exact h3
      | succ i =>
        rw [List.getElem?_cons_succ] at e ⊢
        exact gaps_get h2 e
end WK
namespace WK
open PySem PySem.Spec PyProof.Rows L2
theorem shows_lst {ns : List Int} (h : ∀ z ∈ ns, z.natAbs < 10 ^ 150) (hl : ns.length ≤ 5000) : Shows (.list (intsD ns)) := by
  have ci := cost_ints (ns := ns)
  refine shows_of (by simpa only [Lil] using lil_ints h) ?_ ?_
  · simp only [PyData.depth, depth_ints]
    omega
  · simp only [cost]
    refine Nat.le_trans (show _ ≤ 1000000 by omega) (by decide)
theorem vcost_bd {ns : List Int} (hN : Nds ns) {b : Int} (hb : 0 ≤ b) {t : Nat} {v : V4} (ht : t ≤ 63) (o : VOk ns t v) : 0 ≤ vcost b v ∧ vcost b v ≤ 1000000000 * 63 := by
  obtain ⟨j, hj, hl⟩ := o.lows
  have h1 := hN.nd j
  have h2 := hN.nd t
  have h3 := o.high
  have h4 := o.low
  have h5 := o.len
  have h6 := o.beg
  have h7 := o.fin
  unfold vcost
  constructor
  · exact Int.mul_nonneg (by omega) (by omega)
  · exact Int.mul_le_mul (by omega) (by omega) (by omega) (by omega)
theorem vsC_bd {b M : Int} : ∀ {l : List V4}, (∀ v ∈ l, 0 ≤ vcost b v ∧ vcost b v ≤ M) → 0 ≤ vsC b l ∧ vsC b l ≤ M * l.length
  | [], _ => by simp [vsC]
  | v :: l, h => by
    have a := vsC_bd fun u hu => h u (List.mem_cons_of_mem _ hu)
    have c := h v (by simp)
    have e : vsC b (v :: l) = vcost b v + vsC b l := by simp [vsC]
    rw [e, List.length_cons, Int.natCast_add, Int.mul_add]
    simp only [Int.natCast_one, Int.mul_one]
    omega
theorem lay_rise {ns : List Int} (hN : Nds ns) {b : Int} (hb : 0 ≤ b) {t : Nat} (h : t < ns.length) : layC ns b t + nd ns t ≤ layC ns b (t + 1) := by
  have hn := fun i => (hN.nd i).1
  have hl := hN.len
  rw [← paid_lay hb hn (t := t) (by omega), ← paid_lay hb hn (t := t + 1) (by omega)]
  show _ ≤ paidV ns b t + (nd ns t + vsC b (newV ns t)) + b * max (topV ns t) (nd ns t)
  have a := (vsC_bd (M := 1000000000 * 63) fun v hv => vcost_bd hN hb (t := t) (by omega) (new_ok (by omega) v hv)).1
  have m : b * topV ns t ≤ b * max (topV ns t) (nd ns t) := Int.mul_le_mul_of_nonneg_left (by omega) hb
  omega
theorem lay_bd {ns : List Int} (hN : Nds ns) {b : Int} (hb : 0 ≤ b) (hb2 : b ≤ 1000000000) : ∀ t, t ≤ ns.length → 0 ≤ layC ns b t ∧ layC ns b t ≤ 10000000000000000000000
  | 0, _ => by simp [layC, topV, gapsC, sumK]
  | t + 1, h => by
    have a := lay_bd hN hb hb2 t (by omega)
    have r := lay_rise hN hb (t := t) (by omega)
    have n := (hN.nd t).1
    refine ⟨by omega, ?_⟩
    have hn := fun i => (hN.nd i).1
    have hl := hN.len
    rw [← paid_lay hb hn (t := t + 1) (by omega), paid_is _ h]
    have c := (vsC_bd (b := b) (M := 1000000000 * 63) (l := valV4 ns (t + 1)) fun v hv => by
      obtain ⟨i, hi, o⟩ := val_ok (t + 1) h v hv
      exact vcost_bd hN hb (by omega) o).2
    have d := val_len (ns := ns) (t + 1) h
    have e : ∀ i, i ≤ ns.length → (ns.take i).sum ≤ 1000000000 * i := by
      intro i
      induction i with
      | zero => intro _; simp
      | succ i ih =>
        intro hi
        rw [take_nd (by omega)]
        have := ih (by omega)
        have := (hN.nd i).2
        omega
    have e1 := e (t + 1) h
    have g1 := top_nn (ns := ns) (t + 1)
    have g2 := top_le hN (t + 1)
    have g3 : b * topV ns (t + 1) ≤ 1000000000 * 1000000000 := Int.mul_le_mul hb2 g2 g1 (by decide)
    have c2 : (1000000000 * 63 : Int) * (valV4 ns (t + 1)).length ≤ 1000000000 * 63 * 63 := Int.mul_le_mul_of_nonneg_left (by omega) (by decide)
    omega
theorem soFar_small {ns : List Int} (hN : Nds ns) {b : Int} (hb : 0 ≤ b) (hb2 : b ≤ 1000000000) : ∀ z ∈ soFar ns b ns.length, z.natAbs < 10 ^ 150 := by
  intro z hz
  obtain ⟨t, ht, rfl⟩ := List.mem_map.mp hz
  have := List.mem_range.mp ht
  have h := lay_bd hN hb hb2 (t + 1) (by omega)
  have e : (10000000000000000000000 : Nat) < 10 ^ 150 := by decide +kernel
  omega
theorem soFar_len {ns : List Int} {b : Int} {i : Nat} : (soFar ns b i).length = i := by simp [soFar]
theorem soFar_at {ns : List Int} {b : Int} {i n : Nat} (h : i < n) : (soFar ns b n)[i]? = some (layC ns b (i + 1)) := by
  unfold soFar
  rw [List.getElem?_map, List.getElem?_range h]
  rfl
/-- a row cut behind a tick has the same costs up to it -/
theorem nd_take {ns : List Int} {i t : Nat} (h : i < t) : nd (ns.take t) i = nd ns i := by
  unfold nd
  rw [List.getD_eq_getElem?_getD, List.getD_eq_getElem?_getD, List.getElem?_take, if_pos h]
theorem top_take {ns : List Int} {t : Nat} : ∀ i, i ≤ t → topV (ns.take t) i = topV ns i
  | 0, _ => rfl
  | i + 1, h => by
    show max _ _ = max _ _
    rw [top_take i (by omega), nd_take (by omega)]
theorem onL_take {ns : List Int} {k : Int} {i t : Nat} (h : i ≤ t) : onL (ns.take t) k i = onL ns k i := by
  unfold onL
  congr 1
  refine List.filter_congr fun j hj => ?_
  have := List.mem_range.mp hj
  have e := nd_take (ns := ns) (i := j) (t := t) (by omega)
  unfold nd at e
  rw [e]
theorem lay_take {ns : List Int} {b : Int} {t : Nat} (h : t ≤ ns.length) : layC (ns.take t) b (ns.take t).length = layC ns b t := by
  have e : (ns.take t).length = t := by rw [List.length_take]; omega
  rw [e]
  unfold layC gapsC gapC
  rw [List.take_take, Nat.min_self, top_take t (Nat.le_refl _)]
  simp only [onL_take (Nat.le_refl _)]
theorem nds_take {ns : List Int} (h : Nds ns) (t : Nat) : Nds (ns.take t) := ⟨by rw [List.length_take]; have := h.len; omega, fun z hz => h.pos z (List.mem_of_mem_take hz)⟩
end WK
set_option Elab.async false
set_option linter.all false
set_option maxRecDepth 100000
namespace WK
/-! ### valleys, all of them -/
theorem strict_eq {α : Type} (f : α → Int) : ∀ {l m : List α}, l.Perm m → l.Pairwise (fun a b => f a ≤ f b) → m.Pairwise (fun a b => f a < f b) → l = m
  | [], m, p, _, _ => by rw [List.nil_perm.mp p]
  | x :: l, [], p, _, _ => by cases List.perm_nil.mp p
  | x :: l, y :: m, p, h1, h2 => by
    have a := List.pairwise_cons.mp h1
    have b := List.pairwise_cons.mp h2
    have e : x = y := by
      have hy : y ∈ x :: l := p.symm.mem_iff.mp (by simp)
      have hx : x ∈ y :: m := p.mem_iff.mp (by simp)
      rcases List.mem_cons.mp hy with e | hy
      · exact e.symm
      · rcases List.mem_cons.mp hx with e | hx
        · exact e
        · have := a.1 y hy
          have := b.1 x hx
          omega
    subst e
    rw [strict_eq f ((List.perm_cons x).mp p) a.2 b.2]
theorem strict_nodup {α : Type} (f : α → Int) {m : List α} (h : m.Pairwise fun a b => f a < f b) : m.Nodup := h.imp fun {a b} h e => by
  subst e
  omega
theorem strict_ext {α : Type} (f : α → Int) {l m : List α} (h1 : l.Pairwise fun a b => f a < f b) (h2 : m.Pairwise fun a b => f a < f b) (h : ∀ x, x ∈ l ↔ x ∈ m) : l = m :=
  strict_eq f ((List.perm_ext_iff_of_nodup (strict_nodup f h1) (strict_nodup f h2)).mpr h) (h1.imp fun h => by omega) h2
/-- the greatest need of m ticks from b on, at least 0 -/
def lowF (ns : List Int) (b : Nat) : Nat → Int
  | 0 => 0
  | m + 1 => max (lowF ns b m) (nd ns (b + m))
theorem lowF_ge {ns : List Int} {b : Nat} : ∀ {m i : Nat}, i < m → nd ns (b + i) ≤ lowF ns b m
  | m + 1, i, h => by
    show _ ≤ max _ _
    by_cases e : i = m
    · subst e; omega
    · have := lowF_ge (ns := ns) (b := b) (m := m) (i := i) (by omega)
      omega
theorem lowF_nn {ns : List Int} {b : Nat} : ∀ m, 0 ≤ lowF ns b m
  | 0 => Int.le_refl 0
  | m + 1 => by
    have := lowF_nn (ns := ns) (b := b) m
    show 0 ≤ max _ _
    omega
theorem lowF_le {ns : List Int} {b : Nat} {M : Int} (h0 : 0 ≤ M) : ∀ {m : Nat}, (∀ i, i < m → nd ns (b + i) ≤ M) → lowF ns b m ≤ M
  | 0, _ => h0
  | m + 1, h => by
    have := lowF_le h0 (m := m) fun i hi => h i (by omega)
    have := h m (by omega)
    show max _ _ ≤ _
    omega
def highF (ns : List Int) (b m : Nat) : Int := min (nd ns (b - 1)) (nd ns (b + m))
def vOf (ns : List Int) (b m : Nat) : V4 := ((b : Int), (m : Int), lowF ns b m, highF ns b m)
def rowV (ns : List Int) (b : Nat) : Nat → List V4
  | 0 => []
  | m + 1 => rowV ns b m ++ if lowF ns b (m + 1) < highF ns b (m + 1) then [vOf ns b (m + 1)] else []
def lawV (ns : List Int) : Nat → List V4
  | 0 => []
  | j + 1 => lawV ns j ++ rowV ns (j + 1) (ns.length - 1 - (j + 1))
structure IsV (ns : List Int) (b m : Nat) : Prop where
  b1 : 1 ≤ b
  m1 : 1 ≤ m
  fin : b + m < ns.length
  lt : lowF ns b m < highF ns b m
theorem row_mem {ns : List Int} {b : Nat} {v : V4} : ∀ {n : Nat}, v ∈ rowV ns b n ↔ ∃ m, 1 ≤ m ∧ m ≤ n ∧ lowF ns b m < highF ns b m ∧ v = vOf ns b m
  | 0 => by simp [rowV]; intro m h1 h2; omega
  | n + 1 => by
    unfold rowV
    rw [List.mem_append, row_mem]
    constructor
    · rintro (⟨m, h1, h2, h3, h4⟩ | h)
      · exact ⟨m, h1, by omega, h3, h4⟩
      · split at h
        · rename_i hlt
          exact ⟨n + 1, by omega, by omega, hlt, by simpa using h⟩
        · simp at h
    · rintro ⟨m, h1, h2, h3, h4⟩
      by_cases e : m = n + 1
      · subst e
        exact .inr (by rw [if_pos h3]; simp [h4])
      · exact .inl ⟨m, h1, by omega, h3, h4⟩
theorem law_mem {ns : List Int} {v : V4} : ∀ {j : Nat}, v ∈ lawV ns j ↔ ∃ b m, b ≤ j ∧ IsV ns b m ∧ v = vOf ns b m
  | 0 => by
    constructor
    · intro h
      simp [lawV] at h
    · rintro ⟨b, m, h1, h2, _⟩
      have := h2.b1
      omega
  | j + 1 => by
    unfold lawV
    rw [List.mem_append, law_mem, row_mem]
    constructor
    · rintro (⟨b, m, h1, h2, h3⟩ | ⟨m, h1, h2, h3, h4⟩)
      · exact ⟨b, m, by omega, h2, h3⟩
      · exact ⟨j + 1, m, by omega, ⟨by omega, h1, by omega, h3⟩, h4⟩
    · rintro ⟨b, m, h1, h2, h3⟩
      by_cases e : b = j + 1
      · subst e
        exact .inr ⟨m, h2.m1, by have := h2.fin; omega, h2.lt, h3⟩
      · exact .inl ⟨b, m, by omega, h2, h3⟩
def allV (ns : List Int) : List V4 := lawV ns (ns.length - 1)
theorem all_mem {ns : List Int} {v : V4} : v ∈ allV ns ↔ ∃ b m, IsV ns b m ∧ v = vOf ns b m := by
  unfold allV
  rw [law_mem]
  constructor
  · rintro ⟨b, m, _, h, e⟩
    exact ⟨b, m, h, e⟩
  · rintro ⟨b, m, h, e⟩
    exact ⟨b, m, by have := h.fin; have := h.m1; omega, h, e⟩
/-- begin first, then length -/
def vkey (v : V4) : Int := v.1 * 1000000 + v.2.1
theorem row_key {ns : List Int} {b : Nat} : ∀ n, (rowV ns b n).Pairwise (fun v u => vkey v < vkey u) ∧ ∀ v ∈ rowV ns b n, v.1 = b ∧ v.2.1 ≤ n ∧ 0 ≤ v.2.1
  | 0 => by simp [rowV]
  | n + 1 => by
    have ih := row_key (ns := ns) (b := b) n
    unfold rowV
    split
    · refine ⟨List.pairwise_append.mpr ⟨ih.1, by simp, fun v hv u hu => ?_⟩, fun v hv => ?_⟩
      · have h1 := ih.2 v hv
        rw [List.mem_singleton] at hu
        subst hu
        unfold vkey vOf
        dsimp only
        omega
      · rcases List.mem_append.mp hv with hv | hv
        · have h1 := ih.2 v hv
          omega
        · rw [List.mem_singleton] at hv
          subst hv
          refine ⟨rfl, ?_, ?_⟩ <;> (unfold vOf; dsimp only; omega)
    · rw [List.append_nil]
      exact ⟨ih.1, fun v hv => by have := ih.2 v hv; omega⟩
theorem law_key {ns : List Int} (hl : ns.length ≤ 100000) : ∀ j, (lawV ns j).Pairwise (fun v u => vkey v < vkey u) ∧ ∀ v ∈ lawV ns j, v.1 ≤ j ∧ v.2.1 ≤ 100000 ∧ 0 ≤ v.2.1
  | 0 => by simp [lawV]
  | j + 1 => by
    have ih := law_key hl j
    have r := row_key (ns := ns) (b := j + 1) (ns.length - 1 - (j + 1))
    unfold lawV
    refine ⟨List.pairwise_append.mpr ⟨ih.1, r.1, fun v hv u hu => ?_⟩, fun v hv => ?_⟩
    · have h1 := ih.2 v hv
      have h2 := r.2 u hu
      unfold vkey
      omega
    · rcases List.mem_append.mp hv with hv | hv
      · have := ih.2 v hv; omega
      · have := r.2 v hv; omega
/-! #### what the stack finds is just this -/
def GoodS (ns : List Int) (t : Nat) : List Nat → Prop
  | [] => True
  | [_] => True
  | s :: a :: r => (∀ j, a < j → j < t → nd ns j ≤ nd ns s) ∧ GoodS ns t (a :: r)
theorem good_up {ns : List Int} {t : Nat} : ∀ {S : List Nat}, (∀ s ∈ S, nd ns t ≤ nd ns s) → GoodS ns t S → GoodS ns (t + 1) S
  | [], _, _ => trivial
  | [_], _, _ => trivial
  | s :: a :: r, h, g => ⟨fun j h1 h2 => by
      by_cases e : j = t
      · subst e; exact h s (by simp)
      · exact g.1 j h1 (by omega), good_up (fun x hx => h x (List.mem_cons_of_mem _ hx)) g.2⟩
theorem good_rest {ns : List Int} {t : Nat} {n : Int} : ∀ {S : List Nat}, GoodS ns t S → (∀ s r, S = s :: r → ∀ j, s < j → j < t → nd ns j ≤ n) →
    GoodS ns t (restV ns n S) ∧ ∀ s r, restV ns n S = s :: r → ∀ j, s < j → j < t → nd ns j ≤ n
  | [], _, _ => ⟨trivial, fun _ _ e => by cases e⟩
  | s :: r, g, h => by
    unfold restV
    by_cases h1 : nd ns s ≤ n
    · rw [List.dropWhile_cons_of_pos (by simpa using h1)]
      cases r with
      | nil => exact ⟨trivial, fun _ _ e => by cases e⟩
      | cons a r =>
        refine good_rest g.2 fun s' r' e j h2 h3 => ?_
        injection e with e _
        subst e
        have := g.1 j h2 h3
        omega
    · rw [List.dropWhile_cons_of_neg (by simpa using h1)]
      exact ⟨g, h⟩
theorem stk_good {ns : List Int} : ∀ t, t ≤ ns.length → GoodS ns t (stkV ns t)
  | 0, _ => trivial
  | t + 1, h => by
    have O := stk_ok (ns := ns) t (by omega)
    have ih := stk_good (ns := ns) t (by omega)
    have r := good_rest (n := nd ns t) ih fun s r e j h1 h2 => by
      have := O.head s r e
      omega
    have i := inc_rest (n := nd ns t) O.inc
    have u := good_up (t := t) (fun s hs => by have := (i.2 s hs).1; omega) r.1
    rw [stk_succ O.inc]
    cases hq : restV ns (nd ns t) (stkV ns t) with
    | nil => trivial
    | cons a q =>
      rw [hq] at u
      refine ⟨fun j h1 h2 => ?_, u⟩
      by_cases e : j = t
      · subst e; omega
      · exact r.2 a q hq j h1 (by omega)
theorem stk_dec {ns : List Int} : ∀ t, t ≤ ns.length → (stkV ns t).Pairwise fun s a => a < s
  | 0, _ => List.Pairwise.nil
  | t + 1, h => by
    have O := stk_ok (ns := ns) t (by omega)
    have ih := stk_dec (ns := ns) t (by omega)
    rw [stk_succ O.inc]
    refine List.pairwise_cons.mpr ⟨fun a ha => O.lt a ((List.dropWhile_sublist _).mem ha), ih.sublist (List.dropWhile_sublist _)⟩
theorem pop_sound {ns : List Int} {t : Nat} (hn0 : ∀ i, 0 ≤ nd ns i) : ∀ (S : List Nat), GoodS ns t S → (∀ s ∈ S, s < t) → S.Pairwise (fun s a => a < s) → Inc ns S → t < ns.length →
    ∀ v ∈ (popV ns (nd ns t) t S []).2, ∃ a m, a ∈ S ∧ v = vOf ns (a + 1) m ∧ IsV ns (a + 1) m ∧ a + 1 + m = t
  | [], _, _, _, _, _, v, hv => by simp [popV] at hv
  | [s], _, _, _, _, _, v, hv => by
    unfold popV at hv
    split at hv <;> simp [popV] at hv
  | s :: a :: r, g, hl, hd, hi, ht, v, hv => by
    unfold popV at hv
    split at hv
    · rename_i hlt
      dsimp only at hv
      rw [popV_app] at hv
      rcases List.mem_append.mp hv with hv | hv
      · simp only [List.nil_append, List.mem_singleton] at hv
        have h1 := hl s (by simp)
        have h2 : a < s := (List.pairwise_cons.mp hd).1 a (by simp)
        have h3 : nd ns s < nd ns a := (List.pairwise_cons.mp hi).1 a (by simp)
        have hs : lowF ns (a + 1) (t - a - 1) = nd ns s := by
          apply Int.le_antisymm
          · exact lowF_le (hn0 s) fun i hi2 => g.1 _ (by omega) (by omega)
          · have := lowF_ge (ns := ns) (b := a + 1) (m := t - a - 1) (i := s - a - 1) (by omega)
            rw [show a + 1 + (s - a - 1) = s by omega] at this
            exact this
        have hh : highF ns (a + 1) (t - a - 1) = min (nd ns a) (nd ns t) := by
          unfold highF
          rw [show a + 1 - 1 = a by omega, show a + 1 + (t - a - 1) = t by omega]
        refine ⟨a, t - a - 1, by simp, ?_, ⟨by omega, by omega, by omega, by rw [hs, hh]; omega⟩, by omega⟩
        rw [hv]
        unfold vOf
        rw [hs, hh]
        have e1 : (a : Int) + 1 = ((a + 1 : Nat) : Int) := by omega
        have e2 : (t : Int) - a - 1 = ((t - a - 1 : Nat) : Int) := by omega
        rw [e1, e2]
      · obtain ⟨a', m, h1, h2, h3, h4⟩ := pop_sound hn0 (a :: r) g.2 (fun x hx => hl x (List.mem_cons_of_mem _ hx)) (List.pairwise_cons.mp hd).2 (List.pairwise_cons.mp hi).2 ht v hv
        exact ⟨a', m, List.mem_cons_of_mem _ h1, h2, h3, h4⟩
    · simp at hv
theorem pop_desc {ns : List Int} {n : Int} {t : Nat} : ∀ (S : List Nat), S.Pairwise (fun s a => a < s) → (popV ns n t S []).2.Pairwise (fun v u => u.1 < v.1) ∧ ∀ v ∈ (popV ns n t S []).2, ∃ a ∈ S.tail, v.1 = (a : Int) + 1
  | [], _ => by simp [popV]
  | [s], _ => by
    unfold popV
    split <;> simp [popV]
  | s :: a :: r, hd => by
    have ih := pop_desc (ns := ns) (n := n) (t := t) (a :: r) (List.pairwise_cons.mp hd).2
    have hr := (List.pairwise_cons.mp (List.pairwise_cons.mp hd).2).1
    unfold popV
    split
    · dsimp only
      rw [popV_app]
      refine ⟨List.pairwise_append.mpr ⟨by simp, ih.1, fun v hv u hu => ?_⟩, fun v hv => ?_⟩
      · simp only [List.nil_append, List.mem_singleton] at hv
        subst hv
        obtain ⟨c, hc, e⟩ := ih.2 u hu
        have := hr c hc
        dsimp only
        omega
      · rcases List.mem_append.mp hv with hv | hv
        · simp only [List.nil_append, List.mem_singleton] at hv
          subst hv
          exact ⟨a, by simp, rfl⟩
        · obtain ⟨c, hc, e⟩ := ih.2 v hv
          exact ⟨c, List.mem_cons_of_mem _ hc, e⟩
    · simp
theorem val_nodup {ns : List Int} : ∀ t, t ≤ ns.length → (valV4 ns t).Nodup
  | 0, _ => List.nodup_nil
  | t + 1, h => by
    show (valV4 ns t ++ newV ns t).Nodup
    refine List.pairwise_append.mpr ⟨val_nodup t (by omega), ?_, fun v hv u hu e => ?_⟩
    · exact (pop_desc _ (stk_dec t (by omega))).1.imp fun {v u} h e => by
        subst e
        omega
    · subst e
      obtain ⟨i, hi, o⟩ := val_ok t (by omega) v hv
      have o2 := new_ok (ns := ns) (t := t) (by omega) v hu
      have := o.fin
      have := o2.fin
      omega
theorem val_sound {ns : List Int} (hn0 : ∀ i, 0 ≤ nd ns i) : ∀ t, t ≤ ns.length → ∀ v ∈ valV4 ns t, ∃ b m, IsV ns b m ∧ v = vOf ns b m
  | 0, _, v, hv => by simp [valV4] at hv
  | t + 1, h, v, hv => by
    rcases List.mem_append.mp (show v ∈ valV4 ns t ++ newV ns t from hv) with hv | hv
    · exact val_sound hn0 t (by omega) v hv
    · have O := stk_ok (ns := ns) t (by omega)
      obtain ⟨a, m, _, h2, h3, _⟩ := pop_sound hn0 _ (stk_good t (by omega)) O.lt (stk_dec t (by omega)) O.inc (by omega) v hv
      exact ⟨a + 1, m, h3, h2⟩
theorem pop_hit {ns : List Int} {n : Int} {t s a : Nat} {r : List Nat} : ∀ (p : List Nat), (∀ x ∈ p ++ [s], nd ns x < n) → ((a : Int) + 1, (t : Int) - a - 1, nd ns s, min (nd ns a) n) ∈ (popV ns n t (p ++ s :: a :: r) []).2
  | [], h => by
    show _ ∈ (popV ns n t (s :: a :: r) []).2
    unfold popV
    rw [if_pos (h s (by simp))]
    dsimp only
    rw [popV_app]
    simp
  | [x], h => by
    show _ ∈ (popV ns n t (x :: s :: a :: r) []).2
    unfold popV
    rw [if_pos (h x (by simp))]
    dsimp only
    rw [popV_app]
    exact List.mem_append_right _ (pop_hit [] fun y hy => h y (by simp at hy ⊢; exact .inr hy))
  | x :: y :: p, h => by
    show _ ∈ (popV ns n t (x :: y :: (p ++ s :: a :: r)) []).2
    unfold popV
    rw [if_pos (h x (by simp))]
    dsimp only
    rw [popV_app]
    exact List.mem_append_right _ (pop_hit (y :: p) fun z hz => h z (List.mem_cons_of_mem _ hz))
theorem onL_last {ns : List Int} {k : Int} {a : Nat} : ∀ {t : Nat}, t ≤ ns.length → a < t → k ≤ nd ns a → (∀ j, a < j → j < t → nd ns j < k) → (onL ns k t).getLast? = some (a : Int)
  | t + 1, hl, h1, h2, h3 => by
    have hx : ns[t]? = some (nd ns t) := by
      unfold nd
      rw [List.getD_eq_getElem?_getD, List.getElem?_eq_getElem (by omega)]
      rfl
    by_cases e : a = t
    · subst e
      rw [onL_yes hx h2]
      simp
    · have := h3 t (by omega) (by omega)
      rw [onL_no hx (by omega)]
      exact onL_last (by omega) (by omega) h2 fun j h4 h5 => h3 j h4 (by omega)
theorem new_complete {ns : List Int} (hn0 : ∀ i, 0 ≤ nd ns i) {b m : Nat} (h : IsV ns b m) : vOf ns b m ∈ newV ns (b + m) := by
  obtain ⟨a, rfl⟩ : ∃ a, b = a + 1 := ⟨b - 1, by have := h.b1; omega⟩
  have hm := h.m1
  have hf := h.fin
  have hlt := h.lt
  generalize ht : a + 1 + m = t at *
  have hh : highF ns (a + 1) m = min (nd ns a) (nd ns t) := by
    unfold highF
    rw [show a + 1 - 1 = a by omega, ht]
  rw [hh] at hlt
  have O := stk_ok (ns := ns) t (by omega)
  have all : ∀ j, a < j → j < t → nd ns j ≤ lowF ns (a + 1) m := by
    intro j h1 h2
    have := lowF_ge (ns := ns) (b := a + 1) (m := m) (i := j - a - 1) (by omega)
    rw [show a + 1 + (j - a - 1) = j by omega] at this
    exact this
  have la := onL_last (ns := ns) (k := nd ns a) (a := a) (t := t) (by omega) (by omega) (Int.le_refl _) fun j h1 h2 => by
    have := all j h1 h2
    omega
  rw [O.last] at la
  obtain ⟨x, hx, ex⟩ := Option.map_eq_some_iff.mp la
  have ex : x = a := by omega
  subst ex
  obtain ⟨_, p, r, eS, hp⟩ := List.find?_eq_some_iff_append.mp hx
  have dec := stk_dec (ns := ns) t (by omega)
  have good := stk_good (ns := ns) t (by omega)
  rw [eS] at dec good
  have inc := O.inc
  rw [eS] at inc
  -- the one above
  rcases List.eq_nil_or_concat p with rfl | ⟨q, s, rfl⟩
  · have := O.head x r eS
    omega
  · have eS' : q.concat s ++ x :: r = q ++ s :: x :: r := by simp
    rw [eS'] at dec good inc eS
    have hxs : x < s := (List.pairwise_cons.mp (List.pairwise_append.mp dec).2.1).1 x (by simp)
    have hst : s < t := O.lt s (by rw [eS]; simp)
    have g2 : ∀ j, x < j → j < t → nd ns j ≤ nd ns s := by
      have : ∀ q : List Nat, GoodS ns t (q ++ s :: x :: r) → GoodS ns t (s :: x :: r) := by
        intro q
        induction q with
        | nil => exact id
        | cons y q ih =>
          intro g
          refine ih ?_
          cases q with
          | nil => exact g.2
          | cons z q => exact g.2
      exact (this q good).1
    have low : lowF ns (x + 1) m = nd ns s := Int.le_antisymm (lowF_le (hn0 s) fun i hi => g2 _ (by omega) (by omega)) (all s hxs hst)
    have hs : nd ns s < nd ns t := by omega
    have hall : ∀ y ∈ q ++ [s], nd ns y < nd ns t := by
      intro y hy
      rcases List.mem_append.mp hy with hy | hy
      · have := (List.pairwise_append.mp inc).2.2 y hy s (by simp)
        omega
      · rw [List.mem_singleton.mp hy]
        exact hs
    have hit := pop_hit (ns := ns) (n := nd ns t) (t := t) (s := s) (a := x) (r := r) q hall
    unfold newV
    rw [eS]
    unfold vOf
    rw [low, hh]
    have e1 : ((x + 1 : Nat) : Int) = (x : Int) + 1 := by omega
    have e2 : ((m : Nat) : Int) = (t : Int) - x - 1 := by omega
    rw [e1, e2]
    exact hit
theorem new_in_val {ns : List Int} {t : Nat} : ∀ {T : Nat}, t < T → ∀ v ∈ newV ns t, v ∈ valV4 ns T
  | T + 1, h, v, hv => by
    show v ∈ valV4 ns T ++ newV ns T
    by_cases e : t = T
    · subst e
      exact List.mem_append_right _ hv
    · exact List.mem_append_left _ (new_in_val (by omega) v hv)
theorem val_perm {ns : List Int} (hl : ns.length ≤ 100000) (hn0 : ∀ i, 0 ≤ nd ns i) : (valV4 ns ns.length).Perm (allV ns) := by
  refine (List.perm_ext_iff_of_nodup (val_nodup _ (Nat.le_refl _)) (strict_nodup vkey (law_key hl _).1)).mpr fun v => ?_
  rw [show v ∈ lawV ns (ns.length - 1) ↔ _ from all_mem]
  constructor
  · exact val_sound hn0 _ (Nat.le_refl _) v
  · rintro ⟨b, m, h, rfl⟩
    exact new_in_val h.fin _ (new_complete hn0 h)
/-! #### the gaps of a layer are the valleys that have it -/
theorem onL_lt {ns : List Int} {k p : Int} : ∀ {t : Nat}, t ≤ ns.length → (onL ns k t).getLast? = some p → ∃ a : Nat, p = a ∧ a < t ∧ k ≤ nd ns a ∧ ∀ j, a < j → j < t → nd ns j < k
  | 0, _, h => by simp [onL] at h
  | t + 1, hl, h => by
    have hx : ns[t]? = some (nd ns t) := by
      unfold nd
      rw [List.getD_eq_getElem?_getD, List.getElem?_eq_getElem (by omega)]
      rfl
    by_cases hk : k ≤ nd ns t
    · rw [onL_yes hx hk] at h
      have h : p = t := by simpa using h.symm
      exact ⟨t, h, by omega, hk, fun j h1 h2 => by omega⟩
    · rw [onL_no hx hk] at h
      obtain ⟨a, h1, h2, h3, h4⟩ := onL_lt (by omega) h
      refine ⟨a, h1, by omega, h3, fun j h5 h6 => ?_⟩
      by_cases e : j = t
      · subst e; omega
      · exact h4 j h5 (by omega)
def gapR (ns : List Int) (k : Int) : Nat → List (Int × Int)
  | 0 => []
  | t + 1 => gapR ns k t ++ if k ≤ nd ns t then
      (match (onL ns k t).getLast? with
       | some p => if 1 < t - p then [(p + 1, t - p - 1)] else []
       | none => []) else []
theorem pairs_step (os : List Int) (x : Int) : pairsL (os ++ [x]) (os.length) = pairsL os (os.length - 1) ++ match os.getLast? with
      | some p => if 1 < x - p then [(p + 1, x - p - 1)] else []
      | none => [] := by
  cases hos : os.length with
  | zero =>
    have : os = [] := List.length_eq_zero_iff.mp hos
    subst this
    simp [pairsL]
  | succ m =>
    have hl : os.getLast? = os[m]? := by rw [List.getLast?_eq_getElem?, hos]; rfl
    have hm : os[m]? = some (os.getD m 0) := by
      rw [List.getD_eq_getElem?_getD, List.getElem?_eq_getElem (by omega)]
      rfl
    rw [hl, hm]
    dsimp only
    have e1 : (os ++ [x]).getD (m + 1) 0 = x := by
      rw [List.getD_eq_getElem?_getD, List.getElem?_append_right (by omega), hos]
      simp
    have e2 : ∀ j, j ≤ m → (os ++ [x]).getD j 0 = os.getD j 0 := by
      intro j hj
      rw [List.getD_eq_getElem?_getD, List.getElem?_append_left (by omega), List.getD_eq_getElem?_getD]
    have e3 : pairsL (os ++ [x]) m = pairsL os m := by
      unfold pairsL
      have hf : (List.range m).filter (fun j => decide (1 < (os ++ [x]).getD (j + 1) 0 - (os ++ [x]).getD j 0)) = (List.range m).filter fun j => decide (1 < os.getD (j + 1) 0 - os.getD j 0) := by
        refine List.filter_congr fun j hj => ?_
        have := List.mem_range.mp hj
        rw [e2 _ (by omega), e2 _ (by omega)]
      rw [hf]
      refine List.map_congr_left fun j hj => ?_
      have := List.mem_range.mp (List.mem_filter.mp hj).1
      rw [e2 _ (by omega), e2 _ (by omega)]
    rw [← show pairsL os m = pairsL os (m + 1 - 1) from rfl, ← e3]
    unfold pairsL
    rw [List.range_succ, List.filter_append, List.map_append, List.filter_cons, e1, e2 m (Nat.le_refl m)]
    congr 1
    by_cases h : 1 < x - os.getD m 0
    · rw [if_pos (decide_eq_true h), if_pos h]
      simp only [List.filter_nil, List.map_cons, List.map_nil, e1, e2 m (Nat.le_refl m)]
    · rw [if_neg (by simpa using h), if_neg h]
      rfl
theorem gapR_is {ns : List Int} {k : Int} : ∀ {t : Nat}, t ≤ ns.length → pairsL (onL ns k t) ((onL ns k t).length - 1) = gapR ns k t
  | 0, _ => by simp [onL, pairsL, gapR]
  | t + 1, hl => by
    have hx : ns[t]? = some (nd ns t) := by
      unfold nd
      rw [List.getD_eq_getElem?_getD, List.getElem?_eq_getElem (by omega)]
      rfl
    unfold gapR
    by_cases hk : k ≤ nd ns t
    · rw [onL_yes hx hk, if_pos hk]
      have hlen : ((onL ns k t ++ [(t : Int)]).length - 1) = (onL ns k t).length := by simp
      rw [hlen, pairs_step, gapR_is (by omega)]
    · rw [onL_no hx hk, if_neg hk, List.append_nil, gapR_is (by omega)]
theorem gapR_mem {ns : List Int} {k : Int} {g : Int × Int} : ∀ {t : Nat}, t ≤ ns.length → (g ∈ gapR ns k t ↔ ∃ b m : Nat, 1 ≤ b ∧ 1 ≤ m ∧ b + m < t ∧ k ≤ nd ns (b - 1) ∧ k ≤ nd ns (b + m) ∧ (∀ i, i < m → nd ns (b + i) < k) ∧ g = ((b : Int), (m : Int)))
  | 0, _ => by
    constructor
    · intro h
      simp [gapR] at h
    · rintro ⟨b, m, _, _, h, _⟩
      omega
  | t + 1, hl => by
    unfold gapR
    rw [List.mem_append, gapR_mem (by omega)]
    constructor
    · rintro (⟨b, m, h1, h2, h3, h4⟩ | h)
      · exact ⟨b, m, h1, h2, by omega, h4⟩
      · split at h
        · rename_i hk
          cases hp : (onL ns k t).getLast? with
          | none => rw [hp] at h; simp at h
          | some p =>
            rw [hp] at h
            dsimp only at h
            obtain ⟨a, rfl, h2, h3, h4⟩ := onL_lt (by omega) hp
            split at h
            · rename_i h5
              have h : g = ((a : Int) + 1, (t : Int) - a - 1) := by simpa using h
              refine ⟨a + 1, t - a - 1, by omega, by omega, by omega, by simpa using h3, ?_, fun i hi => h4 _ (by omega) (by omega), ?_⟩
              · rw [show a + 1 + (t - a - 1) = t by omega]; exact hk
              · rw [h]
                congr 1
                omega
            · simp at h
        · simp at h
    · rintro ⟨b, m, h1, h2, h3, h4, h5, h6, rfl⟩
      by_cases e : b + m = t
      · refine .inr ?_
        rw [e] at h5
        have la := onL_last (ns := ns) (k := k) (a := b - 1) (t := t) (by omega) (by omega) h4 fun j h7 h8 => by
          have := h6 (j - b) (by omega)
          rw [show b + (j - b) = j by omega] at this
          exact this
        rw [if_pos h5, la]
        dsimp only
        rw [if_pos (by omega)]
        have e1 : ((b - 1 : Nat) : Int) + 1 = b := by omega
        have e2 : (t : Int) - ((b - 1 : Nat) : Int) - 1 = m := by omega
        rw [e1, e2]
        simp
      · exact .inl ⟨b, m, h1, h2, by omega, h4, h5, h6, rfl⟩
theorem gapR_key {ns : List Int} {k : Int} : ∀ {t : Nat}, t ≤ ns.length → (gapR ns k t).Pairwise (fun g h => g.1 < h.1) ∧ ∀ g ∈ gapR ns k t, ∃ p, (onL ns k t).getLast? = some p ∧ g.1 + g.2 ≤ p ∧ 0 ≤ g.2
  | 0, _ => by simp [gapR]
  | t + 1, hl => by
    have hx : ns[t]? = some (nd ns t) := by
      unfold nd
      rw [List.getD_eq_getElem?_getD, List.getElem?_eq_getElem (by omega)]
      rfl
    have ih := gapR_key (ns := ns) (k := k) (t := t) (by omega)
    unfold gapR
    by_cases hk : k ≤ nd ns t
    · rw [if_pos hk, onL_yes hx hk]
      have old : ∀ g ∈ gapR ns k t, ∃ p, (onL ns k t ++ [(t : Int)]).getLast? = some p ∧ g.1 + g.2 ≤ p ∧ 0 ≤ g.2 := by
        intro g hg
        obtain ⟨p, h1, h2, h3⟩ := ih.2 g hg
        obtain ⟨a, rfl, h4, _⟩ := onL_lt (by omega) h1
        exact ⟨t, by simp, by omega, h3⟩
      cases hp : (onL ns k t).getLast? with
      | none =>
        dsimp only
        rw [List.append_nil]
        exact ⟨ih.1, old⟩
      | some p =>
        dsimp only
        split
        · refine ⟨List.pairwise_append.mpr ⟨ih.1, by simp, fun g hg u hu => ?_⟩, fun g hg => ?_⟩
          · obtain ⟨p', h1, h2, h3⟩ := ih.2 g hg
            rw [hp] at h1
            injection h1 with h1
            rw [List.mem_singleton] at hu
            subst hu
            dsimp only
            omega
          · rcases List.mem_append.mp hg with hg | hg
            · exact old g hg
            · rw [List.mem_singleton] at hg
              subst hg
              refine ⟨t, by simp, ?_, ?_⟩ <;> (dsimp only; omega)
        · rw [List.append_nil]
          exact ⟨ih.1, old⟩
    · rw [if_neg hk, List.append_nil, onL_no hx hk]
      exact ih
def hasK (k : Int) (v : V4) : Bool := decide (v.2.2.1 < k ∧ k ≤ v.2.2.2)
theorem all_gaps {ns : List Int} {k : Int} (hk : 1 ≤ k) (hl : ns.length ≤ 100000) : ((allV ns).filter (hasK k)).map (fun v => (v.1, v.2.1)) = gapsL ns k := by
  unfold gapsL
  rw [gapR_is (Nat.le_refl _)]
  have G := gapR_key (ns := ns) (k := k) (Nat.le_refl _)
  have L := (law_key hl (ns.length - 1)).1
  have mem : ∀ g, g ∈ ((allV ns).filter (hasK k)).map (fun v => (v.1, v.2.1)) ↔ g ∈ gapR ns k ns.length := by
    intro g
    rw [gapR_mem (Nat.le_refl _), List.mem_map]
    constructor
    · rintro ⟨v, hv, rfl⟩
      obtain ⟨h1, h2⟩ := List.mem_filter.mp hv
      obtain ⟨b, m, h, rfl⟩ := all_mem.mp h1
      have h2 : lowF ns b m < k ∧ k ≤ highF ns b m := of_decide_eq_true h2
      unfold highF at h2
      refine ⟨b, m, h.b1, h.m1, h.fin, by omega, by omega, fun i hi => ?_, rfl⟩
      have := lowF_ge (ns := ns) (b := b) hi
      omega
    · rintro ⟨b, m, h1, h2, h3, h4, h5, h6, rfl⟩
      have lo : lowF ns b m < k := by
        have := lowF_le (ns := ns) (b := b) (M := k - 1) (by omega) (m := m) fun i hi => by have := h6 i hi; omega
        omega
      have hi : k ≤ highF ns b m := by
        unfold highF
        omega
      refine ⟨vOf ns b m, List.mem_filter.mpr ⟨all_mem.mpr ⟨b, m, ⟨h1, h2, h3, by omega⟩, rfl⟩, decide_eq_true ⟨lo, hi⟩⟩, rfl⟩
  have B : ∀ g ∈ gapR ns k ns.length, 0 ≤ g.2 ∧ g.2 ≤ 100000 := by
    intro g hg
    obtain ⟨b, m, h1, h2, h3, _, _, _, rfl⟩ := (gapR_mem (Nat.le_refl _)).mp hg
    dsimp only
    omega
  refine strict_ext (fun g : Int × Int => g.1 * 1000000 + g.2) ?_ ?_ mem
  · refine List.pairwise_map.mpr ((L.sublist (List.filter_sublist)).imp fun {v u} h => ?_)
    exact h
  · refine List.Pairwise.imp_of_mem (fun {g u} hg hu h => ?_) G.1
    have := B g hg
    have := B u hu
    omega
/-! #### all needs many times as great -/
def scaleV (c : Int) (v : V4) : V4 := (v.1, v.2.1, c * v.2.2.1, c * v.2.2.2)
theorem nd_scale {ns : List Int} {c : Int} (i : Nat) : nd (ns.map (c * ·)) i = c * nd ns i := by
  unfold nd
  rw [List.getD_eq_getElem?_getD, List.getD_eq_getElem?_getD, List.getElem?_map]
  cases ns[i]? <;> simp
theorem mul_max {c a b : Int} (hc : 0 ≤ c) : max (c * a) (c * b) = c * max a b := by
  rcases Int.le_total a b with h | h
  · rw [Int.max_eq_right h, Int.max_eq_right (Int.mul_le_mul_of_nonneg_left h hc)]
  · rw [Int.max_eq_left h, Int.max_eq_left (Int.mul_le_mul_of_nonneg_left h hc)]
theorem mul_min {c a b : Int} (hc : 0 ≤ c) : min (c * a) (c * b) = c * min a b := by
  rcases Int.le_total a b with h | h
  · rw [Int.min_eq_left h, Int.min_eq_left (Int.mul_le_mul_of_nonneg_left h hc)]
  · rw [Int.min_eq_right h, Int.min_eq_right (Int.mul_le_mul_of_nonneg_left h hc)]
theorem lowF_scale {ns : List Int} {c : Int} (hc : 0 ≤ c) {b : Nat} : ∀ m, lowF (ns.map (c * ·)) b m = c * lowF ns b m
  | 0 => by simp [lowF]
  | m + 1 => by
    show max _ _ = c * max _ _
    rw [lowF_scale hc m, nd_scale, mul_max hc]
theorem vOf_scale {ns : List Int} {c : Int} (hc : 0 ≤ c) {b m : Nat} : vOf (ns.map (c * ·)) b m = scaleV c (vOf ns b m) := by
  unfold vOf scaleV highF
  rw [lowF_scale hc, nd_scale, nd_scale, mul_min hc]
theorem row_scale {ns : List Int} {c : Int} (hc : 1 ≤ c) {b : Nat} : ∀ n, rowV (ns.map (c * ·)) b n = (rowV ns b n).map (scaleV c)
  | 0 => rfl
  | n + 1 => by
    unfold rowV
    rw [row_scale hc n, List.map_append, vOf_scale (by omega)]
    have h : (lowF (ns.map (c * ·)) b (n + 1) < highF (ns.map (c * ·)) b (n + 1)) ↔ (lowF ns b (n + 1) < highF ns b (n + 1)) := by
      unfold highF
      rw [lowF_scale (by omega), nd_scale, nd_scale, mul_min (by omega)]
      exact Int.mul_lt_mul_left (by omega)
    by_cases e : lowF ns b (n + 1) < highF ns b (n + 1)
    · rw [if_pos e, if_pos (h.mpr e)]
      rfl
    · rw [if_neg e, if_neg fun q => e (h.mp q)]
      rfl
theorem all_scale {ns : List Int} {c : Int} (hc : 1 ≤ c) : allV (ns.map (c * ·)) = (allV ns).map (scaleV c) := by
  have key : ∀ j, lawV (ns.map (c * ·)) j = (lawV ns j).map (scaleV c) := by
    intro j
    induction j with
    | zero => rfl
    | succ j ih =>
      unfold lawV
      rw [ih, row_scale hc, List.map_append, List.length_map]
  unfold allV
  rw [key, List.length_map]
end WK
namespace WK
open PySem PySem.Spec PyProof.Rows L2
theorem all_bd {ns : List Int} (hN : Nds ns) : ∀ v ∈ allV ns, TS.Bd BV (v4L v) := by
  intro v hv
  have p := val_perm (ns := ns) (by have := hN.len; omega) (fun i => (hN.nd i).1)
  exact val_bd hN v (p.symm.mem_iff.mp hv)
theorem all_code {ns : List Int} (hN : Nds ns) : (allV ns).Pairwise fun v u => TS.code BV (v4L v) < TS.code BV (v4L u) := by
  have hl := hN.len
  have K := (law_key (ns := ns) (by omega) (ns.length - 1))
  refine List.Pairwise.imp_of_mem (fun {v u} hv hu h => ?_) K.1
  have b1 := K.2 v hv
  have b2 := K.2 u hu
  have d1 := all_bd hN v hv
  have d2 := all_bd hN u hu
  unfold v4L at d1 d2 ⊢
  unfold vkey at h
  by_cases e : v.1 = u.1
  · rw [e]
    have q := TS.code_lt (B := BV) (d := v.2.1) (e := u.2.1) (r := [v.2.2.1, v.2.2.2]) (q := [u.2.2.1, u.2.2.2]) rfl d1.tail.tail d2.tail.tail (by omega)
    exact (TS.code_same (B := BV) (d := u.1) (r := [v.2.1, v.2.2.1, v.2.2.2]) (q := [u.2.1, u.2.2.1, u.2.2.2]) rfl).mpr q
  · exact TS.code_lt rfl d1.tail d2.tail (by omega)
theorem all_is {ns : List Int} (hN : Nds ns) {l : List V4} (p : l.Perm (valV4 ns ns.length)) (c : CodeLe l) : l = allV ns :=
  strict_eq (fun v => TS.code BV (v4L v)) (p.trans (val_perm (by have := hN.len; omega) fun i => (hN.nd i).1)) c (all_code hN)
def spLawVal (K : PySem.W.Frag) : Sp := fun vs H Q _ => ∃ (t : Addr) (ns : List Int), vs = [.ref t] ∧ H t = some (.tup (ns.map V.int)) ∧ ns.length ≤ 200 ∧
  ∀ H' g ws, Same H H' → H g = none → H' g = some (.lst ws) → AllT K H' ws ((allV ns).map v4L) → Q (.ref g) H'
theorem row_len {ns : List Int} {b : Nat} : ∀ n, (rowV ns b n).length ≤ n
  | 0 => by simp [rowV]
  | n + 1 => by
    have := row_len (ns := ns) (b := b) n
    unfold rowV
    rw [List.length_append]
    split <;> simp <;> omega
theorem law_len {ns : List Int} : ∀ j, (lawV ns j).length ≤ j * ns.length
  | 0 => by simp [lawV]
  | j + 1 => by
    have := law_len (ns := ns) j
    have r := row_len (ns := ns) (b := j + 1) (ns.length - 1 - (j + 1))
    unfold lawV
    rw [List.length_append, Nat.succ_mul]
    omega
theorem all_len {ns : List Int} (hN : Nds ns) : (allV ns).length + 1 ≤ ns.length ∨ ns = [] := by
  rw [← (val_perm (ns := ns) (by have := hN.len; omega) fun i => (hN.nd i).1).length_eq]
  have v := val_len (ns := ns) ns.length (Nat.le_refl _)
  have O := stk_ok (ns := ns) ns.length (Nat.le_refl _)
  cases ns with
  | nil => exact .inr rfl
  | cons z r =>
    have := O.some (by simp)
    have : 0 < (stkV (z :: r) (z :: r).length).length := List.length_pos_iff.mpr this
    exact .inl (by omega)
end WK
namespace WK
open PySem PySem.Spec PyProof.Rows L2
def v4D (v : V4) : PyData := .tuple (intsD (v4L v))
theorem allT_dp {K : PySem.W.Frag} {H : Hp} : ∀ {ws : List V} {l : List V4}, AllT K H ws (l.map v4L) → DpAll K H ws (l.map v4D)
  | _, [], .nil => .nil
  | _, _ :: _, .cons ⟨_, e, h⟩ b => by
    subst e
    exact .cons (.tup h (dp_ints _)) (allT_dp b)
theorem shows_v4 {l : List V4} (h : ∀ v ∈ l, ∀ z ∈ v4L v, z.natAbs < 10 ^ 150) (hl : l.length ≤ 1000) : Shows (.list (l.map v4D)) := by
  have c : costAll (l.map v4D) ≤ l.length * 700 := by
    have := costAll_le (c := 650) (xs := l.map v4D) fun x hx => by
      obtain ⟨v, _, rfl⟩ := List.mem_map.mp hx
      have := cost_ints (ns := v4L v)
      simp only [v4D, cost]
      have e : (v4L v).length = 4 := rfl
      omega
    rw [List.length_map] at this
    omega
  refine shows_of ?_ ?_ ?_
  · simp only [Lil]
    exact lilAll_iff.mpr fun x hx => by
      obtain ⟨v, hv, rfl⟩ := List.mem_map.mp hx
      simpa only [v4D, Lil] using lil_ints (h v hv)
  · simp only [PyData.depth]
    have := depthAll_le (c := 1) (xs := l.map v4D) fun x hx => by
      obtain ⟨v, _, rfl⟩ := List.mem_map.mp hx
      simp only [v4D, PyData.depth, depth_ints]
      omega
    omega
  · simp only [cost]
    refine Nat.le_trans (show _ ≤ 1000000 by omega) (by decide)
theorem all_small {ns : List Int} (hN : Nds ns) : ∀ v ∈ allV ns, ∀ z ∈ v4L v, z.natAbs < 10 ^ 150 := by
  intro v hv z hz
  have := all_bd hN v hv z hz
  have e : (2000000000 : Nat) < 10 ^ 150 := by decide +kernel
  unfold BV at this
  omega
theorem nds_scale {ns : List Int} {c M : Int} (h : Nds ns) (hc : 1 ≤ c) (hM : ∀ z ∈ ns, z ≤ M) (hb : c * M ≤ 1000000000) : Nds (ns.map (c * ·)) := by
  refine ⟨by rw [List.length_map]; exact h.len, fun z hz => ?_⟩
  obtain ⟨y, hy, rfl⟩ := List.mem_map.mp hz
  have h1 := h.pos y hy
  have h2 := hM y hy
  have h3 : c * y ≤ c * M := Int.mul_le_mul_of_nonneg_left h2 (by omega)
  have h4 : 0 ≤ c * y := Int.mul_nonneg (by omega) h1.1
  show 0 ≤ c * y ∧ c * y ≤ _
  omega
end WK
namespace WK
open PySem PySem.Spec PyProof.Rows L2
def p2L (v : V4) : List Int := [v.1, v.2.1]
def tupsD (L : List (List Int)) : List PyData := L.map fun ns => .tuple (intsD ns)
theorem allT_dpG {K : PySem.W.Frag} {H : Hp} : ∀ {ws : List V} {l : List (List Int)}, AllT K H ws l → DpAll K H ws (tupsD l)
  | _, _, .nil => .nil
  | _, _, .cons ⟨_, e, h⟩ b => by
    subst e
    exact .cons (.tup h (dp_ints _)) (allT_dpG b)
theorem lay_tups {L : List (List Int)} : PyData.canLayAll0 (tupsD L) = true := by
  rw [canLayAll_iff]
  intro x hx
  obtain ⟨ns, _, rfl⟩ := List.mem_map.mp hx
  simp only [PyData.canLay0, lay_ints]
theorem shaped_tups {L : List (List Int)} : SeqAt.shaped (.list (tupsD L)) = true := by
  have d : PyData.depthAll (tupsD L) ≤ 1 := depthAll_le fun x hx => by
    obtain ⟨v, _, rfl⟩ := List.mem_map.mp hx
    simp only [PyData.depth, depth_ints]
    omega
  have e : (PyData.list (tupsD L)).depth ≤ 64 := by
    simp only [PyData.depth]
    omega
  simp only [SeqAt.shaped, PyData.canLay0, lay_tups, Bool.true_and]
  exact decide_eq_true e
theorem eqv_tups {L : List (List Int)} : PyData.eqv (.list (tupsD L)) (.list (tupsD L)) = true :=
  PySem.SeqAt.eqv_refl _ (by simp only [PyData.canLay0, lay_tups])
theorem pairs_tups {ns : List Int} {k : Int} (hk : 1 ≤ k) (hl : ns.length ≤ 100000) : tupsD (((allV ns).filter (hasK k)).map p2L) = (gapsL ns k).map prD := by
  rw [← all_gaps hk hl]
  unfold tupsD
  rw [List.map_map, List.map_map]
  rfl
theorem p2_code {ns : List Int} (hN : Nds ns) : (((allV ns)).map p2L).Pairwise fun v u => TS.code BV v < TS.code BV u := by
  have hl := hN.len
  have K := (law_key (ns := ns) (by omega) (ns.length - 1))
  refine List.pairwise_map.mpr (List.Pairwise.imp_of_mem (fun {v u} hv hu h => ?_) K.1)
  have b1 := K.2 v hv
  have b2 := K.2 u hu
  have d1 := all_bd hN v hv
  have d2 := all_bd hN u hu
  unfold v4L at d1 d2
  have x1 := d1.tail.head
  have x2 := d2.tail.head
  unfold vkey at h
  have y1 : TS.Bd BV [v.2.1] := by intro m hm; rw [List.mem_singleton] at hm; subst hm; exact x1
  have y2 : TS.Bd BV [u.2.1] := by intro m hm; rw [List.mem_singleton] at hm; subst hm; exact x2
  show TS.code BV [v.1, v.2.1] < TS.code BV [u.1, u.2.1]
  by_cases e : v.1 = u.1
  · rw [e]
    have q := TS.code_lt (B := BV) (d := v.2.1) (e := u.2.1) (r := []) (q := []) rfl (fun m hm => by simp at hm) (fun m hm => by simp at hm) (by omega)
    exact (TS.code_same (B := BV) (d := u.1) (r := [v.2.1]) (q := [u.2.1]) rfl).mpr q
  · exact TS.code_lt rfl y1 y2 (by omega)
/-- what sorted makes of tuples that ascend is the same -/
theorem code_leL {K : PySem.W.Frag} {H : Hp} : ∀ {ys : List V} {l : List (List Int)}, AllT K H ys l → ys.Pairwise (fun x y => ∀ n m, TupI K H x n → TupI K H y m → TS.code BV n ≤ TS.code BV m) → l.Pairwise fun n m => TS.code BV n ≤ TS.code BV m
  | _, _, .nil, _ => List.Pairwise.nil
  | y :: ys, v :: l, .cons a b, h => by
    have h' := List.pairwise_cons.mp h
    refine List.pairwise_cons.mpr ⟨fun u hu => ?_, code_leL b h'.2⟩
    obtain ⟨x, hx, hxu⟩ := AllT.memR b hu
    exact h'.1 x hx _ _ a hxu
theorem p2_bd {ns : List Int} (hN : Nds ns) : ∀ v ∈ allV ns, TS.Bd BV (p2L v) := by
  intro v hv
  have d := all_bd hN v hv
  unfold v4L at d
  intro m hm
  refine d m ?_
  simp only [p2L, List.mem_cons, List.not_mem_nil, or_false] at hm ⊢
  rcases hm with h | h
  · exact .inl h
  · exact .inr (.inl h)
end WK
namespace WK
open PySem PySem.Spec PyProof.Rows L2
theorem sqt_off {K : PySem.W.Frag} {H H' : Hp} {p c t : Addr} {l : List V} (o : Off p c H H') (S : Src H p c) (h : SqT K H t l) : SqT K H' t l := by
  obtain ⟨cells, a, m, x, e1, e2⟩ := S.ex
  rcases h with (h | ⟨q, h⟩) | h
  · exact .inl (.inl (o _ _ (ne_of h e1 (by intro z; cases z)) (ne_of h e2 (by intro z; cases z)) h))
  · exact .inl (.inr ⟨q, o _ _ (ne_of h e1 (by intro z; cases z)) (ne_of h e2 (by intro z; cases z)) h⟩)
  · exact .inr h
theorem AllT.off {K : PySem.W.Frag} {H H' : Hp} {p c : Addr} (o : Off p c H H') (S : Src H p c) : ∀ {vs : List V} {ss : List (List Int)}, AllT K H vs ss → AllT K H' vs ss
  | _, _, .nil => .nil
  | _, _, .cons ⟨t, e, h⟩ b => .cons ⟨t, e, sqt_off o S h⟩ (AllT.off o S b)
end WK
set_option Elab.async false
set_option linter.all false
set_option maxRecDepth 100000
namespace WK
open PySem PySem.Spec PyProof.Rows L2
/-! ### what is held: the least over all numbers to come from -/
theorem cnt_iff {P : Int → Bool} (mono : ∀ a c, a ≤ c → P c = true → P a = true) : ∀ {l : List Int}, l.Pairwise (· ≤ ·) → ∀ {i : Nat} {z : Int}, l[i]? = some z → (i < (l.filter P).length ↔ P z = true)
  | [], _, i, z, h => by simp at h
  | y :: l, hs, i, z, h => by
    have hp := List.pairwise_cons.mp hs
    by_cases hy : P y = true
    · rw [List.filter_cons, if_pos hy, List.length_cons]
      cases i with
      | zero =>
        have e : y = z := Option.some.inj h
        subst e
        simp [hy]
      | succ i =>
        rw [List.getElem?_cons_succ] at h
        rw [← cnt_iff mono hp.2 h]
        omega
    · rw [List.filter_cons, if_neg hy]
      have none : ∀ z ∈ y :: l, P z ≠ true := by
        intro z hz
        rcases List.mem_cons.mp hz with rfl | hz
        · exact hy
        · exact fun q => hy (mono y z (hp.1 z hz) q)
      have e : l.filter P = [] := List.filter_eq_nil_iff.mpr fun z hz => none z (List.mem_cons_of_mem _ hz)
      rw [e]
      have := none z (List.mem_of_getElem? h)
      simp [this]
def clampZ (z b : Int) : Int := mn (mx 0 z) b
theorem clampZ_bd {z b : Int} (hb : 0 ≤ b) : 0 ≤ clampZ z b ∧ clampZ z b ≤ b := by
  unfold clampZ
  rw [mn_eq, mx_eq]
  omega
theorem clampZ_mono {z u b : Int} (h : z ≤ u) : clampZ z b ≤ clampZ u b := by
  unfold clampZ
  rw [mn_eq, mx_eq, mn_eq, mx_eq]
  omega
/-- the step of what is held, from x to x + 1 -/
def stH (s : Slt) (b x : Int) : Int := if x < s.need then 0 else if x < s.most then clampZ (s.slopes.getD (x - s.need).toNat 0) b else b
theorem stH_bd {s : Slt} {b x : Int} (hb : 0 ≤ b) : 0 ≤ stH s b x ∧ stH s b x ≤ b := by
  unfold stH
  have := clampZ_bd (z := s.slopes.getD (x - s.need).toNat 0) hb
  split
  · omega
  · split <;> omega
theorem clampL_at {l : List Int} {b : Int} {i : Nat} (h : i < l.length) : (clampL l b)[i]? = some (clampZ (l.getD i 0) b) := by
  unfold clampL
  rw [List.getElem?_map, List.getD_eq_getElem?_getD, List.getElem?_eq_getElem h]
  rfl
theorem clampL_len {l : List Int} {b : Int} : (clampL l b).length = l.length := List.length_map ..
theorem held_step {s : Slt} {b x : Int} (h : s.Len) : heldWorth s b (x + 1) = heldWorth s b x + stH s b x := by
  have hl := h.len
  have hm := h.mid
  unfold heldWorth stH
  simp only [mx_eq]
  by_cases h1 : x < s.need
  · rw [if_pos h1, show max 0 (x + 1 - s.need) = 0 by omega, show max 0 (x - s.need) = 0 by omega, show max 0 (x + 1 - s.most) = 0 by omega, show max 0 (x - s.most) = 0 by omega]
    omega
  · rw [if_neg h1]
    by_cases h2 : x < s.most
    · rw [if_pos h2, show max 0 (x + 1 - s.most) = 0 by omega, show max 0 (x - s.most) = 0 by omega, show max 0 (x + 1 - s.need) = x - s.need + 1 by omega, show max 0 (x - s.need) = x - s.need by omega]
      rw [show (x - s.need + 1).toNat = (x - s.need).toNat + 1 by omega, take_sum (clampL_at (by omega))]
      omega
    · rw [if_neg h2, List.take_of_length_le (by rw [clampL_len]; omega), List.take_of_length_le (by rw [clampL_len]; omega)]
      rw [show max 0 (x + 1 - s.most) = x - s.most + 1 by omega, show max 0 (x - s.most) = x - s.most by omega, Int.mul_add]
      omega
theorem cost_step {s : Slt} {x : Int} (h : s.Len) (h1 : s.need ≤ x) (h2 : x < s.most) : costAt s (x + 1) = costAt s x + s.slopes.getD (x - s.need).toNat 0 := by
  have hl := h.len
  unfold costAt
  rw [show (x + 1 - s.need).toNat = (x - s.need).toNat + 1 by omega, take_sum (z := s.slopes.getD (x - s.need).toNat 0) (by rw [List.getD_eq_getElem?_getD, List.getElem?_eq_getElem (by omega)]; rfl)]
  omega
/-- a work of the document -/
structure Slt.Wk (s : Slt) : Prop where
  len : s.Len
  lo : 0 ≤ s.need
  asc : s.slopes.Pairwise (· ≤ ·)
theorem slope_at {s : Slt} (h : s.Len) {x : Int} (h1 : s.need ≤ x) (h2 : x < s.most) : s.slopes[(x - s.need).toNat]? = some (s.slopes.getD (x - s.need).toNat 0) := by
  have hl := h.len
  rw [List.getD_eq_getElem?_getD, List.getElem?_eq_getElem (by omega)]
  rfl
theorem low_iff {s : Slt} (h : s.Wk) {x : Int} (h1 : s.need ≤ x) (h2 : x < s.most) : x < lowW s ↔ s.slopes.getD (x - s.need).toNat 0 < 0 := by
  have c := cnt_iff (P := fun z => decide (z < 0)) (fun a c hac hc => by simp at hc ⊢; omega) h.asc (slope_at h.len h1 h2)
  simp only [decide_eq_true_eq] at c
  rw [← c]
  unfold lowW
  omega
theorem lowW_in {s : Slt} (h : s.Wk) : s.need ≤ lowW s ∧ lowW s ≤ s.most := by
  have hl := h.len.len
  have := List.length_filter_le (fun z => decide (z < 0)) s.slopes
  unfold lowW
  omega
theorem high_iff {s : Slt} (h : s.Wk) {b x : Int} (h1 : s.need ≤ x) (h2 : x < s.most) : x < highW s b ↔ s.slopes.getD (x - s.need).toNat 0 ≤ b := by
  have c := cnt_iff (P := fun z => decide (z ≤ b)) (fun a c hac hc => by simp at hc ⊢; omega) h.asc (slope_at h.len h1 h2)
  simp only [decide_eq_true_eq] at c
  rw [← c]
  unfold highW
  omega
theorem highW_in {s : Slt} {b : Int} (h : s.Wk) : s.need ≤ highW s b ∧ highW s b ≤ s.most := by
  have hl := h.len.len
  have := List.length_filter_le (fun z => decide (z ≤ b)) s.slopes
  unfold highW
  omega
theorem low_high {s : Slt} {b : Int} (hb : 0 ≤ b) (h : s.Wk) : lowW s ≤ highW s b := by
  by_cases q : lowW s ≤ highW s b
  · exact q
  · have a := lowW_in h
    have c := highW_in (b := b) h
    have e1 := (low_iff h (x := highW s b) (by omega) (by omega)).mp (by omega)
    have e2 := (high_iff h (b := b) (x := highW s b) (by omega) (by omega)).mpr (by omega)
    omega
/-- going up by n -/
theorem held_up {s : Slt} {b : Int} (h : s.Len) (hb : 0 ≤ b) (x : Int) : ∀ n : Nat, heldWorth s b x ≤ heldWorth s b (x + n) ∧ heldWorth s b (x + n) ≤ heldWorth s b x + b * n
  | 0 => by simp
  | n + 1 => by
    have ih := held_up h hb x n
    have e := held_step (b := b) (x := x + n) h
    have c := stH_bd (s := s) (x := x + n) hb
    have g : (x + ((n + 1 : Nat) : Int)) = x + n + 1 := by omega
    rw [g, e, Int.natCast_add, Int.mul_add]
    simp only [Int.natCast_one, Int.mul_one]
    omega
theorem held_low {s : Slt} {b x : Int} (h : s.Wk) (hb : 0 ≤ b) (hx : x ≤ lowW s) : heldWorth s b x = leastW s := by
  have base : ∀ y, y ≤ s.need → heldWorth s b y = leastW s := by
    intro y hy
    have := h.len.mid
    unfold heldWorth
    simp only [mx_eq]
    rw [show max 0 (y - s.need) = 0 by omega, show max 0 (y - s.most) = 0 by omega]
    simp
  have key : ∀ n : Nat, s.need + n ≤ lowW s → heldWorth s b (s.need + n) = leastW s := by
    intro n
    induction n with
    | zero => intro _; simpa using base s.need (Int.le_refl _)
    | succ n ih =>
      intro hn
      have a := lowW_in h
      have g : (s.need + ((n + 1 : Nat) : Int)) = s.need + n + 1 := by omega
      rw [g, held_step h.len, ih (by omega)]
      have q := (low_iff h (x := s.need + n) (by omega) (by omega)).mp (by omega)
      unfold stH clampZ
      rw [if_neg (by omega), if_pos (by omega), mn_eq, mx_eq]
      omega
  by_cases q : x ≤ s.need
  · exact base x q
  · have := key (x - s.need).toNat (by omega)
    rw [show s.need + ((x - s.need).toNat : Int) = x by omega] at this
    exact this
theorem held_mid {s : Slt} {b : Int} (h : s.Wk) (hb : 0 ≤ b) : ∀ n : Nat, lowW s + n ≤ highW s b → heldWorth s b (lowW s + n) = costAt s (lowW s + n)
  | 0, _ => by
    have := held_low (x := lowW s) h hb (Int.le_refl _)
    simp only [Int.natCast_zero, Int.add_zero]
    exact this
  | n + 1, hn => by
    have a := lowW_in h
    have c := highW_in (b := b) h
    have ih := held_mid h hb n (by omega)
    have g : (lowW s + ((n + 1 : Nat) : Int)) = lowW s + n + 1 := by omega
    rw [g, held_step h.len, ih, cost_step h.len (by omega) (by omega)]
    have q1 : ¬ s.slopes.getD (lowW s + n - s.need).toNat 0 < 0 := fun q => by
      have := (low_iff h (x := lowW s + n) (by omega) (by omega)).mpr q
      omega
    have q2 := (high_iff h (b := b) (x := lowW s + n) (by omega) (by omega)).mp (by omega)
    unfold stH clampZ
    rw [if_neg (by omega), if_pos (by omega), mn_eq, mx_eq]
    omega
theorem held_high {s : Slt} {b : Int} (h : s.Wk) (hb : 0 ≤ b) : ∀ n : Nat, heldWorth s b (highW s b + n) = heldWorth s b (highW s b) + b * n
  | 0 => by simp
  | n + 1 => by
    have a := lowW_in h
    have c := highW_in (b := b) h
    have ih := held_high h hb n
    have g : (highW s b + ((n + 1 : Nat) : Int)) = highW s b + n + 1 := by omega
    rw [g, held_step h.len, ih, Int.natCast_add, Int.mul_add]
    have e : stH s b (highW s b + n) = b := by
      unfold stH
      rw [if_neg (by omega)]
      by_cases q : highW s b + n < s.most
      · rw [if_pos q]
        have q2 : ¬ s.slopes.getD (highW s b + n - s.need).toNat 0 ≤ b := fun q2 => by
          have := (high_iff h (b := b) (x := highW s b + n) (by omega) (by omega)).mpr q2
          omega
        unfold clampZ
        rw [mn_eq, mx_eq]
        omega
      · rw [if_neg q]
    rw [e]
    simp only [Int.natCast_one, Int.mul_one]
    omega
/-- at its numbers a work is nowhere less than what is held -/
theorem held_le {s : Slt} {b x : Int} (h : s.Wk) (hb : 0 ≤ b) (h1 : s.need ≤ x) (h2 : x ≤ s.most) : heldWorth s b x ≤ costAt s x := by
  have a := lowW_in h
  by_cases hx : x ≤ lowW s
  · rw [held_low h hb hx]
    have key : ∀ n : Nat, s.need ≤ lowW s - n → leastW s ≤ costAt s (lowW s - n) := by
      intro n
      induction n with
      | zero => intro _; simp [leastW]
      | succ n ih =>
        intro hn
        have ih := ih (by omega)
        have e := cost_step h.len (x := lowW s - ((n + 1 : Nat) : Int)) (by omega) (by omega)
        have q := (low_iff h (x := lowW s - ((n + 1 : Nat) : Int)) (by omega) (by omega)).mp (by omega)
        rw [show lowW s - ((n + 1 : Nat) : Int) + 1 = lowW s - n by omega] at e
        omega
    have := key (lowW s - x).toNat (by omega)
    rw [show lowW s - ((lowW s - x).toNat : Int) = x by omega] at this
    exact this
  · have key : ∀ n : Nat, lowW s + n ≤ s.most → heldWorth s b (lowW s + n) ≤ costAt s (lowW s + n) := by
      intro n
      induction n with
      | zero =>
        intro _
        have := held_low (x := lowW s) h hb (Int.le_refl _)
        simp only [Int.natCast_zero, Int.add_zero]
        rw [this]
        exact Int.le_refl _
      | succ n ih =>
        intro hn
        have ih := ih (by omega)
        have g : (lowW s + ((n + 1 : Nat) : Int)) = lowW s + n + 1 := by omega
        rw [g, held_step h.len, cost_step h.len (by omega) (by omega)]
        have q1 : ¬ s.slopes.getD (lowW s + n - s.need).toNat 0 < 0 := fun q => by
          have := (low_iff h (x := lowW s + n) (by omega) (by omega)).mpr q
          omega
        have e : stH s b (lowW s + n) ≤ s.slopes.getD (lowW s + n - s.need).toNat 0 := by
          unfold stH clampZ
          rw [if_neg (by omega), if_pos (by omega), mn_eq, mx_eq]
          omega
        omega
    have := key (x - lowW s).toNat (by omega)
    rw [show lowW s + ((x - lowW s).toNat : Int) = x by omega] at this
    exact this
theorem up_eq (d : Int) : up d = max 0 d := by
  unfold up
  split <;> omega
/-- held is at most what any number to come from gives -/
theorem held_lower {s : Slt} {b x y : Int} (h : s.Wk) (hb : 0 ≤ b) (h1 : s.need ≤ y) (h2 : y ≤ s.most) : heldWorth s b x ≤ costAt s y + b * up (x - y) := by
  have e := held_le h hb h1 h2
  rw [up_eq]
  by_cases q : y ≤ x
  · have u := (held_up h.len hb y (x - y).toNat).2
    rw [show y + ((x - y).toNat : Int) = x by omega, show ((x - y).toNat : Int) = max 0 (x - y) by omega] at u
    omega
  · have u := (held_up h.len hb x (y - x).toNat).1
    rw [show x + ((y - x).toNat : Int) = y by omega] at u
    rw [show max 0 (x - y) = 0 by omega]
    omega
/-- and one number gives just that -/
theorem held_reach {s : Slt} {b : Int} (x : Int) (h : s.Wk) (hb : 0 ≤ b) : ∃ y, s.need ≤ y ∧ y ≤ s.most ∧ heldWorth s b x = costAt s y + b * up (x - y) := by
  have a := lowW_in h
  have c := highW_in (b := b) h
  have lh := low_high hb h
  by_cases q1 : x ≤ lowW s
  · refine ⟨lowW s, a.1, a.2, ?_⟩
    rw [held_low h hb q1, up_eq, show max 0 (x - lowW s) = 0 by omega]
    simp [leastW]
  · by_cases q2 : x ≤ highW s b
    · refine ⟨x, by omega, by omega, ?_⟩
      have := held_mid h hb (x - lowW s).toNat (by omega)
      rw [show lowW s + ((x - lowW s).toNat : Int) = x by omega] at this
      rw [this, up_eq, show max 0 (x - x) = 0 by omega]
      simp
    · refine ⟨highW s b, c.1, c.2, ?_⟩
      have e := held_high h hb (x - highW s b).toNat
      rw [show highW s b + ((x - highW s b).toNat : Int) = x by omega] at e
      have e2 := held_mid h hb (highW s b - lowW s).toNat (by omega)
      rw [show lowW s + ((highW s b - lowW s).toNat : Int) = highW s b by omega] at e2
      rw [e, e2, up_eq, show ((x - highW s b).toNat : Int) = max 0 (x - highW s b) by omega]
theorem least_le {s : Slt} {y : Int} (h : s.Wk) (h1 : s.need ≤ y) (h2 : y ≤ s.most) : leastW s ≤ costAt s y := by
  have e := held_lower (b := 0) (x := y) h (Int.le_refl 0) h1 h2
  have u := (held_up h.len (Int.le_refl 0) (min y (lowW s)) (y - min y (lowW s)).toNat).1
  rw [show min y (lowW s) + ((y - min y (lowW s)).toNat : Int) = y by omega, held_low h (Int.le_refl 0) (by omega)] at u
  omega
/-! ### the work behind a slot -/
theorem heldSlopes_is {s : Slt} {b lo hi : Int} (h : s.Len) (h1 : lo ≤ hi) (h2 : hi - lo ≤ 1000) : heldSlopes s b lo hi = (List.range (hi - lo).toNat).map fun (i : Nat) => stH s b (lo + (i : Int)) := by
  have hl := h.len
  have hm := h.mid
  have hlen := (heldW_len (b := b) h h1 h2).len
  have hlen : ((heldSlopes s b lo hi).length : Int) = hi - lo := hlen
  refine List.ext_getElem? fun i => ?_
  by_cases hi2 : i < (hi - lo).toNat
  · rw [List.getElem?_map, List.getElem?_range hi2, Option.map_some]
    unfold heldSlopes heldMid
    simp only [mx_eq, mn_eq]
    unfold stH
    by_cases q1 : lo + i < s.need
    · rw [if_pos q1, List.append_assoc, List.getElem?_append_left (by rw [List.length_replicate]; omega), List.getElem?_replicate, if_pos (by omega)]
    · rw [if_neg q1]
      have hmid : (((clampL s.slopes b).drop (max 0 (lo - s.need)).toNat).take ((max 0 (hi - s.need)).toNat - (max 0 (lo - s.need)).toNat)).length = min ((max 0 (hi - s.need)).toNat - (max 0 (lo - s.need)).toNat) ((s.most - s.need).toNat - (max 0 (lo - s.need)).toNat) := by
        rw [List.length_take, List.length_drop, clampL_len]
        omega
      by_cases q2 : lo + i < s.most
      · rw [if_pos q2, List.getElem?_append_left (by rw [List.length_append, List.length_replicate, hmid]; omega), List.getElem?_append_right (by rw [List.length_replicate]; omega), List.length_replicate, List.getElem?_take, if_pos (by omega), List.getElem?_drop]
        rw [show (max 0 (lo - s.need)).toNat + (i - (max 0 (min hi s.need - lo)).toNat) = (lo + i - s.need).toNat by omega]
        exact clampL_at (by omega)
      · rw [if_neg q2, List.getElem?_append_right (by rw [List.length_append, List.length_replicate, hmid]; omega), List.getElem?_replicate, if_pos (by rw [List.length_append, List.length_replicate, hmid]; omega)]
  · rw [List.getElem?_eq_none (by omega), List.getElem?_eq_none (by rw [List.length_map, List.length_range]; omega)]
theorem stH_mono {s : Slt} {b : Int} (h : s.Wk) (hb : 0 ≤ b) {x y : Int} (hxy : x ≤ y) : stH s b x ≤ stH s b y := by
  have hl := h.len.len
  have cx := stH_bd (s := s) (x := x) hb
  have cy := stH_bd (s := s) (x := y) hb
  by_cases q1 : x < s.need
  · have : stH s b x = 0 := by unfold stH; rw [if_pos q1]
    omega
  · by_cases q2 : y < s.most
    · have e1 : stH s b x = clampZ (s.slopes.getD (x - s.need).toNat 0) b := by unfold stH; rw [if_neg q1, if_pos (by omega)]
      have e2 : stH s b y = clampZ (s.slopes.getD (y - s.need).toNat 0) b := by unfold stH; rw [if_neg (by omega), if_pos q2]
      rw [e1, e2]
      refine clampZ_mono ?_
      by_cases e : x = y
      · rw [e]; exact Int.le_refl _
      · have := List.pairwise_iff_getElem.mp h.asc (x - s.need).toNat (y - s.need).toNat (by omega) (by omega) (by omega)
        rw [List.getD_eq_getElem?_getD, List.getD_eq_getElem?_getD, List.getElem?_eq_getElem (by omega), List.getElem?_eq_getElem (by omega)]
        exact this
    · have : stH s b y = b := by unfold stH; rw [if_neg (by omega), if_neg q2]
      omega
theorem held_cost {s : Slt} {b lo hi : Int} (h : s.Len) (h1 : lo ≤ hi) (h2 : hi - lo ≤ 1000) : ∀ n : Nat, lo + n ≤ hi → costAt (heldW s b lo hi) (lo + n) = heldWorth s b (lo + n)
  | 0, _ => by
    unfold costAt heldW
    simp
  | n + 1, hn => by
    have ih := held_cost (b := b) h h1 h2 n (by omega)
    have L := heldW_len (b := b) h h1 h2
    have g : (lo + ((n + 1 : Nat) : Int)) = lo + n + 1 := by omega
    have e := cost_step (s := heldW s b lo hi) L (x := lo + n) (by show lo ≤ _; omega) (by show _ < hi; omega)
    rw [g, held_step h, e, ih]
    congr 1
    show (heldSlopes s b lo hi).getD (lo + n - lo).toNat 0 = _
    rw [show (lo + (n : Int) - lo).toNat = n by omega, heldSlopes_is h h1 h2, List.getD_eq_getElem?_getD, List.getElem?_map, List.getElem?_range (by omega)]
    rfl
theorem winL_all {s : Slt} (h : s.Len) : winL s s.need s.most = s.slopes := by
  have hl := h.len
  unfold winL
  rw [show (s.need - s.need).toNat = 0 by omega, List.drop_zero, Nat.sub_zero, List.take_of_length_le (by omega)]
theorem after_is {a s : Slt} {b : Int} (ha : a.Len) (h : s.Len) : afterW a s b = ⟨s.need, s.most, costAt s s.need + costAt (heldW a b s.need s.most) s.need, addL s.slopes (heldSlopes a b s.need s.most)⟩ := by
  have e := after_some (a := a) (b := b) h
  unfold sumW at e
  have hm := h.mid
  have m1 : mx s.need (heldW a b s.need s.most).need = s.need := by rw [mx_eq]; show max s.need s.need = _; omega
  have m2 : mn s.most (heldW a b s.need s.most).most = s.most := by rw [mn_eq]; show min s.most s.most = _; omega
  rw [m1, m2, if_neg (by omega)] at e
  have e := Option.some.inj e
  rw [← e, winL_all h]
  have w := winL_all (heldW_len (b := b) ha hm h.wide)
  have w : winL (heldW a b s.need s.most) s.need s.most = heldSlopes a b s.need s.most := w
  rw [w]
theorem zip_getD {l m : List Int} {i : Nat} (h1 : i < l.length) (h2 : i < m.length) : (addL l m).getD i 0 = l.getD i 0 + m.getD i 0 := by
  unfold addL
  rw [List.getD_eq_getElem?_getD, List.getD_eq_getElem?_getD, List.getD_eq_getElem?_getD, List.getElem?_zipWith, List.getElem?_eq_getElem h1, List.getElem?_eq_getElem h2]
  rfl
theorem after_slope {a s : Slt} {b : Int} (ha : a.Len) (h : s.Len) {x : Int} (h1 : s.need ≤ x) (h2 : x < s.most) : (afterW a s b).slopes.getD (x - s.need).toNat 0 = s.slopes.getD (x - s.need).toNat 0 + stH a b x := by
  have hl := h.len
  have hs := heldSlopes_is (b := b) ha h.mid h.wide
  rw [after_is ha h]
  show (addL s.slopes (heldSlopes a b s.need s.most)).getD _ 0 = _
  rw [zip_getD (by omega) (by rw [hs, List.length_map, List.length_range]; omega), hs]
  congr 1
  rw [List.getD_eq_getElem?_getD, List.getElem?_map, List.getElem?_range (by omega)]
  show stH a b (s.need + ((x - s.need).toNat : Int)) = _
  rw [show s.need + ((x - s.need).toNat : Int) = x by omega]
theorem after_cost {a s : Slt} {b : Int} (ha : a.Len) (h : s.Len) : ∀ n : Nat, s.need + n ≤ s.most → costAt (afterW a s b) (s.need + n) = costAt s (s.need + n) + heldWorth a b (s.need + n)
  | 0, _ => by
    have e := held_cost (b := b) ha h.mid h.wide 0 (by have := h.mid; omega)
    rw [after_is ha h]
    simp only [Int.natCast_zero, Int.add_zero] at e ⊢
    rw [← e]
    unfold costAt
    simp
  | n + 1, hn => by
    have ih := after_cost (b := b) ha h n (by omega)
    have L := after_len (b := b) ha h
    have g : (s.need + ((n + 1 : Nat) : Int)) = s.need + n + 1 := by omega
    have n1 : (afterW a s b).need = s.need := by rw [after_is ha h]
    have n2 : (afterW a s b).most = s.most := by rw [after_is ha h]
    have e := cost_step (s := afterW a s b) L (x := s.need + n) (by omega) (by omega)
    rw [n1, after_slope ha h (by omega) (by omega)] at e
    rw [g, e, ih, cost_step h (by omega) (by omega), held_step ha]
    omega
theorem after_wk {a s : Slt} {b : Int} (hb : 0 ≤ b) (ha : a.Wk) (h : s.Wk) : (afterW a s b).Wk ∧ (afterW a s b).need = s.need ∧ (afterW a s b).most = s.most := by
  have e := after_is (b := b) ha.len h.len
  have L := after_len (b := b) ha.len h.len
  have hl := h.len.len
  have n1 : (afterW a s b).need = s.need := by rw [e]
  have n2 : (afterW a s b).most = s.most := by rw [e]
  refine ⟨⟨L, by rw [n1]; exact h.lo, ?_⟩, n1, n2⟩
  have Ll := L.len
  rw [n1, n2] at Ll
  refine List.pairwise_iff_getElem.mpr fun i j hi hj hij => ?_
  have c1 := after_slope (b := b) ha.len h.len (x := s.need + i) (by omega) (by omega)
  have c2 := after_slope (b := b) ha.len h.len (x := s.need + j) (by omega) (by omega)
  rw [show (s.need + (i : Int) - s.need).toNat = i by omega, List.getD_eq_getElem?_getD, List.getElem?_eq_getElem hi] at c1
  rw [show (s.need + (j : Int) - s.need).toNat = j by omega, List.getD_eq_getElem?_getD, List.getElem?_eq_getElem hj] at c2
  have c1 : (afterW a s b).slopes[i] = _ := c1
  have c2 : (afterW a s b).slopes[j] = _ := c2
  rw [c1, c2]
  have m := stH_mono ha hb (x := s.need + i) (y := s.need + j) (by omega)
  have := List.pairwise_iff_getElem.mp h.asc i j (by omega) (by omega) hij
  rw [List.getD_eq_getElem?_getD, List.getD_eq_getElem?_getD, List.getElem?_eq_getElem (by omega), List.getElem?_eq_getElem (by omega)]
  show s.slopes[i] + _ ≤ s.slopes[j] + _
  omega
end WK
set_option Elab.async false
set_option linter.all false
set_option maxRecDepth 100000
namespace WK
open PySem PySem.Spec PyProof.Rows L2
theorem snoc_ind {α : Type} {P : List α → Prop} (h0 : P []) (h1 : ∀ l a, P l → P (l ++ [a])) (l : List α) : P l := by
  have : ∀ l : List α, P l.reverse := by
    intro l
    induction l with
    | nil => exact h0
    | cons a l ih =>
      rw [List.reverse_cons]
      exact h1 _ _ ih
  have e := this l.reverse
  rw [List.reverse_reverse] at e
  exact e
def lastX (xs : List Int) : Int := (0 :: xs).getD xs.length 0
theorem lastX_snoc (xs : List Int) (x : Int) : lastX (xs ++ [x]) = x := by
  unfold lastX
  rw [List.length_append, List.length_singleton, List.getD_eq_getElem?_getD, List.getElem?_cons_succ, List.getElem?_append_right (by omega)]
  simp
theorem getD_app {α : Type} {l : List α} {a d : α} {t : Nat} (h : t < l.length) : (l ++ [a]).getD t d = l.getD t d := by
  rw [List.getD_eq_getElem?_getD, List.getElem?_append_left h, List.getD_eq_getElem?_getD]
theorem getD_end {α : Type} {l : List α} {a d : α} {n : Nat} (h : n = l.length) : (l ++ [a]).getD n d = a := by
  subst h
  rw [List.getD_eq_getElem?_getD, List.getElem?_append_right (Nat.le_refl _)]
  simp
theorem mapr_congr {α : Type} {f g : Nat → α} {n : Nat} (h : ∀ t, t < n → f t = g t) : (List.range n).map f = (List.range n).map g :=
  List.map_congr_left fun t ht => h t (List.mem_range.mp ht)
theorem runL_snoc {ss : List Slt} {s : Slt} {xs : List Int} {x : Int} (h : xs.length = ss.length) : runL (ss ++ [s]) (xs ++ [x]) = runL ss xs + costAt s x := by
  unfold runL runT
  rw [List.length_append, List.length_singleton, mapr_succ, List.sum_append, getD_end rfl, getD_end h]
  rw [mapr_congr (g := fun t => costAt (ss.getD t s0) (xs.getD t 0)) fun t ht => by rw [getD_app ht, getD_app (by omega)]]
  simp
theorem startsL_snoc {xs : List Int} {x : Int} : startsL (xs ++ [x]) = startsL xs + up (x - lastX xs) := by
  unfold startsL startsT
  rw [List.length_append, List.length_singleton, mapr_succ, List.sum_append, getD_end rfl]
  have e : (0 :: (xs ++ [x])).getD xs.length 0 = lastX xs := by
    unfold lastX
    rw [← List.cons_append]
    exact getD_app (by simp)
  rw [e, mapr_congr (g := fun t => up (xs.getD t 0 - (0 :: xs).getD t 0)) fun t ht => by rw [getD_app ht, ← List.cons_append, getD_app (by simp; omega)]]
  simp
theorem servesL_snoc {ss : List Slt} {s : Slt} {xs : List Int} {x : Int} (h : xs.length = ss.length) : servesL (ss ++ [s]) (xs ++ [x]) = (servesL ss xs && fitB s x) := by
  unfold servesL servesB
  rw [List.length_append, List.length_singleton, mapr_succ, List.all_append, getD_end rfl, getD_end h]
  rw [mapr_congr (g := fun t => fitB (ss.getD t s0) (xs.getD t 0)) fun t ht => by rw [getD_app ht, getD_app (by omega)]]
  simp
theorem fit_iff {s : Slt} {x : Int} : fitB s x = true ↔ s.need ≤ x ∧ x ≤ s.most := by simp [fitB]
def numsL (s : Slt) (n : Nat) : List Int := (List.range n).map fun (i : Nat) => s.need + (i : Int)
def widthN (s : Slt) : Nat := (s.most + 1 - s.need).toNat
def rowsAfter (found : List (List Int)) (s : Slt) : List (List Int) := found.flatMap fun row => (numsL s (widthN s)).map fun x => row ++ [x]
def allRows (ss : List Slt) : List (List Int) := ss.foldl rowsAfter [[]]
theorem allRows_snoc {ss : List Slt} {s : Slt} : allRows (ss ++ [s]) = rowsAfter (allRows ss) s := by
  unfold allRows
  rw [List.foldl_append]
  rfl
theorem nums_mem {s : Slt} {x : Int} : x ∈ numsL s (widthN s) ↔ s.need ≤ x ∧ x ≤ s.most := by
  unfold numsL widthN
  rw [List.mem_map]
  constructor
  · rintro ⟨i, hi, rfl⟩
    have := List.mem_range.mp hi
    omega
  · intro h
    exact ⟨(x - s.need).toNat, List.mem_range.mpr (by omega), by omega⟩
theorem rows_mem (ss : List Slt) : ∀ xs, xs ∈ allRows ss ↔ xs.length = ss.length ∧ servesL ss xs = true := by
  refine snoc_ind (P := fun ss => ∀ xs, xs ∈ allRows ss ↔ xs.length = ss.length ∧ servesL ss xs = true) ?_ ?_ ss
  · intro xs
    show xs ∈ [[]] ↔ _
    rw [List.mem_singleton]
    constructor
    · rintro rfl
      exact ⟨rfl, rfl⟩
    · rintro ⟨h, _⟩
      exact List.length_eq_zero_iff.mp h
  · intro ss s ih xs
    rw [allRows_snoc]
    unfold rowsAfter
    rw [List.mem_flatMap]
    constructor
    · rintro ⟨row, hr, hx⟩
      obtain ⟨x, hx2, rfl⟩ := List.mem_map.mp hx
      obtain ⟨h1, h2⟩ := (ih row).mp hr
      refine ⟨by simp [h1], ?_⟩
      rw [servesL_snoc h1, h2, Bool.true_and]
      exact fit_iff.mpr (nums_mem.mp hx2)
    · rintro ⟨h1, h2⟩
      rcases List.eq_nil_or_concat xs with rfl | ⟨row, x, rfl⟩
      · simp at h1
      · rw [List.concat_eq_append] at h1 h2 ⊢
        have h3 : row.length = ss.length := by simpa using h1
        rw [servesL_snoc h3, Bool.and_eq_true] at h2
        exact ⟨row, (ih row).mpr ⟨h3, h2.1⟩, List.mem_map.mpr ⟨x, nums_mem.mpr (fit_iff.mp h2.2), rfl⟩⟩
theorem w0_wk : w0.Wk := ⟨w0_len, Int.le_refl 0, List.Pairwise.nil⟩
theorem lastW_wk {b : Int} (hb : 0 ≤ b) (ss : List Slt) : (∀ s ∈ ss, s.Wk) → (lastW w0 b ss).Wk := by
  refine snoc_ind (P := fun ss => (∀ s ∈ ss, s.Wk) → (lastW w0 b ss).Wk) (fun _ => w0_wk) (fun ss s ih h => ?_) ss
  rw [lastW_snoc]
  exact (after_wk hb (ih fun x hx => h x (List.mem_append_left _ hx)) (h s (by simp))).1
/-- a row that serves costs at least what the last work says of its end -/
theorem rows_lower {b : Int} (hb : 0 ≤ b) (ss : List Slt) : (∀ s ∈ ss, s.Wk) → ∀ xs, xs.length = ss.length → servesL ss xs = true →
    (lastW w0 b ss).need ≤ lastX xs ∧ lastX xs ≤ (lastW w0 b ss).most ∧ costAt (lastW w0 b ss) (lastX xs) ≤ runL ss xs + b * startsL xs := by
  refine snoc_ind (P := fun ss => (∀ s ∈ ss, s.Wk) → ∀ xs, xs.length = ss.length → servesL ss xs = true →
    (lastW w0 b ss).need ≤ lastX xs ∧ lastX xs ≤ (lastW w0 b ss).most ∧ costAt (lastW w0 b ss) (lastX xs) ≤ runL ss xs + b * startsL xs) ?_ ?_ ss
  · intro _ xs h _
    have e : xs = [] := List.length_eq_zero_iff.mp h
    subst e
    refine ⟨Int.le_refl 0, Int.le_refl 0, ?_⟩
    show (0 : Int) ≤ 0 + b * 0
    simp
  · intro ss s ih hw xs h1 h2
    rcases List.eq_nil_or_concat xs with rfl | ⟨row, x, rfl⟩
    · simp at h1
    · rw [List.concat_eq_append] at h1 h2 ⊢
      have h3 : row.length = ss.length := by simpa using h1
      rw [servesL_snoc h3, Bool.and_eq_true] at h2
      have hs := hw s (by simp)
      have hws : ∀ x ∈ ss, x.Wk := fun x hx => hw x (List.mem_append_left _ hx)
      obtain ⟨i1, i2, i3⟩ := ih hws row h3 h2.1
      have W := lastW_wk hb ss hws
      obtain ⟨_, n1, n2⟩ := after_wk hb W hs
      have f := fit_iff.mp h2.2
      rw [lastX_snoc, lastW_snoc, n1, n2, runL_snoc h3, startsL_snoc]
      have c := after_cost (b := b) W.len hs.len (x - s.need).toNat (by omega)
      rw [show s.need + ((x - s.need).toNat : Int) = x by omega] at c
      have g := held_lower (b := b) (x := x) W hb i1 i2
      rw [c, Int.mul_add]
      omega
theorem rows_reach {b : Int} (hb : 0 ≤ b) (ss : List Slt) : (∀ s ∈ ss, s.Wk) → ∀ x, (lastW w0 b ss).need ≤ x → x ≤ (lastW w0 b ss).most →
    ∃ xs, xs.length = ss.length ∧ servesL ss xs = true ∧ lastX xs = x ∧ runL ss xs + b * startsL xs = costAt (lastW w0 b ss) x := by
  refine snoc_ind (P := fun ss => (∀ s ∈ ss, s.Wk) → ∀ x, (lastW w0 b ss).need ≤ x → x ≤ (lastW w0 b ss).most →
    ∃ xs, xs.length = ss.length ∧ servesL ss xs = true ∧ lastX xs = x ∧ runL ss xs + b * startsL xs = costAt (lastW w0 b ss) x) ?_ ?_ ss
  · intro _ x h1 h2
    have h1 : 0 ≤ x := h1
    have h2 : x ≤ 0 := h2
    refine ⟨[], rfl, rfl, by show (0 : Int) = x; omega, ?_⟩
    show (0 : Int) + b * 0 = costAt w0 x
    unfold costAt w0
    simp
  · intro ss s ih hw x h1 h2
    have hs := hw s (by simp)
    have hws : ∀ x ∈ ss, x.Wk := fun x hx => hw x (List.mem_append_left _ hx)
    have W := lastW_wk hb ss hws
    obtain ⟨_, n1, n2⟩ := after_wk hb W hs
    rw [lastW_snoc, n1] at h1
    rw [lastW_snoc, n2] at h2
    obtain ⟨y, y1, y2, y3⟩ := held_reach (b := b) x W hb
    obtain ⟨row, r1, r2, r3, r4⟩ := ih hws y y1 y2
    refine ⟨row ++ [x], by simp [r1], ?_, lastX_snoc _ _, ?_⟩
    · rw [servesL_snoc r1, r2, Bool.true_and]
      exact fit_iff.mpr ⟨h1, h2⟩
    · have c := after_cost (b := b) W.len hs.len (x - s.need).toNat (by omega)
      rw [show s.need + ((x - s.need).toNat : Int) = x by omega] at c
      rw [lastW_snoc, runL_snoc r1, startsL_snoc, r3, c, y3, ← r4, Int.mul_add]
      omega
/-- the least cost is the least of all rows -/
theorem least_rows {b : Int} (hb : 0 ≤ b) {ss : List Slt} (hw : ∀ s ∈ ss, s.Wk) {m : Int} (h1 : m ∈ (allRows ss).map fun xs => runL ss xs + b * startsL xs)
    (h2 : ∀ y ∈ (allRows ss).map (fun xs => runL ss xs + b * startsL xs), m ≤ y) : m = leastW (lastW w0 b ss) := by
  have W := lastW_wk hb ss hw
  have li := lowW_in W
  apply Int.le_antisymm
  · obtain ⟨xs, r1, r2, _, r4⟩ := rows_reach hb ss hw (lowW (lastW w0 b ss)) li.1 li.2
    have := h2 _ (List.mem_map.mpr ⟨xs, (rows_mem ss xs).mpr ⟨r1, r2⟩, rfl⟩)
    rw [r4] at this
    exact this
  · obtain ⟨xs, hx, rfl⟩ := List.mem_map.mp h1
    obtain ⟨r1, r2⟩ := (rows_mem ss xs).mp hx
    obtain ⟨a1, a2, a3⟩ := rows_lower hb ss hw xs r1 r2
    have := least_le W a1 a2
    omega
/-! ### plain slots: the least cost by layers -/
theorem plain_wk {n top : Int} (h0 : 0 ≤ n) (h : n ≤ top) (h2 : top - n ≤ 1000) : (plainW n top 1).Wk :=
  ⟨plainW_len h h2, h0, List.pairwise_replicate.mpr (.inr (Int.le_refl 1))⟩
theorem plain_slope {n top x : Int} (h1 : n ≤ x) (h2 : x < top) : (plainW n top 1).slopes.getD (x - n).toNat 0 = 1 := by
  show (List.replicate (top - n).toNat 1).getD _ 0 = 1
  rw [List.getD_eq_getElem?_getD, List.getElem?_replicate, if_pos (by omega)]
  rfl
theorem plain_cost {n top : Int} : costAt (plainW n top 1) n = n := by
  unfold costAt
  show n * 1 + _ = n
  rw [show (n - (plainW n top 1).need).toNat = 0 by show (n - n).toNat = 0; omega]
  simp
def plainS (ns : List Int) (top : Int) : List Slt := ns.map fun n => plainW n top 1
/-- the step of a layer: idle ticks behind its last need, at most b -/
def idleB (ns : List Int) (b : Int) (t : Nat) (k : Int) : Int :=
  match (onL ns k t).getLast? with
  | some p => min ((t : Int) - 1 - p) b
  | none => b
structure PlOk (ns : List Int) (top b : Int) (t : Nat) (D : Slt) : Prop where
  wk : D.Wk
  most : 0 < t → D.most = top
  step : ∀ x, 0 ≤ x → x < top → stH D b x = idleB ns b t (x + 1)
  least : leastW D = layC ns b t
theorem held_sum {D : Slt} {b : Int} (h : D.Len) (f : Int → Int) (top : Int) (hs : ∀ x, 0 ≤ x → x < top → stH D b x = f (x + 1)) : ∀ n : Nat, (n : Int) ≤ top → heldWorth D b n = heldWorth D b 0 + sumK f 0 n
  | 0, _ => by simp [sumK]
  | n + 1, hn => by
    have ih := held_sum h f top hs n (by omega)
    have g : (((n + 1 : Nat) : Int)) = (n : Int) + 1 := by omega
    rw [g, held_step h, ih, hs n (by omega) (by omega)]
    show _ = heldWorth D b 0 + (sumK f 0 n + f (0 + 1 + n))
    rw [show (0 : Int) + 1 + n = (n : Int) + 1 by omega]
    omega
theorem top_on {ns : List Int} {k : Int} (hk : 1 ≤ k) : ∀ u, k ≤ topV ns u → ∃ i, i < u ∧ k ≤ nd ns i
  | 0, h => absurd h (by show ¬ k ≤ 0; omega)
  | u + 1, h => by
    have h : k ≤ max (topV ns u) (nd ns u) := h
    by_cases q : k ≤ nd ns u
    · exact ⟨u, by omega, q⟩
    · obtain ⟨i, i1, i2⟩ := top_on (ns := ns) hk u (by omega)
      exact ⟨i, by omega, i2⟩
theorem idle_split {ns : List Int} {b : Int} {t : Nat} (ht : t ≤ ns.length) {k : Int} (hk : 1 ≤ k) : idleB ns b t k = gS ns b t (stkV ns t) k + if topV ns t < k then b else 0 := by
  have O := stk_ok (ns := ns) t ht
  have e := O.last k
  unfold idleB gS
  cases hf : (stkV ns t).find? fun s => decide (k ≤ nd ns s) with
  | none =>
    rw [hf] at e
    rw [e]
    dsimp only [Option.map_none]
    have : topV ns t < k := by
      by_cases q : topV ns t < k
      · exact q
      · obtain ⟨i, i1, i2⟩ := top_on (ns := ns) hk t (by omega)
        have m : (i : Int) ∈ onL ns k t := by
          unfold onL
          exact List.mem_map.mpr ⟨i, List.mem_filter.mpr ⟨List.mem_range.mpr i1, decide_eq_true i2⟩, rfl⟩
        rw [List.getLast?_eq_none_iff.mp e] at m
        simp at m
    rw [if_pos this]
    omega
  | some p =>
    rw [hf] at e
    rw [e]
    dsimp only [Option.map_some]
    have h1 : k ≤ nd ns p := by simpa using List.find?_some hf
    have h2 := O.lt p (List.mem_of_find?_eq_some hf)
    have h3 := top_ge (ns := ns) t p h2
    rw [if_neg (by omega), Int.add_zero]
    congr 1
    omega
theorem sum_top {b T n : Int} (hT : 0 ≤ T) (hn : 0 ≤ n) : sumK (fun k => if T < k then b else 0) 0 n.toNat = b * (max T n - T) := by
  by_cases h : n ≤ T
  · rw [sumK_zero fun k h1 h2 => by rw [if_neg (by omega)], show max T n - T = 0 by omega]
    simp
  · rw [show n.toNat = T.toNat + (n - T).toNat by omega, sumK_add, sumK_zero (lo := 0) fun k h1 h2 => by rw [if_neg (by omega)]]
    rw [sumK_congr (g := fun _ => b) fun k h1 h2 => by rw [if_pos (by omega)], sumK_const]
    rw [show max T n - T = ((n - T).toNat : Int) by omega]
    omega
theorem plain_ok {ns : List Int} {top b : Int} (hb : 0 ≤ b) (h0 : ∀ i, 0 ≤ nd ns i) (ht : ∀ i, nd ns i ≤ top) (hw : top ≤ 1000) : ∀ t, t ≤ ns.length → PlOk ns top b t (lastW w0 b (plainS (ns.take t) top))
  | 0, _ => by
    refine ⟨w0_wk, fun h => by omega, fun x hx _ => ?_, ?_⟩
    · have e : idleB ns b 0 (x + 1) = b := by simp [idleB, onL]
      rw [e]
      show stH w0 b x = b
      unfold stH
      rw [if_neg (by show ¬ x < 0; omega), if_neg (by show ¬ x < 0; omega)]
    · have e : layC ns b 0 = 0 := by simp [layC, topV, gapsC, sumK]
      rw [e]
      rfl
  | t + 1, hl => by
    have ih := plain_ok hb h0 ht hw t (by omega)
    have hx : ns[t]? = some (nd ns t) := nd_at (by omega)
    have n0 := h0 t
    have nt := ht t
    have e1 : plainS (ns.take (t + 1)) top = plainS (ns.take t) top ++ [plainW (nd ns t) top 1] := by
      unfold plainS
      rw [List.take_add_one, hx, List.map_append]
      rfl
    rw [e1, lastW_snoc]
    generalize lastW w0 b (plainS (ns.take t) top) = D at ih
    have P := plain_wk n0 nt (by omega)
    obtain ⟨W, n1, n2⟩ := after_wk hb ih.wk P
    have n1 : (afterW D (plainW (nd ns t) top 1) b).need = nd ns t := n1
    have n2 : (afterW D (plainW (nd ns t) top 1) b).most = top := n2
    have sl : ∀ x, nd ns t ≤ x → x < top → (afterW D (plainW (nd ns t) top 1) b).slopes.getD (x - nd ns t).toNat 0 = 1 + stH D b x := by
      intro x h1 h2
      have := after_slope (b := b) ih.wk.len P.len (x := x) h1 h2
      rw [show (plainW (nd ns t) top 1).need = nd ns t from rfl, plain_slope h1 h2] at this
      exact this
    refine ⟨W, fun _ => n2, fun x h1 h2 => ?_, ?_⟩
    · unfold stH
      rw [n1, n2]
      by_cases q : x < nd ns t
      · rw [if_pos q]
        unfold idleB
        rw [onL_yes hx (by omega), List.getLast?_append]
        dsimp only [List.getLast?_singleton, Option.or]
        omega
      · rw [if_neg q, if_pos h2, sl x (by omega) h2, ih.step x h1 h2]
        unfold idleB
        rw [onL_no hx (by omega)]
        cases hp : (onL ns (x + 1) t).getLast? with
        | none =>
          dsimp only
          unfold clampZ
          rw [mn_eq, mx_eq]
          omega
        | some p =>
          dsimp only
          obtain ⟨a, rfl, h4, _⟩ := onL_lt (by omega) hp
          unfold clampZ
          rw [mn_eq, mx_eq]
          omega
    · have low : lowW (afterW D (plainW (nd ns t) top 1) b) = nd ns t := by
        have li := lowW_in W
        rw [n1, n2] at li
        by_cases q : lowW (afterW D (plainW (nd ns t) top 1) b) = nd ns t
        · exact q
        · have l := (low_iff W (x := nd ns t) (by omega) (by omega)).mp (by omega)
          rw [n1, sl _ (Int.le_refl _) (by omega)] at l
          have := stH_bd (s := D) (x := nd ns t) hb
          omega
      have c := after_cost (b := b) ih.wk.len P.len 0 (by show nd ns t + _ ≤ top; omega)
      simp only [Int.natCast_zero, Int.add_zero] at c
      rw [show (plainW (nd ns t) top 1).need = nd ns t from rfl, plain_cost] at c
      unfold leastW
      rw [low, c]
      have s := held_sum ih.wk.len (idleB ns b t) top ih.step (nd ns t).toNat (by omega)
      rw [Int.toNat_of_nonneg n0] at s
      have z := held_low (x := 0) ih.wk hb (by have := (lowW_in ih.wk).1; have := ih.wk.lo; omega)
      rw [s, z, ih.least]
      rw [sumK_congr (g := fun k => gS ns b t (stkV ns t) k + if topV ns t < k then b else 0) fun k k1 _ => idle_split (by omega) (by omega), sumK_plus, sum_top (top_nn t) n0, ← new_cost hb h0 (by omega)]
      rw [← paid_lay hb h0 (t := t) (by omega), ← paid_lay hb h0 (t := t + 1) (by omega)]
      show _ = paidV ns b t + (nd ns t + vsC b (newV ns t)) + b * max (topV ns t) (nd ns t)
      rw [Int.mul_sub]
      omega
theorem plain_least {ns : List Int} {top b : Int} (hb : 0 ≤ b) (h0 : ∀ i, 0 ≤ nd ns i) (ht : ∀ i, nd ns i ≤ top) (hw : top ≤ 1000) : leastW (lastW w0 b (plainS ns top)) = layC ns b ns.length := by
  have := (plain_ok hb h0 ht hw ns.length (Nat.le_refl _)).least
  rw [List.take_length] at this
  exact this
end WK
namespace WK
open PySem PySem.Spec PyProof.Rows L2
/-- a row of tuples of numbers, as they stand in the heap -/
def TupW (H : Hp) (x : V) (ns : List Int) : Prop := ∃ t, x = .ref t ∧ H t = some (.tup (ns.map V.int))
inductive AllW (H : Hp) : List V → List (List Int) → Prop
  | nil : AllW H [] []
  | cons {v : V} {vs : List V} {s : List Int} {ss : List (List Int)} : TupW H v s → AllW H vs ss → AllW H (v :: vs) (s :: ss)
theorem AllW.same {H H' : Hp} (e : Same H H') : ∀ {vs : List V} {ss : List (List Int)}, AllW H vs ss → AllW H' vs ss
  | _, _, .nil => .nil
  | _, _, .cons ⟨t, q, h⟩ b => .cons ⟨t, q, e _ _ h⟩ (AllW.same e b)
theorem AllW.upd {H : Hp} {a : Addr} {xs : List V} {o : HO} (ha : H a = some (.lst xs)) : ∀ {vs : List V} {ss : List (List Int)}, AllW H vs ss → AllW (upd H a o) vs ss
  | _, _, .nil => .nil
  | _, _, .cons ⟨t, e, h⟩ b => .cons ⟨t, e, by rw [upd_ne (ne_of h ha (by intro z; cases z))]; exact h⟩ (AllW.upd ha b)
theorem AllW.len {H : Hp} : ∀ {vs : List V} {ss : List (List Int)}, AllW H vs ss → vs.length = ss.length
  | _, _, .nil => rfl
  | _, _, .cons _ b => congrArg (· + 1) (AllW.len b)
theorem AllW.snoc {H : Hp} : ∀ {vs : List V} {ss : List (List Int)} {v : V} {s : List Int}, AllW H vs ss → TupW H v s → AllW H (vs ++ [v]) (ss ++ [s])
  | _, _, _, _, .nil, h => .cons h .nil
  | _, _, _, _, .cons a b, h => .cons a (AllW.snoc b h)
theorem AllW.app {H : Hp} : ∀ {vs ws : List V} {ss ts : List (List Int)}, AllW H vs ss → AllW H ws ts → AllW H (vs ++ ws) (ss ++ ts)
  | _, _, _, _, .nil, h => h
  | _, _, _, _, .cons a b, h => .cons a (AllW.app b h)
theorem AllW.get {H : Hp} : ∀ {vs : List V} {ss : List (List Int)} {i : Nat} {v : V}, AllW H vs ss → vs[i]? = some v → ∃ s, ss[i]? = some s ∧ TupW H v s
  | _, _, _, _, .nil, e => by simp at e
  | _, _, 0, v, .cons a _, e => by
    have e : _ = v := Option.some.inj e
    subst e
    exact ⟨_, rfl, a⟩
  | _, _, i + 1, v, .cons _ b, e => AllW.get (i := i) b e
end WK
namespace WK
open PySem PySem.Spec PyProof.Rows L2
/-- needs of the document, long rows -/
structure Ndw (ns : List Int) : Prop where
  len : ns.length ≤ 1000
  pos : ∀ z ∈ ns, 0 ≤ z ∧ z ≤ 1000000000
theorem Ndw.nd {ns : List Int} (h : Ndw ns) (i : Nat) : 0 ≤ nd ns i ∧ nd ns i ≤ 1000000000 := by
  unfold WK.nd
  rw [List.getD_eq_getElem?_getD]
  cases e : ns[i]? with
  | none => simp
  | some z => exact h.pos z (List.mem_of_getElem? e)
theorem top_leW {ns : List Int} (hN : Ndw ns) : ∀ t, topV ns t ≤ 1000000000
  | 0 => by show (0 : Int) ≤ _; decide
  | t + 1 => by
    have h1 := top_leW hN t
    have h2 := (hN.nd t).2
    show max _ _ ≤ _
    omega
def spLayCostW (K : PySem.W.Frag) : Sp := fun vs H Q _ => ∃ (t : Addr) (ns : List Int) (b : Int), vs = [.ref t, .int b] ∧ H t = some (.tup (ns.map V.int)) ∧ Ndw ns ∧ 0 ≤ b ∧
  ∀ H', Same H H' → Q (.int (layC ns b ns.length)) H'
theorem gsum_bd {b : Int} (hb : 0 ≤ b) : ∀ {l : List (Int × Int)}, (∀ g ∈ l, 0 ≤ g.2) → 0 ≤ gsum b l ∧ gsum b l ≤ b * l.length
  | [], _ => by simp [gsum]
  | g :: l, h => by
    have a := gsum_bd hb fun x hx => h x (List.mem_cons_of_mem _ hx)
    have c := h g (by simp)
    have e : gsum b (g :: l) = min g.2 b + gsum b l := by simp [gsum]
    rw [e, List.length_cons, Int.natCast_add, Int.mul_add]
    simp only [Int.natCast_one, Int.mul_one]
    omega
theorem sumK_bd {f : Int → Int} {lo M : Int} : ∀ {m : Nat}, (∀ k, 0 ≤ f k ∧ f k ≤ M) → 0 ≤ sumK f lo m ∧ sumK f lo m ≤ M * m
  | 0, _ => by simp [sumK]
  | m + 1, h => by
    have a := sumK_bd (lo := lo) (m := m) h
    have c := h (lo + 1 + m)
    unfold sumK
    rw [Int.natCast_add, Int.mul_add]
    simp only [Int.natCast_one, Int.mul_one]
    omega
theorem lay_small {ns : List Int} (hN : Ndw ns) {b : Int} (hb : 0 ≤ b) (hb2 : b ≤ 1000000000) : (layC ns b ns.length).natAbs < 10 ^ 150 := by
  have hl := hN.len
  have t0 := top_nn (ns := ns) ns.length
  have t1 := top_leW hN ns.length
  have s : ∀ i, i ≤ ns.length → 0 ≤ (ns.take i).sum ∧ (ns.take i).sum ≤ 1000000000 * i := by
    intro i
    induction i with
    | zero => intro _; simp
    | succ i ih =>
      intro hi
      rw [take_nd (by omega)]
      have := ih (by omega)
      have := hN.nd i
      omega
  have s1 := s ns.length (Nat.le_refl _)
  have g : 0 ≤ gapsC ns b ns.length ∧ gapsC ns b ns.length ≤ (b * 1000) * (topV ns ns.length).toNat := by
    unfold gapsC
    refine sumK_bd fun k => ?_
    have q : ∀ g ∈ pairsL (onL ns k ns.length) ((onL ns k ns.length).length - 1), 0 ≤ g.2 := by
      rw [gapR_is (Nat.le_refl _)]
      intro g hg
      obtain ⟨_, _, _, h⟩ := (gapR_key (Nat.le_refl _)).2 g hg
      exact h
    have c := gsum_bd hb q
    have l1 := pairsL_len (os := onL ns k ns.length) (i := (onL ns k ns.length).length - 1)
    have l2 := onL_len (ns := ns) (k := k) (i := ns.length)
    refine ⟨c.1, Int.le_trans c.2 (Int.mul_le_mul_of_nonneg_left (by omega) hb)⟩
  have g2 : (b * 1000) * ((topV ns ns.length).toNat : Int) ≤ (1000000000 * 1000) * 1000000000 := Int.mul_le_mul (by omega) (by omega) (by omega) (by decide)
  have g3 : b * topV ns ns.length ≤ 1000000000 * 1000000000 := Int.mul_le_mul hb2 t1 t0 (by decide)
  have g4 : 0 ≤ b * topV ns ns.length := Int.mul_nonneg hb t0
  have e : (10000000000000000000000000 : Nat) < 10 ^ 150 := by decide +kernel
  unfold layC
  omega
theorem rows_lens (ss : List Slt) : ∀ xs ∈ allRows ss, xs.length = ss.length := fun xs h => ((rows_mem ss xs).mp h).1
theorem rows_len (ss : List Slt) : (∀ s ∈ ss, s.most - s.need ≤ 3) → (allRows ss).length ≤ 4 ^ ss.length := by
  refine snoc_ind (P := fun ss => (∀ s ∈ ss, s.most - s.need ≤ 3) → (allRows ss).length ≤ 4 ^ ss.length) (fun _ => Nat.le_refl 1) (fun ss s ih h => ?_) ss
  have a := ih fun x hx => h x (List.mem_append_left _ hx)
  have c := h s (by simp)
  rw [allRows_snoc, List.length_append, List.length_singleton, Nat.pow_succ]
  have key : ∀ l : List (List Int), (rowsAfter l s).length ≤ l.length * 4 := by
    intro l
    induction l with
    | nil => simp [rowsAfter]
    | cons r l ih =>
      unfold rowsAfter at ih ⊢
      rw [List.flatMap_cons, List.length_append, List.length_map, List.length_cons]
      have : (numsL s (widthN s)).length ≤ 4 := by
        unfold numsL widthN
        rw [List.length_map, List.length_range]
        omega
      omega
  have := key (allRows ss)
  omega
def spAllRows (K : PySem.W.Frag) : Sp := fun vs H Q _ => ∃ (a : Addr) (ws : List V) (ss : List Slt), vs = [.ref a] ∧ H a = some (.tup ws) ∧ SltsAt H ws ss ∧ ss.length ≤ 5 ∧ (∀ s ∈ ss, 0 ≤ s.need ∧ s.most ≤ 1000 ∧ s.most - s.need ≤ 3 ∧ s.need ≤ s.most) ∧
  ∀ H' g us, Same H H' → H g = none → H' g = some (.lst us) → AllW H' us (allRows ss) → Q (.ref g) H'
theorem numsL_succ {s : Slt} {n : Nat} : numsL s (n + 1) = numsL s n ++ [s.need + (n : Int)] := by
  unfold numsL
  rw [List.range_succ, List.map_append]
  rfl
end WK
namespace WK
open PySem PySem.Spec PyProof.Rows L2
theorem AllT.app {K : PySem.W.Frag} {H : Hp} : ∀ {vs ws : List V} {ss ts : List (List Int)}, AllT K H vs ss → AllT K H ws ts → AllT K H (vs ++ ws) (ss ++ ts)
  | _, _, _, _, .nil, h => h
  | _, _, _, _, .cons a b, h => .cons a (AllT.app b h)
end WK
namespace WK
open PySem PySem.Spec PyProof.Rows L2
theorem slts_k {K : PySem.W.Frag} {H : Hp} : ∀ {vs : List V} {ss : List Slt}, SltsAt H vs ss → SltsK K H vs ss
  | _, _, .nil => .nil
  | _, _, .cons a b => .cons (SltK.of a) (slts_k b)
theorem ok_wk {s : Slt} {m b f : Int} (h : s.Ok m b f) (hw : s.most - s.need ≤ 1000) : s.Wk := ⟨⟨h.len, h.mid, hw⟩, h.lo, h.asc⟩
theorem nums_all {ss : List Slt} {xs : List Int} (h : xs ∈ allRows ss) {M : Int} (hm : ∀ s ∈ ss, 0 ≤ s.need ∧ s.most ≤ M) : ∀ x ∈ xs, 0 ≤ x ∧ x ≤ M := by
  obtain ⟨h1, h2⟩ := (rows_mem ss xs).mp h
  intro x hx
  obtain ⟨i, hi, e⟩ := List.getElem_of_mem hx
  have hs : ss[i]? = some ss[i] := List.getElem?_eq_getElem (by omega)
  have f := fit_iff.mp (serves_at h2 hs (List.getElem?_eq_getElem hi))
  have m := hm _ (List.mem_of_getElem? hs)
  rw [e] at f
  omega
theorem price_small {ss : List Slt} {b : Int} {xs : List Int} (hl : ss.length ≤ 5) (hok : ∀ s ∈ ss, s.Ok 3 8 (3 + 8 * 3)) (b0 : 1 ≤ b) (b1 : b ≤ 6) (h : xs ∈ allRows ss) : (runL ss xs + b * startsL xs).natAbs < 10 ^ 150 := by
  have h1 := rows_lens ss xs h
  have n := nums_all h (M := 3) fun s hs => ⟨(hok s hs).lo, (hok s hs).hi⟩
  have w : within 3 xs := fun x hx => by have := n x hx; omega
  have s := startsL_b w (by decide)
  have r := runL_b (B := 27 + 8 * 1000) (ss := ss) (xs := xs) (fun s hs x => by
    have o := hok s hs
    exact cost_b o (by have := o.hi; have := o.lo; omega) (by decide) x) h1
  have e : (10000000 : Nat) < 10 ^ 150 := by decide +kernel
  have sb : startsL xs ≤ 30 ∧ -30 ≤ startsL xs := by omega
  have p1 : b * startsL xs ≤ 6 * 30 := by
    by_cases q : 0 ≤ startsL xs
    · exact Int.mul_le_mul b1 sb.1 q (by decide)
    · have : b * startsL xs ≤ 0 := Int.mul_nonpos_of_nonneg_of_nonpos (by omega) (by omega)
      omega
  have p2 : -(6 * 30) ≤ b * startsL xs := by
    have : b * (-startsL xs) ≤ 6 * 30 := by
      by_cases q : 0 ≤ -startsL xs
      · exact Int.mul_le_mul b1 (by omega) q (by decide)
      · have : b * (-startsL xs) ≤ 0 := Int.mul_nonpos_of_nonneg_of_nonpos (by omega) (by omega)
        omega
    rw [Int.mul_neg] at this
    omega
  omega
end WK
namespace WK
open PySem PySem.Spec PyProof.Rows L2
theorem plainS_at {ns : List Int} {top : Int} {j : Nat} {z : Int} (h : ns[j]? = some z) : plainS (ns.take (j + 1)) top = plainS (ns.take j) top ++ [plainW z top 1] := by
  unfold plainS
  rw [List.take_add_one, h, List.map_append]
  rfl
theorem plainS_len {ns : List Int} {top : Int} : (plainS ns top).length = ns.length := List.length_map ..
end WK
set_option Elab.async false
set_option linter.all false
set_option maxRecDepth 100000
namespace WK
open PySem PySem.Spec PyProof.Rows L2
/-! ### max of a tuple -/
def rMaxT (K : PySem.W.Frag) : List V → Hp → VK → Prop := fun vs H Q => ∃ (a : Addr) (ns : List Int), vs = [V.ref a] ∧ SqT K H a (ns.map V.int) ∧ 0 < ns.length ∧ ∀ m, m ∈ ns → (∀ y, y ∈ ns → y ≤ m) → Q (.int m) H
theorem cr_maxT {X : Cx} (hc : X.calm = true) : CallR X (.builtin "max") (rMaxT X.K) := by
  rintro pins s σ H vs us Q I r ⟨a, ns, rfl, hs, hne, q⟩
  obtain ⟨its, rv, tp, _⟩ := I.tuple hs
  rw [Vals.ref1 r]
  have hi := rv.ints
  obtain ⟨xs, e⟩ := hi.allInts.items
  have hn : numsOf (intItems xs).toList = ns := by
    rw [← e]
    exact hi.numsOf
  rw [nums_intItems] at hn
  rw [e] at tp
  have tp' : s.heap.IsTuple a (intItems xs) := tp
  have lt : a < s.heap.objs.size := by
    obtain ⟨_, g, _⟩ := tp
    exact Heap.lt_size g
  subst hn
  have hsz : 0 < xs.size := by simpa using hne
  refine call_max_walk (wpAny_pyIter_tuple tp' ?_)
  refine ⟨s.heap.objs.size, [s.heap.objs.size, a], [s.heap.objs.size], _, _, _, _, rfl,
    Walks.tuple (A := X.A.in1) (I.ok.hd hc) s.heap.objs.size a (Nat.ne_of_lt lt) (intItems xs),
    ⟨⟨_, Heap.get?_push_size _ rfl, rfl, rfl⟩, tp'.push _⟩, ?_, by simpa [intItems] using hsz, CmpOf.ints_gt (numAt xs) (fun i v hv => ?_), fun v h' tk hP hk => ?_⟩
  · intro b hb
    show b < (s.heap.push _).objs.size
    rw [Heap.size_push]
    rcases List.mem_cons.mp hb with z | z
    · rw [z]; exact Nat.lt_succ_self _
    · rw [List.mem_singleton.mp z]; exact Nat.lt_succ_of_lt lt
  · exact intItems_at hv
  · have k : ∀ b o, s.heap.get? b = some o → h'.get? b = some o := by
      intro b o x
      refine hk b o (fun z => ?_) (Heap.get?_push_of_some _ x)
      rw [List.mem_singleton.mp z] at x
      exact absurd (Heap.lt_size x) (Nat.lt_irrefl _)
    obtain ⟨t, rfl⟩ := intItems_at hP
    have e2 : (intItems xs).size = xs.size := by simp [intItems]
    obtain ⟨h1, h2⟩ := argBest_gt (numAt xs) ((intItems xs).size - 1)
    rw [e2] at h1 h2
    refine ⟨.int _, H, I.kept k, ⟨t, rfl⟩, q _ ?_ fun a ha => ?_⟩
    · rw [e2, numAt_eq]; exact PySem.getD_mem (by rw [List.length_map, Array.length_toList]; omega)
    · obtain ⟨j, hj, rfl⟩ := mem_getD ha
      rw [List.length_map, Array.length_toList] at hj
      rw [e2, ← numAt_eq]
      exact h2 j (by omega)
end WK
set_option Elab.async false
set_option linter.all false
set_option maxRecDepth 100000
set_option maxHeartbeats 4000000
namespace WK
open PySem PySem.Spec PyProof.Rows L2
/-! ### list(d.values()) -/
def valsO (p d : Addr) : HO := HO.ext fun h => h.IsValuesView p d
def rDVals : V → List V → Hp → VK → Prop := fun x vs H Q => ∃ (a : Addr) (kvs : List (Key × V)), x = .ref a ∧ vs = [] ∧ Rd H a (.dK kvs) ∧ ∀ p, H p = none → Q (.ref p) (upd H p (valsO p a))
theorem mt_dvals {X : Cx} : MtR X "dict.values" rDVals := by
  rintro pins s σ H x xs v us Q I rx rv ⟨a, kvs, rfl, rfl, hd, q⟩
  cases rx
  cases rv
  obtain ⟨hl, hm, vs, kv, dt⟩ := dk_rd I.hok hd
  refine call_meetsIn F.slot_dict_values ?_ F.entry_dict_values (F.args_dict_values_1 _) (meets_dict_values (mixKind X.prog X.w) a hm) ⟨⟨vs, dt⟩, ?_⟩
  · obtain ⟨o, es, ep, d1, d2, _⟩ := dt
    exact ⟨o, d1, d2.1⟩
  · refine ⟨.ref s.heap.objs.size, _, I.laid (t' := s.toks) (o := valsO s.heap.objs.size a) (fun b ob q => Heap.get?_push_of_some _ q) (Nat.le_refl _) ?_, rfl, q _ (I.hok.fresh (Nat.le_refl _))⟩
    exact ⟨⟨_, Heap.get?_push_size _ rfl, rfl, rfl⟩, ⟨_, Heap.get?_push_size _ rfl⟩, fun h1 h2 ⟨o, g, c, d⟩ k => ⟨o, k _ g, c, d⟩⟩
theorem kv_vals : ∀ {kvs : List (Key × V)} {vs : List (Key × Value)}, KV kvs vs → Vals (kvs.map (·.2)) (vs.map (·.2))
  | _, _, .nil => .nil
  | _, _, .cons a b => .cons a.2 (kv_vals b)
def rListV : List V → Hp → VK → Prop := fun xs H Q => ∃ (p a : Addr) (kvs : List (Key × V)), xs = [.ref p] ∧ H p = some (valsO p a) ∧ Rd H a (.dK kvs) ∧ ∀ l, H l = none → Q (.ref l) (upd H l (.lst (kvs.map (·.2))))
theorem cr_listV {X : Cx} (hc : X.calm = true) : CallR X (.type "list") rListV := by
  rintro pins s σ H xs us Q I rv ⟨p, a, kvs, rfl, hp, hd, q⟩
  rw [Vals.ref1 rv]
  obtain ⟨hl, hm, vs, kv, dt⟩ := dk_rd I.hok hd
  have hv : s.heap.IsValuesView p a := (I.hok _ _ hp).1
  obtain ⟨o, es, ep, d1, d2, d3, d4, d5, d6⟩ := dt
  refine W.kdl_call (W.kdl_values (knd := mixKind X.prog X.w) (kvs := vs) (ep := ep)) (I.ok.hd hc) ⟨hv, o, es, d1, d2, d3, d4, d5, d6⟩ ?_ (fun h' tk acc c' keep hn ha => ?_)
  · rw [← kv.length]
    exact hl
  · refine ⟨.ref s.heap.objs.size, _, I.laid (t' := tk) (o := .lst (kvs.map (·.2))) keep (Nat.le_refl _) ?_, rfl, q _ (I.hok.fresh (Nat.le_refl _))⟩
    obtain ⟨n1, n2⟩ := ha
    have hvals : Vals (kvs.map (·.2)) acc.toList := by
      have e : acc.toList = vs.map (·.2) := by
        refine List.ext_getElem? fun i => ?_
        rw [Array.getElem?_toList, List.getElem?_map]
        cases hq : acc[i]? with
        | none =>
          have : acc.size ≤ i := by simpa using hq
          rw [List.getElem?_eq_none (by omega)]
          rfl
        | some v =>
          obtain ⟨k, hk⟩ := n2 i v hq
          rw [hk]
          rfl
      rw [e]
      exact kv_vals kv
    refine ⟨?_, acc.toList, c', hvals, ?_⟩
    · rw [List.length_map]
      exact hl
    · exact hn
def tDVals0 (to : TE) : TE := fun σ H Q => to σ H fun x H1 => rDVals x [] H1 Q
theorem pe_dvals0 {X : Cx} {o : Expr} {to : TE} {apos cpos : Pos} (h : PE X o to) (hb : attributeBase o (Str.ofString "values") X.env (eval o X.env) = eval o X.env := by rfl) (hline : (apos.endLine == cpos.line) = true := by rfl) : PE X ((o.Attribute (Str.ofString "values") apos).Call [] [] cpos) (tDVals0 to) := by
  refine ⟨fun pins s σ H Q I ht => ?_⟩
  refine wpAny_Call_method0_late hb hline (thn (h.run pins s σ H _ I ht) ?_)
  rintro v s1 ⟨x, H1, I1, rv, hr⟩
  have hr2 := hr
  obtain ⟨a, kvs, rfl, _, hd, q⟩ := hr
  obtain ⟨hl, hm, vs, kv, dt⟩ := dk_rd I1.hok hd
  obtain ⟨o, es, ep, d1, d2, _⟩ := dt
  cases rv
  refine ⟨"dict", "dict.values", PySem.F.plainAttrs_dict, PySem.F.slot_dict_values, PySem.F.type_dict_values, ⟨o, d1, d2.1⟩, fun b e => ?_, ?_⟩
  · cases e
    exact ⟨o, d1, d2.2.1⟩
  · refine Calls.callWith_builtin rfl (PySem.evalArgs_none ?_)
    exact mt_dvals pins s1 σ H1 (.ref a) [] _ _ Q I1 rfl .nil hr2
end WK
set_option Elab.async false
set_option linter.all false
set_option maxRecDepth 100000
namespace WK
open PySem PySem.Spec PyProof.Rows L2
/-! ### works by hand -/
theorem least_nil {m n f : Int} : leastW ⟨m, n, f, []⟩ = f := by
  unfold leastW costAt
  simp
theorem after_pt {m n f g b : Int} : afterW ⟨m, m, g, []⟩ ⟨n, n, f, []⟩ b = ⟨n, n, f + (g + b * max 0 (n - m)), []⟩ := by
  have e : ¬ mx n n > mn n n := by rw [mx_eq, mn_eq]; omega
  unfold afterW sumW heldW
  simp only [if_neg e, Option.getD_some]
  have e1 : mx n n = n := by rw [mx_eq]; omega
  have e2 : mn n n = n := by rw [mn_eq]; omega
  rw [e1, e2]
  have e3 : costAt ⟨n, n, f, []⟩ n = f := by unfold costAt; simp
  have e4 : costAt ⟨n, n, heldWorth ⟨m, m, g, []⟩ b n, heldSlopes ⟨m, m, g, []⟩ b n n⟩ n = g + b * max 0 (n - m) := by
    unfold costAt heldWorth
    rw [least_nil, mx_eq]
    simp [clampL]
  rw [e3, e4]
  congr 1
  unfold addL winL
  simp
theorem after_idle0 {g b : Int} : afterW ⟨1, 1, g, []⟩ ⟨0, 1, 0, [1]⟩ b = ⟨0, 1, g, [1]⟩ := by
  have hs : heldSlopes ⟨1, 1, g, []⟩ b 0 1 = [0] := by
    simp [heldSlopes, heldMid, clampL, mx, mn]
  have hw : heldWorth ⟨1, 1, g, []⟩ b 0 = g := by
    unfold heldWorth
    rw [least_nil]
    simp [clampL, mx]
  unfold afterW sumW heldW
  simp only [hs, hw]
  simp [mx, mn, costAt, addL, winL]
theorem least_up {m n f : Int} {l : List Int} (h : ∀ z ∈ l, 0 ≤ z) : leastW ⟨m, n, f, l⟩ = f := by
  have e : (l.filter fun z => decide (z < 0)) = [] := by
    rw [List.filter_eq_nil_iff]
    intro z hz
    have := h z hz
    simp
    omega
  unfold leastW lowW costAt
  simp only [e]
  simp
theorem cl {c b : Int} (hc : 0 ≤ c) : mn (mx 0 c) b = min c b := by
  rw [mx_eq, mn_eq]
  omega
theorem after_idle {g b c : Int} (hc : 0 ≤ c) : afterW ⟨0, 1, g, [c]⟩ ⟨0, 1, 0, [1]⟩ b = ⟨0, 1, g, [1 + min c b]⟩ := by
  have hs : heldSlopes ⟨0, 1, g, [c]⟩ b 0 1 = [min c b] := by
    have e : clampL [c] b = [min c b] := by simp [clampL, cl hc]
    unfold heldSlopes heldMid
    simp only [e]
    simp [mx, mn]
  have hw : heldWorth ⟨0, 1, g, [c]⟩ b 0 = g := by
    unfold heldWorth
    rw [least_up (by simpa using hc)]
    simp [mx]
  unfold afterW sumW heldW
  simp only [hs, hw]
  simp [mx, mn, costAt, addL, winL]
theorem after_need {g b c : Int} (hc : 0 ≤ c) : afterW ⟨0, 1, g, [c]⟩ ⟨1, 1, 1, []⟩ b = ⟨1, 1, 1 + (g + min c b), []⟩ := by
  have e : clampL [c] b = [min c b] := by simp [clampL, cl hc]
  have hs : heldSlopes ⟨0, 1, g, [c]⟩ b 1 1 = [] := by
    unfold heldSlopes heldMid
    simp only [e]
    simp [mx, mn]
  have hw : heldWorth ⟨0, 1, g, [c]⟩ b 1 = g + min c b := by
    unfold heldWorth
    rw [least_up (by simpa using hc)]
    simp only [e]
    simp [mx]
  unfold afterW sumW heldW
  simp only [hs, hw]
  simp [mx, mn, costAt, addL, winL]
theorem after_four0 {b p : Int} : afterW w0 ⟨3, 7, 3 * p, [p, p, p, p]⟩ b = ⟨3, 7, 3 * p + 3 * b, [p + b, p + b, p + b, p + b]⟩ := by
  have hs : heldSlopes w0 b 3 7 = [b, b, b, b] := by
    simp [heldSlopes, heldMid, clampL, w0, mx, mn, List.replicate]
  have hw : heldWorth w0 b 3 = 3 * b := by
    unfold heldWorth w0
    rw [least_nil]
    simp [clampL, mx]
    omega
  unfold afterW sumW heldW
  simp only [hs, hw]
  simp [mx, mn, costAt, addL, winL]
theorem after_four {g b p : Int} (hb : 0 ≤ b) (hp : 0 ≤ p) : afterW ⟨3, 7, g, [p + b, p + b, p + b, p + b]⟩ ⟨3, 7, 3 * p, [p, p, p, p]⟩ b = ⟨3, 7, 3 * p + g, [p + b, p + b, p + b, p + b]⟩ := by
  have hs : heldSlopes ⟨3, 7, g, [p + b, p + b, p + b, p + b]⟩ b 3 7 = [b, b, b, b] := by
    have e : clampL [p + b, p + b, p + b, p + b] b = [b, b, b, b] := by
      have : min (p + b) b = b := by omega
      simp [clampL, cl (show 0 ≤ p + b by omega), this]
    unfold heldSlopes heldMid
    simp only [e]
    simp [mx, mn]
  have hw : heldWorth ⟨3, 7, g, [p + b, p + b, p + b, p + b]⟩ b 3 = g := by
    unfold heldWorth
    rw [least_up (by intro z hz; simp at hz; omega)]
    simp [mx]
  unfold afterW sumW heldW
  simp only [hs, hw]
  simp [mx, mn, costAt, addL, winL]
def p1 : Slt := ⟨1, 1, 1, []⟩
def p0 : Slt := ⟨0, 1, 0, [1]⟩
theorem gap_aux {g b : Int} (hb : 0 ≤ b) : ∀ {n : Nat} {c : Int}, 0 ≤ c → (worksW ⟨0, 1, g, [c]⟩ b (List.replicate n p0 ++ [p1])).map leastW = List.replicate n g ++ [1 + (g + min (c + n) b)]
  | 0, c, hc => by
    show [leastW (afterW ⟨0, 1, g, [c]⟩ ⟨1, 1, 1, []⟩ b)] = [1 + (g + min (c + 0) b)]
    rw [after_need hc, least_nil, Int.add_zero]
  | n + 1, c, hc => by
    show leastW (afterW ⟨0, 1, g, [c]⟩ ⟨0, 1, 0, [1]⟩ b) :: (worksW (afterW ⟨0, 1, g, [c]⟩ ⟨0, 1, 0, [1]⟩ b) b (List.replicate n p0 ++ [p1])).map leastW = g :: (List.replicate n g ++ [1 + (g + min (c + ((n + 1 : Nat) : Int)) b)])
    rw [after_idle hc, gap_aux hb (show 0 ≤ 1 + min c b by omega), least_up (by intro z hz; simp at hz; omega)]
    have e : min (1 + min c b + (n : Int)) b = min (c + ((n + 1 : Nat) : Int)) b := by omega
    rw [e]
theorem gap_all {b : Int} (hb : 0 ≤ b) {n : Nat} : (worksW w0 b (p1 :: (List.replicate (n + 1) p0 ++ [p1]))).map leastW = List.replicate (n + 1 + 1) (b + 1) ++ [b + 2 + min ((n + 1 : Nat) : Int) b] := by
  have e1 : afterW w0 p1 b = ⟨1, 1, b + 1, []⟩ := by
    show afterW ⟨0, 0, 0, []⟩ ⟨1, 1, 1, []⟩ b = _
    rw [after_pt, show max (0 : Int) (1 - 0) = 1 from by decide]
    congr 1
    omega
  show leastW (afterW w0 p1 b) :: leastW (afterW (afterW w0 p1 b) ⟨0, 1, 0, [1]⟩ b) :: (worksW (afterW (afterW w0 p1 b) ⟨0, 1, 0, [1]⟩ b) b (List.replicate n p0 ++ [p1])).map leastW = _
  rw [e1, after_idle0, gap_aux hb (by decide), least_nil, least_up (by intro z hz; simp at hz; omega)]
  have e : 1 + (b + 1 + min (1 + (n : Int)) b) = b + 2 + min ((n + 1 : Nat) : Int) b := by omega
  rw [e]
  rfl
def p4 (p : Int) : Slt := ⟨3, 7, 3 * p, [p, p, p, p]⟩
theorem many_aux {b p : Int} (hb : 0 ≤ b) (hp : 0 ≤ p) : ∀ {n : Nat} {g : Int}, lastW ⟨3, 7, g, [p + b, p + b, p + b, p + b]⟩ b (List.replicate n (p4 p)) = ⟨3, 7, 3 * p * n + g, [p + b, p + b, p + b, p + b]⟩
  | 0, g => by
    show (⟨3, 7, g, [p + b, p + b, p + b, p + b]⟩ : Slt) = _
    rw [show 3 * p * ((0 : Nat) : Int) + g = g by simp]
  | n + 1, g => by
    show lastW (afterW ⟨3, 7, g, [p + b, p + b, p + b, p + b]⟩ ⟨3, 7, 3 * p, [p, p, p, p]⟩ b) b (List.replicate n (p4 p)) = _
    rw [after_four hb hp, many_aux hb hp]
    have e : 3 * p * (n : Int) + (3 * p + g) = 3 * p * ((n + 1 : Nat) : Int) + g := by
      rw [Int.natCast_add, Int.mul_add]
      omega
    rw [e]
theorem many_all {b p : Int} (hb : 0 ≤ b) (hp : 0 ≤ p) {n : Nat} : leastW (lastW w0 b (List.replicate (n + 1) (p4 p))) = 3 * b + 3 * p * ((n + 1 : Nat) : Int) := by
  show leastW (lastW (afterW w0 ⟨3, 7, 3 * p, [p, p, p, p]⟩ b) b (List.replicate n (p4 p))) = _
  rw [after_four0, many_aux hb hp, least_up (by intro z hz; simp at hz; omega)]
  rw [Int.natCast_add, Int.mul_add]
  omega
/-! ### how works are printed -/
def sltD (s : Slt) : PyData := .tuple [.int s.need, .int s.most, .int s.first, .tuple (intsD s.slopes)]
theorem dp_slt {K : PySem.W.Frag} {H : Hp} {v : V} {s : Slt} (h : SltK K H v s) : Dp K H v (sltD s) := by
  obtain ⟨t, u, rfl, a, b⟩ := h
  exact .tup a (.cons (.int _) (.cons (.int _) (.cons (.int _) (.cons (.tup b (dp_ints _)) .nil))))
theorem dp_slts {K : PySem.W.Frag} {H : Hp} : ∀ {vs : List V} {ss : List Slt}, SltsK K H vs ss → DpAll K H vs (ss.map sltD)
  | _, _, .nil => .nil
  | _, _, .cons a b => .cons (dp_slt a) (dp_slts b)
end WK
namespace WK
open PySem PySem.Spec PyProof.Rows L2
def sU : Slt := ⟨2, 2, 6, []⟩
def sDn : Slt := ⟨0, 0, 5, []⟩
theorem ud_works {b : Int} : worksW w0 b [sU, sDn, sU] = [⟨2, 2, 6 + 2 * b, []⟩, ⟨0, 0, 11 + 2 * b, []⟩, ⟨2, 2, 17 + 4 * b, []⟩] := by
  have m1 : max (0 : Int) (2 - 0) = 2 := by decide
  have m2 : max (0 : Int) (0 - 2) = 0 := by decide
  simp only [worksW, w0, sU, sDn, after_pt, m1, m2]
  have h1 : (6 : Int) + (0 + b * 2) = 6 + 2 * b := by omega
  have h2 : (5 : Int) + (6 + (0 + b * 2) + b * 0) = 11 + 2 * b := by omega
  have h3 : (6 : Int) + (5 + (6 + (0 + b * 2) + b * 0) + b * 2) = 17 + 4 * b := by omega
  rw [h3, h2, h1]
theorem ud_least {b : Int} : leastW (lastW w0 b [sU, sDn, sU, sDn, sU, sDn]) = 33 + 6 * b := by
  have m1 : max (0 : Int) (2 - 0) = 2 := by decide
  have m2 : max (0 : Int) (0 - 2) = 0 := by decide
  simp only [lastW, List.foldl, w0, sU, sDn, after_pt, m1, m2, least_nil]
  omega
theorem far_works {b f g : Int} (hf : 0 ≤ f) : worksW w0 b [⟨f, f, g, []⟩] = [⟨f, f, g + f * b, []⟩] := by
  simp only [worksW, w0, after_pt]
  have h : g + (0 + b * max 0 (f - 0)) = g + f * b := by
    rw [show max (0 : Int) (f - 0) = f by omega, Int.mul_comm b f, Int.zero_add]
  rw [h]
theorem far_least {b f g : Int} (hf : 0 ≤ f) : leastW (lastW w0 b [⟨f, f, g, []⟩]) = g + f * b := by
  have h := far_works (b := b) (g := g) hf
  have e : lastW w0 b [⟨f, f, g, []⟩] = ⟨f, f, g + f * b, []⟩ := by
    have h2 : [afterW w0 ⟨f, f, g, []⟩ b] = [⟨f, f, g + f * b, []⟩] := h
    exact (List.cons.inj h2).1
  rw [e, least_nil]
/-- numbers, and what is printed of them -/
theorem nat150 {z : Int} (h1 : -(10 ^ 40) ≤ z) (h2 : z ≤ 10 ^ 40) : z.natAbs < 10 ^ 150 := Nat.lt_of_le_of_lt (show z.natAbs ≤ 10 ^ 40 by omega) (by decide)
end WK
namespace WK
open PySem PySem.Spec PyProof.Rows L2
theorem repV {K : PySem.W.Frag} {H : Hp} {Q : VK} {a : Addr} {v y : V} {k : Int} (hy : y = .int k) (ha : SqT K H a [v]) (h1 : 1 ≤ k) (h2 : k ≤ 1000)
    (q : ∀ p H', Same H H' → SqT K H' p (List.replicate k.toNat v) → Q (.ref p) H') : rRepA K (.ref a) y H Q := by
  have e : ∀ n : Nat, (List.replicate n [v]).flatten = List.replicate n v := fun n => by
    induction n with
    | zero => rfl
    | succ n ih => rw [List.replicate_succ, List.flatten_cons, ih, List.replicate_succ]; rfl
  refine ⟨a, k, [v], rfl, hy, ha, by omega, h2, by show 1 ≤ 1000; decide, fun z => ?_, fun _ p np => q p _ (same_new np) ?_⟩
  · rcases z with rfl | z
    · exact q a H (Same.refl _) ha
    · cases z
  · rw [e]
    exact sq_of upd_same
theorem SltsK.rep {K : PySem.W.Frag} {H : Hp} {v : V} {s : Slt} (h : SltK K H v s) : ∀ n : Nat, SltsK K H (List.replicate n v) (List.replicate n s)
  | 0 => .nil
  | n + 1 => .cons h (SltsK.rep h n)
end WK
namespace WK
open PySem PySem.Spec PyProof.Rows L2
theorem shows_ints {ns : List Int} (hl : ns.length ≤ 1000) (h : ∀ n ∈ ns, n.natAbs < 10 ^ 150) : Shows (.list (intsD ns)) := by
  refine shows_of (lil_ints h) ?_ ?_
  · show PyData.depthAll (intsD ns) + 1 ≤ 20
    rw [depth_ints]
    decide
  · have h1 := cost_ints (ns := ns)
    have h2 : ns.length * 153 ≤ 1000 * 153 := Nat.mul_le_mul_right _ hl
    refine Nat.le_trans ?_ (show 1000 * 153 + 10 ≤ sizeLine by decide)
    show costAll (intsD ns) + 3 ≤ _
    omega
end WK
set_option Elab.async false
set_option linter.all false
set_option maxRecDepth 100000
set_option maxHeartbeats 4000000
namespace WK
open PySem PySem.Spec PyProof.Rows L2
/-- a slot that is told right, not too far away -/
structure Slt.Far (s : Slt) : Prop where
  wk : s.Wk
  lo : 0 ≤ s.need
  hi : s.most ≤ 1000000
theorem last_far {b : Int} (hb : 0 ≤ b) {ss : List Slt} (h : ∀ s ∈ ss, s.Far) : 0 ≤ (lastW w0 b ss).need ∧ (lastW w0 b ss).most ≤ 1000000 := by
  revert h
  refine snoc_ind (P := fun ss => (∀ s ∈ ss, s.Far) → 0 ≤ (lastW w0 b ss).need ∧ (lastW w0 b ss).most ≤ 1000000) (fun _ => ⟨Int.le_refl 0, show (0 : Int) ≤ 1000000 by decide⟩) (fun l a _ h => ?_) ss
  have ha := h a (by simp)
  rw [lastW_snoc]
  obtain ⟨_, e1, e2⟩ := after_wk hb (lastW_wk hb l fun s hs => (h s (by simp [hs])).wk) ha.wk
  rw [e1, e2]
  exact ⟨ha.lo, ha.hi⟩
def spGoing : Sp := fun vs H Q _ => ∃ (l : Addr) (us : List V) (ss : List Slt) (b : Int), vs = [.ref l, .int b] ∧ H l = some (.lst us) ∧ CostsAt H us ss ∧ (∀ s ∈ ss, s.Far) ∧ ss.length ≤ 5000 ∧ 0 ≤ b ∧
  ∀ H' a ws, Same H H' → H a = none → H' a = some (.lst ws) → CostsAt H' ws (worksW w0 b ss) → (∀ v ∈ ws, ∃ d, v = .ref d ∧ H d = none) → Q (.ref a) H'
/-- all the same but at d -/
def SameB (d : Addr) (H J : Hp) : Prop := ∀ b o, b ≠ d → H b = some o → J b = some o
theorem sameB_upd {d : Addr} {H : Hp} {o : HO} : SameB d H (upd H d o) := fun b u n e => by rw [upd_ne n]; exact e
theorem SameB.new {d a : Addr} {H J : Hp} {o : HO} (h : SameB d H J) (n : H a = none) : SameB d H (upd J a o) := fun b u nb e => by
  rw [upd_ne (ne_of_none e n)]
  exact h b u nb e
theorem SameB.same {d : Addr} {H J G : Hp} (h : SameB d H J) (k : Same J G) : SameB d H G := fun b u nb e => k _ _ (h b u nb e)
theorem SameB.back {d : Addr} {H J : Hp} {u : HO} (h : SameB d H J) (e : H d = some u) : Same H (upd J d u) := fun b o q => by
  by_cases z : b = d
  · subst z
    rw [upd_same, ← e, q]
  · rw [upd_ne z]
    exact h b o z q
theorem costK_get {s : Slt} {n j : Nat} {k : Key} {v : V} (h : (costK s n)[j]? = some (k, v)) : j < n ∧ k = .inl (s.need + (j : Int)) ∧ v = .int (s.first + (s.slopes.take j).sum) := by
  have hj : j < n := by
    have := (List.getElem?_eq_some_iff.mp h).1
    rwa [costK_len] at this
  unfold costK at h
  rw [List.getElem?_map, List.getElem?_range hj] at h
  have h := Option.some.inj h
  exact ⟨hj, (congrArg Prod.fst h).symm, (congrArg Prod.snd h).symm⟩
theorem costK_valN {s : Slt} {n j : Nat} (h : j < n) : valV (costK s n) (.inl (s.need + (j : Int))) = some (.int (s.first + (s.slopes.take j).sum)) := by
  rw [costK_val, if_pos (by omega), show (s.need + (j : Int) - s.need).toNat = j by omega]
/-- what comes to a number from the numbers of a work -/
def fromL (a : Slt) (b x : Int) (n : Nat) : List Int := (List.range n).map fun (k : Nat) => a.first + (a.slopes.take k).sum + b * up (x - (a.need + (k : Int)))
theorem fromL_succ {a : Slt} {b x : Int} {n : Nat} : fromL a b x (n + 1) = fromL a b x n ++ [a.first + (a.slopes.take n).sum + b * up (x - (a.need + (n : Int)))] := mapr_succ
theorem from_least {a : Slt} {b x m : Int} (h : a.Wk) (hb : 0 ≤ b) (h1 : m ∈ fromL a b x (a.slopes.length + 1)) (h2 : ∀ y, y ∈ fromL a b x (a.slopes.length + 1) → m ≤ y) : m = heldWorth a b x := by
  have hl := h.len.len
  have hm := h.len.mid
  refine Int.le_antisymm ?_ ?_
  · obtain ⟨y, y1, y2, e⟩ := held_reach (b := b) x h hb
    rw [e]
    refine h2 _ (List.mem_map.mpr ⟨(y - a.need).toNat, List.mem_range.mpr (by omega), ?_⟩)
    rw [show a.need + (((y - a.need).toNat : Nat) : Int) = y by omega]
    rfl
  · obtain ⟨k, hk, rfl⟩ := List.mem_map.mp h1
    have hk := List.mem_range.mp hk
    have := held_lower (b := b) (x := x) (y := a.need + (k : Int)) h hb (by omega) (by omega)
    refine Int.le_trans this (Int.le_of_eq ?_)
    unfold costAt
    rw [show (a.need + (k : Int) - a.need).toNat = k by omega]
theorem after_at {a s : Slt} {b : Int} (ha : a.Wk) (h : s.Wk) (hb : 0 ≤ b) {j : Nat} (hj : j ≤ s.slopes.length) : (afterW a s b).need = s.need ∧ (afterW a s b).slopes.length = s.slopes.length ∧
    (afterW a s b).first + ((afterW a s b).slopes.take j).sum = s.first + (s.slopes.take j).sum + heldWorth a b (s.need + j) := by
  obtain ⟨k1, k2, k3⟩ := after_wk hb ha h
  have hl := h.len.len
  have hl2 := k1.len.len
  refine ⟨k2, by rw [k2, k3] at hl2; omega, ?_⟩
  have := after_cost (b := b) ha.len h.len j (by omega)
  unfold costAt at this
  rw [k2, show (s.need + (j : Int) - s.need).toNat = j by omega] at this
  exact this
theorem costK_keys {s : Slt} {n : Nat} : (costK s n).map (fun kv => kV kv.1) = (numsL s n).map V.int := by
  unfold costK numsL
  rw [List.map_map, List.map_map]
  rfl
def valsL (s : Slt) (n : Nat) : List Int := (List.range n).map fun (k : Nat) => s.first + (s.slopes.take k).sum
theorem costK_vals {s : Slt} {n : Nat} : (costK s n).map (·.2) = (valsL s n).map V.int := by
  unfold costK valsL
  rw [List.map_map, List.map_map]
  rfl
theorem costN {s : Slt} {k : Nat} : costAt s (s.need + (k : Int)) = s.first + (s.slopes.take k).sum := by
  unfold costAt
  rw [show (s.need + (k : Int) - s.need).toNat = k by omega]
theorem nums_least {s : Slt} (h : s.Len) {m : Int} (h1 : m ∈ numsL s (s.slopes.length + 1)) (h2 : ∀ y, y ∈ numsL s (s.slopes.length + 1) → m ≤ y) : m = s.need := by
  obtain ⟨k, hk, rfl⟩ := List.mem_map.mp h1
  have := h2 s.need (List.mem_map.mpr ⟨0, List.mem_range.mpr (by omega), by omega⟩)
  omega
theorem nums_most {s : Slt} (h : s.Len) {m : Int} (h1 : m ∈ numsL s (s.slopes.length + 1)) (h2 : ∀ y, y ∈ numsL s (s.slopes.length + 1) → y ≤ m) : m = s.most := by
  obtain ⟨k, hk, rfl⟩ := List.mem_map.mp h1
  have hl := h.len
  have := h2 (s.need + (s.slopes.length : Nat)) (List.mem_map.mpr ⟨s.slopes.length, List.mem_range.mpr (by omega), rfl⟩)
  have := List.mem_range.mp hk
  omega
theorem vals_least {s : Slt} (h : s.Wk) {m : Int} (h1 : m ∈ valsL s (s.slopes.length + 1)) (h2 : ∀ y, y ∈ valsL s (s.slopes.length + 1) → m ≤ y) : m = leastW s := by
  have hl := h.len.len
  obtain ⟨l1, l2⟩ := lowW_in h
  refine Int.le_antisymm ?_ ?_
  · refine h2 _ (List.mem_map.mpr ⟨(lowW s - s.need).toNat, List.mem_range.mpr (by omega), ?_⟩)
    rw [← costN, show s.need + (((lowW s - s.need).toNat : Nat) : Int) = lowW s by omega]
    rfl
  · obtain ⟨k, hk, rfl⟩ := List.mem_map.mp h1
    have hk := List.mem_range.mp hk
    rw [← costN]
    exact least_le h (by omega) (by omega)
theorem low_strict {s : Slt} (h : s.Wk) : ∀ n : Nat, s.need ≤ lowW s - (n : Int) → leastW s + n ≤ costAt s (lowW s - (n : Int))
  | 0, _ => by
    rw [show lowW s - ((0 : Nat) : Int) = lowW s by omega]
    unfold leastW
    omega
  | n + 1, hn => by
    obtain ⟨l1, l2⟩ := lowW_in h
    have ih := low_strict h n (by omega)
    have st := cost_step (s := s) (x := lowW s - ((n + 1 : Nat) : Int)) h.len hn (by omega)
    have ng := (low_iff h (x := lowW s - ((n + 1 : Nat) : Int)) hn (by omega)).mp (by omega)
    rw [show lowW s - ((n + 1 : Nat) : Int) + 1 = lowW s - (n : Int) by omega] at st
    omega
def lowsL (s : Slt) (n : Nat) : List Int := ((List.range n).filter fun k => decide (s.first + (s.slopes.take k).sum = leastW s)).map fun (k : Nat) => s.need + (k : Int)
theorem lows_yes {s : Slt} {n : Nat} (h : s.first + (s.slopes.take n).sum = leastW s) : lowsL s (n + 1) = lowsL s n ++ [s.need + (n : Int)] := by
  unfold lowsL
  rw [List.range_succ, List.filter_append, List.map_append, List.filter_cons_of_pos (by simpa using h)]
  rfl
theorem lows_no {s : Slt} {n : Nat} (h : ¬ s.first + (s.slopes.take n).sum = leastW s) : lowsL s (n + 1) = lowsL s n := by
  unfold lowsL
  rw [List.range_succ, List.filter_append, List.map_append, List.filter_cons_of_neg (by simpa using h)]
  exact List.append_nil _
theorem lows_len {s : Slt} {n : Nat} : (lowsL s n).length ≤ n := by
  unfold lowsL
  rw [List.length_map]
  exact Nat.le_trans (List.length_filter_le ..) (by rw [List.length_range]; exact Nat.le_refl n)
theorem lows_has {s : Slt} (h : s.Wk) : lowW s ∈ lowsL s (s.slopes.length + 1) := by
  have hl := h.len.len
  obtain ⟨l1, l2⟩ := lowW_in h
  refine List.mem_map.mpr ⟨(lowW s - s.need).toNat, List.mem_filter.mpr ⟨List.mem_range.mpr (by omega), ?_⟩, by omega⟩
  rw [← costN, show s.need + (((lowW s - s.need).toNat : Nat) : Int) = lowW s by omega]
  exact decide_eq_true rfl
theorem lows_least {s : Slt} (h : s.Wk) {m : Int} (h1 : m ∈ lowsL s (s.slopes.length + 1)) (h2 : ∀ y, y ∈ lowsL s (s.slopes.length + 1) → m ≤ y) : m = lowW s := by
  have hl := h.len.len
  have a := h2 _ (lows_has h)
  obtain ⟨k, hk, rfl⟩ := List.mem_map.mp h1
  obtain ⟨k1, k2⟩ := List.mem_filter.mp hk
  have k1 := List.mem_range.mp k1
  have k2 := of_decide_eq_true k2
  rw [← costN] at k2
  have := low_strict h (lowW s - (s.need + (k : Int))).toNat (by omega)
  rw [show lowW s - (((lowW s - (s.need + (k : Int))).toNat : Nat) : Int) = s.need + (k : Int) by omega] at this
  omega
def highsL (s : Slt) (b : Int) (n : Nat) : List Int := ((List.range n).filter fun (k : Nat) => decide (s.need + (k : Int) ≤ highW s b)).map fun (k : Nat) => s.need + (k : Int)
theorem highs_yes {s : Slt} {b : Int} {n : Nat} (h : s.need + (n : Int) ≤ highW s b) : highsL s b (n + 1) = highsL s b n ++ [s.need + (n : Int)] := by
  unfold highsL
  rw [List.range_succ, List.filter_append, List.map_append, List.filter_cons_of_pos (by simpa using h)]
  rfl
theorem highs_no {s : Slt} {b : Int} {n : Nat} (h : ¬ s.need + (n : Int) ≤ highW s b) : highsL s b (n + 1) = highsL s b n := by
  unfold highsL
  rw [List.range_succ, List.filter_append, List.map_append, List.filter_cons_of_neg (by simpa using h)]
  exact List.append_nil _
theorem highs_len {s : Slt} {b : Int} {n : Nat} : (highsL s b n).length ≤ n := by
  unfold highsL
  rw [List.length_map]
  exact Nat.le_trans (List.length_filter_le ..) (by rw [List.length_range]; exact Nat.le_refl n)
theorem highs_has {s : Slt} {b : Int} (h : s.Wk) : highW s b ∈ highsL s b (s.slopes.length + 1) := by
  have hl := h.len.len
  obtain ⟨l1, l2⟩ := highW_in (b := b) h
  exact List.mem_map.mpr ⟨(highW s b - s.need).toNat, List.mem_filter.mpr ⟨List.mem_range.mpr (by omega), decide_eq_true (by omega)⟩, by omega⟩
theorem highs_most {s : Slt} {b : Int} (h : s.Wk) {m : Int} (h1 : m ∈ highsL s b (s.slopes.length + 1)) (h2 : ∀ y, y ∈ highsL s b (s.slopes.length + 1) → y ≤ m) : m = highW s b := by
  have a := h2 _ (highs_has h)
  obtain ⟨k, hk, rfl⟩ := List.mem_map.mp h1
  have k2 := of_decide_eq_true (List.mem_filter.mp hk).2
  omega
/-- the step to a number costs at most b exactly up to HIGH -/
theorem high_step {s : Slt} {b : Int} (h : s.Wk) {k : Nat} (hk : k + 1 < s.slopes.length + 1) : s.first + (s.slopes.take (k + 1)).sum - (s.first + (s.slopes.take k).sum) ≤ b ↔ s.need + ((k + 1 : Nat) : Int) ≤ highW s b := by
  have hl := h.len.len
  have e := high_iff h (b := b) (x := s.need + (k : Int)) (by omega) (by omega)
  rw [show (s.need + (k : Int) - s.need).toNat = k by omega] at e
  have hz : s.slopes[k]? = some (s.slopes.getD k 0) := by
    rw [List.getD_eq_getElem?_getD, List.getElem?_eq_getElem (by omega)]
    rfl
  rw [take_sum hz]
  omega
/-- differences of the costs are the slopes -/
theorem diffs_are {s : Slt} : ∀ n : Nat, n ≤ s.slopes.length → ((List.range n).map fun (k : Nat) => (s.first + (s.slopes.take (k + 1)).sum) - (s.first + (s.slopes.take k).sum)) = s.slopes.take n
  | 0, _ => rfl
  | n + 1, hn => by
    have hz : s.slopes[n]? = some s.slopes[n] := List.getElem?_eq_getElem (by omega)
    have e := take_sum hz
    rw [mapr_succ, diffs_are n (by omega), e, take_snoc1 hz]
    congr 2
    omega
def spTold (K : PySem.W.Frag) : Sp := fun vs H Q _ => ∃ (d : Addr) (s : Slt), vs = [.ref d] ∧ H d = some (.dK (costK s (s.slopes.length + 1))) ∧ s.Len ∧ 0 ≤ s.need ∧ s.most ≤ 1000000 ∧ ∀ H' v, Same H H' → SltK K H' v s → Q v H'
def spLLow : Sp := fun vs H Q _ => ∃ (d : Addr) (s : Slt), vs = [.ref d] ∧ H d = some (.dK (costK s (s.slopes.length + 1))) ∧ s.Wk ∧ ∀ H', Same H H' → Q (.int (lowW s)) H'
def spLHigh : Sp := fun vs H Q _ => ∃ (d : Addr) (b : Int) (s : Slt), vs = [.ref d, .int b] ∧ H d = some (.dK (costK s (s.slopes.length + 1))) ∧ s.Wk ∧ ∀ H', Same H H' → Q (.int (highW s b)) H'
/-- a slot with one number only -/
def ptW (s : Slt) (x : Int) : Slt := ⟨x, x, costAt s x, []⟩
def spEnded (K : PySem.W.Frag) : Sp := fun vs H Q _ => ∃ (p : Addr) (x : Int) (us : List V) (v : V) (ss : List Slt) (s : Slt), vs = [.ref p, .int x] ∧ SqT K H p (us ++ [v]) ∧ SltsK K H us ss ∧ SltK K H v s ∧ ss.length ≤ 5000 ∧ fitB s x = true ∧
  ∀ H' r ws, Same H H' → SqT K H' r ws → SltsK K H' ws (ss ++ [ptW s x]) → Q (.ref r) H'
theorem cut_init {us : List V} {v : V} : cutV (us ++ [v]) none (some (-1)) = us := by
  unfold cutV HT.sIx
  simp
  rw [show (-1 + ((us.length : Int) + 1)).toNat = us.length by omega]
  simp
end WK
set_option Elab.async false
set_option linter.all false
set_option maxRecDepth 100000
set_option maxHeartbeats 4000000
namespace WK
open PySem PySem.Spec PyProof.Rows L2
/-! ### a list of anything != [] -/
def rNeNil (K : PySem.W.Frag) : R2 := fun x y H Q => ∃ (a b : Addr) (xs : List V), x = .ref a ∧ y = .ref b ∧ SqL K H a xs ∧ SqL K H b [] ∧ Q (.bl (!xs.isEmpty)) H
theorem op_neNil {X : Cx} (hu : X.A.units + 64 < cLine) : OpR X (compareOp .NotEq) (rNeNil X.K) := by
  intro pins s σ H x y v u Q I rx ry h
  obtain ⟨a, b, xs, rfl, rfl, ha, hb, q⟩ := h
  cases xs with
  | nil => exact op_neD hu pins s σ H _ _ v u Q I rx ry ⟨.list [], .list [], .lst ha .nil, .lst hb .nil, rfl, rfl, q⟩
  | cons z zs =>
    cases rx
    cases ry
    obtain ⟨i1, r1, p1, _⟩ := I.list ha
    obtain ⟨i2, r2, p2, _⟩ := I.list hb
    refine SeqAt.RcNeAt.lists_lengths p1.isList p2.isList ?_ (by omega) X.prog X.w X.xe _ ⟨.bl true, H, I, rfl, q⟩
    have e1 := r1.length
    have e2 := r2.length
    simp only [List.length_cons, List.length_nil] at e1 e2
    simp only [List.size_toArray, bne_iff_ne, ne_eq]
    omega
/-- works that are new, told -/
def spWorksN (K : PySem.W.Frag) : Sp := fun vs H Q _ => ∃ (p : Addr) (b : Int) (us : List V) (ss : List Slt), vs = [.ref p, .int b] ∧ SqT K H p us ∧ SltsK K H us ss ∧ (∀ s ∈ ss, s.Len) ∧ ss.length ≤ 5000 ∧ -(2 ^ 64) < b ∧ b < 2 ^ 64 ∧
  ∀ H' l ws, Same H H' → H l = none → H' l = some (.lst ws) → SltsK K H' ws (worksW w0 b ss) → Q (.ref l) H'
def spLeastsN (K : PySem.W.Frag) : Sp := fun vs H Q _ => ∃ (p : Addr) (b : Int) (us : List V) (ss : List Slt), vs = [.ref p, .int b] ∧ SqT K H p us ∧ SltsK K H us ss ∧ (∀ s ∈ ss, s.Len) ∧ ss.length ≤ 5000 ∧ -(2 ^ 64) < b ∧ b < 2 ^ 64 ∧
  ∀ H' l, Same H H' → H l = none → H' l = some (.lst (((worksW w0 b ss).map leastW).map V.int)) → Q (.ref l) H'
/-! ### bounds of works -/
/-- all costs of a slot or work are between -M and M -/
def Bd (s : Slt) (M : Int) : Prop := ∀ x, s.need ≤ x → x ≤ s.most → -M ≤ costAt s x ∧ costAt s x ≤ M
theorem after_bd {a s : Slt} {b M C : Int} (ha : a.Wk) (h : s.Wk) (hb : 0 ≤ b) (a0 : 0 ≤ a.need) (s1 : s.most ≤ 1000000) (hM : Bd a M) (hC : Bd s C) : Bd (afterW a s b) (M + C + b * 1000000) := by
  obtain ⟨k1, k2, k3⟩ := after_wk hb ha h
  intro x x1 x2
  rw [k2] at x1
  rw [k3] at x2
  have e := after_cost (b := b) ha.len h.len (x - s.need).toNat (by omega)
  rw [show s.need + (((x - s.need).toNat : Nat) : Int) = x by omega] at e
  obtain ⟨y, y1, y2, ey⟩ := held_reach (b := b) x ha hb
  have m := hM y y1 y2
  have c := hC x x1 x2
  have u : 0 ≤ up (x - y) ∧ up (x - y) ≤ 1000000 := by
    unfold up
    split <;> omega
  have p0 : 0 ≤ b * up (x - y) := Int.mul_nonneg hb u.1
  have p1 : b * up (x - y) ≤ b * 1000000 := Int.mul_le_mul_of_nonneg_left u.2 hb
  rw [e, ey]
  omega
theorem last_bd {b C : Int} (hb : 0 ≤ b) (hC : 0 ≤ C) (ss : List Slt) : (∀ s ∈ ss, s.Far ∧ Bd s C) → Bd (lastW w0 b ss) ((C + b * 1000000) * ss.length) := by
  refine snoc_ind (P := fun ss => (∀ s ∈ ss, s.Far ∧ Bd s C) → Bd (lastW w0 b ss) ((C + b * 1000000) * ss.length)) (fun _ => ?_) (fun l a ih h => ?_) ss
  · intro x x1 x2
    have : costAt w0 x = 0 := by
      unfold costAt w0
      simp
    show -((C + b * 1000000) * ((0 : Nat) : Int)) ≤ costAt w0 x ∧ costAt w0 x ≤ (C + b * 1000000) * ((0 : Nat) : Int)
    rw [this]
    simp
  · have hl : ∀ s ∈ l, s.Far ∧ Bd s C := fun s hs => h s (by simp [hs])
    have ha := h a (by simp)
    have := after_bd (lastW_wk hb l fun s hs => (hl s hs).1.wk) ha.1.wk hb (last_far hb fun s hs => (hl s hs).1).1 ha.1.hi (ih hl) ha.2
    rw [lastW_snoc, List.length_append]
    have e : (C + b * 1000000) * ((l.length + [a].length : Nat) : Int) = (C + b * 1000000) * l.length + C + b * 1000000 := by
      show (C + b * 1000000) * ((l.length + 1 : Nat) : Int) = _
      rw [Int.natCast_add, Int.mul_add]
      simp
      omega
    rw [e]
    exact this
end WK
set_option Elab.async false
set_option linter.all false
set_option maxRecDepth 100000
namespace BV
open PySem PySem.Spec PyProof.Rows L2 WK

/-! ### what is computed: from the slots' data, a value and the slots' data behind it -/
abbrev M (α : Type) := Env → Option (α × Env)
def bnd {α β : Type} (m : M α) (k : α → M β) : M β := fun ρ => (m ρ).bind fun p => k p.1 p.2
def rtn {α : Type} (a : α) : M α := fun ρ => some (a, ρ)
def lif {α : Type} (o : Option α) : M α := fun ρ => o.map fun a => (a, ρ)
def getE (i : Nat) : M D := fun ρ => match ρ[i]? with | some (some d) => some (d, ρ) | _ => none
def setE (i : Nat) (d : D) (ρ : Env) : Env := ρ.set i (some d)
def b1 (op : D → Option D) (fa : M D) : M D := bnd fa fun a => lif (op a)
def b2 (op : D → D → Option D) (fa fb : M D) : M D := bnd fa fun a => bnd fb fun b => lif (op a b)
/-- the first operand a slot whose object is looked at behind the second one -/
def b2o (op : D → D → Option D) (i : Nat) (fb : M D) : M D := bnd (getE i) fun _ => bnd fb fun b => bnd (getE i) fun a => lif (op a b)
theorem bnd_some {α β : Type} {m : M α} {k : α → M β} {ρ : Env} {r : β × Env} (h : bnd m k ρ = some r) : ∃ a ρ1, m ρ = some (a, ρ1) ∧ k a ρ1 = some r := by
  unfold bnd at h
  cases e : m ρ with
  | none => rw [e] at h; exact nomatch h
  | some p => rw [e] at h; exact ⟨p.1, p.2, rfl, h⟩
theorem lif_some {α : Type} {o : Option α} {ρ : Env} {r : α × Env} (h : lif o ρ = some r) : ∃ a, o = some a ∧ r = (a, ρ) := by
  unfold lif at h
  cases e : o with
  | none => rw [e] at h; exact nomatch h
  | some a => rw [e] at h; exact ⟨a, rfl, (Option.some.inj h).symm⟩
theorem getE_some {i : Nat} {ρ : Env} {r : D × Env} (h : getE i ρ = some r) : ρ[i]? = some (some r.1) ∧ r.2 = ρ := by
  unfold getE at h
  split at h
  · next d e => obtain rfl := Option.some.inj h; exact ⟨e, rfl⟩
  · exact nomatch h

/-! ### a look: the root is read, what it leads to stands outside of W -/
inductive Vw (K : PySem.W.Frag) (H : Hp) (W : Addr → Prop) : V → D → Prop
  | non : Vw K H W .non .non
  | bl (b : Bool) : Vw K H W (.bl b) (.bl b)
  | int (i : Int) : Vw K H W (.int i) (.int i)
  | str (x : Str) : Vw K H W (.str x) (.str x)
  | tup {a : Addr} {vs : List V} {ds : List D} : TpZ K H W a vs → RpA K H W vs ds → Vw K H W (.ref a) (.tup ds)
  | lst {a : Addr} {vs : List V} {ds : List D} : H a = some (.lst vs) → RpA K H W vs ds → Vw K H W (.ref a) (.lst ds)
  | dct {a : Addr} {vs : List (Key × V)} {ds : List (Key × D)} : Rd H a (.dK vs) → RpK K H W vs ds → Vw K H W (.ref a) (.dct ds)
  | dtt {a : Addr} {vs : List (List Key × V)} {ds : List (List Key × D)} : Rd H a (.dT vs) → RpT K H W vs ds → Vw K H W (.ref a) (.dtt ds)
  | scr {a : Addr} {ns : List Int} : ScZ K H W a (ns.map V.int) → Vw K H W (.ref a) (.scr ns)
section
variable {K : PySem.W.Frag} {H H' : Hp} {W W' : Addr → Prop} {v : V} {d : D}
theorem Rp.vw (h : Rp K H W v d) : Vw K H W v d := by
  cases h with
  | non => exact .non
  | bl b => exact .bl b
  | int i => exact .int i
  | str x => exact .str x
  | tup a q => exact .tup a q
  | lst a q => exact .lst a.1 q
  | dct a n q => exact .dct a q
  | dtt a n q => exact .dtt a q
  | scr a => exact .scr a
theorem Own.vw {G : List Addr} (h : Own K H W .o1 v d G) : Vw K H W v d := by
  obtain ⟨a, rfl, rfl, h⟩ := h
  rcases h with ⟨vs, ds, rfl, e, q⟩ | ⟨vs, ds, rfl, e, q⟩ | ⟨vs, ds, rfl, e, q⟩
  · exact .lst e q
  · exact .dct (.inl e) q
  · exact .dtt (.inl e) q
end

/-! ### judgements -/
section
variable (K : PySem.W.Frag)
def RF (t : TE) (Γ Γ' : List Sl) (f : M D) : Prop := ∀ X σ ρ F H Q d ρ', Rep K X Γ σ ρ F H → f ρ = some (d, ρ') →
  (∀ v F' H', Rep K X Γ' σ ρ' F' H' → Rp K H' (Ws X F') v d → Stp F H F' H' → Q v H') → t σ H Q
def RV (t : TE) (Γ Γ' : List Sl) (f : M D) : Prop := ∀ X σ ρ F H Q d ρ', Rep K X Γ σ ρ F H → f ρ = some (d, ρ') →
  (∀ v F' H', Rep K X Γ' σ ρ' F' H' → Vw K H' (Ws X F') v d → Stp F H F' H' → Q v H') → t σ H Q
def RO (t : TE) (Γ Γ' : List Sl) (c : Cl) (f : M D) : Prop := ∀ X σ ρ F H Q d ρ', Rep K X Γ σ ρ F H → f ρ = some (d, ρ') →
  (∀ v F' G H', Rep K (fun b => X b ∨ b ∈ G) Γ' σ ρ' F' H' → Own K H' (Ws (fun b => X b ∨ b ∈ G) F') c v d G → (∀ b ∈ G, ¬ X b) → Stp F H F' H' → (∀ b ∈ G, (∃ i, b ∈ F i) ∨ H b = none) → Q v H') → t σ H Q
def RT (t : TT) (Γ Γ' : List Sl) (f : M Bool) : Prop := ∀ X σ ρ F H Q d ρ', Rep K X Γ σ ρ F H → f ρ = some (d, ρ') →
  (∀ F' H', Rep K X Γ' σ ρ' F' H' → Stp F H F' H' → Q d H') → t σ H Q
def RA (t : TA) (Γ Γ' : List Sl) (f : M (List D)) : Prop := ∀ X σ ρ F H Q ds ρ', Rep K X Γ σ ρ F H → f ρ = some (ds, ρ') →
  (∀ vs F' H', Rep K X Γ' σ ρ' F' H' → RpA K H' (Ws X F') vs ds → Stp F H F' H' → Q vs H') → t σ H Q
/-- by values: the outcome is read -/
def G1 (r : V → Hp → VK → Prop) (op : D → Option D) : Prop := ∀ H W v d d' Q, (∀ p, H p = none → ¬ W p) → Vw K H W v d → op d = some d' → (∀ v' H', Same H H' → Rp K H' W v' d' → Q v' H') → r v H Q
def G2 (r : V → V → Hp → VK → Prop) (op : D → D → Option D) : Prop := ∀ H W v d u e d' Q, (∀ p, H p = none → ¬ W p) → Vw K H W v d → Vw K H W u e → op d e = some d' → (∀ v' H', Same H H' → Rp K H' W v' d' → Q v' H') → r v u H Q
/-- .. a new list -/
def L1 (r : V → Hp → VK → Prop) (op : D → Option D) : Prop := ∀ H W v d d' Q, Vw K H W v d → op d = some d' → (∀ p vs ds, H p = none → d' = .lst ds → RpA K H W vs ds → Q (.ref p) (upd H p (.lst vs))) → r v H Q
def L2' (r : V → V → Hp → VK → Prop) (op : D → D → Option D) : Prop := ∀ H W v d u e d' Q, Vw K H W v d → Vw K H W u e → op d e = some d' → (∀ p vs ds, H p = none → d' = .lst ds → RpA K H W vs ds → Q (.ref p) (upd H p (.lst vs))) → r v u H Q
end
section
variable {K : PySem.W.Frag} {Γ Γ1 Γ2 : List Sl} {i : Nat}
theorem RF.rv {t : TE} {f : M D} (h : RF K t Γ Γ1 f) : RV K t Γ Γ1 f := fun X σ ρ F H Q d ρ' R e k => h X σ ρ F H Q d ρ' R e fun v F' H' R' p s => k v F' H' R' p.vw s
/-- the slot's claim -/
theorem Rep.slot {X : Addr → Prop} {σ : L2.St} {ρ : Env} {F : Nat → List Addr} {H : Hp} {c : Cl} {d : D} (R : Rep K X Γ σ ρ F H) (hg : Γ[i]? = some (.v c)) (hr : ρ[i]? = some (some d)) : ∃ v, σ[i]? = some (some v) ∧ Own K H (Ws X F) c v d (F i) := by
  have h := R.at_ i
  rw [hg, hr] at h
  exact h
theorem rf_var (hg : Γ[i]? = some (.v .fz)) : RF K (tVar i) Γ Γ (getE i) := by
  intro X σ ρ F H Q d ρ' R e k
  obtain ⟨e, rfl⟩ := getE_some e
  obtain ⟨v, ev, h⟩ := R.slot hg e
  exact ⟨v, ev, k v F H R h.2 (.refl F H)⟩
theorem rv_own (hg : Γ[i]? = some (.v .o1)) : RV K (tVar i) Γ Γ (getE i) := by
  intro X σ ρ F H Q d ρ' R e k
  obtain ⟨e, rfl⟩ := getE_some e
  obtain ⟨v, ev, h⟩ := R.slot hg e
  exact ⟨v, ev, k v F H R h.vw (.refl F H)⟩
/-- F with another at i -/
def updF (F : Nat → List Addr) (i : Nat) (G : List Addr) : Nat → List Addr := fun j => if j = i then G else F j
theorem updF_at {F : Nat → List Addr} {G : List Addr} : updF F i G i = G := if_pos rfl
theorem updF_ne {F : Nat → List Addr} {G : List Addr} {j : Nat} (h : j ≠ i) : updF F i G j = F j := if_neg h
theorem mem_updF {F : Nat → List Addr} {j : Nat} {b : Addr} (z : b ∈ updF F i [] j) : b ∈ F j ∧ j ≠ i := by
  by_cases e : j = i
  · rw [e, updF_at] at z; exact nomatch z
  · rw [updF_ne e] at z; exact ⟨z, e⟩
theorem ws_updF {X : Addr → Prop} {F : Nat → List Addr} {b : Addr} (z : Ws X (updF F i []) b) : Ws X F b := by
  rcases z with z | ⟨j, z⟩
  · exact .inl z
  · exact .inr ⟨j, (mem_updF z).1⟩
/-- the slot i is told otherwise: it lets its objects go -/
theorem Rep.let_go {X : Addr → Prop} {σ : L2.St} {ρ : Env} {F : Nat → List Addr} {H : Hp} (R : Rep K X Γ σ ρ F H) (g : Sl)
    (h : ∀ d, ρ[i]? = some (some d) → match g with | .u => True | .v c => ∃ v, σ[i]? = some (some v) ∧ Own K H (Ws X (updF F i [])) c v d []) : Rep K X (Γ.set i g) σ ρ (updF F i []) H := by
  have sub : ∀ b, Ws X (updF F i []) b → Ws X F b := fun b z => ws_updF z
  have memb : ∀ {j b}, b ∈ updF F i [] j → b ∈ F j := fun {j b} z => (mem_updF z).1
  refine ⟨R.len, by rw [List.length_set]; exact R.gl, fun j => ?_, fun j k b hj hk => R.dis j k b (memb hj) (memb hk), fun b z => ⟨(R.xt b z).1, fun j z' => (R.xt b z).2 j (memb z')⟩, fun j b z => R.ft j b (memb z)⟩
  by_cases e : j = i
  · subst e
    rw [updF_at]
    unfold Slot
    by_cases hl : j < Γ.length
    · rw [List.getElem?_set_self hl]
      cases g with
      | u => rfl
      | v c =>
        cases hr : ρ[j]? with
        | none => rfl
        | some r =>
          cases r with
          | none => rfl
          | some d => exact h d hr
    · rw [List.getElem?_eq_none (by rw [List.length_set]; omega)]
  · rw [List.getElem?_set_ne (Ne.symm e), updF_ne e]
    exact (R.at_ j).go (Go.sub sub) fun _ _ _ e => e
theorem Rep.freeze {X : Addr → Prop} {σ : L2.St} {ρ : Env} {F : Nat → List Addr} {H : Hp} (R : Rep K X Γ σ ρ F H) (hg : Γ[i]? = some (.v .o1)) : Rep K X (Γ.set i (.v .fz)) σ ρ (updF F i []) H := by
  refine R.let_go _ fun d e => ?_
  obtain ⟨v, ev, h⟩ := R.slot hg e
  refine ⟨v, ev, rfl, h.rp (by decide) _ (fun b z => ws_updF z) fun b hb z => ?_⟩
  rcases z with z | ⟨j, z⟩
  · exact (R.xt b z).2 i hb
  · exact (mem_updF z).2 (R.dis j i b (mem_updF z).1 hb)
theorem Stp.let_go {F : Nat → List Addr} {H : Hp} : Stp F H (updF F i []) H := ⟨fun _ _ e _ => e, fun j b z => by
  by_cases e : j = i
  · subst e; rw [updF_at] at z; exact nomatch z
  · rw [updF_ne e] at z; exact .inl ⟨j, z⟩⟩
theorem rf_frz (hg : Γ[i]? = some (.v .o1)) (hl : i < Γ.length) : RF K (tVar i) Γ (Γ.set i (.v .fz)) (getE i) := by
  intro X σ ρ F H Q d ρ' R e k
  obtain ⟨e, rfl⟩ := getE_some e
  have R' := R.freeze hg
  obtain ⟨v, ev, h⟩ := R'.slot (i := i) (c := .fz) (List.getElem?_set_self hl) e
  exact ⟨v, ev, k v _ H R' h.2 .let_go⟩
/-- the slot hands its object on -/
theorem ro_mv {c : Cl} (hg : Γ[i]? = some (.v c)) : RO K (tVar i) Γ (Γ.set i .u) c (getE i) := by
  intro X σ ρ F H Q d ρ' R e k
  obtain ⟨e, rfl⟩ := getE_some e
  obtain ⟨v, ev, h⟩ := R.slot hg e
  have R' := R.let_go (i := i) .u fun _ _ => trivial
  refine ⟨v, ev, k v (updF F i []) (F i) H ?_ ?_ (fun b hb z => (R.xt b z).2 i hb) .let_go fun b hb => .inl ⟨i, hb⟩⟩
  · have sub : ∀ b, Ws (fun b => X b ∨ b ∈ F i) (updF F i []) b → Ws X F b := fun b z => by
      rcases z with (z | z) | ⟨j, z⟩
      · exact .inl z
      · exact .inr ⟨i, z⟩
      · by_cases e : j = i
        · subst e; rw [updF_at] at z; exact nomatch z
        · rw [updF_ne e] at z; exact .inr ⟨j, z⟩
    refine ⟨R'.len, R'.gl, fun j => ?_, R'.dis, fun b z => ?_, R'.ft⟩
    · by_cases e : j = i
      · subst e
        rw [updF_at]
        unfold Slot
        by_cases hl : j < Γ.length
        · rw [List.getElem?_set_self hl]
        · rw [List.getElem?_eq_none (by rw [List.length_set]; omega)]
      · rw [List.getElem?_set_ne (Ne.symm e), updF_ne e]
        exact (R.at_ j).go (Go.sub sub) fun _ _ _ e => e
    · rcases z with z | z
      · exact R'.xt b z
      · refine ⟨R.ft i b z, fun j zj => ?_⟩
        by_cases e : j = i
        · subst e; rw [updF_at] at zj; exact nomatch zj
        · rw [updF_ne e] at zj; exact e (R.dis j i b zj z)
  · refine h.go (Go.sub fun b z => ?_) fun _ _ _ e => e
    rcases z with (z | z) | ⟨j, z⟩
    · exact .inl z
    · exact .inr ⟨i, z⟩
    · by_cases e : j = i
      · subst e; rw [updF_at] at z; exact nomatch z
      · rw [updF_ne e] at z; exact .inr ⟨j, z⟩
/-- a new thing may be frozen at once -/
theorem RO.rf {t : TE} {f : M D} (h : RO K t Γ Γ1 .o1 f) : RF K t Γ Γ1 f := by
  intro X σ ρ F H Q d ρ' R e k
  refine h X σ ρ F H Q d ρ' R e fun v F' G H' R' o nx s _ => k v F' H' (R'.less fun b z => .inl z) (o.rp (by decide) _ (fun b z => ?_) fun b hb z => ?_) s
  · rcases z with z | z
    · exact .inl (.inl z)
    · exact .inr z
  · rcases z with z | ⟨j, z⟩
    · exact nx b hb z
    · exact (R'.xt b (.inr hb)).2 j z
theorem ws_nil {X : Addr → Prop} {F : Nat → List Addr} {b : Addr} : Ws (fun b => X b ∨ b ∈ ([] : List Addr)) F b ↔ Ws X F b := by
  constructor
  · rintro ((z | z) | z)
    · exact .inl z
    · exact nomatch z
    · exact .inr z
  · rintro (z | z)
    · exact .inl (.inl z)
    · exact .inr z
theorem Rep.nil {X : Addr → Prop} {σ : L2.St} {ρ : Env} {F : Nat → List Addr} {H : Hp} (R : Rep K X Γ σ ρ F H) : Rep K (fun b => X b ∨ b ∈ ([] : List Addr)) Γ σ ρ F H := by
  refine R.less fun b z => ?_
  rcases z with z | z
  · exact z
  · exact nomatch z
theorem RF.ro {t : TE} {f : M D} (h : RF K t Γ Γ1 f) : RO K t Γ Γ1 .fz f := by
  intro X σ ρ F H Q d ρ' R e k
  exact h X σ ρ F H Q d ρ' R e fun v F' H' R' p s => k v F' [] H' R'.nil ⟨rfl, p.go (Go.sub fun b => ws_nil.mp)⟩ (fun b z => nomatch z) s fun b z => nomatch z

/-! ### constants -/
theorem rf_int {z : Int} : RF K (tC (.int z)) Γ Γ (rtn (.int z)) := by
  intro X σ ρ F H Q d ρ' R e k
  cases e
  exact k _ F H R (.int z) (.refl F H)
theorem rf_bl {z : Bool} : RF K (tC (.bl z)) Γ Γ (rtn (.bl z)) := by
  intro X σ ρ F H Q d ρ' R e k
  cases e
  exact k _ F H R (.bl z) (.refl F H)
theorem rf_non : RF K (tC .non) Γ Γ (rtn .non) := by
  intro X σ ρ F H Q d ρ' R e k
  cases e
  exact k _ F H R .non (.refl F H)
theorem rf_str {z : Str} : RF K (tC (.str z)) Γ Γ (rtn (.str z)) := by
  intro X σ ρ F H Q d ρ' R e k
  cases e
  exact k _ F H R (.str z) (.refl F H)
/-- a constant of the module -/
theorem rf_con {v : V} {d : D} (h : ∀ H W, Rp K H W v d) : RF K (tC v) Γ Γ (rtn d) := by
  intro X σ ρ F H Q d' ρ' R e k
  cases e
  exact k _ F H R (h H _) (.refl F H)

/-! ### operators by values -/
theorem rf_un {r : V → Hp → VK → Prop} {op : D → Option D} {ta : TE} {fa : M D} (g : G1 K r op) (ha : RV K ta Γ Γ1 fa) : RF K (tUn r ta) Γ Γ1 (b1 op fa) := by
  intro X σ ρ F H Q d ρ' R e k
  obtain ⟨a, ρ1, ea, e⟩ := bnd_some e
  obtain ⟨z, eo, er⟩ := lif_some e
  cases er
  refine ha X σ ρ F H _ a ρ' R ea fun v F' H' R' p s => ?_
  exact g H' _ v a d Q (fun p => R'.fresh) p eo fun v' H2 sm q => k v' F' H2 (R'.same sm) q (s.trans (.same sm))
theorem rf_bin {r : R2} {op : D → D → Option D} {ta tb : TE} {fa fb : M D} (g : G2 K r op) (ha : RF K ta Γ Γ1 fa) (hb : RV K tb Γ1 Γ2 fb) : RF K (tOp r ta tb) Γ Γ2 (b2 op fa fb) := by
  intro X σ ρ F H Q d ρ' R e k
  obtain ⟨a, ρ1, ea, e⟩ := bnd_some e
  obtain ⟨b, ρ2, eb, e⟩ := bnd_some e
  obtain ⟨z, eo, er⟩ := lif_some e
  cases er
  refine ha X σ ρ F H _ a ρ1 R ea fun v F' H' R' p s => ?_
  refine hb X σ ρ1 F' H' _ b ρ' R' eb fun u F2 H2 R2 q s2 => ?_
  exact g H2 _ v a u b d Q (fun p => R2.fresh) (p.go s2.go).vw q eo fun v' H3 sm q => k v' F2 H3 (R2.same sm) q ((s.trans s2).trans (.same sm))
theorem rf_bin_own {r : R2} {op : D → D → Option D} {tb : TE} {fb : M D} (g : G2 K r op) (hg1 : Γ[i]? = some (.v .o1)) (hb : RV K tb Γ Γ2 fb) (hg : Γ2[i]? = some (.v .o1)) : RF K (tOp r (tVar i) tb) Γ Γ2 (b2o op i fb) := by
  intro X σ ρ F H Q d ρ' R e k
  obtain ⟨a0, ρ0, ea0, e⟩ := bnd_some e
  obtain ⟨b, ρ2, eb, e⟩ := bnd_some e
  obtain ⟨a, ρ1, ea, e⟩ := bnd_some e
  obtain ⟨z, eo, er⟩ := lif_some e
  cases er
  obtain ⟨ea0, e0⟩ := getE_some ea0
  have e0 : ρ0 = ρ := e0
  obtain ⟨ea, ea2⟩ := getE_some ea
  have ea2 : ρ' = ρ2 := ea2
  subst e0
  subst ea2
  obtain ⟨v, ev, _⟩ := R.slot hg1 ea0
  refine ⟨v, ev, hb X σ ρ0 F H _ b ρ' R eb fun u F2 H2 R2 q s2 => ?_⟩
  obtain ⟨v', ev', h⟩ := R2.slot hg ea
  rw [ev] at ev'
  obtain rfl := Option.some.inj (Option.some.inj ev')
  exact g H2 _ v a u b d Q (fun p => R2.fresh) h.vw q eo fun v' H3 sm q => k v' F2 H3 (R2.same sm) q (s2.trans (.same sm))
/-! ### calls of built-ins, by values -/
theorem rf_cb1 {r : List V → Hp → VK → Prop} {op : D → Option D} {ta : TE} {fa : M D} (g : G1 K (fun v => r [v]) op) (ha : RV K ta Γ Γ1 fa) : RF K (tCB r (tCons ta tNil)) Γ Γ1 (b1 op fa) := rf_un (r := fun v => r [v]) g ha
theorem rf_cb2 {r : List V → Hp → VK → Prop} {op : D → D → Option D} {ta tb : TE} {fa fb : M D} (g : G2 K (fun v u => r [v, u]) op) (ha : RF K ta Γ Γ1 fa) (hb : RV K tb Γ1 Γ2 fb) : RF K (tCB r (tCons ta (tCons tb tNil))) Γ Γ2 (b2 op fa fb) := rf_bin (r := fun v u => r [v, u]) g ha hb
/-- a new list comes -/
theorem ro_new {Q : VK} {X : Addr → Prop} {σ : L2.St} {ρ : Env} {F F' : Nat → List Addr} {H H' : Hp} {d : D}
    (k : ∀ v F' G H', Rep K (fun b => X b ∨ b ∈ G) Γ σ ρ F' H' → Own K H' (Ws (fun b => X b ∨ b ∈ G) F') .o1 v d G → (∀ b ∈ G, ¬ X b) → Stp F H F' H' → (∀ b ∈ G, (∃ i, b ∈ F i) ∨ H b = none) → Q v H')
    (R : Rep K X Γ σ ρ F' H') (s : Stp F H F' H') {p : Addr} {vs : List V} {ds : List D} (n : H' p = none) (hd : d = .lst ds) (q : RpA K H' (Ws X F') vs ds) : Q (.ref p) (upd H' p (.lst vs)) := by
  have sm : Same H' (upd H' p (.lst vs)) := same_new n
  have R2 := R.same sm
  have nF := R.fresh n
  have sub : ∀ b, Ws (fun b => X b ∨ b ∈ [p]) F' b → Ws X F' b ∨ H' b = none := fun b z => by
    rcases z with (z | z) | z
    · exact .inl (.inl z)
    · have : b = p := by simpa using z
      subst this
      exact .inr n
    · exact .inl (.inr z)
  have go : Go H' (Ws X F') (upd H' p (.lst vs)) (Ws (fun b => X b ∨ b ∈ [p]) F') := ⟨(Go.same sm).ls, (Go.same sm).fr, sub⟩
  refine k (.ref p) F' [p] _ ⟨R.len, R.gl, fun i => (R.at_ i).go go fun b _ o e => sm b o e, R.dis, fun b z => ?_, R2.ft⟩ ?_ (fun b hb z => ?_) (s.trans (.same sm)) fun b hb => ?_
  · rcases z with z | z
    · exact R2.xt b z
    · have : b = p := by simpa using z
      subst this
      exact ⟨by rw [upd_same]; exact (fun z => nomatch z), fun i z => nF (.inr ⟨i, z⟩)⟩
  · exact ⟨p, rfl, rfl, .inl ⟨vs, ds, hd, upd_same, q.go go⟩⟩
  · have : b = p := by simpa using hb
    subst this
    exact nF (.inl z)
  · have : b = p := by simpa using hb
    subst this
    by_cases hc : ∃ i, b ∈ F i
    · exact .inl hc
    · refine .inr ?_
      cases e : H b with
      | none => rfl
      | some o => rw [s.fr b o e fun i z => hc ⟨i, z⟩] at n; exact nomatch n
theorem ro_un {r : V → Hp → VK → Prop} {op : D → Option D} {ta : TE} {fa : M D} (g : L1 K r op) (ha : RV K ta Γ Γ1 fa) : RO K (tUn r ta) Γ Γ1 .o1 (b1 op fa) := by
  intro X σ ρ F H Q d ρ' R e k
  obtain ⟨a, ρ1, ea, e⟩ := bnd_some e
  obtain ⟨z, eo, er⟩ := lif_some e
  cases er
  refine ha X σ ρ F H _ a ρ' R ea fun v F' H' R' p s => ?_
  exact g H' _ v a d Q p eo fun p vs ds n hd q => ro_new k R' s n hd q
theorem ro_bin {r : R2} {op : D → D → Option D} {ta tb : TE} {fa fb : M D} (g : L2' K r op) (ha : RF K ta Γ Γ1 fa) (hb : RV K tb Γ1 Γ2 fb) : RO K (tOp r ta tb) Γ Γ2 .o1 (b2 op fa fb) := by
  intro X σ ρ F H Q d ρ' R e k
  obtain ⟨a, ρ1, ea, e⟩ := bnd_some e
  obtain ⟨b, ρ2, eb, e⟩ := bnd_some e
  obtain ⟨z, eo, er⟩ := lif_some e
  cases er
  refine ha X σ ρ F H _ a ρ1 R ea fun v F' H' R' p s => ?_
  refine hb X σ ρ1 F' H' _ b ρ' R' eb fun u F2 H2 R2 q s2 => ?_
  exact g H2 _ v a u b d Q (p.go s2.go).vw q eo fun p vs ds n hd q => ro_new k R2 (s.trans s2) n hd q
theorem ro_cb1 {r : List V → Hp → VK → Prop} {op : D → Option D} {ta : TE} {fa : M D} (g : L1 K (fun v => r [v]) op) (ha : RV K ta Γ Γ1 fa) : RO K (tCB r (tCons ta tNil)) Γ Γ1 .o1 (b1 op fa) := ro_un (r := fun v => r [v]) g ha
theorem ro_cb2 {r : List V → Hp → VK → Prop} {op : D → D → Option D} {ta tb : TE} {fa fb : M D} (g : L2' K (fun v u => r [v, u]) op) (ha : RF K ta Γ Γ1 fa) (hb : RV K tb Γ1 Γ2 fb) : RO K (tCB r (tCons ta (tCons tb tNil))) Γ Γ2 .o1 (b2 op fa fb) := ro_bin (r := fun v u => r [v, u]) g ha hb

/-! ### arguments, displays -/
def consA (fa : M D) (fr : M (List D)) : M (List D) := bnd fa fun a => bnd fr fun r => rtn (a :: r)
theorem ra_nil : RA K tNil Γ Γ (rtn []) := by
  intro X σ ρ F H Q d ρ' R e k
  cases e
  exact k _ F H R .nil (.refl F H)
theorem ra_cons {ta : TE} {tr : TA} {fa : M D} {fr : M (List D)} (ha : RF K ta Γ Γ1 fa) (hr : RA K tr Γ1 Γ2 fr) : RA K (tCons ta tr) Γ Γ2 (consA fa fr) := by
  intro X σ ρ F H Q d ρ' R e k
  obtain ⟨a, ρ1, ea, e⟩ := bnd_some e
  obtain ⟨r, ρ2, er, e⟩ := bnd_some e
  cases e
  refine ha X σ ρ F H _ a ρ1 R ea fun v F' H' R' p s => ?_
  refine hr X σ ρ1 F' H' _ r ρ' R' er fun vs F2 H2 R2 q s2 => ?_
  exact k (v :: vs) F2 H2 R2 (.cons (p.go s2.go) q) (s.trans s2)
def tupE (f : M (List D)) : M D := bnd f fun ds => lif (if ds.length ≤ sizeLine then some (.tup ds) else none)
def lstE (f : M (List D)) : M D := bnd f fun ds => lif (if ds.length ≤ sizeLine then some (.lst ds) else none)
theorem rf_tup {t : TA} {f : M (List D)} (h : RA K t Γ Γ1 f) : RF K (tTup t) Γ Γ1 (tupE f) := by
  intro X σ ρ F H Q d ρ' R e k
  obtain ⟨ds, ρ1, ea, e⟩ := bnd_some e
  obtain ⟨z, eo, er⟩ := lif_some e
  cases er
  by_cases hl : ds.length ≤ sizeLine
  · rw [if_pos hl] at eo
    cases eo
    refine h X σ ρ F H _ ds ρ' R ea fun vs F' H' R' p s => ⟨by rw [p.len]; exact hl, fun a n => ?_⟩
    have sm : Same H' (upd H' a (.tup vs)) := same_new n
    exact k _ F' _ (R'.same sm) (.tup (.inl ⟨.inl upd_same, R'.fresh n⟩) (p.go (Go.same sm))) (s.trans (.same sm))
  · rw [if_neg hl] at eo
    exact nomatch eo
theorem ro_lst {t : TA} {f : M (List D)} (h : RA K t Γ Γ1 f) : RO K (tLst t) Γ Γ1 .o1 (lstE f) := by
  intro X σ ρ F H Q d ρ' R e k
  obtain ⟨ds, ρ1, ea, e⟩ := bnd_some e
  obtain ⟨z, eo, er⟩ := lif_some e
  cases er
  by_cases hl : ds.length ≤ sizeLine
  · rw [if_pos hl] at eo
    cases eo
    refine h X σ ρ F H _ ds ρ' R ea fun vs F' H' R' p s => ⟨by rw [p.len]; exact hl, fun a n => ?_⟩
    exact ro_new k R' s n rfl p
  · rw [if_neg hl] at eo
    exact nomatch eo

/-! ### tests, choices -/
def isB : D → Option Bool | .bl b => some b | _ => none
def bt (f : M D) : M Bool := bnd f fun d => lif (isB d)
theorem isB_some {d : D} {b : Bool} (h : isB d = some b) : d = .bl b := by
  cases d with
  | bl c => cases h; rfl
  | _ => exact nomatch h
theorem rt_b {t : TE} {f : M D} (h : RV K t Γ Γ1 f) : RT K (L2.tB t) Γ Γ1 (bt f) := by
  intro X σ ρ F H Q d ρ' R e k
  obtain ⟨a, ρ1, ea, e⟩ := bnd_some e
  obtain ⟨z, eo, er⟩ := lif_some e
  cases er
  obtain rfl := isB_some eo
  refine h X σ ρ F H _ _ ρ' R ea fun v F' H' R' p s => ?_
  cases p
  exact ⟨d, rfl, k F' H' R' s⟩
def iteM {α : Type} (c : M Bool) (a b : M α) : M α := bnd c fun x => if x = true then a else b
def andM (c d : M Bool) : M Bool := bnd c fun x => if x = true then d else rtn false
def orM (c d : M Bool) : M Bool := bnd c fun x => if x = true then rtn true else d
def notM (c : M Bool) : M Bool := bnd c fun x => rtn (!x)
theorem rt_and {t u : TT} {f g : M Bool} (ht : RT K t Γ Γ1 f) (hu : RT K u Γ1 Γ1 g) : RT K (tAnd t u) Γ Γ1 (andM f g) := by
  intro X σ ρ F H Q d ρ' R e k
  obtain ⟨a, ρ1, ea, e⟩ := bnd_some e
  refine ht X σ ρ F H _ a ρ1 R ea fun F' H' R' s => ?_
  cases a with
  | true => exact hu X σ ρ1 F' H' _ d ρ' R' e fun F2 H2 R2 s2 => k F2 H2 R2 (s.trans s2)
  | false => cases e; exact k F' H' R' s
theorem rt_or {t u : TT} {f g : M Bool} (ht : RT K t Γ Γ1 f) (hu : RT K u Γ1 Γ1 g) : RT K (tOr t u) Γ Γ1 (orM f g) := by
  intro X σ ρ F H Q d ρ' R e k
  obtain ⟨a, ρ1, ea, e⟩ := bnd_some e
  refine ht X σ ρ F H _ a ρ1 R ea fun F' H' R' s => ?_
  cases a with
  | false => exact hu X σ ρ1 F' H' _ d ρ' R' e fun F2 H2 R2 s2 => k F2 H2 R2 (s.trans s2)
  | true => cases e; exact k F' H' R' s
theorem rt_not {t : TT} {f : M Bool} (ht : RT K t Γ Γ1 f) : RT K (tNot t) Γ Γ1 (notM f) := by
  intro X σ ρ F H Q d ρ' R e k
  obtain ⟨a, ρ1, ea, e⟩ := bnd_some e
  cases e
  exact ht X σ ρ F H _ a ρ' R ea fun F' H' R' s => k F' H' R' s
theorem rt_yes : RT K tYes Γ Γ (rtn true) := by
  intro X σ ρ F H Q d ρ' R e k
  cases e
  exact k F H R (.refl F H)
theorem rf_ife {t : TT} {ta tb : TE} {f : M Bool} {fa fb : M D} (ht : RT K t Γ Γ1 f) (ha : RF K ta Γ1 Γ2 fa) (hb : RF K tb Γ1 Γ2 fb) : RF K (tIf t ta tb) Γ Γ2 (iteM f fa fb) := by
  intro X σ ρ F H Q d ρ' R e k
  obtain ⟨a, ρ1, ea, e⟩ := bnd_some e
  refine ht X σ ρ F H _ a ρ1 R ea fun F' H' R' s => ?_
  cases a with
  | true => exact ha X σ ρ1 F' H' _ d ρ' R' e fun v F2 H2 R2 p s2 => k v F2 H2 R2 p (s.trans s2)
  | false => exact hb X σ ρ1 F' H' _ d ρ' R' e fun v F2 H2 R2 p s2 => k v F2 H2 R2 p (s.trans s2)
/-- and, or, not as values -/
def andV (f g : M D) : M D := bnd f fun a => bnd (lif (isB a)) fun x => if x = true then g else rtn (.bl false)
def orV (f g : M D) : M D := bnd f fun a => bnd (lif (isB a)) fun x => if x = true then rtn (.bl true) else g
def notV (f : M D) : M D := bnd f fun a => bnd (lif (isB a)) fun x => rtn (.bl (!x))
theorem rf_and {ta tb : TE} {f g : M D} (ha : RV K ta Γ Γ1 f) (hb : RF K tb Γ1 Γ1 g) : RF K (tAndV ta tb) Γ Γ1 (andV f g) := by
  intro X σ ρ F H Q d ρ' R e k
  obtain ⟨a, ρ1, ea, e⟩ := bnd_some e
  obtain ⟨x, ρ2, ex, e⟩ := bnd_some e
  obtain ⟨z, eo, er⟩ := lif_some ex
  cases er
  obtain rfl := isB_some eo
  refine ha X σ ρ F H _ _ ρ1 R ea fun v F' H' R' p s => ?_
  cases p
  refine ⟨x, rfl, ?_⟩
  cases x with
  | true => exact hb X σ ρ1 F' H' _ d ρ' R' e fun v F2 H2 R2 p s2 => k v F2 H2 R2 p (s.trans s2)
  | false => cases e; exact k _ F' H' R' (.bl false) s
theorem rf_or {ta tb : TE} {f g : M D} (ha : RV K ta Γ Γ1 f) (hb : RF K tb Γ1 Γ1 g) : RF K (tOrV ta tb) Γ Γ1 (orV f g) := by
  intro X σ ρ F H Q d ρ' R e k
  obtain ⟨a, ρ1, ea, e⟩ := bnd_some e
  obtain ⟨x, ρ2, ex, e⟩ := bnd_some e
  obtain ⟨z, eo, er⟩ := lif_some ex
  cases er
  obtain rfl := isB_some eo
  refine ha X σ ρ F H _ _ ρ1 R ea fun v F' H' R' p s => ?_
  cases p
  refine ⟨x, rfl, ?_⟩
  cases x with
  | false => exact hb X σ ρ1 F' H' _ d ρ' R' e fun v F2 H2 R2 p s2 => k v F2 H2 R2 p (s.trans s2)
  | true => cases e; exact k _ F' H' R' (.bl true) s
theorem rf_not {ta : TE} {f : M D} (ha : RV K ta Γ Γ1 f) : RF K (tNotV ta) Γ Γ1 (notV f) := by
  intro X σ ρ F H Q d ρ' R e k
  obtain ⟨a, ρ1, ea, e⟩ := bnd_some e
  obtain ⟨x, ρ2, ex, e⟩ := bnd_some e
  obtain ⟨z, eo, er⟩ := lif_some ex
  cases er
  cases e
  obtain rfl := isB_some eo
  refine ha X σ ρ F H _ _ ρ' R ea fun v F' H' R' p s => ?_
  cases p
  exact ⟨x, rfl, k _ F' H' R' (.bl _) s⟩
end
end BV
set_option Elab.async false
set_option linter.all false
set_option maxRecDepth 100000
namespace BV
open PySem PySem.Spec PyProof.Rows L2 WK

/-! ### operations on data -/
def i2 (g : Int → Int → D) : D → D → Option D | .int i, .int j => some (g i j) | _, _ => none
def i2c (C : Int → Int → Bool) (g : Int → Int → D) : D → D → Option D | .int i, .int j => if C i j = true then some (g i j) else none | _, _ => none
def i1 (g : Int → D) : D → Option D | .int i => some (g i) | _ => none
def cMul (i j : Int) : Bool := (decide (-(2 ^ 64) < i) && decide (i < 2 ^ 64)) || (decide (-(2 ^ 64) < j) && decide (j < 2 ^ 64))
def cDiv (i j : Int) : Bool := decide (0 < j) && decide (j < 1073741824)
def cDivN (i j : Int) : Bool := decide (j ≠ 0) && decide (j.natAbs < 1073741824)
def cPow (i j : Int) : Bool := decide (0 ≤ j) && decide (j ≤ 1000000) && decide (i.natAbs < 2 ^ 64)
def cMod (i j : Int) : Bool := decide (0 < j)
def cModN (i j : Int) : Bool := decide (j ≠ 0)
theorem cMul_ok {i j : Int} (h : cMul i j = true) : CMul i j := by
  unfold cMul at h
  simp only [Bool.or_eq_true, Bool.and_eq_true, decide_eq_true_eq] at h
  exact h
theorem cDiv_ok {i j : Int} (h : cDiv i j = true) : CDiv i j := by
  unfold cDiv at h
  simp only [Bool.and_eq_true, decide_eq_true_eq] at h
  exact h
theorem cDivN_ok {i j : Int} (h : cDivN i j = true) : CDivN i j := by
  unfold cDivN at h
  simp only [Bool.and_eq_true, decide_eq_true_eq] at h
  exact h
theorem cPow_ok {i j : Int} (h : cPow i j = true) : CPow i j := by
  unfold cPow at h
  simp only [Bool.and_eq_true, decide_eq_true_eq] at h
  exact ⟨h.1.1, h.1.2, h.2⟩
section
variable {K : PySem.W.Frag}
theorem g2_i {g : Int → Int → Int} : G2 K (rI0 fun i j => .int (g i j)) (i2 fun i j => .int (g i j)) := by
  intro H W v d u e d' Q hW p q eo k
  cases p <;> cases q <;> first | (cases eo; exact ⟨_, _, rfl, rfl, k _ H (Same.refl H) (.int _)⟩) | exact nomatch eo
theorem g2_b {g : Int → Int → Bool} : G2 K (rI0 fun i j => .bl (g i j)) (i2 fun i j => .bl (g i j)) := by
  intro H W v d u e d' Q hW p q eo k
  cases p <;> cases q <;> first | (cases eo; exact ⟨_, _, rfl, rfl, k _ H (Same.refl H) (.bl _)⟩) | exact nomatch eo
theorem g2_ic {C : Int → Int → Prop} {c : Int → Int → Bool} {g : Int → Int → Int} (hc : ∀ {i j}, c i j = true → C i j) : G2 K (rI C fun i j => .int (g i j)) (i2c c fun i j => .int (g i j)) := by
  intro H W v d u e d' Q hW p q eo k
  cases p with
  | int i =>
    cases q with
    | int j =>
      have eo : (if c i j = true then some (D.int (g i j)) else none) = some d' := eo
      by_cases h : c i j = true
      · rw [if_pos h] at eo
        cases eo
        exact ⟨i, j, rfl, rfl, hc h, k _ H (Same.refl H) (.int _)⟩
      · rw [if_neg h] at eo; exact nomatch eo
    | _ => exact nomatch eo
  | _ => cases q <;> exact nomatch eo
theorem g2_mul : G2 K (rI CMul fun i j => .int (i * j)) (i2c cMul fun i j => .int (i * j)) := g2_ic cMul_ok
theorem g2_fdiv : G2 K (rI CDiv fun i j => .int (i / j)) (i2c cDiv fun i j => .int (i / j)) := g2_ic cDiv_ok
theorem g2_fdivN : G2 K (rI CDivN fun i j => .int (i.fdiv j)) (i2c cDivN fun i j => .int (i.fdiv j)) := g2_ic cDivN_ok
theorem g2_pow : G2 K (rI CPow fun i j => .int (i ^ j.toNat)) (i2c cPow fun i j => .int (i ^ j.toNat)) := g2_ic cPow_ok
theorem g2_mod : G2 K (rI (fun _ j => 0 < j) fun i j => .int (i % j)) (i2c cMod fun i j => .int (i % j)) := g2_ic (fun h => of_decide_eq_true h)
theorem g2_modN : G2 K (rI (fun _ j => j ≠ 0) fun i j => .int (i.fmod j)) (i2c cModN fun i j => .int (i.fmod j)) := g2_ic (fun h => of_decide_eq_true h)
theorem g1_u {g : Int → Int} : G1 K (rU fun i => .int (g i)) (i1 fun i => .int (g i)) := by
  intro H W v d d' Q hW p eo k
  cases p <;> first | (cases eo; exact ⟨_, rfl, k _ H (Same.refl H) (.int _)⟩) | exact nomatch eo
theorem g2_max : G2 K (fun v u H Q => ∃ i j, [v, u] = [.int i, .int j] ∧ Q (.int (if j > i then j else i)) H) (i2 fun i j => .int (if j > i then j else i)) := by
  intro H W v d u e d' Q hW p q eo k
  cases p <;> cases q <;> first | (cases eo; exact ⟨_, _, rfl, k _ H (Same.refl H) (.int _)⟩) | exact nomatch eo
theorem g2_min : G2 K (fun v u H Q => ∃ i j, [v, u] = [.int i, .int j] ∧ Q (.int (if j < i then j else i)) H) (i2 fun i j => .int (if j < i then j else i)) := by
  intro H W v d u e d' Q hW p q eo k
  cases p <;> cases q <;> first | (cases eo; exact ⟨_, _, rfl, k _ H (Same.refl H) (.int _)⟩) | exact nomatch eo
theorem g1_abs : G1 K (fun v H Q => ∃ i, [v] = [.int i] ∧ Q (.int (if i < 0 then -i else i)) H) (i1 fun i => .int (if i < 0 then -i else i)) := by
  intro H W v d d' Q hW p eo k
  cases p <;> first | (cases eo; exact ⟨_, rfl, k _ H (Same.refl H) (.int _)⟩) | exact nomatch eo
def intD : D → Option D | .int i => some (.int i) | .bl b => some (.int (if b then 1 else 0)) | _ => none
theorem g1_int1 : G1 K (fun v H Q => (∃ i, [v] = [.int i] ∧ Q (.int i) H) ∨ ∃ k, [v] = [.bl k] ∧ Q (.int (if k then 1 else 0)) H) intD := by
  intro H W v d d' Q hW p eo k
  cases p with
  | int i => cases eo; exact .inl ⟨i, rfl, k _ H (Same.refl H) (.int _)⟩
  | bl b => cases eo; exact .inr ⟨b, rfl, k _ H (Same.refl H) (.int _)⟩
  | _ => exact nomatch eo
/-! scalars compared -/
def eqS : D → D → Option Bool
  | .int i, .int j => some (decide (i = j)) | .str i, .str j => some (decide (i = j)) | .bl i, .bl j => some (decide (i = j)) | .non, .non => some true
  | .non, .int _ => some false | .int _, .non => some false | .non, .bl _ => some false | .bl _, .non => some false | .non, .str _ => some false | .str _, .non => some false
  | .int _, .str _ => some false | .str _, .int _ => some false | .bl _, .str _ => some false | .str _, .bl _ => some false
  | _, _ => none
def eqD1 (a b : D) : Option D := (eqS a b).map .bl
def neD1 (a b : D) : Option D := (eqS a b).map fun x => .bl (!x)
theorem eqS_ok {H : Hp} {W : Addr → Prop} {v u : V} {d e : D} {b : Bool} (p : Vw K H W v d) (q : Vw K H W u e) (h : eqS d e = some b) : scal v u = true ∧ decide (v = u) = b := by
  cases p <;> cases q <;> simp only [eqS, Option.some.injEq, reduceCtorEq] at h <;> subst h <;> refine ⟨rfl, ?_⟩ <;> first
    | rfl
    | (simp only [V.int.injEq, V.str.injEq, V.bl.injEq])
    | exact decide_eq_false (fun z => nomatch z)
theorem g2_eq : G2 K rEq eqD1 := by
  intro H W v d u e d' Q hW p q eo k
  unfold eqD1 at eo
  cases h : eqS d e with
  | none => rw [h] at eo; exact nomatch eo
  | some b =>
    rw [h] at eo
    cases eo
    obtain ⟨h1, h2⟩ := eqS_ok p q h
    exact ⟨h1, k _ H (Same.refl H) (by rw [h2]; exact .bl b)⟩
theorem g2_ne : G2 K rNe neD1 := by
  intro H W v d u e d' Q hW p q eo k
  unfold neD1 at eo
  cases h : eqS d e with
  | none => rw [h] at eo; exact nomatch eo
  | some b =>
    rw [h] at eo
    cases eo
    obtain ⟨h1, h2⟩ := eqS_ok p q h
    exact ⟨h1, k _ H (Same.refl H) (by rw [h2]; exact .bl _)⟩
/-! is None -/
def isN : D → Bool | .non => true | _ => false
def isND (a b : D) : Option D := match b with | .non => some (.bl (isN a)) | _ => none
def notND (a b : D) : Option D := match b with | .non => some (.bl (!isN a)) | _ => none
theorem isN_ok {H : Hp} {W : Addr → Prop} {v : V} {d : D} (p : Vw K H W v d) : decide (v = .non) = isN d := by
  cases p <;> first | rfl | exact decide_eq_false (fun z => nomatch z)
theorem g2_isN : G2 K (fun x y H Q => y = .non ∧ Q (.bl (decide (x = .non))) H) isND := by
  intro H W v d u e d' Q hW p q eo k
  cases q <;> first
    | (cases eo; exact ⟨rfl, k _ H (Same.refl H) (by rw [isN_ok p]; exact .bl _)⟩)
    | exact nomatch eo
theorem g2_notN : G2 K (fun x y H Q => y = .non ∧ Q (.bl (!decide (x = .non))) H) notND := by
  intro H W v d u e d' Q hW p q eo k
  cases q <;> first
    | (cases eo; exact ⟨rfl, k _ H (Same.refl H) (by rw [isN_ok p]; exact .bl _)⟩)
    | exact nomatch eo

/-! ### lists and tuples -/
def intsOf : List D → Option (List Int) | [] => some [] | .int i :: ds => (intsOf ds).map (i :: ·) | _ :: _ => none
theorem intsOf_map : ∀ ns : List Int, intsOf (ns.map D.int) = some ns
  | [] => rfl
  | n :: ns => by rw [List.map_cons, intsOf, intsOf_map ns]; rfl
theorem intsOf_some : ∀ {ds : List D} {ns : List Int}, intsOf ds = some ns → ds = ns.map D.int
  | [], _, h => by cases h; rfl
  | d :: ds, ns, h => by
    cases d with
    | int i =>
      rw [intsOf] at h
      obtain ⟨r, e, rfl⟩ := Option.map_eq_some_iff.mp h
      rw [intsOf_some e]; rfl
    | _ => exact nomatch h
def blsOf : List D → Option (List Bool) | [] => some [] | .bl i :: ds => (blsOf ds).map (i :: ·) | _ :: _ => none
theorem blsOf_map : ∀ ns : List Bool, blsOf (ns.map D.bl) = some ns
  | [] => rfl
  | n :: ns => by rw [List.map_cons, blsOf, blsOf_map ns]; rfl
theorem blsOf_some : ∀ {ds : List D} {ns : List Bool}, blsOf ds = some ns → ds = ns.map D.bl
  | [], _, h => by cases h; rfl
  | d :: ds, ns, h => by
    cases d with
    | bl i =>
      rw [blsOf] at h
      obtain ⟨r, e, rfl⟩ := Option.map_eq_some_iff.mp h
      rw [blsOf_some e]; rfl
    | _ => exact nomatch h
def lenD : D → Option D | .lst ds => some (.int ds.length) | .tup ds => some (.int ds.length) | _ => none
theorem g1_len : G1 K (fun v H Q => ∃ p ys, [v] = [.ref p] ∧ (SqL K H p ys ∨ SqT K H p ys) ∧ Q (.int ys.length) H) lenD := by
  intro H W v d d' Q hW p eo k
  cases p with
  | lst a q => cases eo; exact ⟨_, _, rfl, .inl (.inl (.inl a)), k _ H (Same.refl H) (by rw [q.len]; exact .int _)⟩
  | tup a q => cases eo; exact ⟨_, _, rfl, .inr a.sq, k _ H (Same.refl H) (by rw [q.len]; exact .int _)⟩
  | _ => exact nomatch eo
def ixD (a i : D) : Option D := match a, i with | .lst ds, .int i => atI ds i | .tup ds, .int i => atI ds i | _, _ => none
def ixL (a i : D) : Option D := match a, i with | .lst ds, .int i => atI ds i | _, _ => none
def ixT (a i : D) : Option D := match a, i with | .tup ds, .int i => atI ds i | _, _ => none
theorem RpA.atI {H : Hp} {W : Addr → Prop} {vs : List V} {ds : List D} {i : Int} {d : D} (q : RpA K H W vs ds) (h : L2.atI ds i = some d) : ∃ v, L2.atI vs i = some v ∧ Rp K H W v d := by
  unfold L2.atI at h ⊢
  rw [q.len]
  cases e : ixN ds.length i with
  | none => rw [e] at h; exact nomatch h
  | some j =>
    rw [e] at h
    have h : ds[j]? = some d := h
    obtain ⟨v, e1, e2⟩ := q.get h
    exact ⟨v, e1, e2⟩
theorem g2_ixL : G2 K (rIxL K) ixL := by
  intro H W v d u e d' Q hW p q eo k
  cases p with
  | lst z r =>
    cases q with
    | int i =>
      obtain ⟨v, e1, e2⟩ := RpA.atI r (show L2.atI _ i = some d' from eo)
      exact ⟨_, _, _, _, rfl, rfl, .inl (.inl z), e1, k _ H (Same.refl H) e2⟩
    | _ => exact nomatch eo
  | _ => cases q <;> exact nomatch eo
theorem g2_ixT : G2 K (rIxT K) ixT := by
  intro H W v d u e d' Q hW p q eo k
  cases p with
  | tup z r =>
    cases q with
    | int i =>
      obtain ⟨v, e1, e2⟩ := RpA.atI r (show L2.atI _ i = some d' from eo)
      exact ⟨_, _, _, _, rfl, rfl, z.sq, e1, k _ H (Same.refl H) e2⟩
    | _ => exact nomatch eo
  | _ => cases q <;> exact nomatch eo
def sumL : D → Option D | .lst ds => (intsOf ds).map fun ns => .int ns.sum | _ => none
def sumT : D → Option D | .tup ds => (intsOf ds).map fun ns => .int ns.sum | _ => none
theorem g1_sumL : G1 K (fun v => rSum K [v]) sumL := by
  intro H W v d d' Q hW p eo k
  cases p with
  | lst a q =>
    obtain ⟨ns, e, rfl⟩ := Option.map_eq_some_iff.mp (show (intsOf _).map _ = some d' from eo)
    have := intsOf_some e
    subst this
    have := q.ints
    subst this
    exact ⟨_, ns, rfl, (.inl (.inl a)), k _ H (Same.refl H) (.int _)⟩
  | _ => exact nomatch eo
theorem g1_sumT : G1 K (fun v => rSumT K [v]) sumT := by
  intro H W v d d' Q hW p eo k
  cases p with
  | tup a q =>
    obtain ⟨ns, e, rfl⟩ := Option.map_eq_some_iff.mp (show (intsOf _).map _ = some d' from eo)
    have := intsOf_some e
    subst this
    have := q.ints
    subst this
    exact ⟨_, ns, rfl, a.sq, k _ H (Same.refl H) (.int _)⟩
  | _ => exact nomatch eo
def maxI : List Int → Option Int | [] => none | n :: ns => some (ns.foldl max n)
def minI : List Int → Option Int | [] => none | n :: ns => some (ns.foldl min n)
theorem foldl_max : ∀ {ns : List Int} {n : Int}, (ns.foldl max n ∈ n :: ns) ∧ ∀ y ∈ n :: ns, y ≤ ns.foldl max n
  | [], n => ⟨by simp, by simp⟩
  | m :: ns, n => by
    obtain ⟨h1, h2⟩ := foldl_max (ns := ns) (n := max n m)
    refine ⟨?_, fun y hy => ?_⟩
    · rw [List.foldl_cons]
      rcases List.mem_cons.mp h1 with e | e
      · rw [e]
        rcases Int.le_total n m with l | l
        · rw [Int.max_eq_right l]; simp
        · rw [Int.max_eq_left l]; simp
      · exact List.mem_cons_of_mem _ (List.mem_cons_of_mem _ e)
    · rw [List.foldl_cons]
      have h3 := h2 (max n m) List.mem_cons_self
      rcases List.mem_cons.mp hy with e | e
      · subst e; omega
      · rcases List.mem_cons.mp e with e | e
        · subst e; omega
        · exact h2 y (List.mem_cons_of_mem _ e)
theorem foldl_min : ∀ {ns : List Int} {n : Int}, (ns.foldl min n ∈ n :: ns) ∧ ∀ y ∈ n :: ns, ns.foldl min n ≤ y
  | [], n => ⟨by simp, by simp⟩
  | m :: ns, n => by
    obtain ⟨h1, h2⟩ := foldl_min (ns := ns) (n := min n m)
    refine ⟨?_, fun y hy => ?_⟩
    · rw [List.foldl_cons]
      rcases List.mem_cons.mp h1 with e | e
      · rw [e]
        rcases Int.le_total n m with l | l
        · rw [Int.min_eq_left l]; simp
        · rw [Int.min_eq_right l]; simp
      · exact List.mem_cons_of_mem _ (List.mem_cons_of_mem _ e)
    · rw [List.foldl_cons]
      have h3 := h2 (min n m) List.mem_cons_self
      rcases List.mem_cons.mp hy with e | e
      · subst e; omega
      · rcases List.mem_cons.mp e with e | e
        · subst e; omega
        · exact h2 y (List.mem_cons_of_mem _ e)
theorem maxI_is {ns : List Int} {m m' : Int} (h : maxI ns = some m) (h1 : m' ∈ ns) (h2 : ∀ y ∈ ns, y ≤ m') : m' = m := by
  cases ns with
  | nil => exact nomatch h
  | cons n ns =>
    have h : ns.foldl max n = m := Option.some.inj h
    have := foldl_max (ns := ns) (n := n)
    rw [h] at this
    have a := this.2 m' h1
    have b := h2 m this.1
    omega
theorem minI_is {ns : List Int} {m m' : Int} (h : minI ns = some m) (h1 : m' ∈ ns) (h2 : ∀ y ∈ ns, m' ≤ y) : m' = m := by
  cases ns with
  | nil => exact nomatch h
  | cons n ns =>
    have h : ns.foldl min n = m := Option.some.inj h
    have := foldl_min (ns := ns) (n := n)
    rw [h] at this
    have a := this.2 m' h1
    have b := h2 m this.1
    omega
theorem maxI_pos {ns : List Int} {m : Int} (h : maxI ns = some m) : 0 < ns.length := by
  cases ns with
  | nil => exact nomatch h
  | cons n ns => exact Nat.zero_lt_succ _
theorem minI_pos {ns : List Int} {m : Int} (h : minI ns = some m) : 0 < ns.length := by
  cases ns with
  | nil => exact nomatch h
  | cons n ns => exact Nat.zero_lt_succ _
def maxL : D → Option D | .lst ds => (intsOf ds).bind fun ns => (maxI ns).map .int | _ => none
def minL : D → Option D | .lst ds => (intsOf ds).bind fun ns => (minI ns).map .int | _ => none
def maxT : D → Option D | .tup ds => (intsOf ds).bind fun ns => (maxI ns).map .int | _ => none
theorem g1_maxL : G1 K (fun v => rMax K [v]) maxL := by
  intro H W v d d' Q hW p eo k
  cases p with
  | lst a q =>
    obtain ⟨ns, e, eo⟩ := Option.bind_eq_some_iff.mp (show (intsOf _).bind _ = some d' from eo)
    obtain ⟨m, em, rfl⟩ := Option.map_eq_some_iff.mp eo
    have := intsOf_some e
    subst this
    have := q.ints
    subst this
    exact ⟨_, ns, rfl, (.inl (.inl a)), maxI_pos em, fun m' h1 h2 => k _ H (Same.refl H) (by rw [maxI_is em h1 h2]; exact .int _)⟩
  | _ => exact nomatch eo
theorem g1_minL : G1 K (fun v => rMin K [v]) minL := by
  intro H W v d d' Q hW p eo k
  cases p with
  | lst a q =>
    obtain ⟨ns, e, eo⟩ := Option.bind_eq_some_iff.mp (show (intsOf _).bind _ = some d' from eo)
    obtain ⟨m, em, rfl⟩ := Option.map_eq_some_iff.mp eo
    have := intsOf_some e
    subst this
    have := q.ints
    subst this
    exact ⟨_, ns, rfl, (.inl (.inl a)), minI_pos em, fun m' h1 h2 => k _ H (Same.refl H) (by rw [minI_is em h1 h2]; exact .int _)⟩
  | _ => exact nomatch eo
theorem g1_maxT : G1 K (fun v => rMaxT K [v]) maxT := by
  intro H W v d d' Q hW p eo k
  cases p with
  | tup a q =>
    obtain ⟨ns, e, eo⟩ := Option.bind_eq_some_iff.mp (show (intsOf _).bind _ = some d' from eo)
    obtain ⟨m, em, rfl⟩ := Option.map_eq_some_iff.mp eo
    have := intsOf_some e
    subst this
    have := q.ints
    subst this
    exact ⟨_, ns, rfl, a.sq, maxI_pos em, fun m' h1 h2 => k _ H (Same.refl H) (by rw [maxI_is em h1 h2]; exact .int _)⟩
  | _ => exact nomatch eo
def allL : D → Option D | .lst ds => (blsOf ds).map fun bs => .bl (bs.all id) | _ => none
def anyL : D → Option D | .lst ds => (blsOf ds).map fun bs => .bl (bs.any id) | _ => none
theorem g1_allL : G1 K (fun v => rAll K [v]) allL := by
  intro H W v d d' Q hW p eo k
  cases p with
  | lst a q =>
    obtain ⟨ns, e, rfl⟩ := Option.map_eq_some_iff.mp (show (blsOf _).map _ = some d' from eo)
    have := blsOf_some e
    subst this
    have := q.bls
    subst this
    exact ⟨_, ns, rfl, (.inl (.inl a)), k _ H (Same.refl H) (.bl _)⟩
  | _ => exact nomatch eo
theorem g1_anyL : G1 K (fun v => rAny K [v]) anyL := by
  intro H W v d d' Q hW p eo k
  cases p with
  | lst a q =>
    obtain ⟨ns, e, rfl⟩ := Option.map_eq_some_iff.mp (show (blsOf _).map _ = some d' from eo)
    have := blsOf_some e
    subst this
    have := q.bls
    subst this
    exact ⟨_, ns, rfl, (.inl (.inl a)), k _ H (Same.refl H) (.bl _)⟩
  | _ => exact nomatch eo
/-- tuple(..) -/
def tupleD : D → Option D | .lst ds => some (.tup ds) | .tup ds => some (.tup ds) | _ => none
theorem new_tup {H : Hp} {W : Addr → Prop} {p : Addr} {vs : List V} {ds : List D} (hW : ∀ p, H p = none → ¬ W p) (n : H p = none) (q : RpA K H W vs ds) : Rp K (upd H p (.tup vs)) W (.ref p) (.tup ds) :=
  .tup (.inl ⟨.inl upd_same, hW p n⟩) (q.go (Go.same (same_new n)))
end
end BV
set_option Elab.async false
set_option linter.all false
set_option maxRecDepth 100000
namespace BV
open PySem PySem.Spec PyProof.Rows L2 WK

section
variable {K : PySem.W.Frag}
theorem g1_tuple : G1 K (fun v H Q => ∃ p ys, [v] = [.ref p] ∧ ((SqL K H p ys ∧ ∀ l, H l = none → Q (.ref l) (upd H l (.tup ys))) ∨ (SqT K H p ys ∧ Q (.ref p) H))) tupleD := by
  intro H W v d d' Q hW p eo k
  cases p with
  | lst a q =>
    cases eo
    exact ⟨_, _, rfl, .inl ⟨.inl (.inl a), fun l n => k _ _ (same_new n) (new_tup hW n q)⟩⟩
  | tup a q =>
    cases eo
    exact ⟨_, _, rfl, .inr ⟨a.sq, k _ H (Same.refl H) (.tup a q)⟩⟩
  | _ => exact nomatch eo
def listD : D → Option D | .lst ds => some (.lst ds) | .tup ds => some (.lst ds) | _ => none
theorem l1_list : L1 K (fun v H Q => ∃ p ys, [v] = [.ref p] ∧ (SqL K H p ys ∨ SqT K H p ys) ∧ ∀ l, H l = none → Q (.ref l) (upd H l (.lst ys))) listD := by
  intro H W v d d' Q p eo k
  cases p with
  | lst a q => cases eo; exact ⟨_, _, rfl, .inl (.inl (.inl a)), fun l n => k l _ _ n rfl q⟩
  | tup a q => cases eo; exact ⟨_, _, rfl, .inr a.sq, fun l n => k l _ _ n rfl q⟩
  | _ => exact nomatch eo
def catT (a b : D) : Option D := match a, b with | .tup ds, .tup es => if ds.length + es.length ≤ sizeLine then some (.tup (ds ++ es)) else none | _, _ => none
theorem g2_catA : G2 K (rCatA K) catT := by
  intro H W v d u e d' Q hW p q eo k
  cases p with
  | tup a r =>
    cases q with
    | tup b t =>
      rename_i a' vs ds b' us es
      have eo : (if ds.length + es.length ≤ sizeLine then some (D.tup (ds ++ es)) else none) = some d' := eo
      by_cases h : ds.length + es.length ≤ sizeLine
      · rw [if_pos h] at eo
        cases eo
        refine ⟨_, _, _, _, rfl, rfl, a.sq, b.sq, by rw [r.len, t.len]; exact h, fun e => ?_, fun e1 e2 => ?_, fun e1 e2 p n => ?_⟩
        · subst e
          cases r
          exact k _ H (Same.refl H) (.tup b t)
        · subst e2
          cases t
          refine k _ H (Same.refl H) ?_
          rw [List.append_nil]
          exact .tup a r
        · exact k _ _ (same_new n) (new_tup hW n (r.append t))
      · rw [if_neg h] at eo; exact nomatch eo
    | _ => exact nomatch eo
  | _ => cases q <;> exact nomatch eo
def catL (a b : D) : Option D := match a, b with | .lst ds, .lst es => if ds.length + es.length ≤ sizeLine then some (.lst (ds ++ es)) else none | _, _ => none
theorem l2_cat : L2' K rCat catL := by
  intro H W v d u e d' Q p q eo k
  cases p with
  | lst a r =>
    cases q with
    | lst b t =>
      rename_i a' vs ds b' us es
      have eo : (if ds.length + es.length ≤ sizeLine then some (D.lst (ds ++ es)) else none) = some d' := eo
      by_cases h : ds.length + es.length ≤ sizeLine
      · rw [if_pos h] at eo
        cases eo
        exact ⟨_, _, _, _, rfl, rfl, a, b, by rw [r.len, t.len]; exact h, fun p n => k p _ _ n rfl (r.append t)⟩
      · rw [if_neg h] at eo; exact nomatch eo
    | _ => exact nomatch eo
  | _ => cases q <;> exact nomatch eo
/-- a tuple times a number -/
def repT (a b : D) : Option D := match a, b with | .tup ds, .int k => if -(2 ^ 62) ≤ k ∧ k ≤ 1000 ∧ ds.length ≤ 1000 then some (.tup (List.replicate k.toNat ds).flatten) else none | _, _ => none
/-- sorted whole numbers -/
def sortI (ns : List Int) : List Int := ns.mergeSort (fun a b => decide (a ≤ b))
theorem sortI_perm (ns : List Int) : (sortI ns).Perm ns := List.mergeSort_perm _ _
theorem sortI_sorted (ns : List Int) : (sortI ns).Pairwise (· ≤ ·) := by
  have := List.pairwise_mergeSort (le := fun a b : Int => decide (a ≤ b)) (fun a b c h1 h2 => by simp at *; omega) (fun a b => by simp; omega) ns
  exact this.imp fun h => of_decide_eq_true h
theorem sortI_unique {ns ms : List Int} (p : ms.Perm ns) (s : ms.Pairwise (· ≤ ·)) : ms = sortI ns :=
  List.Perm.eq_of_pairwise (le := fun a b : Int => a ≤ b) (fun a b _ _ h1 h2 => by omega) s (sortI_sorted ns) (p.trans (sortI_perm ns).symm)
def sortedD : D → Option D | .lst ds => (intsOf ds).map fun ns => .lst ((sortI ns).map .int) | _ => none
theorem l1_sortedI : L1 K (fun v => rSortedI K [v]) sortedD := by
  intro H W v d d' Q p eo k
  cases p with
  | lst a q =>
    obtain ⟨ns, e, rfl⟩ := Option.map_eq_some_iff.mp (show (intsOf _).map _ = some d' from eo)
    have := intsOf_some e
    subst this
    have := q.ints
    subst this
    refine ⟨_, ns, rfl, .inl (.inl a), fun ns' p h1 h2 n => ?_⟩
    rw [sortI_unique h1 h2]
    exact k p _ _ n rfl (.of_ints _)
  | _ => exact nomatch eo
/-- list(d.values()) -/
def valsD : D → Option D | .dct kvs => some (.lst (kvs.map (·.2))) | _ => none
theorem RpK.vals {H : Hp} {W : Addr → Prop} : ∀ {vs : List (Key × V)} {ds : List (Key × D)}, RpK K H W vs ds → RpA K H W (vs.map (·.2)) (ds.map (·.2))
  | _, _, .nil => .nil
  | _, _, .cons a b => .cons a b.vals
theorem RpK.len {H : Hp} {W : Addr → Prop} : ∀ {vs : List (Key × V)} {ds : List (Key × D)}, RpK K H W vs ds → vs.length = ds.length
  | _, _, .nil => rfl
  | _, _, .cons _ b => congrArg (· + 1) b.len
theorem valsO_ne {p a : Addr} {xs : List V} : HO.lst xs ≠ valsO p a := fun z => nomatch z

/-! ### data that is printed, compared -/
mutual
def toPy : D → Option PyData
  | .non => some .none | .bl b => some (.bool b) | .int i => some (.int i) | .str x => some (.str x)
  | .tup ds => (toPyL ds).map .tuple | .lst ds => (toPyL ds).map .list | _ => none
def toPyL : List D → Option (List PyData)
  | [] => some []
  | d :: ds => (toPy d).bind fun p => (toPyL ds).map (p :: ·)
end
mutual
theorem Rp.dp {H : Hp} {W : Addr → Prop} : ∀ {v : V} {d : D} {p : PyData}, Rp K H W v d → toPy d = some p → Dp K H v p
  | _, _, _, .non, h => by cases h; exact .non
  | _, _, _, .bl b, h => by cases h; exact .bl b
  | _, _, _, .int b, h => by cases h; exact .int b
  | _, _, _, .str b, h => by cases h; exact .str b
  | _, _, _, .tup a q, h => by
    rw [toPy] at h
    obtain ⟨ps, e, rfl⟩ := Option.map_eq_some_iff.mp h
    exact .tup a.sq (RpA.dp q e)
  | _, _, _, .lst a q, h => by
    rw [toPy] at h
    obtain ⟨ps, e, rfl⟩ := Option.map_eq_some_iff.mp h
    exact .lst a.sq (RpA.dp q e)
  | _, _, _, .dct a n q, h => by rw [toPy] at h <;> first | exact nomatch h | (intros; contradiction)
  | _, _, _, .dtt a n q, h => by rw [toPy] at h <;> first | exact nomatch h | (intros; contradiction)
  | _, _, _, .scr a, h => by rw [toPy] at h <;> first | exact nomatch h | (intros; contradiction)
theorem RpA.dp {H : Hp} {W : Addr → Prop} : ∀ {vs : List V} {ds : List D} {ps : List PyData}, RpA K H W vs ds → toPyL ds = some ps → DpAll K H vs ps
  | _, _, _, .nil, h => by rw [toPyL] at h; cases h; exact .nil
  | _, _, _, .cons a b, h => by
    rw [toPyL] at h
    obtain ⟨p, e1, h⟩ := Option.bind_eq_some_iff.mp h
    obtain ⟨ps, e2, rfl⟩ := Option.map_eq_some_iff.mp h
    exact .cons (Rp.dp a e1) (RpA.dp b e2)
end
theorem Vw.dp {H : Hp} {W : Addr → Prop} {v : V} {d : D} {p : PyData} (h : Vw K H W v d) (e : toPy d = some p) : Dp K H v p := by
  cases h with
  | non => exact (Rp.non (K := K) (W := W)).dp e
  | bl b => exact (Rp.bl (K := K) (W := W) b).dp e
  | int b => exact (Rp.int (K := K) (W := W) b).dp e
  | str b => exact (Rp.str (K := K) (W := W) b).dp e
  | tup a q => exact (Rp.tup a q).dp e
  | lst a q =>
    rw [toPy] at e
    obtain ⟨ps, e', rfl⟩ := Option.map_eq_some_iff.mp e
    exact .lst (.inl (.inl a)) (q.dp e')
  | dct a q => rw [toPy] at e <;> first | exact nomatch e | (intros; contradiction)
  | dtt a q => rw [toPy] at e <;> first | exact nomatch e | (intros; contradiction)
  | scr a => rw [toPy] at e <;> first | exact nomatch e | (intros; contradiction)
def shB (p : PyData) : Bool := p.showable && decide (p.depth ≤ 20) && decide (p.shown.length ≤ sizeLine)
theorem shB_ok {p : PyData} (h : shB p = true) : Shows p := by
  unfold shB at h
  simp only [Bool.and_eq_true, decide_eq_true_eq] at h
  exact ⟨h.1.1, h.1.2, h.2⟩
theorem shB_of {p : PyData} (h : Shows p) : shB p = true := by
  unfold shB
  simp only [Bool.and_eq_true, decide_eq_true_eq]
  exact ⟨⟨h.ok, h.dep⟩, h.len⟩
def reprP (d : D) : Option D := (toPy d).bind fun p => if shB p = true then some (.str p.shown) else none
def reprD (d : D) : Option D := match d with | .tup _ => reprP d | .lst _ => reprP d | _ => none
theorem g1_repr : G1 K (fun v => rRepr K [v]) reprD := by
  intro H W v d d' Q hW p eo k
  cases p with
  | tup a q =>
    obtain ⟨pd, e, eo⟩ := Option.bind_eq_some_iff.mp (show (toPy _).bind _ = some d' from eo)
    by_cases hs : shB pd = true
    · rw [if_pos hs] at eo
      cases eo
      exact ⟨_, pd, rfl, (Vw.tup a q).dp e, shB_ok hs, k _ H (Same.refl H) (.str _)⟩
    · rw [if_neg hs] at eo; exact nomatch eo
  | lst a q =>
    obtain ⟨pd, e, eo⟩ := Option.bind_eq_some_iff.mp (show (toPy _).bind _ = some d' from eo)
    by_cases hs : shB pd = true
    · rw [if_pos hs] at eo
      cases eo
      exact ⟨_, pd, rfl, (Vw.lst a q).dp e, shB_ok hs, k _ H (Same.refl H) (.str _)⟩
    · rw [if_neg hs] at eo; exact nomatch eo
  | _ => exact nomatch eo
def eqDD (a b : D) : Option D := (toPy a).bind fun p => (toPy b).bind fun q => if (SeqAt.shaped p && SeqAt.shaped q) = true then some (.bl (PyData.eqv p q)) else none
def neDD (a b : D) : Option D := (toPy a).bind fun p => (toPy b).bind fun q => if (SeqAt.shaped p && SeqAt.shaped q) = true then some (.bl (!PyData.eqv p q)) else none
theorem g2_eqD : G2 K (rEqD K) eqDD := by
  intro H W v d u e d' Q hW p q eo k
  obtain ⟨pd, e1, eo⟩ := Option.bind_eq_some_iff.mp (show (toPy d).bind _ = some d' from eo)
  obtain ⟨qd, e2, eo⟩ := Option.bind_eq_some_iff.mp eo
  by_cases hs : (SeqAt.shaped pd && SeqAt.shaped qd) = true
  · rw [if_pos hs] at eo
    cases eo
    have hs := Bool.and_eq_true_iff.mp hs
    exact ⟨pd, qd, p.dp e1, q.dp e2, hs.1, hs.2, k _ H (Same.refl H) (.bl _)⟩
  · rw [if_neg hs] at eo; exact nomatch eo
theorem g2_neD : G2 K (rNeD K) neDD := by
  intro H W v d u e d' Q hW p q eo k
  obtain ⟨pd, e1, eo⟩ := Option.bind_eq_some_iff.mp (show (toPy d).bind _ = some d' from eo)
  obtain ⟨qd, e2, eo⟩ := Option.bind_eq_some_iff.mp eo
  by_cases hs : (SeqAt.shaped pd && SeqAt.shaped qd) = true
  · rw [if_pos hs] at eo
    cases eo
    have hs := Bool.and_eq_true_iff.mp hs
    exact ⟨pd, qd, p.dp e1, q.dp e2, hs.1, hs.2, k _ H (Same.refl H) (.bl _)⟩
  · rw [if_neg hs] at eo; exact nomatch eo
end

/-! ### dicts -/
section
variable {κ : Type} [DecidableEq κ]
def getK (kvs : List (κ × D)) (k : κ) : Option D := (kvs.find? fun kv => decide (kv.1 = k)).map (·.2)
def putKD (kvs : List (κ × D)) (k : κ) (d : D) : List (κ × D) :=
  if (kvs.any fun kv => decide (kv.1 = k)) = true then kvs.map (fun kv => if kv.1 = k then (kv.1, d) else kv) else kvs ++ [(k, d)]
end
def keyD : D → Option Key | .int i => some (.inl i) | .str x => some (.inr x) | _ => none
section
variable {K : PySem.W.Frag} {H : Hp} {W : Addr → Prop}
theorem keyD_ok {v : V} {d : D} {k : Key} (p : Vw K H W v d) (h : keyD d = some k) : v = kV k := by
  cases p <;> first | (cases h; rfl) | exact nomatch h
theorem RpK.get : ∀ {vs : List (Key × V)} {ds : List (Key × D)} {k : Key}, RpK K H W vs ds → match getK ds k with | some d => ∃ v, valV vs k = some v ∧ Rp K H W v d | none => valV vs k = none
  | _, _, _, .nil => rfl
  | _, _, k, .cons (k := k') a b => by
    by_cases e : k' = k
    · subst e
      have : ∀ (d : D) (ds : List (Key × D)), getK ((k', d) :: ds) k' = some d := fun d ds => by unfold getK; rw [List.find?_cons_of_pos (by simp)]; rfl
      rw [this]
      exact ⟨_, valV_pos rfl, a⟩
    · have : ∀ d (ds : List (Key × D)), getK ((k', d) :: ds) k = getK ds k := fun d ds => by unfold getK; rw [List.find?_cons_of_neg (by simpa using e)]
      rw [this]
      have ih := b.get (k := k)
      revert ih
      cases getK _ k with
      | none => exact fun ih => (valV_neg e).trans ih
      | some d => exact fun ⟨v, e1, e2⟩ => ⟨v, (valV_neg e).trans e1, e2⟩
theorem RpK.any {k : Key} : ∀ {vs : List (Key × V)} {ds : List (Key × D)}, RpK K H W vs ds → (vs.any fun kv => decide (kv.1 = k)) = ds.any fun kv => decide (kv.1 = k)
  | _, _, .nil => rfl
  | _, _, .cons a b => by rw [List.any_cons, List.any_cons, b.any]
theorem RpK.mapP {k : Key} {v : V} {d : D} (h : Rp K H W v d) : ∀ {vs : List (Key × V)} {ds : List (Key × D)}, RpK K H W vs ds →
    RpK K H W (vs.map fun kv => if kv.1 = k then (kv.1, v) else kv) (ds.map fun kv => if kv.1 = k then (kv.1, d) else kv)
  | _, _, .nil => .nil
  | _, _, .cons (k := k') a b => by
    rw [List.map_cons, List.map_cons]
    by_cases e : k' = k
    · rw [if_pos e, if_pos e]; exact .cons h (b.mapP h)
    · rw [if_neg e, if_neg e]; exact .cons a (b.mapP h)
theorem RpK.snoc {k : Key} {v : V} {d : D} (h : Rp K H W v d) : ∀ {vs : List (Key × V)} {ds : List (Key × D)}, RpK K H W vs ds → RpK K H W (vs ++ [(k, v)]) (ds ++ [(k, d)])
  | _, _, .nil => .cons h .nil
  | _, _, .cons a b => .cons a (b.snoc h)
theorem RpK.put {k : Key} {v : V} {d : D} {vs : List (Key × V)} {ds : List (Key × D)} (q : RpK K H W vs ds) (h : Rp K H W v d) : RpK K H W (putK vs k v) (putKD ds k d) := by
  unfold putK putKD
  rw [q.any]
  split
  · exact q.mapP h
  · exact q.snoc h
def dgetD (a b : D) : Option D := match a with | .dct kvs => (keyD b).bind fun k => getK kvs k | _ => none
def rDGet : R2 := fun x y H Q => ∃ a v, x = .ref a ∧ DGet H a y (some v) ∧ Q v H
theorem g2_dget : G2 K rDGet dgetD := by
  intro H W v d u e d' Q hW p q eo k
  cases p with
  | dct a r =>
    rename_i a' vs ds
    obtain ⟨key, ek, eo⟩ := Option.bind_eq_some_iff.mp (show (keyD e).bind _ = some d' from eo)
    have hk := keyD_ok q ek
    subst hk
    have g := r.get (k := key)
    rw [eo] at g
    obtain ⟨w, e1, e2⟩ := g
    exact ⟨_, w, rfl, .inl ⟨vs, key, a, rfl, e1.symm⟩, k w H (Same.refl H) e2⟩
  | _ => exact nomatch eo
def dinD (b a : D) : Option D := match a with | .dct kvs => (keyD b).map fun k => .bl (getK kvs k).isSome | _ => none
def dninD (b a : D) : Option D := match a with | .dct kvs => (keyD b).map fun k => .bl (!(getK kvs k).isSome) | _ => none
def rDIn : R2 := fun y x H Q => ∃ a o, x = .ref a ∧ DGet H a y o ∧ Q (.bl o.isSome) H
def rDNin : R2 := fun y x H Q => ∃ a o, x = .ref a ∧ DGet H a y o ∧ Q (.bl (!o.isSome)) H
theorem RpK.is {k : Key} {vs : List (Key × V)} {ds : List (Key × D)} (q : RpK K H W vs ds) : (valV vs k).isSome = (getK ds k).isSome := by
  have g := q.get (k := k)
  revert g
  cases getK ds k with
  | none => exact fun g => by rw [g]; rfl
  | some d => exact fun ⟨v, e, _⟩ => by rw [e]; rfl
theorem g2_din : G2 K rDIn dinD := by
  intro H W v d u e d' Q hW p q eo k
  cases q with
  | dct a r =>
    rename_i a' vs ds
    obtain ⟨key, ek, rfl⟩ := Option.map_eq_some_iff.mp (show (keyD d).map _ = some d' from eo)
    have hk := keyD_ok p ek
    subst hk
    exact ⟨_, _, rfl, .inl ⟨vs, key, a, rfl, rfl⟩, k _ H (Same.refl H) (by rw [r.is]; exact .bl _)⟩
  | _ => exact nomatch eo
theorem g2_dnin : G2 K rDNin dninD := by
  intro H W v d u e d' Q hW p q eo k
  cases q with
  | dct a r =>
    rename_i a' vs ds
    obtain ⟨key, ek, rfl⟩ := Option.map_eq_some_iff.mp (show (keyD d).map _ = some d' from eo)
    have hk := keyD_ok p ek
    subst hk
    exact ⟨_, _, rfl, .inl ⟨vs, key, a, rfl, rfl⟩, k _ H (Same.refl H) (by rw [r.is]; exact .bl _)⟩
  | _ => exact nomatch eo
end
end BV
set_option Elab.async false
set_option linter.all false
set_option maxRecDepth 100000
namespace BV
open PySem PySem.Spec PyProof.Rows L2 WK

section
variable {K : PySem.W.Frag} {X : Addr → Prop} {Γ Γ1 Γ2 : List Sl} {σ : L2.St} {ρ : Env} {F : Nat → List Addr} {H : Hp} {i : Nat}
/-- a value is put into a slot -/
theorem Rep.put {c : Cl} {v : V} {d : D} {G : List Addr} (R : Rep K (fun b => X b ∨ b ∈ G) Γ σ ρ F H) (o : Own K H (Ws (fun b => X b ∨ b ∈ G) F) c v d G) (nx : ∀ b ∈ G, ¬ X b) (hl : i < Γ.length) :
    Rep K X (Γ.set i (.v c)) (σ.set i (some v)) (ρ.set i (some d)) (updF F i G) H := by
  have sub : ∀ b, Ws X (updF F i G) b → Ws (fun b => X b ∨ b ∈ G) F b := fun b z => by
    rcases z with z | ⟨j, z⟩
    · exact .inl (.inl z)
    · by_cases e : j = i
      · rw [e, updF_at] at z; exact .inl (.inr z)
      · rw [updF_ne e] at z; exact .inr ⟨j, z⟩
  have hl2 : i < ρ.length := by rw [← R.gl]; exact hl
  have hl3 : i < σ.length := by rw [R.len]; exact hl2
  refine ⟨by rw [List.length_set, List.length_set]; exact R.len, by rw [List.length_set, List.length_set]; exact R.gl, fun j => ?_, fun j k b hj hk => ?_, fun b z => ⟨(R.xt b (.inl z)).1, fun j hj => ?_⟩, fun j b hj => ?_⟩
  · by_cases e : j = i
    · subst e
      rw [updF_at, List.getElem?_set_self hl, List.getElem?_set_self hl2, List.getElem?_set_self hl3]
      exact ⟨v, rfl, o.go (Go.sub sub) fun _ _ _ e => e⟩
    · rw [List.getElem?_set_ne (Ne.symm e), List.getElem?_set_ne (Ne.symm e), List.getElem?_set_ne (Ne.symm e), updF_ne e]
      exact (R.at_ j).go (Go.sub sub) fun _ _ _ e => e
  · by_cases e1 : j = i
    · by_cases e2 : k = i
      · rw [e1, e2]
      · rw [e1, updF_at] at hj
        rw [updF_ne e2] at hk
        exact absurd hk ((R.xt b (.inr hj)).2 k)
    · by_cases e2 : k = i
      · rw [e2, updF_at] at hk
        rw [updF_ne e1] at hj
        exact absurd hj ((R.xt b (.inr hk)).2 j)
      · rw [updF_ne e1] at hj
        rw [updF_ne e2] at hk
        exact R.dis j k b hj hk
  · by_cases e : j = i
    · rw [e, updF_at] at hj; exact nx b hj z
    · rw [updF_ne e] at hj; exact (R.xt b (.inl z)).2 j hj
  · by_cases e : j = i
    · rw [e, updF_at] at hj; exact o.tracked b hj
    · rw [updF_ne e] at hj; exact R.ft j b hj
theorem Stp.put {F' : Nat → List Addr} {H' : Hp} {G : List Addr} (s : Stp F H F' H') (g : ∀ b ∈ G, (∃ i, b ∈ F i) ∨ H b = none) : Stp F H (updF F' i G) H' := ⟨s.fr, fun j b hj => by
  by_cases e : j = i
  · rw [e, updF_at] at hj; exact g b hj
  · rw [updF_ne e] at hj; exact s.nw j b hj⟩
/-- a slot is emptied -/
theorem Rep.unset (R : Rep K X Γ σ ρ F H) (hF : F i = []) : Rep K X Γ (σ.set i none) (ρ.set i none) F H := by
  refine ⟨by rw [List.length_set, List.length_set]; exact R.len, by rw [List.length_set]; exact R.gl, fun j => ?_, R.dis, R.xt, R.ft⟩
  by_cases e : j = i
  · subst e
    unfold Slot
    cases hg : Γ[j]? with
    | none => exact hF
    | some g =>
      cases g with
      | u => exact hF
      | v c =>
        by_cases hl : j < ρ.length
        · rw [List.getElem?_set_self hl]; exact hF
        · rw [List.getElem?_eq_none (by rw [List.length_set]; omega)]; exact hF
  · rw [List.getElem?_set_ne (Ne.symm e), List.getElem?_set_ne (Ne.symm e)]
    exact R.at_ j
def wipeE (ρ : Env) : List Nat → Env
  | [] => ρ
  | v :: vs => (wipeE ρ vs).set v none
theorem Rep.wipe (R : Rep K X Γ σ ρ F H) : ∀ {vs : List Nat}, (∀ v ∈ vs, F v = []) → Rep K X Γ (wipe σ vs) (wipeE ρ vs) F H
  | [], _ => R
  | v :: vs, h => (R.wipe fun w hw => h w (List.mem_cons_of_mem _ hw)).unset (h v List.mem_cons_self)
theorem wipe_at {vs : List Nat} {j : Nat} (h : j ∉ vs) : (L2.wipe σ vs)[j]? = σ[j]? := by
  induction vs with
  | nil => rfl
  | cons v vs ih =>
    unfold L2.wipe
    rw [List.getElem?_set_ne (fun e => h (by rw [← e]; exact List.mem_cons_self)), ih fun z => h (List.mem_cons_of_mem _ z)]
theorem wipe_in {vs : List Nat} {j : Nat} (h : j ∈ vs) (hl : j < σ.length) : (L2.wipe σ vs)[j]? = some none := by
  induction vs with
  | nil => exact nomatch h
  | cons v vs ih =>
    unfold L2.wipe
    by_cases e : v = j
    · subst e
      rw [List.getElem?_set_self (by rw [wipe_length]; exact hl)]
    · rw [List.getElem?_set_ne e]
      rcases List.mem_cons.mp h with z | z
      · exact absurd z.symm e
      · exact ih z
theorem wipe_eq {σ' : L2.St} {vs : List Nat} (hl : σ'.length = σ.length) (h : ∀ j, j ∉ vs → σ'[j]? = σ[j]?) : L2.wipe σ' vs = L2.wipe σ vs := by
  refine List.ext_getElem? fun j => ?_
  by_cases hj : j ∈ vs
  · by_cases hb : j < σ.length
    · rw [wipe_in hj hb, wipe_in hj (by omega)]
    · rw [List.getElem?_eq_none (by rw [wipe_length]; omega), List.getElem?_eq_none (by rw [wipe_length]; omega)]
  · rw [wipe_at hj, wipe_at hj, h j hj]
/-- a slot that owns nothing -/
def bare : Option Sl → Bool | some (.v .fz) => true | some .u => true | none => true | _ => false
theorem Rep.noF (R : Rep K X Γ σ ρ F H) (h : bare Γ[i]? = true) : F i = [] := by
  have q := R.at_ i
  unfold Slot at q
  cases hg : Γ[i]? with
  | none => rw [hg] at q; exact q
  | some g =>
    rw [hg] at q h
    cases g with
    | u => exact q
    | v c =>
      cases c with
      | fz =>
        cases hr : ρ[i]? with
        | none => rw [hr] at q; exact q
        | some r =>
          cases r with
          | none => rw [hr] at q; exact q
          | some d => rw [hr] at q; obtain ⟨v, _, e, _⟩ := q; exact e
      | o1 => exact nomatch h
      | src => exact nomatch h

/-! ### targets -/
def RG (K : PySem.W.Frag) (g : TG) (S : List Nat) (Γ Γ' : List Sl) (f : D → Env → Option Env) : Prop := ∀ X σ ρ F H v d ρ' Q, Rep K X Γ σ ρ F H → Rp K H (Ws X F) v d → f d ρ = some ρ' →
  (∀ σ' F', Rep K X Γ' σ' ρ' F' H → Stp F H F' H → (∀ b, Ws X F' b → Ws X F b) → σ'.length = σ.length → (∀ j, j ∉ S → σ'[j]? = σ[j]?) → Q σ' H) → g v σ H Q
def RGs (K : PySem.W.Frag) (g : TGs) (S : List Nat) (Γ Γ' : List Sl) (f : List D → Env → Option Env) : Prop := ∀ X σ ρ F H vs ds ρ' Q, Rep K X Γ σ ρ F H → RpA K H (Ws X F) vs ds → f ds ρ = some ρ' →
  (∀ σ' F', Rep K X Γ' σ' ρ' F' H → Stp F H F' H → (∀ b, Ws X F' b → Ws X F b) → σ'.length = σ.length → (∀ j, j ∉ S → σ'[j]? = σ[j]?) → Q σ' H) → g vs σ H Q
def nameG (i : Nat) : D → Env → Option Env := fun d ρ => some (ρ.set i (some d))
theorem rg_name (hl : i < Γ.length) : RG K (gName i) [i] Γ (Γ.set i (.v .fz)) (nameG i) := by
  intro X σ ρ F H v d ρ' Q R p e k
  cases e
  refine k _ (updF F i []) (R.nil.put ⟨rfl, p.go (Go.sub fun b => ws_nil.mp)⟩ (fun b z => nomatch z) hl) .let_go (fun b z => ws_updF z) (by rw [List.length_set]) fun j hj => ?_
  rw [List.getElem?_set_ne (fun e => hj (by rw [e]; exact List.mem_cons_self))]
def nilG : List D → Env → Option Env := fun ds ρ => match ds with | [] => some ρ | _ => none
def consG (f : D → Env → Option Env) (g : List D → Env → Option Env) : List D → Env → Option Env := fun ds ρ => match ds with | d :: r => (f d ρ).bind (g r) | [] => none
theorem rgs_nil : RGs K gNil [] Γ Γ nilG := by
  intro X σ ρ F H vs ds ρ' Q R p e k
  cases p with
  | nil => cases e; exact ⟨rfl, k σ F R (.refl F H) (fun _ z => z) rfl fun _ _ => rfl⟩
  | cons a b => exact nomatch e
theorem rgs_cons {g : TG} {gs : TGs} {S T : List Nat} {f : D → Env → Option Env} {fs : List D → Env → Option Env} (h : RG K g S Γ Γ1 f) (hs : RGs K gs T Γ1 Γ2 fs) : RGs K (gCons g gs) (S ++ T) Γ Γ2 (consG f fs) := by
  intro X σ ρ F H vs ds ρ' Q R p e k
  cases p with
  | nil => exact nomatch e
  | cons a b =>
    obtain ⟨ρ1, e1, e2⟩ := Option.bind_eq_some_iff.mp (show (f _ ρ).bind (fs _) = some ρ' from e)
    refine ⟨_, _, rfl, h X σ ρ F H _ _ ρ1 _ R a e1 fun σ1 F1 R1 s1 w1 l1 j1 => ?_⟩
    refine hs X σ1 ρ1 F1 H _ _ ρ' Q R1 (b.go (Go.sub w1)) e2 fun σ2 F2 R2 s2 w2 l2 j2 => ?_
    refine k σ2 F2 R2 (s1.trans s2) (fun b z => w1 b (w2 b z)) (l2.trans l1) fun j hj => ?_
    rw [j2 j fun z => hj (List.mem_append_right _ z), j1 j fun z => hj (List.mem_append_left _ z)]
def tupG (n : Nat) (f : List D → Env → Option Env) : D → Env → Option Env := fun d ρ => match d with | .tup ds => if ds.length = n then f ds ρ else none | _ => none
theorem rg_tup {gs : TGs} {S : List Nat} {n : Nat} {fs : List D → Env → Option Env} (hs : RGs K gs S Γ Γ1 fs) : RG K (gTup K n gs) S Γ Γ1 (tupG n fs) := by
  intro X σ ρ F H v d ρ' Q R p e k
  cases p with
  | tup a q =>
    rename_i a' vs ds
    have e : (if ds.length = n then fs ds ρ else none) = some ρ' := e
    by_cases hn : ds.length = n
    · rw [if_pos hn] at e
      exact ⟨_, _, rfl, a.sq, by rw [q.len]; exact hn, hs X σ ρ F H _ _ ρ' Q R q e k⟩
    · rw [if_neg hn] at e; exact nomatch e
  | _ => exact nomatch e

/-! ### what is walked -/
def ItD (K : PySem.W.Frag) (J : It) (X : Addr → Prop) (F : Nat → List Addr) (H : Hp) (ds : List D) : Prop := ∃ (G : Hp → Prop) (Y : Nat → Hp → V → Hp → Prop), Walk J ds.length G Y ∧ (∀ F2 H2, Stp F H F2 H2 → G H2) ∧
  ∀ i F2 H2 x H3, i < ds.length → Stp F H F2 H2 → Y i H2 x H3 → Same H2 H3 ∧ ∃ d, ds[i]? = some d ∧ ∀ W : Addr → Prop, (∀ b, W b → Ws X F b ∨ H b = none) → (∀ p, H2 p = none → ¬ W p) → Rp K H3 W x d
def RI (K : PySem.W.Frag) (wi : TI) (Γ Γ' : List Sl) (f : M (List D)) : Prop := ∀ X σ ρ F H R ds ρ', Rep K X Γ σ ρ F H → f ρ = some (ds, ρ') →
  (∀ J F' H', Rep K X Γ' σ ρ' F' H' → Stp F H F' H' → ItD K J X F' H' ds → R J H') → wi σ H R
theorem Stp.goW {F2 : Nat → List Addr} {H2 : Hp} {W : Addr → Prop} (s : Stp F H F2 H2) (w : ∀ b, W b → Ws X F b ∨ H b = none) : Go H (Ws X F) H2 W :=
  ⟨(s.go (X := X)).ls, (s.go (X := X)).fr, w⟩
def lstsD : D → Option (List D) | .lst ds => some ds | _ => none
def tupsD : D → Option (List D) | .tup ds => some ds | _ => none
def itM (h : D → Option (List D)) (f : M D) : M (List D) := bnd f fun d => lif (h d)
theorem ri_list {t : TE} {f : M D} (h : RF K t Γ Γ1 f) : RI K (iList K t) Γ Γ1 (itM lstsD f) := by
  intro X σ ρ F H R ds ρ' RR e k
  obtain ⟨a, ρ1, ea, e⟩ := bnd_some e
  obtain ⟨z, eo, er⟩ := lif_some e
  cases er
  refine h X σ ρ F H _ a ρ' RR ea fun v F' H' R' p s => ?_
  cases p with
  | lst a q =>
    rename_i b vs ds'
    cases eo
    refine ⟨_, rfl, ⟨_, a.sq⟩, k _ F' H' R' s ⟨fun H2 => SqL K H2 _ _, YAt vs, ?_, fun F2 H2 s2 => (a.go (s2.go (X := X))).sq, fun i F2 H2 x H3 hi s2 y => ?_⟩⟩
    · rw [← q.len]; exact walk_list
    · obtain ⟨rfl, hx⟩ := y
      obtain ⟨d, e1, e2⟩ := q.get' hx
      exact ⟨.refl _, d, e1, fun W w _ => e2.go (s2.goW w)⟩
  | _ => exact nomatch eo
theorem ri_tup {t : TE} {f : M D} (h : RF K t Γ Γ1 f) : RI K (iTup K t) Γ Γ1 (itM tupsD f) := by
  intro X σ ρ F H R ds ρ' RR e k
  obtain ⟨a, ρ1, ea, e⟩ := bnd_some e
  obtain ⟨z, eo, er⟩ := lif_some e
  cases er
  refine h X σ ρ F H _ a ρ' RR ea fun v F' H' R' p s => ?_
  cases p with
  | tup a q =>
    rename_i b vs ds'
    cases eo
    refine ⟨_, rfl, ⟨_, a.sq⟩, k _ F' H' R' s ⟨fun H2 => SqT K H2 _ _, YAt vs, ?_, fun F2 H2 s2 => (a.go (s2.go (X := X))).sq, fun i F2 H2 x H3 hi s2 y => ?_⟩⟩
    · rw [← q.len]; exact walk_tup
    · obtain ⟨rfl, hx⟩ := y
      obtain ⟨d, e1, e2⟩ := q.get' hx
      exact ⟨.refl _, d, e1, fun W w _ => e2.go (s2.goW w)⟩
  | _ => exact nomatch eo
def rangeL (lo : Int) (n : Nat) : List D := (List.range n).map fun i => .int (lo + (i : Nat))
theorem rangeL_len {lo : Int} {n : Nat} : (rangeL lo n).length = n := by simp [rangeL]
theorem rangeL_at {lo : Int} {n i : Nat} (h : i < n) : (rangeL lo n)[i]? = some (.int (lo + (i : Nat))) := by simp [rangeL, h]
def big (j : Int) : Bool := decide (-(2 ^ 62) ≤ j) && decide (j < 2 ^ 62)
theorem big_ok {j : Int} (h : big j = true) : -(2 ^ 62) ≤ j ∧ j < 2 ^ 62 := by
  unfold big at h
  simpa only [Bool.and_eq_true, decide_eq_true_eq] using h
def rng1 : List D → Option (List D) | [.int j] => if big j = true then some (rangeL 0 j.toNat) else none | _ => none
def rng2 : List D → Option (List D) | [.int i, .int j] => if (big i && big j) = true then some (rangeL i (j - i).toNat) else none | _ => none
def itA (h : List D → Option (List D)) (f : M (List D)) : M (List D) := bnd f fun d => lif (h d)
theorem itd_range {lo : Int} {n : Nat} : ItD K (Itr lo n) X F H (rangeL lo n) := by
  refine ⟨fun _ => True, YFn fun i => .int (lo + i), by rw [rangeL_len]; exact walk_range, fun _ _ _ => trivial, fun i F2 H2 x H3 hi s2 y => ?_⟩
  obtain ⟨rfl, rfl⟩ := y
  rw [rangeL_len] at hi
  exact ⟨.refl _, _, rangeL_at hi, fun _ _ _ => .int _⟩
theorem ri_range1 {t : TA} {f : M (List D)} (h : RA K t Γ Γ1 f) : RI K (iRng1 t) Γ Γ1 (itA rng1 f) := by
  intro X σ ρ F H R ds ρ' RR e k
  obtain ⟨a, ρ1, ea, e⟩ := bnd_some e
  obtain ⟨z, eo, er⟩ := lif_some e
  cases er
  refine h X σ ρ F H _ a ρ' RR ea fun vs F' H' R' p s => ?_
  cases p with
  | nil => exact nomatch eo
  | cons p q =>
    cases p with
    | int j =>
      cases q with
      | nil =>
        have eo : (if big j = true then some (rangeL 0 j.toNat) else none) = some ds := eo
        by_cases hb : big j = true
        · rw [if_pos hb] at eo
          cases eo
          exact ⟨j, rfl, (big_ok hb).1, (big_ok hb).2, k _ F' H' R' s itd_range⟩
        · rw [if_neg hb] at eo; exact nomatch eo
      | cons _ _ => exact nomatch eo
    | _ => exact nomatch eo
theorem ri_range2 {t : TA} {f : M (List D)} (h : RA K t Γ Γ1 f) : RI K (iRng2 t) Γ Γ1 (itA rng2 f) := by
  intro X σ ρ F H R ds ρ' RR e k
  obtain ⟨a, ρ1, ea, e⟩ := bnd_some e
  obtain ⟨z, eo, er⟩ := lif_some e
  cases er
  refine h X σ ρ F H _ a ρ' RR ea fun vs F' H' R' p s => ?_
  cases p with
  | nil => exact nomatch eo
  | cons p q =>
    cases q with
    | nil => cases p <;> exact nomatch eo
    | cons p2 q =>
      cases q with
      | cons _ _ => cases p <;> cases p2 <;> exact nomatch eo
      | nil =>
        cases p with
        | int i =>
          cases p2 with
          | int j =>
            have eo : (if (big i && big j) = true then some (rangeL i (j - i).toNat) else none) = some ds := eo
            by_cases hb : (big i && big j) = true
            · rw [if_pos hb] at eo
              cases eo
              have hb := Bool.and_eq_true_iff.mp hb
              exact ⟨i, j, rfl, ⟨(big_ok hb.1).1, (big_ok hb.1).2, (big_ok hb.2).1, (big_ok hb.2).2⟩, k _ F' H' R' s itd_range⟩
            · rw [if_neg hb] at eo; exact nomatch eo
          | _ => exact nomatch eo
        | _ => cases p2 <;> exact nomatch eo
end
end BV
set_option Elab.async false
set_option linter.all false
set_option maxRecDepth 100000
namespace BV
open PySem PySem.Spec PyProof.Rows L2 WK

/-! ### comprehensions -/
/-- the names of the comprehension as they were ahead of it -/
def restE (ρ : Env) : List Nat → Env → Env
  | [], r => r
  | v :: vs, r => match ρ[v]? with | some x => (restE ρ vs r).set v x | none => restE ρ vs r
def lcE (g : D → Env → Option Env) (ft : M Bool) (fe : M D) (vs : List Nat) : List D → Env → List D → Option (List D × Env)
  | [], ρ, acc => some (acc, ρ)
  | d :: ds, ρ, acc => (g d (wipeE ρ vs)).bind fun ρ2 => (ft ρ2).bind fun p => if p.1 = true then (fe p.2).bind fun q => if acc.length < sizeLine then lcE g ft fe vs ds (restE ρ vs q.2) (acc ++ [q.1]) else none
      else lcE g ft fe vs ds (restE ρ vs p.2) acc
def lcM (fi : M (List D)) (g : D → Env → Option Env) (ft : M Bool) (fe : M D) (vs : List Nat) : M D := bnd fi fun ds => fun ρ => (lcE g ft fe vs ds ρ []).map fun p => (.lst p.1, p.2)
section
variable {K : PySem.W.Frag} {X : Addr → Prop} {Γ Γ1 Γ2 : List Sl} {σ : L2.St} {ρ : Env} {F : Nat → List Addr} {H : Hp} {i : Nat}
theorem restE_len : ∀ {vs : List Nat} {r : Env}, (restE ρ vs r).length = r.length
  | [], _ => rfl
  | v :: vs, r => by
    unfold restE
    split
    · rw [List.length_set, restE_len]
    · exact restE_len
theorem restE_out {j : Nat} : ∀ {vs : List Nat} {r : Env}, j ∉ vs → (restE ρ vs r)[j]? = r[j]?
  | [], _, _ => rfl
  | v :: vs, r, h => by
    unfold restE
    split
    · rw [List.getElem?_set_ne (fun e => h (by rw [← e]; exact List.mem_cons_self)), restE_out fun z => h (List.mem_cons_of_mem _ z)]
    · exact restE_out fun z => h (List.mem_cons_of_mem _ z)
theorem restE_in {j : Nat} : ∀ {vs : List Nat} {r : Env}, j ∈ vs → r.length = ρ.length → (restE ρ vs r)[j]? = ρ[j]?
  | [], _, h, _ => nomatch h
  | v :: vs, r, h, hl => by
    unfold restE
    by_cases e : v = j
    · subst e
      cases q : ρ[v]? with
      | none =>
        have := List.getElem?_eq_none_iff.mp q
        exact List.getElem?_eq_none (by rw [restE_len]; omega)
      | some x =>
        have := (List.getElem?_eq_some_iff.mp q).1
        exact List.getElem?_set_self (by rw [restE_len]; omega)
    · have hj : j ∈ vs := by
        rcases List.mem_cons.mp h with z | z
        · exact absurd z.symm e
        · exact z
      split
      · rw [List.getElem?_set_ne e]; exact restE_in hj hl
      · exact restE_in hj hl
/-- an object that is nobody's is changed -/
theorem Rep.updX {b : Addr} {o : HO} (R : Rep K X Γ σ ρ F H) (hb : X b) : Rep K X Γ σ ρ F (upd H b o) := by
  have nF : ∀ i, b ∉ F i := (R.xt b hb).2
  have go : Go H (Ws X F) (upd H b o) (Ws X F) := by
    refine ⟨fun c xs n e => ?_, fun c u _ n r => ?_, fun c z => .inl z⟩
    · rw [upd_ne (fun z => n (by rw [z]; exact .inl hb))]; exact e
    · have ne : c ≠ b := fun z => n (by rw [z]; exact .inl hb)
      rcases r with r | ⟨o', r⟩
      · exact .inl (by rw [upd_ne ne]; exact r)
      · exact .inr ⟨o', by rw [upd_ne ne]; exact r⟩
  refine ⟨R.len, R.gl, fun j => (R.at_ j).go go fun c hc o' e => ?_, R.dis, fun c z => ⟨?_, (R.xt c z).2⟩, fun j c z => ?_⟩
  · rw [upd_ne (fun z => nF j (by rw [← z]; exact hc))]; exact e
  · by_cases e : c = b
    · rw [e, upd_same]; exact (fun z => nomatch z)
    · rw [upd_ne e]; exact (R.xt c z).1
  · by_cases e : c = b
    · exact absurd (by rw [← e]; exact z) (nF j)
    · rw [upd_ne e]; exact R.ft j c z
def bares (Γ : List Sl) (vs : List Nat) : Bool := vs.all fun v => bare Γ[v]?
def sameOut (Γ Γ' : List Sl) (vs : List Nat) : Bool := decide (Γ.length = Γ'.length) && (List.range Γ.length).all fun j => decide (j ∈ vs) || decide (Γ[j]? = Γ'[j]?)
theorem sameOut_at {Γ Γ' : List Sl} {vs : List Nat} (h : sameOut Γ Γ' vs = true) : Γ.length = Γ'.length ∧ ∀ j, j ∉ vs → Γ[j]? = Γ'[j]? := by
  unfold sameOut at h
  simp only [Bool.and_eq_true, decide_eq_true_eq, List.all_eq_true, Bool.or_eq_true, List.mem_range] at h
  refine ⟨h.1, fun j hj => ?_⟩
  by_cases hl : j < Γ.length
  · rcases h.2 j hl with z | z
    · exact absurd z hj
    · exact z
  · rw [List.getElem?_eq_none (by omega), List.getElem?_eq_none (by have := h.1; omega)]
theorem bares_at {vs : List Nat} (h : bares Γ vs = true) {j : Nat} (hj : j ∈ vs) : bare Γ[j]? = true := List.all_eq_true.mp h j hj
/-- behind a turn of a comprehension: the def's slots again -/
theorem Rep.back {Y : Addr → Prop} {Γb : List Sl} {σ2 : L2.St} {ρ4 : Env} {F1 F4 : Nat → List Addr} {H1 H4 : Hp} {vs : List Nat} (R : Rep K X Γ1 σ ρ F1 H1) (R4 : Rep K Y Γb σ2 ρ4 F4 H4)
    (go : Go H1 (Ws X F1) H4 (Ws Y F4)) (b1 : bares Γ1 vs = true) (b2 : bares Γb vs = true) (so : sameOut Γ1 Γb vs = true) (hs : ∀ j, j ∉ vs → σ2[j]? = σ[j]?) (hl : σ2.length = σ.length) : Rep K Y Γ1 σ (restE ρ vs ρ4) F4 H4 := by
  obtain ⟨so1, so2⟩ := sameOut_at so
  have lens : ρ4.length = ρ.length := by rw [← R4.len, hl, R.len]
  refine ⟨by rw [restE_len, lens]; exact R.len, by rw [restE_len, lens]; exact R.gl, fun j => ?_, R4.dis, R4.xt, R4.ft⟩
  by_cases hj : j ∈ vs
  · rw [restE_in hj lens, R4.noF (bares_at b2 hj)]
    have q := R.at_ j
    rw [R.noF (bares_at b1 hj)] at q
    exact q.go go fun _ z => nomatch z
  · rw [restE_out hj, so2 j hj, ← hs j hj]
    exact R4.at_ j
def subL (S vs : List Nat) : Bool := S.all fun j => decide (j ∈ vs)
theorem subL_at {S vs : List Nat} (h : subL S vs = true) {j : Nat} (hj : j ∈ S) : j ∈ vs := of_decide_eq_true (List.all_eq_true.mp h j hj)
/-- THE COMPREHENSION's loop -/
theorem lc_loop {J : It} {g : TG} {tt : TT} {te : TE} {S vs : List Nat} {fg : D → Env → Option Env} {ft : M Bool} {fe : M D} {F1 : Nat → List Addr} {H1 : Hp} {ds out : List D} {ρ1 ρ' : Env} {Γb : List Sl} {D : Addr} {Qd : Hp → Prop}
    (R1 : Rep K X Γ1 σ ρ1 F1 H1) (it : ItD K J X F1 H1 ds) (nD : H1 D = none) (hg : RG K g S Γ1 Γb fg) (ht : RT K tt Γb Γb ft) (he : RF K te Γb Γb fe) (b1 : bares Γ1 vs = true) (b2 : bares Γb vs = true) (so : sameOut Γ1 Γb vs = true) (hS : subL S vs = true)
    (e : lcE fg ft fe vs ds ρ1 [] = some (out, ρ'))
    (k : ∀ F' H' ws, Rep K (fun b => X b ∨ b ∈ [D]) Γ1 σ ρ' F' H' → Stp F1 H1 F' H' → H' D = some (.lst ws) → RpA K H' (Ws (fun b => X b ∨ b ∈ [D]) F') ws out → Qd H') :
    ∃ W : Nat → Nat → Hp → Prop, (∃ m, W 0 m (upd H1 D (.lst []))) ∧ ∀ i m H, W i m H →
      (J.stop i H ∧ Qd H) ∨ (J.go i H ∧ ∃ Nx : Hp → Prop, (∀ H', Nx H' → ∃ m', m' < m ∧ W (i + 1) m' H') ∧ ∀ x H', J.yld i H x H' → g x (L2.wipe σ vs) H' fun σ2 H2 => L2.wipe σ2 vs = L2.wipe σ vs ∧ tt σ2 H2 fun b H3 =>
        if b = true then te σ2 H3 fun y H4 => ∃ acc, H4 D = some (.lst acc) ∧ acc.length < sizeLine ∧ Nx (upd H4 D (.lst (acc ++ [y]))) else Nx H3) := by
  obtain ⟨G, Y, wk, hG, hY⟩ := it
  have go : ∀ {F' : Nat → List Addr} {H' : Hp}, Stp F1 H1 F' H' → Go H1 (Ws X F1) H' (Ws (fun b => X b ∨ b ∈ [D]) F') := fun {F' H'} s => s.goW fun b z => by
    rcases z with (z | z) | z
    · exact .inl (.inl z)
    · have : b = D := by simpa using z
      subst this
      exact .inr nD
    · exact (s.go (X := X)).nw b (.inr z)
  refine lc_it wk (fun j H' => ∃ ρi Fi ws acc, Rep K (fun b => X b ∨ b ∈ [D]) Γ1 σ ρi Fi H' ∧ Stp F1 H1 Fi H' ∧ H' D = some (.lst ws) ∧ RpA K H' (Ws (fun b => X b ∨ b ∈ [D]) Fi) ws acc ∧ lcE fg ft fe vs (ds.drop j) ρi acc = some (out, ρ')) ?_ ?_ ?_ ?_
  · have s : Stp F1 H1 F1 (upd H1 D (.lst [])) := .same (same_new nD)
    have nW := R1.fresh nD
    refine ⟨ρ1, F1, [], [], ⟨R1.len, R1.gl, fun j => (R1.at_ j).go (go s) fun b _ o e => same_new nD b o e, R1.dis, fun b z => ?_, fun j b z => ?_⟩, s, upd_same, .nil, by rw [List.drop_zero]; exact e⟩
    · rcases z with z | z
      · exact ⟨by rw [upd_ne (fun q => nW (by rw [← q]; exact .inl z))]; exact (R1.xt b z).1, (R1.xt b z).2⟩
      · have : b = D := by simpa using z
        subst this
        exact ⟨by rw [upd_same]; exact (fun z => nomatch z), fun j z => nW (.inr ⟨j, z⟩)⟩
    · rw [upd_ne (fun q => nW (by rw [← q]; exact .inr ⟨j, z⟩))]; exact R1.ft j b z
  · rintro j H' hj ⟨ρi, Fi, ws, acc, R, s, hD, q, e⟩
    exact hG Fi H' s
  · rintro j x H2 H3 hj ⟨ρi, Fi, ws, acc, R, s, hD, q, e⟩ y
    obtain ⟨sm, d, hd, px⟩ := hY j Fi H2 x H3 hj s y
    have hd2 := List.getElem?_eq_some_iff.mp hd
    rw [List.drop_eq_getElem_cons hd2.1, hd2.2] at e
    unfold lcE at e
    obtain ⟨ρ2, e2, e⟩ := Option.bind_eq_some_iff.mp e
    obtain ⟨⟨bb, ρ3⟩, e3, e⟩ := Option.bind_eq_some_iff.mp e
    -- the block's slots, emptied
    have R2 := R.same sm
    have s2 : Stp F1 H1 Fi H3 := s.trans (.same sm)
    have Rw := R2.wipe (vs := vs) fun v hv => R2.noF (bares_at b1 hv)
    have px' : Rp K H3 (Ws (fun b => X b ∨ b ∈ [D]) Fi) x d := px _ (fun b z => (go s2).nw b z) fun p n z => R2.fresh (p := p) (by
      cases h : H3 p with
      | none => rfl
      | some o =>
        exfalso
        rcases z with z | ⟨l, z⟩
        · exact (R.xt p z).1 n
        · exact R.ft l p z n) z
    refine hg _ _ _ _ _ _ _ ρ2 _ Rw px' e2 fun σ2 F2 Rb sb wb lb jb => ?_
    have js : ∀ j, j ∉ vs → σ2[j]? = σ[j]? := fun j hj => (jb j fun z => hj (subL_at hS z)).trans (wipe_at hj)
    have ls : σ2.length = σ.length := lb.trans (wipe_length σ vs)
    refine ⟨wipe_eq ls js, ?_⟩
    refine ht _ _ _ _ _ _ _ ρ3 Rb e3 fun F3 H3' R3 s3 => ?_
    have s13 := (s2.trans sb).trans s3
    have D3 : H3' D = some (.lst ws) := s3.fr D _ (sm _ _ hD) fun l z => (Rb.xt D (.inr (by simp))).2 l z
    have q3 := (q.go (Go.same sm)).go ((sb.trans s3).go (X := fun b => X b ∨ b ∈ [D]))
    cases bb with
    | false =>
      rw [if_neg Bool.false_ne_true] at e
      rw [if_neg Bool.false_ne_true]
      exact ⟨_, F3, ws, acc, R2.back R3 ((sb.trans s3).go) b1 b2 so js ls, s13, D3, q3, e⟩
    | true =>
      rw [if_pos rfl] at e
      rw [if_pos rfl]
      obtain ⟨⟨yv, ρ4⟩, e4, e⟩ := Option.bind_eq_some_iff.mp e
      by_cases hz : acc.length < sizeLine
      · rw [if_pos hz] at e
        refine he _ _ _ _ _ _ _ ρ4 R3 e4 fun w F4 H4 R4 p4 s4 => ?_
        have D4 : H4 D = some (.lst ws) := s4.fr D _ D3 fun l z => (R3.xt D (.inr (by simp))).2 l z
        have q4 := q3.go (s4.go (X := fun b => X b ∨ b ∈ [D]))
        have RB := R2.back R4 (((sb.trans s3).trans s4).go) b1 b2 so js ls
        have inD : (fun b => X b ∨ b ∈ [D]) D := .inr (by simp)
        have RU := RB.updX (o := .lst (ws ++ [w])) inD
        have gu : Go H4 (Ws (fun b => X b ∨ b ∈ [D]) F4) (upd H4 D (.lst (ws ++ [w]))) (Ws (fun b => X b ∨ b ∈ [D]) F4) := by
          refine ⟨fun c xs n e => ?_, fun c u _ n r => ?_, fun c z => .inl z⟩
          · rw [upd_ne (fun z => n (by rw [z]; exact .inl inD))]; exact e
          · have ne : c ≠ D := fun z => n (by rw [z]; exact .inl inD)
            rcases r with r | ⟨o', r⟩
            · exact .inl (by rw [upd_ne ne]; exact r)
            · exact .inr ⟨o', by rw [upd_ne ne]; exact r⟩
        refine ⟨ws, D4, by rw [q.len]; exact hz, _, F4, ws ++ [w], acc ++ [yv], RU, ⟨fun b o eb nb => ?_, fun l b z => ((s13.trans s4).nw l b z)⟩, upd_same, (q4.go gu).snoc (p4.go gu), e⟩
        have : b ≠ D := fun z => by rw [z, nD] at eb; exact nomatch eb
        rw [upd_ne this]
        exact (s13.trans s4).fr b o eb nb
      · rw [if_neg hz] at e; exact nomatch e
  · rintro H' ⟨ρi, Fi, ws, acc, R, s, hD, q, e⟩
    rw [List.drop_length] at e
    unfold lcE at e
    cases e
    exact k Fi H' ws R s hD q
theorem ro_lc {wi : TI} {g : TG} {tt : TT} {te : TE} {S vs : List Nat} {fi : M (List D)} {fg : D → Env → Option Env} {ft : M Bool} {fe : M D} {Γb : List Sl} (hi : RI K wi Γ Γ1 fi) (hg : RG K g S Γ1 Γb fg) (ht : RT K tt Γb Γb ft) (he : RF K te Γb Γb fe)
    (b1 : bares Γ1 vs = true) (b2 : bares Γb vs = true) (so : sameOut Γ1 Γb vs = true) (hS : subL S vs = true) : RO K (tLc wi g tt te vs) Γ Γ1 .o1 (lcM fi fg ft fe vs) := by
  intro X σ ρ F H Q d ρ' R e k
  obtain ⟨ds, ρ1, e1, e⟩ := bnd_some e
  obtain ⟨⟨out, ρ2⟩, e2, er⟩ := Option.map_eq_some_iff.mp e
  cases er
  refine hi X σ ρ F H _ ds ρ1 R e1 fun J F1 H1 R1 s1 it D nD => ?_
  refine lc_loop R1 it nD hg ht he b1 b2 so hS e2 fun F' H' ws R' s' hD q => ?_
  have nW := R1.fresh nD
  refine k (.ref D) F' [D] H' R' ⟨D, rfl, rfl, .inl ⟨ws, out, rfl, hD, q⟩⟩ (fun b hb z => ?_) (s1.trans s') fun b hb => ?_
  · have : b = D := by simpa using hb
    subst this
    exact nW (.inl z)
  · have : b = D := by simpa using hb
    subst this
    by_cases hc : ∃ i, b ∈ F i
    · exact .inl hc
    · refine .inr ?_
      cases e : H b with
      | none => rfl
      | some o => rw [s1.fr b o e fun i z => hc ⟨i, z⟩] at nD; exact nomatch nD
end
end BV
set_option Elab.async false
set_option linter.all false
set_option maxRecDepth 100000
namespace BV
open PySem PySem.Spec PyProof.Rows L2 WK

/-! ### statements -/
inductive Fl where
  | nx (ρ : Env) | bk (ρ : Env) | ct (ρ : Env) | rt (d : D) (ρ : Env)
structure Tg where
  nx : List Sl
  bk : List Sl
  ct : List Sl
  rt : List Sl
  c : Cl
abbrev Ms := Env → Option Fl
def Kp (io : List Nat) (σ σ' : L2.St) : Prop := ∀ i ∈ io, σ'[i]? = σ[i]?
theorem Kp.trans {io : List Nat} {σ σ1 σ2 : L2.St} (a : Kp io σ σ1) (b : Kp io σ1 σ2) : Kp io σ σ2 := fun i h => (b i h).trans (a i h)
section
variable (K : PySem.W.Frag) (io : List Nat)
def Pn (X : Addr → Prop) (Γ : List Sl) (σ : L2.St) (F : Nat → List Addr) (H : Hp) (ρ' : Env) (Q : L2.St → Hp → Prop) : Prop := ∀ σ' F' H', Rep K X Γ σ' ρ' F' H' → Stp F H F' H' → Kp io σ σ' → Q σ' H'
def Pr (X : Addr → Prop) (Γ : List Sl) (c : Cl) (σ : L2.St) (F : Nat → List Addr) (H : Hp) (d : D) (ρ' : Env) (Q : VK) : Prop := ∀ v σ' F' G H', Rep K (fun b => X b ∨ b ∈ G) Γ σ' ρ' F' H' → Own K H' (Ws (fun b => X b ∨ b ∈ G) F') c v d G → (∀ b ∈ G, ¬ X b) → Stp F H F' H' →
  (∀ b ∈ G, (∃ i, b ∈ F i) ∨ H b = none) → Kp io σ σ' → Q v H'
def Po (L : Tg) (X : Addr → Prop) (σ : L2.St) (F : Nat → List Addr) (H : Hp) (D : Ends) : Fl → Prop
  | .nx ρ' => Pn K io X L.nx σ F H ρ' D.nx
  | .bk ρ' => Pn K io X L.bk σ F H ρ' D.bk
  | .ct ρ' => Pn K io X L.ct σ F H ρ' D.ct
  | .rt d ρ' => Pr K io X L.rt L.c σ F H d ρ' D.rt
def RS (t : TS) (Γ : List Sl) (L : Tg) (f : Ms) : Prop := ∀ X σ ρ F H D r, Rep K X Γ σ ρ F H → f ρ = some r → Po K io L X σ F H D r → t D σ H
end
section
variable {K : PySem.W.Frag} {io : List Nat} {X : Addr → Prop} {Γ Γ1 Γ2 : List Sl} {L : Tg} {σ : L2.St} {ρ : Env} {F : Nat → List Addr} {H : Hp} {i : Nat}
theorem new_trans {F1 : Nat → List Addr} {H1 : Hp} (s : Stp F H F1 H1) {b : Addr} (h : (∃ i, b ∈ F1 i) ∨ H1 b = none) : (∃ i, b ∈ F i) ∨ H b = none := by
  rcases h with ⟨j, h⟩ | h
  · exact s.nw j b h
  · by_cases hc : ∃ i, b ∈ F i
    · exact .inl hc
    · refine .inr ?_
      cases e : H b with
      | none => rfl
      | some o => rw [s.fr b o e fun i z => hc ⟨i, z⟩] at h; exact nomatch h
theorem Po.step {σ1 : L2.St} {F1 : Nat → List Addr} {H1 : Hp} {D : Ends} {r : Fl} (p : Po K io L X σ F H D r) (s : Stp F H F1 H1) (kp : Kp io σ σ1) : Po K io L X σ1 F1 H1 D r := by
  cases r with
  | nx ρ' => exact fun σ' F' H' R s' k' => p σ' F' H' R (s.trans s') (kp.trans k')
  | bk ρ' => exact fun σ' F' H' R s' k' => p σ' F' H' R (s.trans s') (kp.trans k')
  | ct ρ' => exact fun σ' F' H' R s' k' => p σ' F' H' R (s.trans s') (kp.trans k')
  | rt d ρ' => exact fun v σ' F' G H' R o nx s' g k' => p v σ' F' G H' R o nx (s.trans s') (fun b hb => new_trans s (g b hb)) (kp.trans k')
theorem Kp.refl {σ : L2.St} : Kp io σ σ := fun _ _ => rfl
/-! weaker claims -/
def leS : Sl → Sl → Bool
  | .u, .u => true
  | .v c, .v c' => decide (c = c') || (decide (c = .o1) && decide (c' = .fz))
  | .v _, .u => true
  | _, _ => false
def leL : List Sl → List Sl → Bool
  | [], [] => true
  | a :: as, b :: bs => leS a b && leL as bs
  | _, _ => false
theorem leL_len : ∀ {Γ Γ' : List Sl}, leL Γ Γ' = true → Γ.length = Γ'.length
  | [], [], _ => rfl
  | a :: as, b :: bs, h => congrArg (· + 1) (leL_len (Bool.and_eq_true_iff.mp h).2)
  | [], _ :: _, h => nomatch h
  | _ :: _, [], h => nomatch h
theorem leL_at : ∀ {Γ Γ' : List Sl} {j : Nat} {g : Sl}, leL Γ Γ' = true → Γ[j]? = some g → ∃ g', Γ'[j]? = some g' ∧ leS g g' = true
  | [], [], _, _, _, e => by simp at e
  | a :: as, b :: bs, 0, g, h, e => by simp at e; subst e; exact ⟨b, rfl, (Bool.and_eq_true_iff.mp h).1⟩
  | a :: as, b :: bs, j + 1, g, h, e => by
    obtain ⟨g', h1, h2⟩ := leL_at (Bool.and_eq_true_iff.mp h).2 (show as[j]? = some g by simpa using e)
    exact ⟨g', by simpa using h1, h2⟩
  | [], _ :: _, _, _, h, _ => nomatch h
  | _ :: _, [], _, _, h, _ => nomatch h
theorem Rep.weak {Γ' : List Sl} (R : Rep K X Γ σ ρ F H) (h : leL Γ Γ' = true) : ∃ F', Rep K X Γ' σ ρ F' H ∧ (∀ j b, b ∈ F' j → b ∈ F j) := by
  refine ⟨fun j => if Γ[j]? = Γ'[j]? then F j else [], ?_, fun j b z => ?_⟩
  · have memb : ∀ {j b}, b ∈ (if Γ[j]? = Γ'[j]? then F j else []) → b ∈ F j := fun {j b} z => by
      by_cases e : Γ[j]? = Γ'[j]?
      · rw [if_pos e] at z; exact z
      · rw [if_neg e] at z; exact nomatch z
    have sub : ∀ b, Ws X (fun j => if Γ[j]? = Γ'[j]? then F j else []) b → Ws X F b := fun b z => by
      rcases z with z | ⟨j, z⟩
      · exact .inl z
      · exact .inr ⟨j, memb z⟩
    refine ⟨R.len, by rw [← leL_len h]; exact R.gl, fun j => ?_, fun j k b hj hk => R.dis j k b (memb hj) (memb hk), fun b z => ⟨(R.xt b z).1, fun j z' => (R.xt b z).2 j (memb z')⟩, fun j b z => R.ft j b (memb z)⟩
    by_cases e : Γ[j]? = Γ'[j]?
    · show Slot K H _ Γ'[j]? _ _ (if Γ[j]? = Γ'[j]? then F j else [])
      rw [if_pos e, ← e]
      exact (R.at_ j).go (Go.sub sub) fun _ _ _ e => e
    · show Slot K H _ Γ'[j]? _ _ (if Γ[j]? = Γ'[j]? then F j else [])
      rw [if_neg e]
      cases hg : Γ[j]? with
      | none =>
        have : Γ'[j]? = none := List.getElem?_eq_none (by have := List.getElem?_eq_none_iff.mp hg; have := leL_len h; omega)
        exact absurd (hg.trans this.symm) e
      | some g =>
        obtain ⟨g', h1, h2⟩ := leL_at h hg
        rw [h1]
        unfold Slot
        cases g' with
        | u => rfl
        | v c' =>
          cases g with
          | u => exact nomatch h2
          | v c =>
            have h2 : (decide (c = c') || (decide (c = .o1) && decide (c' = .fz))) = true := h2
            simp only [Bool.or_eq_true, Bool.and_eq_true, decide_eq_true_eq] at h2
            rcases h2 with h2 | ⟨h2, h3⟩
            · subst h2; exact absurd (hg.trans h1.symm) e
            · subst h2; subst h3
              cases hr : ρ[j]? with
              | none => rfl
              | some r =>
                cases r with
                | none => rfl
                | some d =>
                  obtain ⟨v, ev, o⟩ := R.slot hg hr
                  refine ⟨v, ev, rfl, o.rp (by decide) _ sub fun b hb z => ?_⟩
                  rcases z with z | ⟨l, z⟩
                  · exact (R.xt b z).2 j hb
                  · have hl := R.dis l j b (memb z) hb
                    subst hl
                    have z : b ∈ (if Γ[l]? = Γ'[l]? then F l else []) := z
                    rw [if_neg e] at z
                    exact nomatch z
  · have z : b ∈ (if Γ[j]? = Γ'[j]? then F j else []) := z
    by_cases e : Γ[j]? = Γ'[j]?
    · rw [if_pos e] at z; exact z
    · rw [if_neg e] at z; exact nomatch z
theorem Stp.less {F' : Nat → List Addr} (h : ∀ j b, b ∈ F' j → b ∈ F j) : Stp F H F' H := ⟨fun _ _ e _ => e, fun j b z => .inl ⟨j, h j b z⟩⟩
theorem rs_weakL {t : TS} {f : Ms} (h : RS K io t Γ1 L f) (le : leL Γ Γ1 = true) : RS K io t Γ L f := by
  intro X σ ρ F H D r R e p
  obtain ⟨F', R', s⟩ := R.weak le
  exact h X σ ρ F' H D r R' e (p.step (.less s) .refl)

/-! ### a block -/
def nextS : Ms := fun ρ => some (.nx ρ)
def seqS (f g : Ms) : Ms := fun ρ => (f ρ).bind fun r => match r with | .nx ρ' => g ρ' | r => some r
theorem rs_next (le : leL Γ L.nx = true) : RS K io tNext Γ L nextS := by
  intro X σ ρ F H D r R e p
  cases e
  obtain ⟨F', R', s⟩ := R.weak le
  exact p σ F' H R' (.less s) .refl
theorem rs_break (le : leL Γ L.bk = true) : RS K io tBreak Γ L (fun ρ => some (.bk ρ)) := by
  intro X σ ρ F H D r R e p
  cases e
  obtain ⟨F', R', s⟩ := R.weak le
  exact p σ F' H R' (.less s) .refl
theorem rs_cont (le : leL Γ L.ct = true) : RS K io tCont Γ L (fun ρ => some (.ct ρ)) := by
  intro X σ ρ F H D r R e p
  cases e
  obtain ⟨F', R', s⟩ := R.weak le
  exact p σ F' H R' (.less s) .refl
theorem rs_seq {t u : TS} {f g : Ms} (ht : RS K io t Γ { L with nx := Γ1 } f) (hu : RS K io u Γ1 L g) : RS K io (tSeq t u) Γ L (seqS f g) := by
  intro X σ ρ F H D r R e p
  obtain ⟨r1, e1, e2⟩ := Option.bind_eq_some_iff.mp e
  refine ht X σ ρ F H _ r1 R e1 ?_
  cases r1 with
  | nx ρ1 => exact fun σ' F' H' R' s' k' => hu X σ' ρ1 F' H' D r R' e2 (p.step s' k')
  | bk ρ1 => cases e2; exact p
  | ct ρ1 => cases e2; exact p
  | rt d ρ1 => cases e2; exact p
/-- a block that is one statement: its claims may be weakened -/
theorem rs_end {t : TS} {f : Ms} (ht : RS K io t Γ { L with nx := Γ1 } f) (le : leL Γ1 L.nx = true) : RS K io t Γ L f := by
  intro X σ ρ F H D r R e p
  refine ht X σ ρ F H D r R e ?_
  cases r with
  | nx ρ1 =>
    intro σ' F' H' R' s' k'
    obtain ⟨F2, R2, s2⟩ := R'.weak le
    exact p σ' F2 H' R2 (s'.trans (.less s2)) k'
  | bk ρ1 => exact p
  | ct ρ1 => exact p
  | rt d ρ1 => exact p
/-! ### return -/
def retS (f : M D) : Ms := fun ρ => (f ρ).map fun p => .rt p.1 p.2
theorem rs_ret {t : TE} {f : M D} {c : Cl} (h : RO K t Γ Γ1 c f) (hc : L.c = c) (le : leL Γ1 L.rt = true) : RS K io (tRet t) Γ L (retS f) := by
  intro X σ ρ F H D r R e p
  obtain ⟨⟨d, ρ'⟩, e1, er⟩ := Option.map_eq_some_iff.mp e
  cases er
  refine h X σ ρ F H _ d ρ' R e1 fun v F' G H' R' o nx s g => ?_
  obtain ⟨F2, R2, s2⟩ := R'.weak le
  refine p v σ F2 G H' R2 ?_ nx (s.trans (.less s2)) g .refl
  rw [hc]
  refine o.go (Go.sub fun b z => ?_) fun _ _ _ e => e
  rcases z with z | ⟨j, z⟩
  · exact .inl z
  · exact .inr ⟨j, s2 j b z⟩
def retN : Ms := fun ρ => some (.rt .non ρ)
theorem rs_retN (hc : L.c = .fz) (le : leL Γ L.rt = true) : RS K io tRetN Γ L retN := by
  intro X σ ρ F H D r R e p
  cases e
  obtain ⟨F2, R2, s2⟩ := R.weak le
  refine p .non σ F2 [] H R2.nil ?_ (fun b z => nomatch z) (.less s2) (fun b z => nomatch z) .refl
  rw [hc]
  exact ⟨rfl, .non⟩
/-! ### if -/
def ifS (c : M Bool) (f g : Ms) : Ms := fun ρ => (c ρ).bind fun p => if p.1 = true then f p.2 else g p.2
theorem rs_if {c : TT} {t u : TS} {fc : M Bool} {f g : Ms} (hc : RT K c Γ Γ1 fc) (ht : RS K io t Γ1 L f) (hu : RS K io u Γ1 L g) : RS K io (tIfS c t u) Γ L (ifS fc f g) := by
  intro X σ ρ F H D r R e p
  obtain ⟨⟨b, ρ1⟩, e1, e2⟩ := Option.bind_eq_some_iff.mp e
  refine hc X σ ρ F H _ b ρ1 R e1 fun F' H' R' s => ?_
  cases b with
  | true => exact ht X σ ρ1 F' H' D r R' e2 (p.step s .refl)
  | false => exact hu X σ ρ1 F' H' D r R' e2 (p.step s .refl)
/-! ### assignments -/
def setS (i : Nat) (f : M D) : Ms := fun ρ => (f ρ).map fun p => .nx (p.2.set i (some p.1))
theorem kp_set {v : Option V} (h : i ∉ io) : Kp io σ (σ.set i v) := fun j hj => List.getElem?_set_ne fun e => h (by rw [e]; exact hj)
theorem rs_setO {t : TE} {f : M D} {c : Cl} (h : RO K t Γ Γ1 c f) (hl : i < Γ1.length) (hio : i ∉ io) : RS K io (tAsg t (gName i)) Γ { L with nx := Γ1.set i (.v c) } (setS i f) := by
  intro X σ ρ F H D r R e p
  obtain ⟨⟨d, ρ'⟩, e1, er⟩ := Option.map_eq_some_iff.mp e
  cases er
  refine h X σ ρ F H _ d ρ' R e1 fun v F' G H' R' o nx s g => ?_
  exact p _ _ H' (R'.put o nx hl) (s.put g) (kp_set hio)
theorem rs_setF {t : TE} {f : M D} (h : RF K t Γ Γ1 f) (hl : i < Γ1.length) (hio : i ∉ io) : RS K io (tAsg t (gName i)) Γ { L with nx := Γ1.set i (.v .fz) } (setS i f) := rs_setO h.ro hl hio
def asgS (f : M D) (g : D → Env → Option Env) : Ms := fun ρ => (f ρ).bind fun p => (g p.1 p.2).map .nx
theorem rs_asg {t : TE} {g : TG} {S : List Nat} {f : M D} {fg : D → Env → Option Env} (h : RF K t Γ Γ1 f) (hg : RG K g S Γ1 Γ2 fg) (hio : (S.all fun j => decide (j ∉ io)) = true) : RS K io (tAsg t g) Γ { L with nx := Γ2 } (asgS f fg) := by
  intro X σ ρ F H D r R e p
  obtain ⟨⟨d, ρ1⟩, e1, e⟩ := Option.bind_eq_some_iff.mp e
  obtain ⟨ρ2, e2, er⟩ := Option.map_eq_some_iff.mp e
  cases er
  refine h X σ ρ F H _ d ρ1 R e1 fun v F' H' R' q s => ?_
  refine hg X σ ρ1 F' H' v d ρ2 _ R' q e2 fun σ' F2 R2 s2 w2 l2 j2 => ?_
  exact p σ' F2 H' R2 (s.trans s2) fun j hj => j2 j fun z => of_decide_eq_true (List.all_eq_true.mp hio j z) hj
/-- two, three values at once -/
theorem Own.later {c : Cl} {v : V} {d : D} {G G2 : List Addr} {F1 F2 : Nat → List Addr} {H1 H2 : Hp} (o : Own K H1 (Ws (fun b => X b ∨ b ∈ G) F1) c v d G) (xt : ∀ b ∈ G, ∀ i, b ∉ F1 i) (s : Stp F1 H1 F2 H2) (g : ∀ b ∈ G2, (∃ i, b ∈ F1 i) ∨ H1 b = none) :
    Own K H2 (Ws (fun b => (X b ∨ b ∈ G) ∨ b ∈ G2) F2) c v d G := by
  refine o.go (s.goW fun b z => ?_) fun b hb o e => s.fr b o e (xt b hb)
  rcases z with (z | z) | z
  · exact .inl (.inl z)
  · rcases g b z with z | z
    · exact .inl (.inr z)
    · exact .inr z
  · exact (s.go (X := fun b => X b ∨ b ∈ G)).nw b (.inr z)
def par2 (i j : Nat) (f g : M D) : Ms := fun ρ => (f ρ).bind fun p => (g p.2).map fun q => .nx ((q.2.set j (some q.1)).set i (some p.1))
theorem two_put {j : Nat} {ta tb : TE} {f g : M D} {ca cb : Cl} (ha : RO K ta Γ Γ1 ca f) (hb : RO K tb Γ1 Γ2 cb g) (hi : i < Γ2.length) (hj : j < Γ2.length) {r : Fl} (R : Rep K X Γ σ ρ F H) (e : par2 i j f g ρ = some r) {Q : V → V → Hp → Prop}
    (k : ∀ ρ' v w F' H', r = .nx ρ' → Rep K X ((Γ2.set j (.v cb)).set i (.v ca)) ((σ.set j (some w)).set i (some v)) ρ' F' H' → Stp F H F' H' → Q v w H') : ta σ H fun v H1 => tb σ H1 fun w H2 => Q v w H2 := by
  obtain ⟨⟨d, ρ1⟩, e1, e⟩ := Option.bind_eq_some_iff.mp e
  obtain ⟨⟨d2, ρ2⟩, e2, er⟩ := Option.map_eq_some_iff.mp e
  cases er
  refine ha X σ ρ F H _ d ρ1 R e1 fun v F1 G1 H1 R1 o1 nx1 s1 g1 => ?_
  refine hb _ σ ρ1 F1 H1 _ d2 ρ2 R1 e2 fun w F2 G2 H2 R2 o2 nx2 s2 g2 => ?_
  have oa := o1.later (fun b hb => (R1.xt b (.inr hb)).2) s2 g2
  have P1 := R2.put o2 nx2 hj
  have P2 := Rep.put (i := i) P1 (oa.go (Go.sub fun b z => by
    rcases z with z | ⟨l, z⟩
    · exact .inl (.inl z)
    · by_cases q : l = j
      · rw [q, updF_at] at z; exact .inl (.inr z)
      · rw [updF_ne q] at z; exact .inr ⟨l, z⟩) fun _ _ _ e => e) nx1 (by rw [List.length_set]; exact hi)
  exact k _ v w _ H2 rfl P2 (((s1.trans s2).put fun b hb => new_trans s1 (g2 b hb)).put fun b hb => g1 b hb)
theorem kp_set2 {j : Nat} {v w : Option V} (h : i ∉ io) (h' : j ∉ io) : Kp io σ ((σ.set j w).set i v) := (kp_set h').trans (kp_set h)
theorem rs_par2 {j : Nat} {ta tb : TE} {f g : M D} {ca cb : Cl} (ha : RO K ta Γ Γ1 ca f) (hb : RO K tb Γ1 Γ2 cb g) (hij : i ≠ j) (hi : i < Γ2.length) (hj : j < Γ2.length) (h1 : i ∉ io) (h2 : j ∉ io) :
    RS K io (tPar i j (tCons ta (tCons tb tNil))) Γ { L with nx := (Γ2.set j (.v cb)).set i (.v ca) } (par2 i j f g) := by
  intro X σ ρ F H D r R e p
  refine two_put ha hb hi hj R e fun ρ' v w F' H' er R' s => ⟨v, w, rfl, ?_⟩
  subst er
  rw [List.set_comm _ _ hij]
  exact p _ F' H' R' s (kp_set2 h1 h2)
theorem rs_tup2 {j : Nat} {ta tb : TE} {f g : M D} {ca cb : Cl} (ha : RO K ta Γ Γ1 ca f) (hb : RO K tb Γ1 Γ2 cb g) (hij : i ≠ j) (hi : i < Γ2.length) (hj : j < Γ2.length) (h1 : i ∉ io) (h2 : j ∉ io) :
    RS K io (tAsg (tTup (tCons ta (tCons tb tNil))) (gTup K 2 (gCons (gName i) (gCons (gName j) gNil)))) Γ { L with nx := (Γ2.set j (.v cb)).set i (.v ca) } (par2 i j f g) := by
  intro X σ ρ F H D r R e p
  refine two_put ha hb hi hj R e fun ρ' v w F' H' er R' s => ⟨by show 2 ≤ sizeLine; decide, fun a n => ?_⟩
  have sm : Same H' (upd H' a (.tup [v, w])) := same_new n
  refine ⟨a, [v, w], rfl, .inl (.inl upd_same), rfl, v, _, rfl, w, _, rfl, rfl, ?_⟩
  subst er
  rw [List.set_comm _ _ hij]
  exact p _ F' _ (R'.same sm) (s.trans (.same sm)) (kp_set2 h1 h2)
/-! x += e, of whole numbers -/
def augS (i : Nat) (g : Int → Int → Int) (f : M D) : Ms := fun ρ => match ρ[i]? with | some (some (.int a)) => (f ρ).bind fun p => (match p.1 with | .int b => some (.nx (p.2.set i (some (.int (g a b))))) | _ => none) | _ => none
theorem rs_aug {t : TE} {f : M D} {g : Int → Int → Int} (hg : Γ[i]? = some (.v .fz)) (h : RF K t Γ Γ1 f) (hl : i < Γ1.length) (hio : i ∉ io) : RS K io (tAug i t (ipI g)) Γ { L with nx := Γ1.set i (.v .fz) } (augS i g f) := by
  intro X σ ρ F H D r R e p
  unfold augS at e
  split at e
  · next a hr =>
    obtain ⟨⟨d, ρ'⟩, e1, e⟩ := Option.bind_eq_some_iff.mp e
    split at e
    · next b hd =>
      cases e
      obtain ⟨v, ev, _, q⟩ := R.slot hg hr
      cases q
      refine ⟨_, ev, h X σ ρ F H _ d ρ' R e1 fun w F' H' R' q s => ?_⟩
      have hd : d = .int b := hd
      subst hd
      cases q
      refine ⟨a, b, rfl, rfl, ?_⟩
      exact p _ _ H' (R'.nil.put ⟨rfl, .int _⟩ (fun b z => nomatch z) hl) (s.put fun b z => nomatch z) (kp_set hio)
    · exact nomatch e
  · exact nomatch e
/-! a value that is dropped -/
def dropS (f : M D) : Ms := fun ρ => (f ρ).map fun p => .nx p.2
theorem rs_drop {t : TE} {f : M D} (h : RV K t Γ Γ1 f) : RS K io (tDrop t) Γ { L with nx := Γ1 } (dropS f) := by
  intro X σ ρ F H D r R e p
  obtain ⟨⟨d, ρ'⟩, e1, er⟩ := Option.map_eq_some_iff.mp e
  cases er
  refine h X σ ρ F H _ d ρ' R e1 fun v F' H' R' _ s => ?_
  exact p σ F' H' R' s .refl
/-- an owned object is changed -/
theorem Rep.change {d d' : D} {a : Addr} {o : HO} (R : Rep K X Γ σ ρ F H) (hg : Γ[i]? = some (.v .o1)) (hr : ρ[i]? = some (some d)) (hv : σ[i]? = some (some (.ref a))) (hF : F i = [a])
    (ho : Own K (upd H a o) (Ws X F) .o1 (.ref a) d' [a]) : Rep K X Γ σ (ρ.set i (some d')) F (upd H a o) ∧ Stp F H F (upd H a o) := by
  have inW : Ws X F a := .inr ⟨i, by rw [hF]; simp⟩
  have go : Go H (Ws X F) (upd H a o) (Ws X F) := by
    refine ⟨fun c xs n e => ?_, fun c u _ n r => ?_, fun c z => .inl z⟩
    · rw [upd_ne (fun z => n (by rw [z]; exact inW))]; exact e
    · have ne : c ≠ a := fun z => n (by rw [z]; exact inW)
      rcases r with r | ⟨o', r⟩
      · exact .inl (by rw [upd_ne ne]; exact r)
      · exact .inr ⟨o', by rw [upd_ne ne]; exact r⟩
  have hlr := (List.getElem?_eq_some_iff.mp hr).1
  refine ⟨⟨by rw [List.length_set]; exact R.len, by rw [List.length_set]; exact R.gl, fun j => ?_, R.dis, fun c z => ⟨?_, (R.xt c z).2⟩, fun j c z => ?_⟩, fun b u e n => ?_, fun j b z => .inl ⟨j, z⟩⟩
  · by_cases e : j = i
    · subst e
      rw [hg, List.getElem?_set_self hlr, hv, hF]
      exact ⟨_, rfl, ho⟩
    · rw [List.getElem?_set_ne (Ne.symm e)]
      refine (R.at_ j).go go fun c hc o' e' => ?_
      rw [upd_ne (fun z => e (R.dis j i c hc (by rw [hF, z]; simp)))]
      exact e'
  · by_cases e : c = a
    · rw [e, upd_same]; exact (fun z => nomatch z)
    · rw [upd_ne e]; exact (R.xt c z).1
  · by_cases e : c = a
    · rw [e, upd_same]; exact (fun z => nomatch z)
    · rw [upd_ne e]; exact R.ft j c z
  · rw [upd_ne (fun z => n i (by rw [hF, z]; simp))]; exact e
theorem Own.go_upd {a : Addr} {o : HO} {W : Addr → Prop} (h : W a) : Go H W (upd H a o) W := by
  refine ⟨fun c xs n e => ?_, fun c u _ n r => ?_, fun c z => .inl z⟩
  · rw [upd_ne (fun z => n (by rw [z]; exact h))]; exact e
  · have ne : c ≠ a := fun z => n (by rw [z]; exact h)
    rcases r with r | ⟨o', r⟩
    · exact .inl (by rw [upd_ne ne]; exact r)
    · exact .inr ⟨o', by rw [upd_ne ne]; exact r⟩
/-! xs.append(e), xs an owned list -/
def appS (i : Nat) (f : M D) : Ms := fun ρ => match ρ[i]? with
  | some (some (.lst _)) => (f ρ).bind fun p => match p.2[i]? with | some (some (.lst ds)) => if ds.length < sizeLine then some (.nx (p.2.set i (some (.lst (ds ++ [p.1]))))) else none | _ => none
  | _ => none
theorem rs_append {t : TE} {f : M D} (hg : Γ[i]? = some (.v .o1)) (h : RF K t Γ Γ1 f) (hg1 : Γ1[i]? = some (.v .o1)) : RS K io (tDrop (tBM K "list" rAppend (tVar i) (tCons t tNil))) Γ { L with nx := Γ1 } (appS i f) := by
  intro X σ ρ F H D r R e p
  unfold appS at e
  split at e
  · next ds0 hr =>
    obtain ⟨⟨d, ρ'⟩, e1, e⟩ := Option.bind_eq_some_iff.mp e
    split at e
    · next ds hr' =>
      have hr' : ρ'[i]? = some (some (.lst ds)) := hr'
      by_cases hz : ds.length < sizeLine
      · rw [if_pos hz] at e
        cases e
        obtain ⟨v, ev, a, rfl, hF, q⟩ := R.slot hg hr
        have hv : ∃ vs, H a = some (.lst vs) := by
          rcases q with ⟨vs, ds, e, h, _⟩ | ⟨vs, ds, e, h, _⟩ | ⟨vs, ds, e, h, _⟩
          · exact ⟨vs, h⟩
          · exact nomatch e
          · exact nomatch e
        obtain ⟨vs0, hv⟩ := hv
        refine ⟨_, ev, .inl ⟨rfl, vs0, .inl (.inl hv)⟩, h X σ ρ F H _ d ρ' R e1 fun w F' H' R' q s => ?_⟩
        obtain ⟨v', ev', a', e', hF', q'⟩ := R'.slot hg1 hr'
        rw [ev] at ev'
        cases ev'
        cases e'
        rcases q' with ⟨vs, ds', e, h', q'⟩ | ⟨vs, ds', e, h', _⟩ | ⟨vs, ds', e, h', _⟩
        · cases e
          refine ⟨a, vs, w, rfl, rfl, h', by rw [q'.len]; exact hz, ?_⟩
          have inW : Ws X F' a := .inr ⟨i, by rw [hF']; simp⟩
          have gu := Own.go_upd (H := H') (o := .lst (vs ++ [w])) inW
          obtain ⟨R2, s2⟩ := R'.change hg1 hr' ev hF' (d' := .lst (ds ++ [d])) (o := .lst (vs ++ [w])) ⟨a, rfl, rfl, .inl ⟨_, _, rfl, upd_same, (q'.go gu).snoc (q.go gu)⟩⟩
          exact p σ F' _ R2 (s.trans s2) .refl
        · exact nomatch e
        · exact nomatch e
      · rw [if_neg hz] at e; exact nomatch e
    · exact nomatch e
  · exact nomatch e
end
end BV
set_option Elab.async false
set_option linter.all false
set_option maxRecDepth 100000
namespace BV
open PySem PySem.Spec PyProof.Rows L2 WK
section
variable {K : PySem.W.Frag} {io : List Nat} {X : Addr → Prop} {Γ Γ1 Γ2 Γ3 : List Sl} {L : Tg} {σ : L2.St} {ρ : Env} {F : Nat → List Addr} {H : Hp} {i : Nat}
/-! ### for -/
def forE (g : D → Env → Option Env) (body : Ms) : List D → Env → Option Fl
  | [], ρ => some (.nx ρ)
  | d :: ds, ρ => (g d ρ).bind fun ρ1 => (body ρ1).bind fun r => match r with | .nx ρ2 => forE g body ds ρ2 | .ct ρ2 => forE g body ds ρ2 | .bk ρ2 => some (.nx ρ2) | .rt d ρ2 => some (.rt d ρ2)
def forS (fi : M (List D)) (g : D → Env → Option Env) (body : Ms) : Ms := fun ρ => (fi ρ).bind fun p => forE g body p.1 p.2
theorem for_loop {J : It} {g : TG} {tb : TS} {S : List Nat} {fg : D → Env → Option Env} {fb : Ms} {ds : List D} {r : Fl} {D : Ends} (it : ItD K J X F H ds) (hg : RG K g S Γ1 Γ2 fg) (hio : (S.all fun j => decide (j ∉ io)) = true)
    (hb : RS K io tb Γ2 { L with nx := Γ1, ct := Γ1, bk := Γ1 } fb) (R : Rep K X Γ1 σ ρ F H) (e : forE fg fb ds ρ = some r) (p : Po K io { L with nx := Γ1 } X σ F H D r) :
    ∃ W : Nat → Nat → L2.St → Hp → Prop, (∃ m, W 0 m σ H) ∧ ∀ i m σ H, W i m σ H →
      (J.stop i H ∧ D.nx σ H) ∨ (J.go i H ∧ ∃ N : L2.St → Hp → Prop, (∀ σ' H', N σ' H' → ∃ m', m' < m ∧ W (i + 1) m' σ' H') ∧ ∀ x H', J.yld i H x H' → g x σ H' fun σ2 H2 => tb { D with nx := N, ct := N, bk := D.nx } σ2 H2) := by
  obtain ⟨G, Y, wk, hG, hY⟩ := it
  refine for_it wk (fun j σi Hi => ∃ ρi Fi, Rep K X Γ1 σi ρi Fi Hi ∧ Stp F H Fi Hi ∧ Kp io σ σi ∧ forE fg fb (ds.drop j) ρi = some r) ⟨ρ, F, R, .refl _ _, .refl, by rw [List.drop_zero]; exact e⟩ ?_ ?_ ?_
  · rintro j σi Hi hj ⟨ρi, Fi, Ri, si, ki, ei⟩
    exact hG Fi Hi si
  · rintro j x σi Hi H3 hj ⟨ρi, Fi, Ri, si, ki, ei⟩ y
    obtain ⟨sm, d, hd, px⟩ := hY j Fi Hi x H3 hj si y
    have hd2 := List.getElem?_eq_some_iff.mp hd
    rw [List.drop_eq_getElem_cons hd2.1, hd2.2] at ei
    unfold forE at ei
    obtain ⟨ρ2, e2, ei⟩ := Option.bind_eq_some_iff.mp ei
    obtain ⟨rb, e3, ei⟩ := Option.bind_eq_some_iff.mp ei
    have R2 := Ri.same sm
    have px' : Rp K H3 (Ws X Fi) x d := px _ (fun b z => (si.go (X := X)).nw b z) fun p n z => by
      rcases z with z | ⟨l, z⟩
      · exact (Ri.xt p z).1 n
      · exact Ri.ft l p z n
    refine hg _ _ _ _ _ _ _ ρ2 _ R2 px' e2 fun σ2 F2 Rb sb wb lb jb => ?_
    have s2 : Stp F H F2 H3 := (si.trans (.same sm)).trans sb
    have k2 : Kp io σ σ2 := ki.trans fun j hj => jb j fun z => of_decide_eq_true (List.all_eq_true.mp hio j z) hj
    refine hb X σ2 ρ2 F2 H3 _ rb Rb e3 ?_
    cases rb with
    | nx ρ3 => exact fun σ' F' H' R' s' k' => ⟨ρ3, F', R', s2.trans s', k2.trans k', ei⟩
    | ct ρ3 => exact fun σ' F' H' R' s' k' => ⟨ρ3, F', R', s2.trans s', k2.trans k', ei⟩
    | bk ρ3 =>
      cases ei
      exact fun σ' F' H' R' s' k' => p σ' F' H' R' (s2.trans s') (k2.trans k')
    | rt d ρ3 =>
      cases ei
      exact fun v σ' F' G' H' R' o nx s' g' k' => p v σ' F' G' H' R' o nx (s2.trans s') (fun b hb => new_trans s2 (g' b hb)) (k2.trans k')
  · rintro σi Hi ⟨ρi, Fi, Ri, si, ki, ei⟩
    rw [List.drop_length] at ei
    unfold forE at ei
    cases ei
    exact p σi Fi Hi Ri si ki
theorem rs_for {wi : TI} {g : TG} {tb : TS} {S : List Nat} {fi : M (List D)} {fg : D → Env → Option Env} {fb : Ms} (hi : RI K wi Γ Γ1 fi) (hg : RG K g S Γ1 Γ2 fg) (hb : RS K io tb Γ2 { L with nx := Γ1, ct := Γ1, bk := Γ1 } fb)
    (hio : (S.all fun j => decide (j ∉ io)) = true) : RS K io (tFor wi g tb) Γ { L with nx := Γ1 } (forS fi fg fb) := by
  intro X σ ρ F H D r R e p
  obtain ⟨⟨ds, ρ1⟩, e1, e⟩ := Option.bind_eq_some_iff.mp e
  exact hi X σ ρ F H _ ds ρ1 R e1 fun J F1 H1 R1 s1 it => for_loop it hg hio hb R1 e (p.step s1 .refl)
/-! ### while -/
def whE (c : M Bool) (body : Ms) : Nat → Env → Option Fl
  | 0, _ => none
  | n + 1, ρ => (c ρ).bind fun p => if p.1 = true then (body p.2).bind fun r => match r with | .nx ρ2 => whE c body n ρ2 | .ct ρ2 => whE c body n ρ2 | .bk ρ2 => some (.nx ρ2) | .rt d ρ2 => some (.rt d ρ2) else some (.nx p.2)
theorem rs_while {N : Nat} {c : TT} {tb : TS} {fc : M Bool} {fb : Ms} (hc : RT K c Γ Γ fc) (hb : RS K io tb Γ { L with nx := Γ, ct := Γ, bk := Γ } fb) : RS K io (tWhile c tb) Γ { L with nx := Γ } (whE fc fb N) := by
  intro X σ ρ F H D r R e p
  refine ⟨fun m σi Hi => ∃ ρi Fi, Rep K X Γ σi ρi Fi Hi ∧ Stp F H Fi Hi ∧ Kp io σ σi ∧ whE fc fb m ρi = some r, ⟨N, ρ, F, R, .refl _ _, .refl, e⟩, ?_⟩
  rintro m σi Hi ⟨ρi, Fi, Ri, si, ki, ei⟩
  cases m with
  | zero => exact nomatch ei
  | succ m =>
    unfold whE at ei
    obtain ⟨⟨b, ρ2⟩, e2, ei⟩ := Option.bind_eq_some_iff.mp ei
    refine hc X σi ρi Fi Hi _ b ρ2 Ri e2 fun F2 H2 R2 s2 => ?_
    have s2 := si.trans s2
    cases b with
    | false =>
      rw [if_neg Bool.false_ne_true] at ei ⊢
      cases ei
      exact p σi F2 H2 R2 s2 ki
    | true =>
      rw [if_pos rfl] at ei ⊢
      obtain ⟨rb, e3, ei⟩ := Option.bind_eq_some_iff.mp ei
      refine ⟨fun σ' H' => ∃ ρ' F', Rep K X Γ σ' ρ' F' H' ∧ Stp F H F' H' ∧ Kp io σ σ' ∧ whE fc fb m ρ' = some r, fun σ' H' h => ⟨m, Nat.lt_succ_self m, h⟩, ?_⟩
      refine hb X σi ρ2 F2 H2 _ rb R2 e3 ?_
      cases rb with
      | nx ρ3 => exact fun σ' F' H' R' s' k' => ⟨ρ3, F', R', s2.trans s', ki.trans k', ei⟩
      | ct ρ3 => exact fun σ' F' H' R' s' k' => ⟨ρ3, F', R', s2.trans s', ki.trans k', ei⟩
      | bk ρ3 =>
        cases ei
        exact fun σ' F' H' R' s' k' => p σ' F' H' R' (s2.trans s') (ki.trans k')
      | rt d ρ3 =>
        cases ei
        exact fun v σ' F' G' H' R' o nx s' g' k' => p v σ' F' G' H' R' o nx (s2.trans s') (fun b hb => new_trans s2 (g' b hb)) (ki.trans k')
/-! ### slices -/
def ROp (K : PySem.W.Frag) (t : TO) (Γ Γ' : List Sl) (f : M (Option Int)) : Prop := ∀ X σ ρ F H Q d ρ', Rep K X Γ σ ρ F H → f ρ = some (d, ρ') →
  (∀ F' H', Rep K X Γ' σ ρ' F' H' → Stp F H F' H' → Q d H') → t σ H Q
theorem rp_none : ROp K tNoPart Γ Γ (rtn none) := by
  intro X σ ρ F H Q d ρ' R e k
  cases e
  exact k F H R (.refl F H)
def isI : D → Option (Option Int) | .int i => some (some i) | _ => none
theorem rp_some {t : TE} {f : M D} (h : RV K t Γ Γ1 f) : ROp K (tPart t) Γ Γ1 (bnd f fun d => lif (isI d)) := by
  intro X σ ρ F H Q d ρ' R e k
  obtain ⟨a, ρ1, ea, e⟩ := bnd_some e
  obtain ⟨z, eo, er⟩ := lif_some e
  cases er
  refine h X σ ρ F H _ a ρ' R ea fun v F' H' R' p s => ?_
  cases p <;> first
    | (cases eo; exact ⟨_, rfl, k F' H' R' s⟩)
    | exact nomatch eo
def cutD (ds : List D) (lo hi : Option Int) : List D := (ds.drop (HT.sIx ds.length 0 lo)).take (HT.sIx ds.length ds.length hi - HT.sIx ds.length 0 lo)
theorem RpA.cut {W : Addr → Prop} {vs : List V} {ds : List D} {lo hi : Option Int} (q : RpA K H W vs ds) : RpA K H W (cutV vs lo hi) (cutD ds lo hi) := by
  unfold cutV cutD
  rw [q.len]
  exact (q.drop _).take _
def slT (d : D) (lo hi : Option Int) : Option D := match d with | .tup ds => some (.tup (cutD ds lo hi)) | _ => none
def slL (d : D) (lo hi : Option Int) : Option D := match d with | .lst ds => some (.lst (cutD ds lo hi)) | _ => none
def slM (op : D → Option Int → Option Int → Option D) (f : M D) (fl fh : M (Option Int)) : M D := bnd f fun d => bnd fl fun l => bnd fh fun h => lif (op d l h)
theorem rf_slT {te : TE} {tl th : TO} {f : M D} {fl fh : M (Option Int)} (h : RF K te Γ Γ1 f) (hl : ROp K tl Γ1 Γ2 fl) (hh : ROp K th Γ2 Γ3 fh) : RF K (tSl (rSlA K) te tl th) Γ Γ3 (slM slT f fl fh) := by
  intro X σ ρ F H Q d ρ' R e k
  obtain ⟨a, ρ1, ea, e⟩ := bnd_some e
  obtain ⟨lo, ρ2, el, e⟩ := bnd_some e
  obtain ⟨hi, ρ3, eh, e⟩ := bnd_some e
  obtain ⟨z, eo, er⟩ := lif_some e
  cases er
  refine h X σ ρ F H _ a ρ1 R ea fun v F1 H1 R1 p1 s1 => ?_
  refine hl X σ ρ1 F1 H1 _ lo ρ2 R1 el fun F2 H2 R2 s2 => ?_
  refine hh X σ ρ2 F2 H2 _ hi ρ' R2 eh fun F3 H3 R3 s3 => ?_
  have p3 := p1.go ((s2.trans s3).go (X := X))
  have s13 := (s1.trans s2).trans s3
  cases p3 with
  | tup b q =>
    cases eo
    refine ⟨_, _, rfl, b.sq, fun hw => ?_, fun hw p n => ?_⟩
    · refine k _ F3 H3 R3 ?_ s13
      have : ∀ ds, RpA K H3 (Ws X F3) _ ds → cutD ds lo hi = ds := fun ds q => by
        unfold cutD
        rw [← q.len, hw.1, hw.2, List.drop_zero, q.len, Nat.sub_zero, List.take_length]
      rw [this _ q]
      exact .tup b q
    · exact k _ F3 _ (R3.same (same_new n)) (new_tup (fun p => R3.fresh) n q.cut) (s13.trans (.same (same_new n)))
  | _ => exact nomatch eo
theorem ro_slL {te : TE} {tl th : TO} {f : M D} {fl fh : M (Option Int)} (h : RF K te Γ Γ1 f) (hl : ROp K tl Γ1 Γ2 fl) (hh : ROp K th Γ2 Γ3 fh) : RO K (tSl (rSlL K) te tl th) Γ Γ3 .o1 (slM slL f fl fh) := by
  intro X σ ρ F H Q d ρ' R e k
  obtain ⟨a, ρ1, ea, e⟩ := bnd_some e
  obtain ⟨lo, ρ2, el, e⟩ := bnd_some e
  obtain ⟨hi, ρ3, eh, e⟩ := bnd_some e
  obtain ⟨z, eo, er⟩ := lif_some e
  cases er
  refine h X σ ρ F H _ a ρ1 R ea fun v F1 H1 R1 p1 s1 => ?_
  refine hl X σ ρ1 F1 H1 _ lo ρ2 R1 el fun F2 H2 R2 s2 => ?_
  refine hh X σ ρ2 F2 H2 _ hi ρ' R2 eh fun F3 H3 R3 s3 => ?_
  have p3 := p1.go ((s2.trans s3).go (X := X))
  have s13 := (s1.trans s2).trans s3
  cases p3 with
  | lst b q =>
    cases eo
    exact ⟨_, _, rfl, b.sq, fun p n => ro_new k R3 s13 n rfl q.cut⟩
  | _ => exact nomatch eo
/-! xs[::-1] -/
def revL (d : D) : Option D := match d with | .lst ds => some (.lst ds.reverse) | _ => none
theorem ro_rev {te : TE} {f : M D} (h : RV K te Γ Γ1 f) : RO K (tRevL K te) Γ Γ1 .o1 (b1 revL f) := by
  refine ro_un (r := fun x H Q => ∃ a xs, x = .ref a ∧ SqL K H a xs ∧ ∀ p, H p = none → Q (.ref p) (upd H p (.lst xs.reverse))) ?_ h
  intro H W v d d' Q p eo k
  cases p with
  | lst a q => cases eo; exact ⟨_, _, rfl, .inl (.inl a), fun p n => k p _ _ n rfl q.rev⟩
  | _ => exact nomatch eo
/-! truth -/
def truD : D → Option Bool | .non => some false | .bl b => some b | .int i => some (i != 0) | .lst ds => some (!ds.isEmpty) | .tup ds => some (!ds.isEmpty) | _ => none
theorem RpA.emp {W : Addr → Prop} {vs : List V} {ds : List D} (q : RpA K H W vs ds) : vs.isEmpty = ds.isEmpty := by cases q <;> rfl
theorem rt_tru {t : TE} {f : M D} (h : RV K t Γ Γ1 f) : RT K (fun σ H Q => t σ H fun x H' => ∃ k, TruV K x H' k ∧ Q k H') Γ Γ1 (bnd f fun d => lif (truD d)) := by
  intro X σ ρ F H Q d ρ' R e k
  obtain ⟨a, ρ1, ea, e⟩ := bnd_some e
  obtain ⟨z, eo, er⟩ := lif_some e
  cases er
  refine h X σ ρ F H _ a ρ' R ea fun v F' H' R' p s => ?_
  cases p with
  | non => cases eo; exact ⟨_, rfl, k F' H' R' s⟩
  | bl b => cases eo; exact ⟨_, rfl, k F' H' R' s⟩
  | int i => cases eo; exact ⟨_, rfl, k F' H' R' s⟩
  | lst a q => cases eo; exact ⟨_, .inl ⟨_, .inl (.inl a), by rw [q.emp]⟩, k F' H' R' s⟩
  | tup a q => cases eo; exact ⟨_, .inr (.inl ⟨_, a.sq, by rw [q.emp]⟩), k F' H' R' s⟩
  | _ => exact nomatch eo
end
end BV
set_option Elab.async false
set_option linter.all false
set_option maxRecDepth 100000
namespace BV
open PySem PySem.Spec PyProof.Rows L2 WK

/-! ### what a def promises: that it computes Fn -/
def ioG (ms : List Sl) : List Sl := ms.map fun s => match s with | .v .fz => .u | s => s
def spB (K : PySem.W.Frag) (ms : List Sl) (c : Cl) (Fn : List D → Option (D × List D)) : Sp := fun vs H Q _ => ∃ X ds F d ds', Rep K X ms (vs.map some) (ds.map some) F H ∧ Fn ds = some (d, ds') ∧
  ∀ v F' G H', Rep K (fun b => X b ∨ b ∈ G) (ioG ms) (vs.map some) (ds'.map some) F' H' → Own K H' (Ws (fun b => X b ∨ b ∈ G) F') c v d G → (∀ b ∈ G, ¬ X b) → Stp F H F' H' → (∀ b ∈ G, (∃ i, b ∈ F i) ∨ H b = none) → Q v H'
theorem spB_len {K : PySem.W.Frag} {ms : List Sl} {c : Cl} {Fn : List D → Option (D × List D)} {vs : List V} {H : Hp} {Q : VK} {E : XK} (h : spB K ms c Fn vs H Q E) : vs.length = ms.length := by
  obtain ⟨X, ds, F, d, ds', R, _⟩ := h
  have h1 := R.len
  have h2 := R.gl
  rw [List.length_map, List.length_map] at h1
  rw [List.length_map] at h2
  omega
/-- the def's own data at its end -/
def allS : List (Option D) → Option (List D)
  | [] => some []
  | some d :: r => (allS r).map (d :: ·)
  | none :: _ => none
def argsE (n : Nat) (ρ : Env) : Option (List D) := allS (ρ.take n)
def fnE (N n : Nat) (f : Ms) (ds : List D) : Option (D × List D) := if ds.length = n then (f (ds.map some ++ List.replicate (N - n) none)).bind fun r => match r with
  | .rt d ρ => (argsE n ρ).map fun as => (d, as)
  | .nx ρ => (argsE n ρ).map fun as => (.non, as)
  | _ => none else none
theorem mapM_id_at : ∀ {l : List (Option D)} {as : List D}, allS l = some as → l = as.map some
  | [], as, h => by cases h; rfl
  | some x :: l, as, h => by
    obtain ⟨r, e2, rfl⟩ := Option.map_eq_some_iff.mp (show (allS l).map (x :: ·) = some as from h)
    rw [mapM_id_at e2, List.map_cons]
  | none :: _, _, h => nomatch h
section
variable {K : PySem.W.Frag} {io : List Nat} {X : Addr → Prop} {Γ Γ1 Γ2 Γ3 : List Sl} {L : Tg} {σ : L2.St} {ρ : Env} {F : Nat → List Addr} {H : Hp} {i : Nat}
/-- slots ahead, what comes behind is nothing -/
theorem Rep.front {ms : List Sl} {k : Nat} {vs : List V} {ds : List D} (R : Rep K X ms (vs.map some) (ds.map some) F H) : Rep K X (ms ++ List.replicate k (.v .fz)) (vs.map some ++ List.replicate k none) (ds.map some ++ List.replicate k none) F H := by
  have l1 := R.len
  have l2 := R.gl
  refine ⟨by rw [List.length_append, List.length_append, List.length_replicate, List.length_replicate, l1], by rw [List.length_append, List.length_append, List.length_replicate, List.length_replicate, l2], fun j => ?_, R.dis, R.xt, R.ft⟩
  by_cases hj : j < ms.length
  · rw [List.getElem?_append_left hj, List.getElem?_append_left (by omega), List.getElem?_append_left (by omega)]
    exact R.at_ j
  · have q := R.at_ j
    rw [List.getElem?_eq_none (by omega : ms.length ≤ j)] at q
    have q : F j = [] := q
    rw [q, List.getElem?_append_right (by omega), List.getElem?_append_right (by omega : (ds.map some).length ≤ j)]
    unfold Slot
    cases h : (List.replicate k (Sl.v .fz))[j - ms.length]? with
    | none => rfl
    | some g =>
      have := List.mem_of_getElem? h
      rw [List.eq_of_mem_replicate this]
      cases h2 : (List.replicate k (none : Option D))[j - (ds.map some).length]? with
      | none => rfl
      | some r => rw [List.eq_of_mem_replicate (List.mem_of_getElem? h2)]
def ioOf (ms : List Sl) : List Nat := (List.range ms.length).filter fun j => !bare ms[j]?
theorem ioOf_at {ms : List Sl} {j : Nat} (hj : j < ms.length) (h : bare ms[j]? = false) : j ∈ ioOf ms := by
  unfold ioOf
  rw [List.mem_filter]
  exact ⟨List.mem_range.mpr hj, by rw [h]; rfl⟩
theorem ioG_at {ms : List Sl} {j : Nat} : (ioG ms)[j]? = (ms[j]?).map fun s => match s with | .v .fz => .u | s => s := by
  unfold ioG
  rw [List.getElem?_map]
/-- THE DEF -/
theorem fn_post {ms : List Sl} {N : Nat} {c : Cl} {t : TS} {f : Ms} {vs : List V} {Q : VK} {E : XK}
    (h : RS K (ioOf ms) t (ms ++ List.replicate (N - ms.length) (.v .fz)) ⟨ioG ms ++ List.replicate (N - ms.length) .u, [], [], ioG ms ++ List.replicate (N - ms.length) .u, c⟩ f) (hc : c = .fz ∨ ∀ ds ρ, f ds ≠ some (.nx ρ))
    (sp : spB K ms c (fnE N ms.length f) vs H Q E) : t { nx := fun _ H' => Q .non H', rt := Q } (vs.map some ++ List.replicate (N - vs.length) none) H := by
  have hlv := spB_len sp
  obtain ⟨X, ds, F, d, ds', R, e, k⟩ := sp
  unfold fnE at e
  have l1 := R.len
  have l2 := R.gl
  rw [List.length_map] at l2
  rw [if_pos l2.symm] at e
  obtain ⟨r, e1, e2⟩ := Option.bind_eq_some_iff.mp e
  rw [hlv]
  -- what is told of the def's arguments at the end
  have fin : ∀ {Y : Addr → Prop} {σ' : L2.St} {ρ' : Env} {F' : Nat → List Addr} {H' : Hp} {as : List D}, Rep K Y (ioG ms ++ List.replicate (N - ms.length) .u) σ' ρ' F' H' → Kp (ioOf ms) (vs.map some ++ List.replicate (N - ms.length) none) σ' → argsE ms.length ρ' = some as →
      Rep K Y (ioG ms) (vs.map some) (as.map some) F' H' := fun {Y σ' ρ' F' H' as} R' kp ea => by
    have ht := mapM_id_at ea
    have hla : as.length = ms.length := by
      have := congrArg List.length ht
      rw [List.length_map, List.length_take] at this
      have g := R'.gl
      rw [List.length_append, List.length_replicate, show (ioG ms).length = ms.length by simp [ioG]] at g
      omega
    have lio : (ioG ms).length = ms.length := by simp [ioG]
    refine ⟨by rw [List.length_map, List.length_map]; omega, by rw [List.length_map]; omega, fun j => ?_, R'.dis, R'.xt, R'.ft⟩
    have q := R'.at_ j
    by_cases hj : j < ms.length
    · rw [List.getElem?_append_left (by omega)] at q
      have er : ρ'[j]? = (as.map some)[j]? := by
        rw [← ht, List.getElem?_take_of_lt hj]
      rw [er] at q
      by_cases hb : bare ms[j]? = true
      · rw [ioG_at] at q ⊢
        cases hm : ms[j]? with
        | none => rw [hm] at q; exact q
        | some g =>
          rw [hm] at q hb
          cases g with
          | u => exact q
          | v c =>
            cases c with
            | fz => exact q
            | o1 => exact nomatch hb
            | src => exact nomatch hb
      · have hio := ioOf_at hj (by simpa using hb)
        have ks := kp j hio
        rw [List.getElem?_append_left (by rw [List.length_map]; omega)] at ks
        rw [ks] at q
        exact q
    · rw [List.getElem?_append_right (by omega)] at q
      rw [List.getElem?_eq_none (by omega)]
      have : F' j = [] := by
        cases h : (List.replicate (N - ms.length) Sl.u)[j - (ioG ms).length]? with
        | none => rw [h] at q; exact q
        | some g => rw [h, List.eq_of_mem_replicate (List.mem_of_getElem? h)] at q; exact q
      exact this
  refine h X _ _ F H _ r R.front e1 ?_
  cases r with
  | bk ρ' => exact nomatch e2
  | ct ρ' => exact nomatch e2
  | rt d0 ρ' =>
    obtain ⟨as, ea, er⟩ := Option.map_eq_some_iff.mp e2
    cases er
    exact fun v σ' F' G H' R' o nx s g kp => k v F' G H' (fin R' kp ea) o nx s g
  | nx ρ' =>
    obtain ⟨as, ea, er⟩ := Option.map_eq_some_iff.mp e2
    cases er
    intro σ' F' H' R' s kp
    have hc : c = .fz := hc.resolve_right fun z => z _ _ e1
    subst hc
    exact k .non F' [] H' (fin R' kp ea).nil ⟨rfl, .non⟩ (fun b z => nomatch z) s fun b z => nomatch z

/-! ### calls -/
/-- no argument is changed by the def -/
def callM (Fn : List D → Option (D × List D)) (f : M (List D)) : M D := bnd f fun ds => lif ((Fn ds).map (·.1))
def allF (ms : List Sl) : Bool := ms.all fun s => decide (s = .v .fz)
theorem args_rep {W : Addr → Prop} {vs : List V} {ds : List D} {ms : List Sl} (hm : allF ms = true) (hl : ms.length = ds.length) (q : RpA K H W vs ds) (hW : ∀ b, W b → H b ≠ none) : Rep K W ms (vs.map some) (ds.map some) (fun _ => []) H := by
  refine ⟨by rw [List.length_map, List.length_map]; exact q.len, by rw [List.length_map]; exact hl, fun j => ?_, fun j k b z => (nomatch z), fun b z => ⟨hW b z, fun j z => (nomatch z)⟩, fun j b z => (nomatch z)⟩
  cases hj : ms[j]? with
  | none => rfl
  | some g =>
    have hg : g = .v .fz := of_decide_eq_true (List.all_eq_true.mp hm g (List.mem_of_getElem? hj))
    subst hg
    cases hd : ds[j]? with
    | none =>
      have e : (ds.map some)[j]? = none := by rw [List.getElem?_map, hd]; rfl
      rw [e]; rfl
    | some d =>
      obtain ⟨v, e1, e2⟩ := q.get hd
      have e : (ds.map some)[j]? = some (some d) := by rw [List.getElem?_map, hd]; rfl
      have e' : (vs.map some)[j]? = some (some v) := by rw [List.getElem?_map, e1]; rfl
      rw [e, e']
      refine ⟨v, rfl, rfl, e2.go (Go.sub fun b z => ?_)⟩
      rcases z with z | ⟨_, z⟩
      · exact z
      · exact nomatch z
theorem ro_call {ms : List Sl} {c : Cl} {Fn : List D → Option (D × List D)} {t : TA} {E : XK} {f : M (List D)} (hm : allF ms = true) (hn : ∀ ds r, Fn ds = some r → ds.length = ms.length) (h : RA K t Γ Γ1 f) : RO K (tCall (spB K ms c Fn) [] E t) Γ Γ1 c (callM Fn f) := by
  intro X σ ρ F H Q d ρ' R e k
  obtain ⟨ds, ρ1, e1, e⟩ := bnd_some e
  obtain ⟨z, eo, er⟩ := lif_some e
  cases er
  obtain ⟨⟨d0, ds'⟩, ef, er⟩ := Option.map_eq_some_iff.mp eo
  cases er
  refine h X σ ρ F H _ ds ρ' R e1 fun vs F1 H1 R1 q s1 => ?_
  have hT : ∀ b, Ws X F1 b → H1 b ≠ none := fun b z => by
    rcases z with z | ⟨j, z⟩
    · exact (R1.xt b z).1
    · exact R1.ft j b z
  rw [List.append_nil]
  refine ⟨Ws X F1, ds, fun _ => [], d0, ds', args_rep hm (hn ds _ ef).symm q hT, ef, fun v F2 G H2 R2 o nx s2 g => ?_⟩
  have F2e : ∀ j, F2 j = [] := fun j => R2.noF (by
    rw [ioG_at]
    cases hj : ms[j]? with
    | none => rfl
    | some g =>
      have hg : g = .v .fz := of_decide_eq_true (List.all_eq_true.mp hm g (List.mem_of_getElem? hj))
      rw [hg]; rfl)
  have sm : Same H1 H2 := fun b o eb => s2.fr b o eb fun i z => nomatch z
  have gn : ∀ b ∈ G, H1 b = none := fun b hb => (g b hb).elim (fun ⟨_, z⟩ => nomatch z) id
  have sub : ∀ b, Ws (fun b => X b ∨ b ∈ G) F1 b → Ws (fun b => Ws X F1 b ∨ b ∈ G) F2 b := fun b z => by
    rcases z with (z | z) | ⟨j, z⟩
    · exact .inl (.inl (.inl z))
    · exact .inl (.inr z)
    · exact .inl (.inl (.inr ⟨j, z⟩))
  have goH : Go H1 (Ws X F1) H2 (Ws (fun b => X b ∨ b ∈ G) F1) := ⟨(Go.same sm).ls, (Go.same sm).fr, fun b z => by
    rcases z with (z | z) | z
    · exact .inl (.inl z)
    · exact .inr (gn b z)
    · exact .inl (.inr z)⟩
  have RS2 := R1.same sm
  refine k v F1 G H2 ⟨R1.len, R1.gl, fun j => (R1.at_ j).go goH fun b _ o e => sm b o e, R1.dis, fun b z => ?_, RS2.ft⟩ (o.go (Go.sub sub) fun _ _ _ e => e) (fun b hb z => nx b hb (.inl z)) (s1.trans (.same sm)) fun b hb => new_trans s1 (.inr (gn b hb))
  rcases z with z | z
  · exact RS2.xt b z
  · exact ⟨o.tracked b z, fun j zj => R1.ft j b zj (gn b z)⟩
theorem rf_call {ms : List Sl} {Fn : List D → Option (D × List D)} {t : TA} {E : XK} {f : M (List D)} (hm : allF ms = true) (hn : ∀ ds r, Fn ds = some r → ds.length = ms.length) (h : RA K t Γ Γ1 f) : RF K (tCall (spB K ms .fz Fn) [] E t) Γ Γ1 (callM Fn f) := by
  intro X σ ρ F H Q d ρ' R e k
  refine ro_call hm hn h X σ ρ F H Q d ρ' R e fun v F' G H' R' o nx s g => ?_
  obtain ⟨rfl, o⟩ := o
  exact k v F' H' (R'.less fun b z => .inl z) (o.go (Go.sub fun b => ws_nil.mpr)) s
theorem fnE_len {N n : Nat} {f : Ms} {ds : List D} {r : D × List D} (h : fnE N n f ds = some r) : ds.length = n := by
  unfold fnE at h
  by_cases e : ds.length = n
  · exact e
  · rw [if_neg e] at h; exact nomatch h
/-- the first argument is a slot's object that the def may change -/
def callS (Fn : List D → Option (D × List D)) (i : Nat) (f : M (List D)) : M D := bnd (getE i) fun _ => bnd f fun ds => bnd (getE i) fun s => fun ρ => (Fn (s :: ds)).bind fun p => match p.2 with | s' :: _ => some (p.1, ρ.set i (some s')) | [] => none
theorem ro_callS {ms : List Sl} {c0 c : Cl} {Fn : List D → Option (D × List D)} {t : TA} {E : XK} {f : M (List D)} (hm : allF ms = true) (hc0 : c0 ≠ .fz) (hn : ∀ ds r, Fn ds = some r → ds.length = ms.length + 1) (hg : Γ[i]? = some (.v c0)) (h : RA K t Γ Γ1 f) (hg1 : Γ1[i]? = some (.v c0)) :
    RO K (tCall (spB K (.v c0 :: ms) c Fn) [] E (tCons (tVar i) t)) Γ Γ1 c (callS Fn i f) := by
  intro X σ ρ F H Q d ρ' R e k
  obtain ⟨s0, ρ0, e0, e⟩ := bnd_some e
  obtain ⟨ds, ρ1, e1, e⟩ := bnd_some e
  obtain ⟨s1, ρ2, e2, e⟩ := bnd_some e
  obtain ⟨⟨d0, ds'⟩, ef, e⟩ := Option.bind_eq_some_iff.mp e
  obtain ⟨e0, q0⟩ := getE_some e0
  have q0 : ρ0 = ρ := q0
  subst q0
  obtain ⟨e2, q2⟩ := getE_some e2
  have q2 : ρ2 = ρ1 := q2
  subst q2
  cases ds' with
  | nil => exact nomatch e
  | cons s' rest =>
    cases e
    obtain ⟨w, ew, _⟩ := R.slot hg e0
    refine ⟨w, ew, h X σ ρ0 F H _ ds ρ2 R e1 fun vs F1 H1 R1 q st1 => ?_⟩
    obtain ⟨w', ew', ow⟩ := R1.slot hg1 e2
    rw [ew] at ew'
    cases ew'
    rw [List.append_nil]
    have hil := (List.getElem?_eq_some_iff.mp hg1).1
    have hT : ∀ b, Ws X F1 b → H1 b ≠ none := fun b z => by
      rcases z with z | ⟨j, z⟩
      · exact (R1.xt b z).1
      · exact R1.ft j b z
    -- what the def must leave alone
    have hrest : ds.length = ms.length := by have := hn _ _ ef; simpa using this
    refine ⟨fun b => X b ∨ ∃ j, j ≠ i ∧ b ∈ F1 j, s1 :: ds, fun k => if k = 0 then F1 i else [], d0, s' :: rest, ?_, ef, fun v F2 G H2 R2 o nx s2 g => ?_⟩
    · have sub : ∀ b, Ws (fun b => X b ∨ ∃ j, j ≠ i ∧ b ∈ F1 j) (fun k => if k = 0 then F1 i else []) b → Ws X F1 b := fun b z => by
        rcases z with (z | ⟨j, _, z⟩) | ⟨j, z⟩
        · exact .inl z
        · exact .inr ⟨j, z⟩
        · by_cases hj : j = 0
          · have z : b ∈ (if j = 0 then F1 i else []) := z
            rw [if_pos hj] at z; exact .inr ⟨i, z⟩
          · have z : b ∈ (if j = 0 then F1 i else []) := z
            rw [if_neg hj] at z; exact nomatch z
      refine ⟨by simp [q.len], by simp [hrest], fun j => ?_, fun j k b hj hk => ?_, fun b z => ⟨?_, fun j hj => ?_⟩, fun j b hj => ?_⟩
      · cases j with
        | zero => exact ⟨w, rfl, ow.go (Go.sub sub) fun _ _ _ e => e⟩
        | succ j =>
          have A := args_rep (K := K) (ms := ms) hm hrest.symm q hT
          exact (A.at_ j).go (Go.sub fun b z => .inl (sub b z)) fun _ z => nomatch z
      · have hj : b ∈ (if j = 0 then F1 i else []) := hj
        have hk : b ∈ (if k = 0 then F1 i else []) := hk
        by_cases j0 : j = 0
        · by_cases k0 : k = 0
          · rw [j0, k0]
          · rw [if_neg k0] at hk; exact nomatch hk
        · rw [if_neg j0] at hj; exact nomatch hj
      · rcases z with z | ⟨j, _, z⟩
        · exact (R1.xt b z).1
        · exact R1.ft j b z
      · have hj : b ∈ (if j = 0 then F1 i else []) := hj
        by_cases j0 : j = 0
        · rw [if_pos j0] at hj
          rcases z with z | ⟨l, hl, z⟩
          · exact (R1.xt b z).2 i hj
          · exact hl (R1.dis l i b z hj)
        · rw [if_neg j0] at hj; exact nomatch hj
      · have hj : b ∈ (if j = 0 then F1 i else []) := hj
        by_cases j0 : j = 0
        · rw [if_pos j0] at hj; exact R1.ft i b hj
        · rw [if_neg j0] at hj; exact nomatch hj
    · -- behind the call
      have F2e : ∀ j, j ≠ 0 → F2 j = [] := fun j hj => R2.noF (by
        rw [ioG_at]
        cases j with
        | zero => exact absurd rfl hj
        | succ j =>
          rw [List.getElem?_cons_succ]
          cases hj : ms[j]? with
          | none => rfl
          | some g =>
            have hg : g = .v .fz := of_decide_eq_true (List.all_eq_true.mp hm g (List.mem_of_getElem? hj))
            rw [hg]; rfl)
      have own2 : Own K H2 (Ws (fun b => (X b ∨ ∃ j, j ≠ i ∧ b ∈ F1 j) ∨ b ∈ G) F2) c0 w s' (F2 0) := by
        have z := R2.at_ 0
        have hh : (ioG (.v c0 :: ms))[0]? = some (.v c0) := by
          cases c0 with
          | fz => exact absurd rfl hc0
          | o1 => rfl
          | src => rfl
        rw [hh] at z
        obtain ⟨v', ev', oo⟩ := z
        cases ev'
        exact oo
      have nF2 : ∀ b, b ∈ F2 0 → b ∈ F1 i ∨ H1 b = none := fun b z => (s2.nw 0 b z).imp (fun ⟨j, z⟩ => by
        have z : b ∈ (if j = 0 then F1 i else []) := z
        by_cases j0 : j = 0
        · rw [if_pos j0] at z; exact z
        · rw [if_neg j0] at z; exact nomatch z) id
      have gn : ∀ b ∈ G, b ∈ F1 i ∨ H1 b = none := fun b hb => (g b hb).imp (fun ⟨j, z⟩ => by
        have z : b ∈ (if j = 0 then F1 i else []) := z
        by_cases j0 : j = 0
        · rw [if_pos j0] at z; exact z
        · rw [if_neg j0] at z; exact nomatch z) id
      have keep : ∀ b o, H1 b = some o → b ∉ F1 i → H2 b = some o := fun b o eb n => s2.fr b o eb fun j z => by
        have z : b ∈ (if j = 0 then F1 i else []) := z
        by_cases j0 : j = 0
        · rw [if_pos j0] at z; exact n z
        · rw [if_neg j0] at z; exact nomatch z
      have sub2 : ∀ b, Ws (fun b => X b ∨ b ∈ G) (updF F1 i (F2 0)) b → Ws (fun b => (X b ∨ ∃ j, j ≠ i ∧ b ∈ F1 j) ∨ b ∈ G) F2 b := fun b z => by
        rcases z with (z | z) | ⟨j, z⟩
        · exact .inl (.inl (.inl z))
        · exact .inl (.inr z)
        · by_cases hj : j = i
          · rw [hj, updF_at] at z; exact .inr ⟨0, z⟩
          · rw [updF_ne hj] at z; exact .inl (.inl (.inr ⟨j, hj, z⟩))
      have goH : Go H1 (Ws X F1) H2 (Ws (fun b => X b ∨ b ∈ G) (updF F1 i (F2 0))) := by
        refine ⟨fun b xs n eb => keep b _ eb fun z => n (.inr ⟨i, z⟩), fun b u _ n r => ?_, fun b z => ?_⟩
        · rcases r with r | ⟨o', r⟩
          · exact .inl (keep b _ r fun z => n (.inr ⟨i, z⟩))
          · exact .inr ⟨o', keep b _ r fun z => n (.inr ⟨i, z⟩)⟩
        · rcases z with (z | z) | ⟨j, z⟩
          · exact .inl (.inl z)
          · exact (gn b z).imp (fun z => .inr ⟨i, z⟩) id
          · by_cases hj : j = i
            · rw [hj, updF_at] at z
              exact (nF2 b z).imp (fun z => .inr ⟨i, z⟩) id
            · rw [updF_ne hj] at z; exact .inl (.inr ⟨j, z⟩)
      have trk : ∀ b, Ws X F1 b → b ∉ F1 i → H2 b ≠ none := fun b z n => by
        cases eb : H1 b with
        | none => exact absurd eb (hT b z)
        | some o => rw [keep b o eb n]; exact (fun z => nomatch z)
      have hlr : i < ρ2.length := (List.getElem?_eq_some_iff.mp e2).1
      refine k v (updF F1 i (F2 0)) G H2 ⟨by rw [List.length_set]; exact R1.len, by rw [List.length_set]; exact R1.gl, fun j => ?_, fun j l b hj hl => ?_, fun b z => ?_, fun j b hj => ?_⟩ (o.go (Go.sub sub2) fun _ _ _ e => e) (fun b hb z => nx b hb (.inl z))
        (st1.trans ⟨fun b ob eb n => keep b ob eb (n i), fun j b hj => ?_⟩) fun b hb => new_trans st1 ((gn b hb).imp (fun z => ⟨i, z⟩) id)
      · by_cases hj : j = i
        · subst hj
          rw [updF_at, hg1, List.getElem?_set_self hlr, ew]
          exact ⟨w, rfl, own2.go (Go.sub sub2) fun _ _ _ e => e⟩
        · rw [updF_ne hj, List.getElem?_set_ne (Ne.symm hj)]
          exact (R1.at_ j).go goH fun b hb ob eb => keep b ob eb fun z => hj (R1.dis j i b hb z)
      · by_cases j0 : j = i
        · by_cases l0 : l = i
          · rw [j0, l0]
          · rw [j0, updF_at] at hj
            rw [updF_ne l0] at hl
            exact absurd hj ((R2.xt b (.inl (.inr ⟨l, l0, hl⟩))).2 0)
        · by_cases l0 : l = i
          · rw [l0, updF_at] at hl
            rw [updF_ne j0] at hj
            exact absurd hl ((R2.xt b (.inl (.inr ⟨j, j0, hj⟩))).2 0)
          · rw [updF_ne j0] at hj
            rw [updF_ne l0] at hl
            exact R1.dis j l b hj hl
      · have nF : ∀ j, b ∉ updF F1 i (F2 0) j := fun j hj => by
          by_cases j0 : j = i
          · rw [j0, updF_at] at hj
            rcases z with z | z
            · exact (R2.xt b (.inl (.inl z))).2 0 hj
            · exact (R2.xt b (.inr z)).2 0 hj
          · rw [updF_ne j0] at hj
            rcases z with z | z
            · exact (R1.xt b z).2 j hj
            · exact nx b z (.inr ⟨j, j0, hj⟩)
        refine ⟨?_, nF⟩
        rcases z with z | z
        · exact (R2.xt b (.inl (.inl z))).1
        · exact (R2.xt b (.inr z)).1
      · by_cases j0 : j = i
        · rw [j0, updF_at] at hj; exact R2.ft 0 b hj
        · rw [updF_ne j0] at hj
          exact trk b (.inr ⟨j, hj⟩) fun z => j0 (R1.dis j i b hj z)
      · by_cases j0 : j = i
        · rw [j0, updF_at] at hj
          exact (nF2 b hj).imp (fun z => ⟨i, z⟩) id
        · rw [updF_ne j0] at hj
          exact .inl ⟨j, hj⟩
theorem rf_callS {ms : List Sl} {c0 : Cl} {Fn : List D → Option (D × List D)} {t : TA} {E : XK} {f : M (List D)} (hm : allF ms = true) (hc0 : c0 ≠ .fz) (hn : ∀ ds r, Fn ds = some r → ds.length = ms.length + 1) (hg : Γ[i]? = some (.v c0)) (h : RA K t Γ Γ1 f) (hg1 : Γ1[i]? = some (.v c0)) :
    RF K (tCall (spB K (.v c0 :: ms) .fz Fn) [] E (tCons (tVar i) t)) Γ Γ1 (callS Fn i f) := by
  intro X σ ρ F H Q d ρ' R e k
  refine ro_callS hm hc0 hn hg h hg1 X σ ρ F H Q d ρ' R e fun v F' G H' R' o nx s g => ?_
  obtain ⟨rfl, o⟩ := o
  exact k v F' H' (R'.less fun b z => .inl z) (o.go (Go.sub fun b => ws_nil.mpr)) s
end
end BV
set_option Elab.async false
set_option linter.all false
set_option maxRecDepth 100000
set_option maxHeartbeats 4000000
namespace WK
open PySem PySem.Spec PyProof.Rows L2
theorem works_at {b : Int} {ss : List Slt} : ∀ {i : Nat} {w : Slt}, (worksW w0 b ss)[i]? = some w → ∃ s, ss[i]? = some s ∧ w = afterW (lastW w0 b (ss.take i)) s b := by
  refine snoc_ind (P := fun ss => ∀ {i : Nat} {w : Slt}, (worksW w0 b ss)[i]? = some w → ∃ s, ss[i]? = some s ∧ w = afterW (lastW w0 b (ss.take i)) s b) (fun {i w} h => ?_) (fun l a ih {i w} h => ?_) ss
  · simp [worksW] at h
  · rw [worksW_snoc] at h
    by_cases hi : i < l.length
    · rw [List.getElem?_append_left (by rw [worksW_len]; exact hi)] at h
      obtain ⟨s, e1, e2⟩ := ih h
      refine ⟨s, by rw [List.getElem?_append_left hi]; exact e1, ?_⟩
      rw [List.take_append_of_le_length (Nat.le_of_lt hi)]
      exact e2
    · rw [List.getElem?_append_right (by rw [worksW_len]; omega), worksW_len] at h
      have hz : i - l.length = 0 := by
        have := (List.getElem?_eq_some_iff.mp h).1
        simp at this
        omega
      have ei : i = l.length := by omega
      subst ei
      rw [hz] at h
      have h := Option.some.inj h
      refine ⟨a, by simp, ?_⟩
      rw [← h, List.take_left']
      rfl
/-- a work of few numbers, none of them great -/
structure Sml (w : Slt) : Prop where
  wk : w.Wk
  lo : 0 ≤ w.need
  hi : w.most ≤ 1000000
  few : w.most - w.need ≤ 12
  bd : Bd w 100000000000000000
abbrev Drn (s : Slt) : Prop := s.Ok 1000000 80000000000 1000000000000 ∧ s.most - s.need ≤ 12
theorem drn_far {s : Slt} (h : Drn s) : s.Far := ⟨ok_wk h.1 (by have := h.2; omega), h.1.lo, h.1.hi⟩
theorem drn_bd {s : Slt} (h : Drn s) : Bd s 2000000000000 := by
  intro x x1 x2
  have hl := h.1.len
  have hw := h.2
  have hm := h.1.mid
  have p := h.1.pos (x - s.need).toNat
  have f := h.1.fst
  have b := sum_bounds (b := 80000000000) (l := s.slopes.take (x - s.need).toNat) fun z hz => h.1.steep z (List.mem_of_mem_take hz)
  have l12 : ((s.slopes.take (x - s.need).toNat).length : Int) ≤ 12 := by
    rw [List.length_take]
    omega
  unfold costAt
  omega
theorem works_small {b : Int} {ss : List Slt} (hb : 0 ≤ b) (hb2 : b ≤ 1000000000) (hl : ss.length ≤ 25) (h : ∀ s ∈ ss, Drn s) : ∀ w ∈ worksW w0 b ss, Sml w := by
  intro w hw
  obtain ⟨i, hi, hg⟩ := List.mem_iff_getElem.mp hw
  obtain ⟨s, e1, rfl⟩ := works_at (i := i) (by rw [List.getElem?_eq_getElem hi, hg])
  have hs := h s (List.mem_of_getElem? e1)
  have ht : ∀ s ∈ ss.take i, s.Far ∧ Bd s 2000000000000 := fun s' hs' => ⟨drn_far (h s' (List.mem_of_mem_take hs')), drn_bd (h s' (List.mem_of_mem_take hs'))⟩
  have lw := lastW_wk hb (ss.take i) fun s hs => (ht s hs).1.wk
  obtain ⟨k1, k2, k3⟩ := after_wk hb lw (drn_far hs).wk
  refine ⟨k1, by rw [k2]; exact hs.1.lo, by rw [k3]; exact hs.1.hi, by rw [k2, k3]; exact hs.2, ?_⟩
  have b1 := last_bd hb (by omega) (ss.take i) ht
  have b2 := after_bd lw (drn_far hs).wk hb (last_far hb fun s hs => (ht s hs).1).1 hs.1.hi b1 (drn_bd hs)
  intro x x1 x2
  have := b2 x x1 x2
  have hlt : ((ss.take i).length : Int) ≤ 25 := by
    rw [List.length_take]
    omega
  have hm : (2000000000000 + b * 1000000) * ((ss.take i).length : Int) ≤ (2000000000000 + 1000000000 * 1000000) * 25 := Int.mul_le_mul (by omega) hlt (by omega) (by omega)
  omega
theorem sml_num {w : Slt} (h : Sml w) : w.need.natAbs < 10 ^ 150 ∧ w.most.natAbs < 10 ^ 150 ∧ w.first.natAbs < 10 ^ 150 ∧ (leastW w).natAbs < 10 ^ 150 ∧ ∀ z ∈ w.slopes, z.natAbs < 10 ^ 150 := by
  have hm := h.wk.len.mid
  have hl := h.wk.len.len
  have h0 := h.lo
  have h1 := h.hi
  refine ⟨nat150 (by omega) (by omega), nat150 (by omega) (by omega), ?_, ?_, fun z hz => ?_⟩
  · have := h.bd w.need (by omega) hm
    have e : costAt w w.need = w.first := by
      unfold costAt
      simp
    rw [e] at this
    exact nat150 (by omega) (by omega)
  · obtain ⟨l1, l2⟩ := lowW_in h.wk
    have := h.bd (lowW w) l1 l2
    unfold leastW
    exact nat150 (by omega) (by omega)
  · obtain ⟨i, hi, rfl⟩ := List.mem_iff_getElem.mp hz
    have a := h.bd (w.need + (i : Int)) (by omega) (by omega)
    have b := h.bd (w.need + ((i + 1 : Nat) : Int)) (by omega) (by omega)
    rw [costN] at a b
    rw [take_sum (List.getElem?_eq_getElem hi)] at b
    exact nat150 (by omega) (by omega)
theorem sml_lil {w : Slt} (h : Sml w) : Lil (sltD w) ∧ cost (sltD w) ≤ 5000 := by
  obtain ⟨a1, a2, a3, _, a4⟩ := sml_num h
  have hl := h.wk.len.len
  have hf := h.few
  refine ⟨?_, ?_⟩
  · simp only [sltD, Lil, LilAll, and_true]
    exact ⟨a1, a2, a3, lil_ints a4⟩
  · have := cost_ints (ns := w.slopes)
    have e : w.slopes.length * 153 ≤ 12 * 153 := Nat.mul_le_mul_right _ (by omega)
    simp only [sltD, cost, costAll]
    omega
theorem sml_depth {w : Slt} : (sltD w).depth ≤ 2 := by
  simp only [sltD, PyData.depth, PyData.depthAll, depth_ints]
  omega
theorem shows_told {l : List Slt} {ns : List Int} (hl : l.length ≤ 25) (h : ∀ w ∈ l, Sml w) (hn : ns.length ≤ 25) (h2 : ∀ z ∈ ns, z.natAbs < 10 ^ 150) : Shows (.list [.list (l.map sltD), .list (intsD ns)]) := by
  have c := costAll_le (c := 5000) (xs := l.map sltD) fun x hx => by
    obtain ⟨v, hv, rfl⟩ := List.mem_map.mp hx
    exact (sml_lil (h v hv)).2
  rw [List.length_map] at c
  have c2 := cost_ints (ns := ns)
  have d := depthAll_le (c := 2) (xs := l.map sltD) fun x hx => by
    obtain ⟨v, _, rfl⟩ := List.mem_map.mp hx
    exact sml_depth
  refine shows_of ?_ ?_ ?_
  · simp only [Lil, LilAll, and_true]
    refine ⟨lilAll_iff.mpr fun x hx => ?_, lil_ints h2⟩
    obtain ⟨v, hv, rfl⟩ := List.mem_map.mp hx
    exact (sml_lil (h v hv)).1
  · simp only [PyData.depth, PyData.depthAll, depth_ints]
    omega
  · simp only [cost, costAll]
    refine Nat.le_trans ?_ (show 25 * 5002 + 25 * 153 + 20 ≤ sizeLine by decide)
    have e : ns.length * 153 ≤ 25 * 153 := Nat.mul_le_mul_right _ hn
    have e2 : l.length * 5002 ≤ 25 * 5002 := Nat.mul_le_mul_right _ hl
    omega
theorem shows_one {w : Slt} {x y : Int} (h : Sml w) (hx : x.natAbs < 10 ^ 150) (hy : y.natAbs < 10 ^ 150) : Shows (.list [sltD w, .int x, .int y]) := by
  obtain ⟨a, c⟩ := sml_lil h
  have d := sml_depth (w := w)
  refine shows_of ?_ ?_ ?_
  · simp only [Lil, LilAll, and_true]
    exact ⟨a, hx, hy⟩
  · simp only [PyData.depth, PyData.depthAll]
    omega
  · simp only [cost, costAll]
    refine Nat.le_trans ?_ (show 6000 ≤ sizeLine by decide)
    omega
/-- ended at a number, the last work's worth there is the least cost -/
theorem ended_least {b : Int} {ss : List Slt} {s : Slt} {x : Int} (hb : 0 ≤ b) (h : ∀ s ∈ ss, s.Far) (hs : s.Wk) (hx : fitB s x = true) : leastW (lastW w0 b (ss ++ [ptW s x])) = costAt (afterW (lastW w0 b ss) s b) x := by
  obtain ⟨x1, x2⟩ := fit_iff.mp hx
  have lw := lastW_wk hb ss fun s hs => (h s hs).wk
  have pk : (ptW s x).Wk := ⟨⟨by simp [ptW], Int.le_refl _, by show x - x ≤ 1000; omega⟩, Int.le_trans hs.lo x1, List.Pairwise.nil⟩
  rw [lastW_snoc]
  obtain ⟨k1, k2, k3⟩ := after_wk hb lw pk
  have e0 : (afterW (lastW w0 b ss) (ptW s x) b).slopes = [] := by
    have := k1.len.len
    rw [k2, k3] at this
    exact List.eq_nil_of_length_eq_zero (by have : ((afterW (lastW w0 b ss) (ptW s x) b).slopes.length : Int) = x - x := this; omega)
  have c1 := after_cost (b := b) lw.len pk.len 0 (Int.le_of_eq (by show x + 0 = x; omega))
  have c2 := after_cost (b := b) lw.len hs.len (x - s.need).toNat (by omega)
  rw [show s.need + (((x - s.need).toNat : Nat) : Int) = x by omega] at c2
  have e1 : lowW (afterW (lastW w0 b ss) (ptW s x) b) = x := by
    unfold lowW
    rw [e0, k2]
    show x + ((0 : Nat) : Int) = x
    omega
  unfold leastW
  rw [e1, c2]
  have c1 : costAt (afterW (lastW w0 b ss) (ptW s x) b) (x + ((0 : Nat) : Int)) = costAt (ptW s x) (x + ((0 : Nat) : Int)) + heldWorth (lastW w0 b ss) b (x + ((0 : Nat) : Int)) := c1
  rw [show x + ((0 : Nat) : Int) = x by omega] at c1
  rw [c1]
  congr 1
  show costAt ⟨x, x, costAt s x, []⟩ x = costAt s x
  unfold costAt
  simp
theorem at_neg {xs : List V} {v : V} (h : xs[xs.length - 1]? = some v) : atI xs (-1) = some v := by
  have hl := (List.getElem?_eq_some_iff.mp h).1
  unfold atI ixN
  rw [if_neg (by omega), if_pos (by omega), show (-1 + (xs.length : Int)).toNat = xs.length - 1 by omega]
  exact h
theorem last_at {b : Int} {ss : List Slt} : atI (V.int 0 :: ((worksW w0 b ss).map leastW).map V.int) (-1) = some (.int (leastW (lastW w0 b ss))) := by
  refine snoc_ind (P := fun ss => atI (V.int 0 :: ((worksW w0 b ss).map leastW).map V.int) (-1) = some (.int (leastW (lastW w0 b ss)))) rfl (fun l a _ => ?_) ss
  rw [worksW_snoc, lastW_snoc, List.map_append, List.map_append, ← List.cons_append]
  exact atI_last _ _
theorem last_mem {b : Int} {ss : List Slt} {a : Slt} : lastW w0 b (ss ++ [a]) ∈ worksW w0 b (ss ++ [a]) := by
  rw [worksW_snoc, lastW_snoc]
  simp
theorem last_num {b : Int} {ss : List Slt} (h : ∀ w ∈ worksW w0 b ss, Sml w) : (leastW (lastW w0 b ss)).natAbs < 10 ^ 150 := by
  rcases List.eq_nil_or_concat ss with e | ⟨l, a, e⟩
  · subst e
    exact (show (0 : Int).natAbs < 10 ^ 150 by decide)
  · rw [List.concat_eq_append] at e
    subst e
    exact (sml_num (h _ last_mem)).2.2.2.1
theorem slts_split {H : Hp} {ws : List V} {st : List Slt} {sz : Slt} (h : SltsAt H ws (st ++ [sz])) : ∃ us v, ws = us ++ [v] ∧ SltsAt H us st ∧ SltAt H v sz := by
  induction st generalizing ws with
  | nil =>
    cases h with
    | cons a b =>
      cases b
      exact ⟨[], _, rfl, .nil, a⟩
  | cons x xs ih =>
    cases h with
    | cons a b =>
      obtain ⟨us, v, e, h1, h2⟩ := ih b
      exact ⟨_ :: us, v, by rw [e]; rfl, .cons a h1, h2⟩
end WK
set_option Elab.async false
set_option linter.all false
set_option maxRecDepth 100000
namespace BV
open PySem PySem.Spec PyProof.Rows L2 WK
section
variable {K : PySem.W.Frag} {io : List Nat} {X : Addr → Prop} {Γ Γ1 Γ2 Γ3 : List Sl} {L : Tg} {σ : L2.St} {ρ : Env} {F : Nat → List Addr} {H : Hp} {i : Nat}
theorem rt_t {t : TE} {f : M D} (h : RV K t Γ Γ1 f) : RT K (tTest t) Γ Γ1 (bt f) := rt_b h
/-! ### a tuple times a number; in; chains -/
theorem RpA.rep {W : Addr → Prop} {vs : List V} {ds : List D} (q : RpA K H W vs ds) : ∀ n : Nat, RpA K H W (List.replicate n vs).flatten (List.replicate n ds).flatten
  | 0 => .nil
  | n + 1 => by
    rw [List.replicate_succ, List.replicate_succ, List.flatten_cons, List.flatten_cons]
    exact q.append (q.rep n)
theorem g2_repA : G2 K (rRepA K) repT := by
  intro H W v d u e d' Q hW p q eo k
  cases p with
  | tup a r =>
    cases q with
    | int n =>
      rename_i a' vs ds
      have eo : (if -(2 ^ 62) ≤ n ∧ n ≤ 1000 ∧ ds.length ≤ 1000 then some (D.tup (List.replicate n.toNat ds).flatten) else none) = some d' := eo
      by_cases h : -(2 ^ 62) ≤ n ∧ n ≤ 1000 ∧ ds.length ≤ 1000
      · rw [if_pos h] at eo
        cases eo
        refine ⟨_, n, _, rfl, rfl, a.sq, h.1, h.2.1, by rw [r.len]; exact h.2.2, fun z => ?_, fun z p n => k _ _ (same_new n) (new_tup hW n (r.rep _))⟩
        refine k _ H (Same.refl H) ?_
        rcases z with z | z
        · subst z
          have : (List.replicate (1 : Int).toNat ds).flatten = ds := by simp
          rw [this]
          exact .tup a r
        · subst z
          cases r
          have : (List.replicate n.toNat ([] : List D)).flatten = [] := by simp
          rw [this]
          exact .tup a .nil
      · rw [if_neg h] at eo; exact nomatch eo
    | _ => exact nomatch eo
  | _ => cases q <;> exact nomatch eo
def flatD : D → Bool | .non => true | .bl _ => true | .int _ => true | .str _ => true | _ => false
def eqVD : D → D → Bool
  | .non, .non => true
  | .bl a, .bl b => a == b
  | .bl a, .int b => (if a then 1 else 0) == b
  | .int a, .bl b => a == (if b then 1 else 0)
  | .int a, .int b => a == b
  | .str a, .str b => a == b
  | _, _ => false
theorem flat_ok {W : Addr → Prop} {v : V} {d : D} (p : Rp K H W v d) (h : flatD d = true) : flatV v = true := by
  cases p <;> first | rfl | exact nomatch h
theorem eqV_ok {W : Addr → Prop} {v u : V} {d e : D} (p : Rp K H W v d) (q : Rp K H W u e) (h : flatD d = true) (h' : flatD e = true) : eqV v u = eqVD d e := by
  cases p <;> cases q <;> first | rfl | exact nomatch h | exact nomatch h'
def inDD (x : D) (ds : List D) : Bool := ds.any fun y => eqVD y x
theorem inV_ok {W : Addr → Prop} {v : V} {d : D} (p : Rp K H W v d) (h : flatD d = true) : ∀ {vs : List V} {ds : List D}, RpA K H W vs ds → ds.all flatD = true → vs.all flatV = true ∧ inV v vs = inDD d ds
  | _, _, .nil, _ => ⟨rfl, rfl⟩
  | _, _, .cons a b, hf => by
    rw [List.all_cons, Bool.and_eq_true] at hf
    obtain ⟨h1, h2⟩ := inV_ok p h b hf.2
    refine ⟨by rw [List.all_cons, flat_ok a hf.1, h1]; rfl, ?_⟩
    unfold inV inDD at h2 ⊢
    rw [List.any_cons, List.any_cons, h2, eqV_ok a p hf.1 h]
def inQ (neg : Bool) (x a : D) : Option D := match a with
  | .lst ds => if (flatD x && ds.all flatD) = true then some (.bl (if neg then !inDD x ds else inDD x ds)) else none
  | .tup ds => if (flatD x && ds.all flatD) = true then some (.bl (if neg then !inDD x ds else inDD x ds)) else none
  | _ => none
theorem Vw.flat {W : Addr → Prop} {v : V} {d : D} (p : Vw K H W v d) (h : flatD d = true) : Rp K H W v d := by
  cases p with
  | non => exact .non
  | bl b => exact .bl b
  | int i => exact .int i
  | str x => exact .str x
  | _ => exact nomatch h
theorem g2_in {neg : Bool} : G2 K (rIn K neg) (inQ neg) := by
  intro H W v d u e d' Q hW p q eo k
  cases q with
  | lst a r =>
    rename_i a' vs ds
    have eo : (if (flatD d && ds.all flatD) = true then some (D.bl (if neg then !inDD d ds else inDD d ds)) else none) = some d' := eo
    by_cases h : (flatD d && ds.all flatD) = true
    · rw [if_pos h] at eo
      cases eo
      have h := Bool.and_eq_true_iff.mp h
      obtain ⟨h1, h2⟩ := inV_ok (p.flat h.1) h.1 r h.2
      exact ⟨_, _, rfl, .inl (.inl (.inl a)), flat_ok (p.flat h.1) h.1, h1, k _ H (Same.refl H) (by rw [h2]; exact .bl _)⟩
    · rw [if_neg h] at eo; exact nomatch eo
  | tup a r =>
    rename_i a' vs ds
    have eo : (if (flatD d && ds.all flatD) = true then some (D.bl (if neg then !inDD d ds else inDD d ds)) else none) = some d' := eo
    by_cases h : (flatD d && ds.all flatD) = true
    · rw [if_pos h] at eo
      cases eo
      have h := Bool.and_eq_true_iff.mp h
      obtain ⟨h1, h2⟩ := inV_ok (p.flat h.1) h.1 r h.2
      exact ⟨_, _, rfl, .inr a.sq, flat_ok (p.flat h.1) h.1, h1, k _ H (Same.refl H) (by rw [h2]; exact .bl _)⟩
    · rw [if_neg h] at eo; exact nomatch eo
  | _ => exact nomatch eo
/-- xs != [] -/
def neNilD (a b : D) : Option D := match a, b with | .lst ds, .lst [] => some (.bl (!ds.isEmpty)) | _, _ => none
theorem g2_neNil : G2 K (rNeNil K) neNilD := by
  intro H W v d u e d' Q hW p q eo k
  cases p with
  | lst a r =>
    cases q with
    | lst b t =>
      cases t with
      | nil => cases eo; exact ⟨_, _, _, rfl, rfl, .inl (.inl a), .inl (.inl b), k _ H (Same.refl H) (by rw [r.emp]; exact .bl _)⟩
      | cons _ _ => exact nomatch eo
    | _ => exact nomatch eo
  | _ => cases q <;> exact nomatch eo
def chE (op op' : D → D → Option D) (f g h : M D) : M D := bnd f fun a => bnd g fun b => bnd (lif (op a b)) fun c => bnd (lif (isB c)) fun x => if x = true then bnd h fun d => lif (op' b d) else rtn (.bl false)
theorem rf_ch {r r' : R2} {op op' : D → D → Option D} {ta tb tc : TE} {f g h : M D} (o : G2 K r op) (o' : G2 K r' op') (ha : RF K ta Γ Γ1 f) (hb : RF K tb Γ1 Γ2 g) (hc : RV K tc Γ2 Γ2 h) : RF K (tChain r r' ta tb tc) Γ Γ2 (chE op op' f g h) := by
  intro X σ ρ F H Q d ρ' R e k
  obtain ⟨a, ρ1, ea, e⟩ := bnd_some e
  obtain ⟨b, ρ2, eb, e⟩ := bnd_some e
  obtain ⟨c, ρ3, ec, e⟩ := bnd_some e
  obtain ⟨x, ρ4, ex, ee⟩ := bnd_some e
  obtain ⟨z, eo, er⟩ := lif_some ec
  cases er
  obtain ⟨z, eo2, er⟩ := lif_some ex
  cases er
  obtain rfl := isB_some eo2
  refine ha X σ ρ F H _ a ρ1 R ea fun v F1 H1 R1 p1 s1 => ?_
  refine hb X σ ρ1 F1 H1 _ b _ R1 eb fun u F2 H2 R2 p2 s2 => ?_
  have q1 := p1.go (s2.go (X := X))
  refine o H2 (Ws X F2) v a u b (.bl x) _ (fun p => R2.fresh) q1.vw p2.vw eo fun w H3 sm q => ?_
  have s3 := (s1.trans s2).trans (.same sm)
  cases q
  refine ⟨x, rfl, ?_⟩
  cases x with
  | false =>
    rw [if_neg Bool.false_ne_true] at ee ⊢
    cases ee
    exact k _ F2 H3 (R2.same sm) (.bl false) s3
  | true =>
    rw [if_pos rfl] at ee ⊢
    obtain ⟨y, ρ5, ey, ee⟩ := bnd_some ee
    obtain ⟨z', eo3, er⟩ := lif_some ee
    cases er
    refine hc X σ _ F2 H3 _ y ρ' (R2.same sm) ey fun w' F4 H4 R4 p4 s4 => ?_
    exact o' H4 (Ws X F4) u b w' y d _ (fun p => R4.fresh) ((p2.go (Go.same sm)).go (s4.go (X := X))).vw p4 eo3 fun v' H5 sm5 q => k v' F4 H5 (R4.same sm5) q ((s3.trans s4).trans (.same sm5))
/-! ### enumerate, zip -/
def enumL (ds : List D) : List D := (List.range ds.length).map fun j => .tup [.int (j : Nat), ds.getD j .non]
theorem enumL_len {ds : List D} : (enumL ds).length = ds.length := by simp [enumL]
theorem enumL_at {ds : List D} {j : Nat} {d : D} (h : ds[j]? = some d) : (enumL ds)[j]? = some (.tup [.int (j : Nat), d]) := by
  have hl := (List.getElem?_eq_some_iff.mp h).1
  unfold enumL
  rw [List.getElem?_map, List.getElem?_range hl]
  simp [List.getD_eq_getElem?_getD, h]
def zipL (as bs : List D) : List D := List.zipWith (fun a b => .tup [a, b]) as bs
theorem zipL_at {as bs : List D} {j : Nat} {a b : D} (h : as[j]? = some a) (h' : bs[j]? = some b) : (zipL as bs)[j]? = some (.tup [a, b]) := by
  unfold zipL
  rw [List.getElem?_zipWith, h, h']
theorem pair_rp {W : Addr → Prop} {T : Addr} {x y : V} {a b : D} (n : H T = none) (hW : ∀ p, H p = none → ¬ W p) (p : Rp K H W x a) (q : Rp K H W y b) : Rp K (upd H T (.tup [x, y])) W (.ref T) (.tup [a, b]) := new_tup hW n (.cons p (.cons q .nil))
theorem itd_enumT {a : Addr} {vs : List V} {ds : List D} (h : TpZ K H (Ws X F) a vs) (q : RpA K H (Ws X F) vs ds) : ItD K (IteT K a) X F H (enumL ds) := by
  refine ⟨fun H2 => SqT K H2 a vs, _, by rw [enumL_len, ← q.len]; exact walk_enumT, fun F2 H2 s2 => (h.go (s2.go (X := X))).sq, fun j F2 H2 x H3 hj s2 y => ?_⟩
  obtain ⟨T, x1, x2, rfl, nT, rfl, c1, c2⟩ := y
  obtain ⟨d, e1, e2⟩ := q.get' c2
  have c1 : V.int (j : Nat) = x1 := Option.some.inj c1
  subst c1
  exact ⟨same_new nT, _, enumL_at e1, fun W w n => pair_rp nT n (.int _) (e2.go (s2.goW w))⟩
theorem itd_enumL {a : Addr} {vs : List V} {ds : List D} (h : LsZ H (Ws X F) a vs) (q : RpA K H (Ws X F) vs ds) : ItD K (Ite K a) X F H (enumL ds) := by
  refine ⟨fun H2 => SqL K H2 a vs, _, by rw [enumL_len, ← q.len]; exact walk_enum, fun F2 H2 s2 => (h.go (s2.go (X := X))).sq, fun j F2 H2 x H3 hj s2 y => ?_⟩
  obtain ⟨T, x1, x2, rfl, nT, rfl, c1, c2⟩ := y
  obtain ⟨d, e1, e2⟩ := q.get' c2
  have c1 : V.int (j : Nat) = x1 := Option.some.inj c1
  subst c1
  exact ⟨same_new nT, _, enumL_at e1, fun W w n => pair_rp nT n (.int _) (e2.go (s2.goW w))⟩
def enuT : List D → Option (List D) | [.tup ds] => some (enumL ds) | _ => none
def enuL : List D → Option (List D) | [.lst ds] => some (enumL ds) | _ => none
theorem ri_enumT {t : TA} {f : M (List D)} (h : RA K t Γ Γ1 f) : RI K (iEnumT K t) Γ Γ1 (itA enuT f) := by
  intro X σ ρ F H R ds ρ' RR e k
  obtain ⟨a, ρ1, ea, e⟩ := bnd_some e
  obtain ⟨z, eo, er⟩ := lif_some e
  cases er
  refine h X σ ρ F H _ a ρ' RR ea fun vs F' H' R' p s => ?_
  cases p with
  | nil => exact nomatch eo
  | cons p q =>
    cases p with
    | tup b r =>
      cases q with
      | nil => cases eo; exact ⟨_, _, rfl, b.sq, k _ F' H' R' s (itd_enumT b r)⟩
      | cons _ _ => exact nomatch eo
    | _ => exact nomatch eo
theorem ri_enumL {t : TA} {f : M (List D)} (h : RA K t Γ Γ1 f) : RI K (iEnum K t) Γ Γ1 (itA enuL f) := by
  intro X σ ρ F H R ds ρ' RR e k
  obtain ⟨a, ρ1, ea, e⟩ := bnd_some e
  obtain ⟨z, eo, er⟩ := lif_some e
  cases er
  refine h X σ ρ F H _ a ρ' RR ea fun vs F' H' R' p s => ?_
  cases p with
  | nil => exact nomatch eo
  | cons p q =>
    cases p with
    | lst b r =>
      cases q with
      | nil => cases eo; exact ⟨_, _, rfl, b.sq, k _ F' H' R' s (itd_enumL b r)⟩
      | cons _ _ => exact nomatch eo
    | _ => exact nomatch eo
theorem zip_pair {G : Hp → Prop} {J : It} {vs us : List V} {ds es : List D} (w : Walk J (min vs.length us.length) G (YPair (fun j => vs[j]?) (fun j => us[j]?))) (hG : ∀ F2 H2, Stp F H F2 H2 → G H2) (q : RpA K H (Ws X F) vs ds) (r : RpA K H (Ws X F) us es) : ItD K J X F H (zipL ds es) := by
  refine ⟨G, _, by unfold zipL; rw [List.length_zipWith, ← q.len, ← r.len]; exact w, hG, fun j F2 H2 x H3 hj s2 y => ?_⟩
  obtain ⟨T, x1, x2, rfl, nT, rfl, c1, c2⟩ := y
  obtain ⟨d, e1, e2⟩ := q.get' c1
  obtain ⟨d', e1', e2'⟩ := r.get' c2
  exact ⟨same_new nT, _, zipL_at e1 e1', fun W w n => pair_rp nT n (e2.go (s2.goW w)) (e2'.go (s2.goW w))⟩
def zipA : List D → Option (List D) | [.lst ds, .lst es] => some (zipL ds es) | [.tup ds, .tup es] => some (zipL ds es) | _ => none
def zipMN : List D → Option (List D) | [.lst ds, .tup es] => some (zipL ds es) | _ => none
def zipNM : List D → Option (List D) | [.tup ds, .lst es] => some (zipL ds es) | _ => none
def zipLL : List D → Option (List D) | [.lst ds, .lst es] => some (zipL ds es) | _ => none
theorem ri_zipA {t : TA} {f : M (List D)} (h : RA K t Γ Γ1 f) : RI K (RZ.iZipA K t) Γ Γ1 (itA zipA f) := by
  intro X σ ρ F H R ds ρ' RR e k
  obtain ⟨a, ρ1, ea, e⟩ := bnd_some e
  obtain ⟨z, eo, er⟩ := lif_some e
  cases er
  refine h X σ ρ F H _ a ρ' RR ea fun vs F' H' R' p s => ?_
  cases p with
  | nil => exact nomatch eo
  | cons p q =>
    cases q with
    | nil => cases p <;> exact nomatch eo
    | cons p2 q =>
      cases q with
      | cons _ _ => cases p <;> cases p2 <;> exact nomatch eo
      | nil =>
        cases p with
        | lst b r =>
          cases p2 with
          | lst b2 r2 => cases eo; exact ⟨_, _, _, _, rfl, .inl ⟨b.sq, b2.sq, k _ F' H' R' s (zip_pair (walk_zip rfl) (fun F2 H2 s2 => ⟨(b.go (s2.go (X := X))).sq, (b2.go (s2.go (X := X))).sq⟩) r r2)⟩⟩
          | _ => exact nomatch eo
        | tup b r =>
          cases p2 with
          | tup b2 r2 => cases eo; exact ⟨_, _, _, _, rfl, .inr ⟨b.sq, b2.sq, k _ F' H' R' s (zip_pair (walk_zipT rfl) (fun F2 H2 s2 => ⟨(b.go (s2.go (X := X))).sq, (b2.go (s2.go (X := X))).sq⟩) r r2)⟩⟩
          | _ => exact nomatch eo
        | _ => cases p2 <;> exact nomatch eo
theorem ri_zipM {t : TA} {f : M (List D)} (h : RA K t Γ Γ1 f) : RI K (iZipM K t) Γ Γ1 (itA zipMN f) := by
  intro X σ ρ F H R ds ρ' RR e k
  obtain ⟨a, ρ1, ea, e⟩ := bnd_some e
  obtain ⟨z, eo, er⟩ := lif_some e
  cases er
  refine h X σ ρ F H _ a ρ' RR ea fun vs F' H' R' p s => ?_
  cases p with
  | nil => exact nomatch eo
  | cons p q =>
    cases q with
    | nil => cases p <;> exact nomatch eo
    | cons p2 q =>
      cases q with
      | cons _ _ => cases p <;> cases p2 <;> exact nomatch eo
      | nil =>
        cases p with
        | lst b r =>
          cases p2 with
          | tup b2 r2 => cases eo; exact ⟨_, _, _, _, rfl, b.sq, b2.sq, k _ F' H' R' s (zip_pair (walk_zipM rfl) (fun F2 H2 s2 => ⟨(b.go (s2.go (X := X))).sq, (b2.go (s2.go (X := X))).sq⟩) r r2)⟩
          | _ => exact nomatch eo
        | _ => cases p2 <;> exact nomatch eo
theorem ri_zipN {t : TA} {f : M (List D)} (h : RA K t Γ Γ1 f) : RI K (iZipN K t) Γ Γ1 (itA zipNM f) := by
  intro X σ ρ F H R ds ρ' RR e k
  obtain ⟨a, ρ1, ea, e⟩ := bnd_some e
  obtain ⟨z, eo, er⟩ := lif_some e
  cases er
  refine h X σ ρ F H _ a ρ' RR ea fun vs F' H' R' p s => ?_
  cases p with
  | nil => exact nomatch eo
  | cons p q =>
    cases q with
    | nil => cases p <;> exact nomatch eo
    | cons p2 q =>
      cases q with
      | cons _ _ => cases p <;> cases p2 <;> exact nomatch eo
      | nil =>
        cases p with
        | tup b r =>
          cases p2 with
          | lst b2 r2 => cases eo; exact ⟨_, _, _, _, rfl, b.sq, b2.sq, k _ F' H' R' s (zip_pair (walk_zipN rfl) (fun F2 H2 s2 => ⟨(b.go (s2.go (X := X))).sq, (b2.go (s2.go (X := X))).sq⟩) r r2)⟩
          | _ => exact nomatch eo
        | _ => cases p2 <;> exact nomatch eo
theorem ri_zip {t : TA} {f : M (List D)} (h : RA K t Γ Γ1 f) : RI K (iZip K t) Γ Γ1 (itA zipLL f) := by
  intro X σ ρ F H R ds ρ' RR e k
  obtain ⟨a, ρ1, ea, e⟩ := bnd_some e
  obtain ⟨z, eo, er⟩ := lif_some e
  cases er
  refine h X σ ρ F H _ a ρ' RR ea fun vs F' H' R' p s => ?_
  cases p with
  | nil => exact nomatch eo
  | cons p q =>
    cases q with
    | nil => cases p <;> exact nomatch eo
    | cons p2 q =>
      cases q with
      | cons _ _ => cases p <;> cases p2 <;> exact nomatch eo
      | nil =>
        cases p with
        | lst b r =>
          cases p2 with
          | lst b2 r2 => cases eo; exact ⟨_, _, _, _, rfl, b.sq, b2.sq, k _ F' H' R' s (zip_pair (walk_zip rfl) (fun F2 H2 s2 => ⟨(b.go (s2.go (X := X))).sq, (b2.go (s2.go (X := X))).sq⟩) r r2)⟩
          | _ => exact nomatch eo
        | _ => cases p2 <;> exact nomatch eo
end
end BV
set_option Elab.async false
set_option linter.all false
set_option maxRecDepth 100000
namespace BV
open PySem PySem.Spec PyProof.Rows L2 WK
/-! ### a dict that is walked is locked, unless it is so already -/
def tLockWE (t : TE) : TE := fun σ H Q => tLockE t σ H Q ∨ t σ H Q
def tLockWS (t : TS) : TS := fun D σ H => tLock t D σ H ∨ t D σ H
theorem pe_lockW {X : Cx} {e : Expr} {t : TE} (h : PE X e t) : PE X e (tLockWE t) := ⟨fun pins s σ H Q I q => q.elim (fun q => (pe_lock h).run pins s σ H Q I q) fun q => h.run pins s σ H Q I q⟩
theorem ps_lockW {X : Cx} {st : Stmt} {t : TS} (h : PS X st t) : PS X st (tLockWS t) := ⟨fun pins s σ H D I q => q.elim (fun q => (ps_lock h).run pins s σ H D I q) fun q => h.run pins s σ H D I q⟩
section
variable {K : PySem.W.Frag} {io : List Nat} {X : Addr → Prop} {Γ Γ1 Γ2 Γ3 : List Sl} {L : Tg} {σ : L2.St} {ρ : Env} {F : Nat → List Addr} {H : Hp} {i : Nat}
theorem Go.lock {a : Addr} {od : Obj} {u : HO} {W : Addr → Prop} (h : H a = some u) (hu : ∀ xs, u ≠ .lst xs) (hf : nofrz u) : Go H W (upd H a (.frz od u)) W := by
  refine ⟨fun b xs n e => ?_, fun b w nw n r => ?_, fun b z => .inl z⟩
  · rw [upd_ne (fun z => hu xs (by rw [z, h] at e; exact Option.some.inj e))]; exact e
  · by_cases e : b = a
    · subst e
      rcases r with r | ⟨o, r⟩
      · rw [h] at r; cases r; exact .inr ⟨od, upd_same⟩
      · rw [h] at r; cases r; exact absurd hf (by intro z; exact z)
    · rcases r with r | ⟨o, r⟩
      · exact .inl (by rw [upd_ne e]; exact r)
      · exact .inr ⟨o, by rw [upd_ne e]; exact r⟩
theorem Go.unlock {a : Addr} {od : Obj} {u : HO} {W : Addr → Prop} (h : H a = some (.frz od u)) : Go H W (upd H a u) W := by
  refine ⟨fun b xs n e => ?_, fun b w nw n r => ?_, fun b z => .inl z⟩
  · rw [upd_ne (fun z => by rw [z, h] at e; exact nomatch e)]; exact e
  · by_cases e : b = a
    · subst e
      rcases r with r | ⟨o, r⟩
      · rw [h] at r; cases r; exact absurd nw (by intro z; exact z)
      · rw [h] at r; cases r; exact .inl upd_same
    · rcases r with r | ⟨o, r⟩
      · exact .inl (by rw [upd_ne e]; exact r)
      · exact .inr ⟨o, by rw [upd_ne e]; exact r⟩
theorem Rep.go {H' : Hp} {a : Addr} {o : HO} (R : Rep K X Γ σ ρ F H) (g : Go H (Ws X F) (upd H a o) (Ws X F)) (n : ¬ Ws X F a) : Rep K X Γ σ ρ F (upd H a o) := by
  have keep : ∀ i b, b ∈ F i → ∀ u, H b = some u → upd H a o b = some u := fun i b hb u e => by
    rw [upd_ne (fun z => n (.inr ⟨i, by rw [← z]; exact hb⟩))]; exact e
  refine ⟨R.len, R.gl, fun j => (R.at_ j).go g fun b hb u e => keep j b hb u e, R.dis, fun b z => ⟨?_, (R.xt b z).2⟩, fun j b z => ?_⟩
  · rw [upd_ne (fun q => n (.inl (by rw [← q]; exact z)))]; exact (R.xt b z).1
  · rw [upd_ne (fun q => n (.inr ⟨j, by rw [← q]; exact z⟩))]; exact R.ft j b z
def keysD : D → Option (List D) | .dct kvs => some (kvs.map fun kv => match kv.1 with | .inl i => .int i | .inr x => .str x) | _ => none
def keyOf (k : Key) : D := match k with | .inl i => .int i | .inr x => .str x
theorem keyOf_rp {W : Addr → Prop} {k : Key} : Rp K H W (kV k) (keyOf k) := by
  cases k with
  | inl i => exact .int i
  | inr x => exact .str x
theorem RpK.keyAt {W : Addr → Prop} : ∀ {vs : List (Key × V)} {ds : List (Key × D)} {j : Nat} {k : Key} {v : V}, RpK K H W vs ds → vs[j]? = some (k, v) → ∃ d, ds[j]? = some (k, d)
  | _, _, _, _, _, .nil, e => by simp at e
  | _, _, 0, _, _, .cons a b, e => by
    simp at e
    obtain ⟨rfl, rfl⟩ := e
    exact ⟨_, rfl⟩
  | _, _, j + 1, _, _, .cons a b, e => by
    obtain ⟨d, e⟩ := b.keyAt (j := j) (by simpa using e)
    exact ⟨d, by simpa using e⟩
/-- a new object that nobody of the claims names -/
theorem Rep.newX {p : Addr} {o : HO} (R : Rep K X Γ σ ρ F H) (np : H p = none) : Rep K (fun b => X b ∨ b ∈ [p]) Γ σ ρ F (upd H p o) := by
  have nW := R.fresh np
  have sm : Same H (upd H p o) := same_new np
  have go : Go H (Ws X F) (upd H p o) (Ws (fun b => X b ∨ b ∈ [p]) F) := ⟨(Go.same sm).ls, (Go.same sm).fr, fun b z => by
    rcases z with (z | z) | z
    · exact .inl (.inl z)
    · have : b = p := by simpa using z
      subst this
      exact .inr np
    · exact .inl (.inr z)⟩
  refine ⟨R.len, R.gl, fun j => (R.at_ j).go go fun b _ o e => sm b o e, R.dis, fun b z => ?_, fun j b z => ?_⟩
  · rcases z with z | z
    · exact ⟨by rw [upd_ne (fun q => nW (by rw [← q]; exact .inl z))]; exact (R.xt b z).1, (R.xt b z).2⟩
    · have : b = p := by simpa using z
      subst this
      exact ⟨by rw [upd_same]; exact (fun z => nomatch z), fun j z => nW (.inr ⟨j, z⟩)⟩
  · rw [upd_ne (fun q => nW (by rw [← q]; exact .inr ⟨j, z⟩))]; exact R.ft j b z
theorem itd_keys {a : Addr} {od : Obj} {vs : List (Key × V)} {ds : List (Key × D)} (h : H a = some (.frz od (.dK vs))) (n : ¬ Ws X F a) (q : RpK K H (Ws X F) vs ds) : ItD K (Itk a od vs) X F H (ds.map fun kv => keyOf kv.1) := by
  refine ⟨fun H2 => H2 a = some (.frz od (.dK vs)), _, by rw [List.length_map, ← q.len]; exact walk_keys, fun F2 H2 s2 => s2.fr a _ h fun i z => n (.inr ⟨i, z⟩), fun j F2 H2 x H3 hj s2 y => ?_⟩
  obtain ⟨rfl, kk, vv, hk, rfl⟩ := y
  obtain ⟨d, e⟩ := q.keyAt hk
  exact ⟨.refl _, keyOf kk, by rw [List.getElem?_map, e]; rfl, fun W w _ => keyOf_rp⟩
def keysM (i : Nat) : M (List D) := bnd (getE i) fun d => lif (match d with | .dct kvs => some (kvs.map fun kv => keyOf kv.1) | _ => none)
/-- [.. for k in d], d a name -/
theorem ro_lcK {g : TG} {tt : TT} {te : TE} {S vs : List Nat} {fg : D → Env → Option Env} {ft : M Bool} {fe : M D} {Γb : List Sl} (hd : Γ[i]? = some (.v .fz)) (hg : RG K g S Γ Γb fg) (ht : RT K tt Γb Γb ft) (he : RF K te Γb Γb fe)
    (b1 : bares Γ vs = true) (b2 : bares Γb vs = true) (so : sameOut Γ Γb vs = true) (hS : subL S vs = true) : RO K (tLockWE (tLc (iKeys (tVar i)) g tt te vs)) Γ Γ .o1 (lcM (keysM i) fg ft fe vs) := by
  intro X σ ρ F H Q d ρ' R e k
  obtain ⟨ds, ρ1, e1, e⟩ := bnd_some e
  obtain ⟨⟨out, ρ2⟩, e2, er⟩ := Option.map_eq_some_iff.mp e
  cases er
  obtain ⟨dd, ρ0, e0, e1⟩ := bnd_some e1
  obtain ⟨z, eo, er⟩ := lif_some e1
  cases er
  obtain ⟨e0, q0⟩ := getE_some e0
  have q0 : ρ1 = ρ := q0
  subst q0
  obtain ⟨v, ev, _, p⟩ := R.slot hd e0
  -- the loop over the locked dict
  have loop : ∀ {a : Addr} {od : Obj} {vs0 : List (Key × V)} {ds0 : List (Key × D)} {H1 : Hp} {Q1 : VK}, v = .ref a → H1 a = some (.frz od (.dK vs0)) → ¬ Ws X F a → RpK K H1 (Ws X F) vs0 ds0 → ds = ds0.map (fun kv => keyOf kv.1) → Rep K X Γ σ ρ1 F H1 →
      (∀ D F' H' ws, H1 D = none → Rep K (fun b => X b ∨ b ∈ [D]) Γ σ ρ2 F' H' → Stp F H1 F' H' → H' D = some (.lst ws) → RpA K H' (Ws (fun b => X b ∨ b ∈ [D]) F') ws out → Q1 (.ref D) H') → tLc (iKeys (tVar i)) g tt te vs σ H1 Q1 := by
    intro a od vs0 ds0 H1 Q1 hv h1 n q hds R1 k1
    subst hds
    refine ⟨v, ev, a, od, hv, .inl ⟨vs0, h1, fun D nD => ?_⟩⟩
    exact lc_loop R1 (itd_keys h1 n q) nD hg ht he b1 b2 so hS e2 fun F' H' ws R' s' hD q' => k1 D F' H' ws nD R' s' hD q'
  cases p with
  | @dct a vs0 ds0 r n q =>
    cases eo
    rcases r with r | ⟨od, r⟩
    · refine .inl ⟨a, _, r, trivial, fun od => ?_⟩
      have g1 : Go H (Ws X F) (upd H a (.frz od (.dK vs0))) (Ws X F) := Go.lock r (fun xs z => nomatch z) trivial
      refine loop rfl upd_same n (q.go g1) rfl (R.go (H' := H) g1 n) fun D F' H' ws nD R' s' hD q' => ?_
      have nDH : H D = none := by
        by_cases e : D = a
        · rw [e, upd_same] at nD; exact nomatch nD
        · rw [upd_ne e] at nD; exact nD
      have nDa : D ≠ a := fun z => by rw [z, r] at nDH; exact nomatch nDH
      have ha : H' a = some (.frz od (.dK vs0)) := s'.fr a _ upd_same fun j z => n (.inr ⟨j, z⟩)
      refine ⟨ha, ?_⟩
      have nW : ¬ Ws (fun b => X b ∨ b ∈ [D]) F' a := fun z => by
        rcases z with (z | z) | ⟨j, z⟩
        · exact n (.inl z)
        · exact nDa (Eq.symm (by simpa using z))
        · rcases s'.nw j a z with ⟨l, z⟩ | z
          · exact n (.inr ⟨l, z⟩)
          · rw [upd_same] at z; exact nomatch z
      have g2 : Go H' (Ws (fun b => X b ∨ b ∈ [D]) F') (upd H' a (.dK vs0)) (Ws (fun b => X b ∨ b ∈ [D]) F') := Go.unlock ha
      refine k (.ref D) F' [D] _ (R'.go (H' := H) g2 nW) ⟨D, rfl, rfl, .inl ⟨ws, out, rfl, by rw [upd_ne nDa]; exact hD, q'.go g2⟩⟩ (fun b hb z => ?_) ⟨fun b o eb nb => ?_, fun j b z => ?_⟩ fun b hb => ?_
      · have : b = D := by simpa using hb
        subst this
        exact (R.xt b z).1 nDH
      · by_cases e : b = a
        · rw [e, upd_same]; rw [e, r] at eb; exact eb
        · rw [upd_ne e]; exact s'.fr b o (by rw [upd_ne e]; exact eb) nb
      · rcases s'.nw j b z with z | z
        · exact .inl z
        · by_cases e : b = a
          · rw [e, upd_same] at z; exact nomatch z
          · rw [upd_ne e] at z; exact .inr z
      · have : b = D := by simpa using hb
        subst this
        exact .inr nDH
    · refine .inr (loop rfl r n q rfl R fun D F' H' ws nD R' s' hD q' => ?_)
      refine k (.ref D) F' [D] H' R' ⟨D, rfl, rfl, .inl ⟨ws, out, rfl, hD, q'⟩⟩ (fun b hb z => ?_) s' fun b hb => ?_
      · have : b = D := by simpa using hb
        subst this
        exact (R.xt b z).1 nD
      · have : b = D := by simpa using hb
        subst this
        exact .inr nD
  | _ => exact nomatch eo
/-- for k in d, d a name -/
theorem rs_forK {g : TG} {tb : TS} {S : List Nat} {fg : D → Env → Option Env} {fb : Ms} (hd : Γ[i]? = some (.v .fz)) (hg : RG K g S Γ Γ2 fg) (hb : RS K io tb Γ2 { L with nx := Γ, ct := Γ, bk := Γ } fb) (hio : (S.all fun j => decide (j ∉ io)) = true) :
    RS K io (tLockWS (tFor (iKeys (tVar i)) g tb)) Γ { L with nx := Γ } (forS (keysM i) fg fb) := by
  intro X σ ρ F H D r R e p
  obtain ⟨⟨ds, ρ1⟩, e1, e⟩ := Option.bind_eq_some_iff.mp e
  obtain ⟨dd, ρ0, e0, e1⟩ := bnd_some e1
  obtain ⟨z, eo, er⟩ := lif_some e1
  cases er
  obtain ⟨e0, q0⟩ := getE_some e0
  have q0 : ρ1 = ρ := q0
  subst q0
  obtain ⟨v, ev, _, q⟩ := R.slot hd e0
  cases q with
  | @dct a vs0 ds0 rr n q =>
    cases eo
    rcases rr with rr | ⟨od, rr⟩
    · refine .inl ⟨a, _, rr, trivial, fun od => ?_⟩
      have g1 : Go H (Ws X F) (upd H a (.frz od (.dK vs0))) (Ws X F) := Go.lock rr (fun xs z => nomatch z) trivial
      have R1 := R.go (H' := H) g1 n
      refine ⟨_, ev, a, od, rfl, .inl ⟨vs0, upd_same, ?_⟩⟩
      have out : ∀ {Y : Addr → Prop} {Γ' : List Sl} {σ' : L2.St} {ρ' : Env} {F' : Nat → List Addr} {H' : Hp}, Rep K Y Γ' σ' ρ' F' H' → (∀ b, Y b → X b ∨ H b = none) → Stp F (upd H a (.frz od (.dK vs0))) F' H' →
          H' a = some (.frz od (.dK vs0)) ∧ Go H' (Ws Y F') (upd H' a (.dK vs0)) (Ws Y F') ∧ Rep K Y Γ' σ' ρ' F' (upd H' a (.dK vs0)) ∧ Stp F H F' (upd H' a (.dK vs0)) := by
        intro Y Γ' σ' ρ' F' H' R' hY s'
        have ha : H' a = some (.frz od (.dK vs0)) := s'.fr a _ upd_same fun j z => n (.inr ⟨j, z⟩)
        have nW : ¬ Ws Y F' a := fun z => by
          rcases z with z | ⟨j, z⟩
          · rcases hY a z with z | z
            · exact n (.inl z)
            · rw [rr] at z; exact nomatch z
          · rcases s'.nw j a z with ⟨l, z⟩ | z
            · exact n (.inr ⟨l, z⟩)
            · rw [upd_same] at z; exact nomatch z
        have g2 : Go H' (Ws Y F') (upd H' a (.dK vs0)) (Ws Y F') := Go.unlock ha
        refine ⟨ha, g2, R'.go (H' := H) g2 nW, fun b o eb nb => ?_, fun j b z => ?_⟩
        · by_cases e : b = a
          · rw [e, upd_same]; rw [e, rr] at eb; exact eb
          · rw [upd_ne e]; exact s'.fr b o (by rw [upd_ne e]; exact eb) nb
        · rcases s'.nw j b z with z | z
          · exact .inl z
          · by_cases e : b = a
            · rw [e, upd_same] at z; exact nomatch z
            · rw [upd_ne e] at z; exact .inr z
      refine for_loop (itd_keys (X := X) (F := F) upd_same n (q.go g1)) hg hio hb R1 e ?_
      cases r with
      | nx ρ' =>
        intro σ' F' H' R' s' k'
        obtain ⟨h1, _, h2, h3⟩ := out R' (fun b z => .inl z) s'
        exact ⟨h1, p σ' F' _ h2 h3 k'⟩
      | bk ρ' =>
        intro σ' F' H' R' s' k'
        obtain ⟨h1, _, h2, h3⟩ := out R' (fun b z => .inl z) s'
        exact ⟨h1, p σ' F' _ h2 h3 k'⟩
      | ct ρ' =>
        intro σ' F' H' R' s' k'
        obtain ⟨h1, _, h2, h3⟩ := out R' (fun b z => .inl z) s'
        exact ⟨h1, p σ' F' _ h2 h3 k'⟩
      | rt d ρ' =>
        intro v' σ' F' G H' R' o nx s' gg k'
        have gH : ∀ b ∈ G, (∃ i, b ∈ F i) ∨ H b = none := fun b hb => (gg b hb).imp id fun z => by
          by_cases e : b = a
          · rw [e, upd_same] at z; exact nomatch z
          · rw [upd_ne e] at z; exact z
        have nGa : a ∉ G := fun z => by
          rcases gg a z with ⟨j, z⟩ | z
          · exact n (.inr ⟨j, z⟩)
          · rw [upd_same] at z; exact nomatch z
        have ha : H' a = some (.frz od (.dK vs0)) := s'.fr a _ upd_same fun j z => n (.inr ⟨j, z⟩)
        have nW : ¬ Ws (fun b => X b ∨ b ∈ G) F' a := fun z => by
          rcases z with (z | z) | ⟨j, z⟩
          · exact n (.inl z)
          · exact nGa z
          · rcases s'.nw j a z with ⟨l, z⟩ | z
            · exact n (.inr ⟨l, z⟩)
            · rw [upd_same] at z; exact nomatch z
        have g2 : Go H' (Ws (fun b => X b ∨ b ∈ G) F') (upd H' a (.dK vs0)) (Ws (fun b => X b ∨ b ∈ G) F') := Go.unlock ha
        refine ⟨ha, p v' σ' F' G _ (R'.go (H' := H) g2 nW) (o.go g2 fun b hb u eb => by rw [upd_ne (fun z => nGa (by rw [← z]; exact hb))]; exact eb) nx ⟨fun b o eb nb => ?_, fun j b z => ?_⟩ gH k'⟩
        · by_cases e : b = a
          · rw [e, upd_same]; rw [e, rr] at eb; exact eb
          · rw [upd_ne e]; exact s'.fr b o (by rw [upd_ne e]; exact eb) nb
        · rcases s'.nw j b z with z | z
          · exact .inl z
          · by_cases e : b = a
            · rw [e, upd_same] at z; exact nomatch z
            · rw [upd_ne e] at z; exact .inr z
    · exact .inr ⟨_, ev, a, od, rfl, .inl ⟨vs0, rr, for_loop (itd_keys (X := X) (F := F) rr n q) hg hio hb R e p⟩⟩
  | _ => exact nomatch eo
/-! ### displays of dicts, d[k] = v -/
def prsE : List (M D × M D) → M (List (D × D))
  | [] => rtn []
  | (f, g) :: r => bnd f fun a => bnd g fun b => bnd (prsE r) fun ps => rtn ((a, b) :: ps)
/-- all parts leave the claims as they are -/
inductive RPs (K : PySem.W.Frag) (Γ : List Sl) : List (TE × TE) → List (M D × M D) → Prop
  | nil : RPs K Γ [] []
  | cons {tk tv : TE} {f g : M D} {r : List (TE × TE)} {fs : List (M D × M D)} : RF K tk Γ Γ f → RF K tv Γ Γ g → RPs K Γ r fs → RPs K Γ ((tk, tv) :: r) ((f, g) :: fs)
inductive RpP (K : PySem.W.Frag) (H : Hp) (W : Addr → Prop) : List (V × V) → List (D × D) → Prop
  | nil : RpP K H W [] []
  | cons {x y : V} {a b : D} {vs : List (V × V)} {ds : List (D × D)} : Rp K H W x a → Rp K H W y b → RpP K H W vs ds → RpP K H W ((x, y) :: vs) ((a, b) :: ds)
theorem rps_run {trs : List (TE × TE)} {fs : List (M D × M D)} (h : RPs K Γ trs fs) : ∀ {X σ ρ F H ds ρ'} {Q : List (V × V) → Hp → Prop}, Rep K X Γ σ ρ F H → prsE fs ρ = some (ds, ρ') →
    (∀ vs F' H', Rep K X Γ σ ρ' F' H' → RpP K H' (Ws X F') vs ds → Stp F H F' H' → Q vs H') → tPairs trs σ H Q := by
  induction h with
  | nil =>
    intro X σ ρ F H ds ρ' Q R e k
    cases e
    exact k [] F H R .nil (.refl F H)
  | cons hk hv _ ih =>
    intro X σ ρ F H ds ρ' Q R e k
    obtain ⟨a, ρ1, ea, e⟩ := bnd_some e
    obtain ⟨b, ρ2, eb, e⟩ := bnd_some e
    obtain ⟨r, ρ3, er, e⟩ := bnd_some e
    cases e
    refine hk X σ ρ F H _ a ρ1 R ea fun x F1 H1 R1 p1 s1 => ?_
    refine hv X σ ρ1 F1 H1 _ b ρ2 R1 eb fun y F2 H2 R2 p2 s2 => ?_
    refine ih R2 er fun vs F3 H3 R3 p3 s3 => ?_
    exact k _ F3 H3 R3 (.cons ((p1.go (s2.go (X := X))).go (s3.go (X := X))) (p2.go (s3.go (X := X))) p3) ((s1.trans s2).trans s3)
def keysP : List (D × D) → Option (List (Key × D))
  | [] => some []
  | (k, d) :: r => (keyD k).bind fun k => (keysP r).map ((k, d) :: ·)
theorem keysP_ok {W : Addr → Prop} : ∀ {vs : List (V × V)} {ds : List (D × D)} {kds : List (Key × D)}, RpP K H W vs ds → keysP ds = some kds → ∃ kvs, vs = kvs.map (fun kv => (kV kv.1, kv.2)) ∧ RpK K H W kvs kds
  | _, _, _, .nil, e => by cases e; exact ⟨[], rfl, .nil⟩
  | _, _, _, .cons a b r, e => by
    obtain ⟨k, e1, e⟩ := Option.bind_eq_some_iff.mp (show (keyD _).bind _ = some _ from e)
    obtain ⟨kds, e2, rfl⟩ := Option.map_eq_some_iff.mp e
    obtain ⟨kvs, e3, q⟩ := keysP_ok r e2
    refine ⟨(k, _) :: kvs, ?_, .cons b q⟩
    rw [List.map_cons, ← e3, keyD_ok a.vw e1]
def mergeD (kvs more : List (Key × D)) : List (Key × D) := more.foldl (fun acc kv => putKD acc kv.1 kv.2) kvs
theorem RpK.merge {W : Addr → Prop} : ∀ {more : List (Key × V)} {mds : List (Key × D)} {vs : List (Key × V)} {ds : List (Key × D)}, RpK K H W more mds → RpK K H W vs ds → RpK K H W (mergeK vs more) (mergeD ds mds)
  | _, _, _, _, .nil, q => q
  | _, _, _, _, .cons a b, q => b.merge (q.put a)
def dspE (fs : List (M D × M D)) : M D := bnd (prsE fs) fun ps => lif ((keysP ps).bind fun kds => if kds.length ≤ 15 then some (.dct (mergeD [] kds)) else none)
theorem ro_disp {trs : List (TE × TE)} {fs : List (M D × M D)} (h : RPs K Γ trs fs) : RO K (tDisp trs) Γ Γ .o1 (dspE fs) := by
  intro X σ ρ F H Q d ρ' R e k p np
  obtain ⟨ps, ρ1, e1, e⟩ := bnd_some e
  obtain ⟨z, eo, er⟩ := lif_some e
  cases er
  obtain ⟨kds, ek, eo⟩ := Option.bind_eq_some_iff.mp eo
  by_cases hl : kds.length ≤ 15
  · rw [if_pos hl] at eo
    cases eo
    have sm : Same H (upd H p (.dK [])) := same_new np
    have nF := R.fresh np
    refine rps_run h (R.newX (o := .dK []) np) e1 fun vs F' H' R' q s => ?_
    obtain ⟨kvs, rfl, q2⟩ := keysP_ok q ek
    have hp : H' p = some (.dK []) := s.fr p _ upd_same fun i z => nF (.inr ⟨i, z⟩)
    refine ⟨hp, kvs, rfl, by rw [q2.len]; exact hl, ?_⟩
    have inX : (fun b => X b ∨ b ∈ [p]) p := .inr (by simp)
    have gu := Own.go_upd (H := H') (o := .dK (mergeK [] kvs)) (W := Ws (fun b => X b ∨ b ∈ [p]) F') (.inl inX)
    refine k (.ref p) F' [p] _ (R'.updX inX) ⟨p, rfl, rfl, .inr (.inl ⟨_, _, rfl, upd_same, (q2.go gu).merge .nil⟩)⟩ (fun b hb z => ?_) ⟨fun b o eb nb => ?_, fun j b z => ?_⟩ fun b hb => ?_
    · have : b = p := by simpa using hb
      subst this
      exact nF (.inl z)
    · rw [upd_ne (fun z => by rw [z, np] at eb; exact nomatch eb)]
      exact s.fr b o (sm b o eb) nb
    · rcases s.nw j b z with z | z
      · exact .inl z
      · by_cases e : b = p
        · rw [e, upd_same] at z; exact nomatch z
        · rw [upd_ne e] at z; exact .inr z
    · have : b = p := by simpa using hb
      subst this
      exact .inr np
  · rw [if_neg hl] at eo; exact nomatch eo
end
end BV
set_option Elab.async false
set_option linter.all false
set_option maxRecDepth 100000
namespace BV
open PySem PySem.Spec PyProof.Rows L2 WK
section
variable {K : PySem.W.Frag} {io : List Nat} {X : Addr → Prop} {Γ Γ1 Γ2 Γ3 : List Sl} {L : Tg} {σ : L2.St} {ρ : Env} {F : Nat → List Addr} {H : Hp} {i : Nat}
/-! d[k] = v, d an owned dict -/
def putS (i : Nat) (fv fk : M D) : Ms := fun ρ => (fv ρ).bind fun p => (getE i p.2).bind fun _ => (fk p.2).bind fun q => match q.2[i]? with
  | some (some (.dct kvs)) => (keyD q.1).bind fun k => if kvs.length < sizeLine then some (.nx (q.2.set i (some (.dct (putKD kvs k p.1))))) else none
  | _ => none
theorem rs_dput {ty tv : TE} {fv fk : M D} (hv : RF K tv Γ Γ1 fv) (hg1 : Γ1[i]? = some (.v .o1)) (hk : RV K ty Γ1 Γ2 fk) (hg2 : Γ2[i]? = some (.v .o1)) : RS K io (sDPut (tVar i) ty tv) Γ { L with nx := Γ2 } (putS i fv fk) := by
  intro X σ ρ F H D r R e p
  unfold putS at e
  obtain ⟨⟨d, ρ1⟩, e1, e⟩ := Option.bind_eq_some_iff.mp e
  obtain ⟨⟨d0, ρ0⟩, e0, e⟩ := Option.bind_eq_some_iff.mp e
  obtain ⟨⟨kd, ρ2⟩, e2, e⟩ := Option.bind_eq_some_iff.mp e
  obtain ⟨e0, q0⟩ := getE_some e0
  have e0 : ρ1[i]? = some (some d0) := e0
  split at e
  · next kvs hr =>
    have hr : ρ2[i]? = some (some (.dct kvs)) := hr
    obtain ⟨key, ek, e⟩ := Option.bind_eq_some_iff.mp e
    by_cases hz : kvs.length < sizeLine
    · rw [if_pos hz] at e
      cases e
      refine hv X σ ρ F H _ d ρ1 R e1 fun v F1 H1 R1 p1 s1 => ?_
      obtain ⟨w, ew, _⟩ := R1.slot hg1 e0
      refine ⟨w, ew, hk X σ ρ1 F1 H1 _ kd ρ2 R1 e2 fun y F2 H2 R2 p2 s2 => ?_⟩
      obtain ⟨w', ew', a, ea, hF, q⟩ := R2.slot hg2 hr
      rw [ew] at ew'
      cases ew'
      subst ea
      have hy := keyD_ok p2 ek
      subst hy
      rcases q with ⟨vs, ds, e, h, _⟩ | ⟨vs, ds, e, h, q⟩ | ⟨vs, ds, e, h, _⟩
      · exact nomatch e
      · cases e
        have inW : Ws X F2 a := .inr ⟨i, by rw [hF]; simp⟩
        have gu := Own.go_upd (H := H2) (o := .dK (putK vs key v)) inW
        obtain ⟨R3, s3⟩ := R2.change hg2 hr ew hF (d' := .dct (putKD kvs key d)) (o := .dK (putK vs key v)) ⟨a, rfl, rfl, .inr (.inl ⟨_, _, rfl, upd_same, (q.go gu).put ((p1.go (s2.go (X := X))).go gu)⟩)⟩
        exact ⟨a, _, rfl, .inl ⟨vs, key, h, rfl, by rw [q.len]; exact hz, rfl⟩, p σ F2 _ R3 ((s1.trans s2).trans s3) .refl⟩
      · exact nomatch e
    · rw [if_neg hz] at e; exact nomatch e
  · exact nomatch e
/-! xs[k] = v, xs an owned list -/
def seti (ds : List D) (k : Int) (d : D) : Option (List D) := (ixN ds.length k).map fun j => ds.set j d
def setiS (i : Nat) (fv fk : M D) : Ms := fun ρ => (fv ρ).bind fun p => (getE i p.2).bind fun _ => (fk p.2).bind fun q => match q.2[i]?, q.1 with
  | some (some (.lst ds)), .int k => (seti ds k p.1).map fun ds => .nx (q.2.set i (some (.lst ds)))
  | _, _ => none
theorem rs_seti {ti tv : TE} {fv fk : M D} (hv : RF K tv Γ Γ1 fv) (hg1 : Γ1[i]? = some (.v .o1)) (hk : RV K ti Γ1 Γ2 fk) (hg2 : Γ2[i]? = some (.v .o1)) : RS K io (tAsg tv (gSub (tVar i) ti rSetL)) Γ { L with nx := Γ2 } (setiS i fv fk) := by
  intro X σ ρ F H D r R e p
  unfold setiS at e
  obtain ⟨⟨d, ρ1⟩, e1, e⟩ := Option.bind_eq_some_iff.mp e
  obtain ⟨⟨d0, ρ0⟩, e0, e⟩ := Option.bind_eq_some_iff.mp e
  obtain ⟨⟨kd, ρ2⟩, e2, e⟩ := Option.bind_eq_some_iff.mp e
  obtain ⟨e0, q0⟩ := getE_some e0
  have e0 : ρ1[i]? = some (some d0) := e0
  split at e
  · next ds k hr hk2 =>
    have hr : ρ2[i]? = some (some (.lst ds)) := hr
    have hk2 : kd = .int k := hk2
    subst hk2
    obtain ⟨ds', es, er⟩ := Option.map_eq_some_iff.mp e
    cases er
    obtain ⟨j, ej, rfl⟩ := Option.map_eq_some_iff.mp (show (ixN ds.length k).map _ = some ds' from es)
    refine hv X σ ρ F H _ d ρ1 R e1 fun v F1 H1 R1 p1 s1 => ?_
    obtain ⟨w, ew, _⟩ := R1.slot hg1 e0
    refine ⟨w, ew, hk X σ ρ1 F1 H1 _ (.int k) ρ2 R1 e2 fun y F2 H2 R2 p2 s2 => ?_⟩
    obtain ⟨w', ew', a, ea, hF, q⟩ := R2.slot hg2 hr
    rw [ew] at ew'
    cases ew'
    subst ea
    cases p2
    rcases q with ⟨vs, ds1, e, h, q⟩ | ⟨vs, ds1, e, h, _⟩ | ⟨vs, ds1, e, h, _⟩
    · cases e
      have inW : Ws X F2 a := .inr ⟨i, by rw [hF]; simp⟩
      have gu := Own.go_upd (H := H2) (o := .lst (vs.set j v)) inW
      obtain ⟨R3, s3⟩ := R2.change hg2 hr ew hF (d' := .lst (ds.set j d)) (o := .lst (vs.set j v)) ⟨a, rfl, rfl, .inl ⟨_, _, rfl, upd_same, (q.go gu).set j ((p1.go (s2.go (X := X))).go gu)⟩⟩
      exact ⟨a, vs, k, j, rfl, rfl, h, by rw [q.len]; exact ej, p σ F2 _ R3 ((s1.trans s2).trans s3) .refl⟩
    · exact nomatch e
    · exact nomatch e
  · exact nomatch e
/-! three values at once -/
def par3 (i j l : Nat) (f g h : M D) : Ms := fun ρ => (f ρ).bind fun p => (g p.2).bind fun q => (h q.2).map fun r => .nx (((r.2.set l (some r.1)).set j (some q.1)).set i (some p.1))
theorem three_put {j l : Nat} {ta tb tc : TE} {f g h : M D} {ca cb cc : Cl} (ha : RO K ta Γ Γ1 ca f) (hb : RO K tb Γ1 Γ2 cb g) (hc : RO K tc Γ2 Γ3 cc h) (hi : i < Γ3.length) (hj : j < Γ3.length) (hl : l < Γ3.length) {r : Fl} (R : Rep K X Γ σ ρ F H) (e : par3 i j l f g h ρ = some r) {Q : V → V → V → Hp → Prop}
    (k : ∀ ρ' v w x F' H', r = .nx ρ' → Rep K X (((Γ3.set l (.v cc)).set j (.v cb)).set i (.v ca)) (((σ.set l (some x)).set j (some w)).set i (some v)) ρ' F' H' → Stp F H F' H' → Q v w x H') : ta σ H fun v H1 => tb σ H1 fun w H2 => tc σ H2 fun x H3 => Q v w x H3 := by
  obtain ⟨⟨d, ρ1⟩, e1, e⟩ := Option.bind_eq_some_iff.mp e
  obtain ⟨⟨d2, ρ2⟩, e2, e⟩ := Option.bind_eq_some_iff.mp e
  obtain ⟨⟨d3, ρ3⟩, e3, er⟩ := Option.map_eq_some_iff.mp e
  cases er
  refine ha X σ ρ F H _ d ρ1 R e1 fun v F1 G1 H1 R1 o1 nx1 s1 g1 => ?_
  refine hb _ σ ρ1 F1 H1 _ d2 ρ2 R1 e2 fun w F2 G2 H2 R2 o2 nx2 s2 g2 => ?_
  refine hc _ σ ρ2 F2 H2 _ d3 ρ3 R2 e3 fun x F3 G3 H3 R3 o3 nx3 s3 g3 => ?_
  have oa := o1.later (fun b hb => (R1.xt b (.inr hb)).2) s2 g2
  have oa : Own K H3 (Ws (fun b => ((X b ∨ b ∈ G1) ∨ b ∈ G2) ∨ b ∈ G3) F3) ca v d G1 := oa.go (s3.goW fun b z => by
    rcases z with (z | z) | z
    · exact .inl (.inl z)
    · exact (g3 b z).elim (fun z => .inl (.inr z)) .inr
    · exact (s3.go (X := fun b => (X b ∨ b ∈ G1) ∨ b ∈ G2)).nw b (.inr z)) fun b hb o e => s3.fr b o e ((R2.xt b (.inl (.inr hb))).2)
  have ob := o2.later (fun b hb => (R2.xt b (.inr hb)).2) s3 g3
  have P1 := R3.put o3 nx3 hl
  have P2 := Rep.put (i := j) P1 (ob.go (Go.sub fun b z => by
    rcases z with z | ⟨m, z⟩
    · exact .inl (.inl z)
    · by_cases q : m = l
      · rw [q, updF_at] at z; exact .inl (.inr z)
      · rw [updF_ne q] at z; exact .inr ⟨m, z⟩) fun _ _ _ e => e) nx2 (by rw [List.length_set]; exact hj)
  have P3 := Rep.put (i := i) P2 (oa.go (Go.sub fun b z => by
    rcases z with z | ⟨m, z⟩
    · exact .inl (.inl (.inl z))
    · by_cases q : m = j
      · rw [q, updF_at] at z; exact .inl (.inl (.inr z))
      · rw [updF_ne q] at z
        by_cases q : m = l
        · rw [q, updF_at] at z; exact .inl (.inr z)
        · rw [updF_ne q] at z; exact .inr ⟨m, z⟩) fun _ _ _ e => e) nx1 (by rw [List.length_set, List.length_set]; exact hi)
  exact k _ v w x _ H3 rfl P3 (((((s1.trans s2).trans s3).put fun b hb => new_trans (s1.trans s2) (g3 b hb)).put fun b hb => new_trans s1 (g2 b hb)).put fun b hb => g1 b hb)
theorem rs_par3 {j l : Nat} {ta tb tc : TE} {f g h : M D} {ca cb cc : Cl} (ha : RO K ta Γ Γ1 ca f) (hb : RO K tb Γ1 Γ2 cb g) (hc : RO K tc Γ2 Γ3 cc h) (hij : i ≠ j) (hil : i ≠ l) (hjl : j ≠ l) (hi : i < Γ3.length) (hj : j < Γ3.length) (hl : l < Γ3.length) (h1 : i ∉ io) (h2 : j ∉ io) (h3 : l ∉ io) :
    RS K io (tPar3 i j l (tCons ta (tCons tb (tCons tc tNil)))) Γ { L with nx := ((Γ3.set l (.v cc)).set j (.v cb)).set i (.v ca) } (par3 i j l f g h) := by
  intro X σ ρ F H D r R e p
  refine three_put ha hb hc hi hj hl R e fun ρ' v w x F' H' er R' s => ⟨v, w, x, rfl, ?_⟩
  subst er
  rw [List.set_comm _ _ hij, List.set_comm _ _ hil, List.set_comm _ _ hjl]
  exact p _ F' H' R' s ((kp_set (io := io) (v := some x) h3).trans ((kp_set (v := some w) h2).trans (kp_set (v := some v) h1)))
theorem rs_tup3 {j l : Nat} {ta tb tc : TE} {f g h : M D} {ca cb cc : Cl} (ha : RO K ta Γ Γ1 ca f) (hb : RO K tb Γ1 Γ2 cb g) (hc : RO K tc Γ2 Γ3 cc h) (hij : i ≠ j) (hil : i ≠ l) (hjl : j ≠ l) (hi : i < Γ3.length) (hj : j < Γ3.length) (hl : l < Γ3.length) (h1 : i ∉ io) (h2 : j ∉ io) (h3 : l ∉ io) :
    RS K io (tAsg (tTup (tCons ta (tCons tb (tCons tc tNil)))) (gTup K 3 (gCons (gName i) (gCons (gName j) (gCons (gName l) gNil))))) Γ { L with nx := ((Γ3.set l (.v cc)).set j (.v cb)).set i (.v ca) } (par3 i j l f g h) := by
  intro X σ ρ F H D r R e p
  refine three_put ha hb hc hi hj hl R e fun ρ' v w x F' H' er R' s => ⟨by show 3 ≤ sizeLine; decide, fun a n => ?_⟩
  have sm : Same H' (upd H' a (.tup [v, w, x])) := same_new n
  refine ⟨a, [v, w, x], rfl, .inl (.inl upd_same), rfl, v, _, rfl, w, _, rfl, x, _, rfl, rfl, ?_⟩
  subst er
  have := p _ F' _ (R'.same sm) (s.trans (.same sm)) ((kp_set (io := io) (v := some x) h3).trans ((kp_set (v := some w) h2).trans (kp_set (v := some v) h1)))
  rw [List.set_comm _ _ hij, List.set_comm _ _ hil, List.set_comm _ _ hjl]
  exact this
/-! list(d.values()) -/
theorem ro_vals {t : TE} {f : M D} (h : RV K t Γ Γ1 f) : RO K (tCB rListV (tCons (tDVals0 t) tNil)) Γ Γ1 .o1 (b1 valsD f) := by
  intro X σ ρ F H Q d ρ' R e k
  obtain ⟨a, ρ1, ea, e⟩ := bnd_some e
  obtain ⟨z, eo, er⟩ := lif_some e
  cases er
  refine h X σ ρ F H _ a ρ' R ea fun v F' H' R' p s => ?_
  cases p with
  | @dct b vs ds rr q =>
    cases eo
    refine ⟨b, vs, rfl, rfl, rr, fun p np => ?_⟩
    have sm : Same H' (upd H' p (valsO p b)) := same_new np
    have rr' : Rd (upd H' p (valsO p b)) b (.dK vs) := ((Go.same (W := fun _ => False) sm).fr b _ trivial (fun z => z) rr)
    refine ⟨p, b, vs, rfl, upd_same, rr', fun l nl => ?_⟩
    exact ro_new k (R'.same sm) (s.trans (.same sm)) nl rfl (q.go (Go.same sm)).vals
  | _ => exact nomatch eo
end
end BV
set_option Elab.async false
set_option linter.all false
set_option maxRecDepth 100000
namespace BV
open PySem PySem.Spec PyProof.Rows L2 WK
/-! ### the operators by name -/
def addO : D → D → Option D := i2 fun i j => .int (i + j)
def subO : D → D → Option D := i2 fun i j => .int (i - j)
def ltO : D → D → Option D := i2 fun i j => .bl (decide (i < j))
def leO : D → D → Option D := i2 fun i j => .bl (decide (i ≤ j))
def gtO : D → D → Option D := i2 fun i j => .bl (decide (j < i))
def geO : D → D → Option D := i2 fun i j => .bl (decide (j ≤ i))
def maxO : D → D → Option D := i2 fun i j => .int (if j > i then j else i)
def minO : D → D → Option D := i2 fun i j => .int (if j < i then j else i)
def mulO : D → D → Option D := i2c cMul fun i j => .int (i * j)
def fdivO : D → D → Option D := i2c cDiv fun i j => .int (i / j)
def fdivNO : D → D → Option D := i2c cDivN fun i j => .int (i.fdiv j)
def powO : D → D → Option D := i2c cPow fun i j => .int (i ^ j.toNat)
def modO : D → D → Option D := i2c cMod fun i j => .int (i % j)
def modNO : D → D → Option D := i2c cModN fun i j => .int (i.fmod j)
def negO : D → Option D := i1 fun i => .int (-i)
def absO : D → Option D := i1 fun i => .int (if i < 0 then -i else i)
section
variable {K : PySem.W.Frag} {io : List Nat} {Γ Γ1 Γ2 Γ3 nx bk ct rt : List Sl} {c : Cl} {i : Nat}
theorem g_add : G2 K (rI0 fun i j => .int (i + j)) addO := g2_i
theorem g_sub : G2 K (rI0 fun i j => .int (i - j)) subO := g2_i
theorem g_lt : G2 K (rI0 fun i j => .bl (decide (i < j))) ltO := g2_b
theorem g_le : G2 K (rI0 fun i j => .bl (decide (i ≤ j))) leO := g2_b
theorem g_gt : G2 K (rI0 fun i j => .bl (decide (j < i))) gtO := g2_b
theorem g_ge : G2 K (rI0 fun i j => .bl (decide (j ≤ i))) geO := g2_b
theorem g_max : G2 K (fun v u H Q => ∃ i j, [v, u] = [.int i, .int j] ∧ Q (.int (if j > i then j else i)) H) maxO := g2_max
theorem g_min : G2 K (fun v u H Q => ∃ i j, [v, u] = [.int i, .int j] ∧ Q (.int (if j < i then j else i)) H) minO := g2_min
theorem g_mul : G2 K (rI CMul fun i j => .int (i * j)) mulO := g2_mul
theorem g_fdiv : G2 K (rI CDiv fun i j => .int (i / j)) fdivO := g2_fdiv
theorem g_fdivN : G2 K (rI CDivN fun i j => .int (i.fdiv j)) fdivNO := g2_fdivN
theorem g_pow : G2 K (rI CPow fun i j => .int (i ^ j.toNat)) powO := g2_pow
theorem g_mod : G2 K (rI (fun _ j => 0 < j) fun i j => .int (i % j)) modO := g2_mod
theorem g_modN : G2 K (rI (fun _ j => j ≠ 0) fun i j => .int (i.fmod j)) modNO := g2_modN
theorem g_neg : G1 K (rU fun i => .int (-i)) negO := g1_u
theorem g_abs : G1 K (fun v H Q => ∃ i, [v] = [.int i] ∧ Q (.int (if i < 0 then -i else i)) H) absO := g1_abs
theorem rf_dget {td ty : TE} {f g : M D} (hd : RF K td Γ Γ1 f) (hy : RV K ty Γ1 Γ2 g) : RF K (tDGet td ty) Γ Γ2 (b2 dgetD f g) := rf_bin (r := rDGet) g2_dget hd hy
theorem rf_dgetO {ty : TE} {g : M D} (hg1 : Γ[i]? = some (.v .o1)) (hy : RV K ty Γ Γ2 g) (hg : Γ2[i]? = some (.v .o1)) : RF K (tDGet (tVar i) ty) Γ Γ2 (b2o dgetD i g) := rf_bin_own (r := rDGet) g2_dget hg1 hy hg
theorem rf_din {td ty : TE} {f g : M D} (hy : RF K ty Γ Γ1 g) (hd : RV K td Γ1 Γ2 f) : RF K (tDIn ty td) Γ Γ2 (b2 dinD g f) := rf_bin (r := rDIn) g2_din hy hd
theorem rf_dnin {td ty : TE} {f g : M D} (hy : RF K ty Γ Γ1 g) (hd : RV K td Γ1 Γ2 f) : RF K (tDNotIn ty td) Γ Γ2 (b2 dninD g f) := rf_bin (r := rDNin) g2_dnin hy hd
/-! ### statements, with the claims written out -/
theorem s_seq {t u : TS} {f g : Ms} (ht : RS K io t Γ ⟨Γ1, bk, ct, rt, c⟩ f) (hu : RS K io u Γ1 ⟨nx, bk, ct, rt, c⟩ g) : RS K io (tSeq t u) Γ ⟨nx, bk, ct, rt, c⟩ (seqS f g) := rs_seq (L := ⟨nx, bk, ct, rt, c⟩) ht hu
theorem s_end {t : TS} {f : Ms} (ht : RS K io t Γ ⟨Γ1, bk, ct, rt, c⟩ f) (le : leL Γ1 nx = true) : RS K io t Γ ⟨nx, bk, ct, rt, c⟩ f := rs_end (L := ⟨nx, bk, ct, rt, c⟩) ht le
theorem s_next (le : leL Γ nx = true) : RS K io tNext Γ ⟨nx, bk, ct, rt, c⟩ nextS := rs_next (L := ⟨nx, bk, ct, rt, c⟩) le
theorem s_break (le : leL Γ bk = true) : RS K io tBreak Γ ⟨nx, bk, ct, rt, c⟩ (fun ρ => some (.bk ρ)) := rs_break (L := ⟨nx, bk, ct, rt, c⟩) le
theorem s_cont (le : leL Γ ct = true) : RS K io tCont Γ ⟨nx, bk, ct, rt, c⟩ (fun ρ => some (.ct ρ)) := rs_cont (L := ⟨nx, bk, ct, rt, c⟩) le
theorem s_ret {t : TE} {f : M D} (h : RO K t Γ Γ1 c f) (le : leL Γ1 rt = true) : RS K io (tRet t) Γ ⟨nx, bk, ct, rt, c⟩ (retS f) := rs_ret (L := ⟨nx, bk, ct, rt, c⟩) h rfl le
theorem s_retN (le : leL Γ rt = true) : RS K io tRetN Γ ⟨nx, bk, ct, rt, .fz⟩ retN := rs_retN (L := ⟨nx, bk, ct, rt, .fz⟩) rfl le
theorem s_if {cc : TT} {t u : TS} {fc : M Bool} {f g : Ms} (hc : RT K cc Γ Γ1 fc) (ht : RS K io t Γ1 ⟨nx, bk, ct, rt, c⟩ f) (hu : RS K io u Γ1 ⟨nx, bk, ct, rt, c⟩ g) : RS K io (tIfS cc t u) Γ ⟨nx, bk, ct, rt, c⟩ (ifS fc f g) := rs_if (L := ⟨nx, bk, ct, rt, c⟩) hc ht hu
/-- an if ahead of more: its ways meet at the claims behind the test -/
theorem s_ifq {cc : TT} {t u : TS} {fc : M Bool} {f g : Ms} (hc : RT K cc Γ Γ1 fc) (ht : RS K io t Γ1 ⟨Γ1, bk, ct, rt, c⟩ f) (hu : RS K io u Γ1 ⟨Γ1, bk, ct, rt, c⟩ g) : RS K io (tIfS cc t u) Γ ⟨Γ1, bk, ct, rt, c⟩ (ifS fc f g) := s_if hc ht hu
theorem s_setO {t : TE} {f : M D} {cl : Cl} (h : RO K t Γ Γ1 cl f) (hl : i < Γ1.length) (hio : i ∉ io) : RS K io (tAsg t (gName i)) Γ ⟨Γ1.set i (.v cl), bk, ct, rt, c⟩ (setS i f) := rs_setO (L := ⟨[], bk, ct, rt, c⟩) h hl hio
theorem s_setF {t : TE} {f : M D} (h : RF K t Γ Γ1 f) (hl : i < Γ1.length) (hio : i ∉ io) : RS K io (tAsg t (gName i)) Γ ⟨Γ1.set i (.v .fz), bk, ct, rt, c⟩ (setS i f) := rs_setF (L := ⟨[], bk, ct, rt, c⟩) h hl hio
theorem s_asg {t : TE} {g : TG} {S : List Nat} {f : M D} {fg : D → Env → Option Env} (h : RF K t Γ Γ1 f) (hg : RG K g S Γ1 Γ2 fg) (hio : (S.all fun j => decide (j ∉ io)) = true) : RS K io (tAsg t g) Γ ⟨Γ2, bk, ct, rt, c⟩ (asgS f fg) := rs_asg (L := ⟨[], bk, ct, rt, c⟩) h hg hio
theorem s_par2 {j : Nat} {ta tb : TE} {f g : M D} {ca cb : Cl} (ha : RO K ta Γ Γ1 ca f) (hb : RO K tb Γ1 Γ2 cb g) (hij : i ≠ j) (hi : i < Γ2.length) (hj : j < Γ2.length) (h1 : i ∉ io) (h2 : j ∉ io) :
    RS K io (tPar i j (tCons ta (tCons tb tNil))) Γ ⟨(Γ2.set j (.v cb)).set i (.v ca), bk, ct, rt, c⟩ (par2 i j f g) := rs_par2 (L := ⟨[], bk, ct, rt, c⟩) ha hb hij hi hj h1 h2
theorem s_tup2 {j : Nat} {ta tb : TE} {f g : M D} {ca cb : Cl} (ha : RO K ta Γ Γ1 ca f) (hb : RO K tb Γ1 Γ2 cb g) (hij : i ≠ j) (hi : i < Γ2.length) (hj : j < Γ2.length) (h1 : i ∉ io) (h2 : j ∉ io) :
    RS K io (tAsg (tTup (tCons ta (tCons tb tNil))) (gTup K 2 (gCons (gName i) (gCons (gName j) gNil)))) Γ ⟨(Γ2.set j (.v cb)).set i (.v ca), bk, ct, rt, c⟩ (par2 i j f g) := rs_tup2 (L := ⟨[], bk, ct, rt, c⟩) ha hb hij hi hj h1 h2
theorem s_par3 {j l : Nat} {ta tb tc : TE} {f g h : M D} {ca cb cc : Cl} (ha : RO K ta Γ Γ1 ca f) (hb : RO K tb Γ1 Γ2 cb g) (hc : RO K tc Γ2 Γ3 cc h) (hij : i ≠ j) (hil : i ≠ l) (hjl : j ≠ l) (hi : i < Γ3.length) (hj : j < Γ3.length) (hl : l < Γ3.length) (h1 : i ∉ io) (h2 : j ∉ io) (h3 : l ∉ io) :
    RS K io (tPar3 i j l (tCons ta (tCons tb (tCons tc tNil)))) Γ ⟨((Γ3.set l (.v cc)).set j (.v cb)).set i (.v ca), bk, ct, rt, c⟩ (par3 i j l f g h) := rs_par3 (L := ⟨[], bk, ct, rt, c⟩) ha hb hc hij hil hjl hi hj hl h1 h2 h3
theorem s_tup3 {j l : Nat} {ta tb tc : TE} {f g h : M D} {ca cb cc : Cl} (ha : RO K ta Γ Γ1 ca f) (hb : RO K tb Γ1 Γ2 cb g) (hc : RO K tc Γ2 Γ3 cc h) (hij : i ≠ j) (hil : i ≠ l) (hjl : j ≠ l) (hi : i < Γ3.length) (hj : j < Γ3.length) (hl : l < Γ3.length) (h1 : i ∉ io) (h2 : j ∉ io) (h3 : l ∉ io) :
    RS K io (tAsg (tTup (tCons ta (tCons tb (tCons tc tNil)))) (gTup K 3 (gCons (gName i) (gCons (gName j) (gCons (gName l) gNil))))) Γ ⟨((Γ3.set l (.v cc)).set j (.v cb)).set i (.v ca), bk, ct, rt, c⟩ (par3 i j l f g h) := rs_tup3 (L := ⟨[], bk, ct, rt, c⟩) ha hb hc hij hil hjl hi hj hl h1 h2 h3
theorem s_aug {t : TE} {f : M D} {g : Int → Int → Int} (hg : Γ[i]? = some (.v .fz)) (h : RF K t Γ Γ1 f) (hl : i < Γ1.length) (hio : i ∉ io) : RS K io (tAug i t (ipI g)) Γ ⟨Γ1.set i (.v .fz), bk, ct, rt, c⟩ (augS i g f) := rs_aug (L := ⟨[], bk, ct, rt, c⟩) hg h hl hio
theorem s_drop {t : TE} {f : M D} (h : RV K t Γ Γ1 f) : RS K io (tDrop t) Γ ⟨Γ1, bk, ct, rt, c⟩ (dropS f) := rs_drop (L := ⟨[], bk, ct, rt, c⟩) h
theorem s_append {t : TE} {f : M D} (hg : Γ[i]? = some (.v .o1)) (h : RF K t Γ Γ1 f) (hg1 : Γ1[i]? = some (.v .o1)) : RS K io (tDrop (tBM K "list" rAppend (tVar i) (tCons t tNil))) Γ ⟨Γ1, bk, ct, rt, c⟩ (appS i f) := rs_append (L := ⟨[], bk, ct, rt, c⟩) hg h hg1
theorem s_dput {ty tv : TE} {fv fk : M D} (hv : RF K tv Γ Γ1 fv) (hg1 : Γ1[i]? = some (.v .o1)) (hk : RV K ty Γ1 Γ2 fk) (hg2 : Γ2[i]? = some (.v .o1)) : RS K io (sDPut (tVar i) ty tv) Γ ⟨Γ2, bk, ct, rt, c⟩ (putS i fv fk) := rs_dput (L := ⟨[], bk, ct, rt, c⟩) hv hg1 hk hg2
theorem s_seti {ti tv : TE} {fv fk : M D} (hv : RF K tv Γ Γ1 fv) (hg1 : Γ1[i]? = some (.v .o1)) (hk : RV K ti Γ1 Γ2 fk) (hg2 : Γ2[i]? = some (.v .o1)) : RS K io (tAsg tv (gSub (tVar i) ti rSetL)) Γ ⟨Γ2, bk, ct, rt, c⟩ (setiS i fv fk) := rs_seti (L := ⟨[], bk, ct, rt, c⟩) hv hg1 hk hg2
theorem s_for {wi : TI} {g : TG} {tb : TS} {S : List Nat} {fi : M (List D)} {fg : D → Env → Option Env} {fb : Ms} (hi : RI K wi Γ Γ1 fi) (hg : RG K g S Γ1 Γ2 fg) (hb : RS K io tb Γ2 ⟨Γ1, Γ1, Γ1, rt, c⟩ fb)
    (hio : (S.all fun j => decide (j ∉ io)) = true) : RS K io (tFor wi g tb) Γ ⟨Γ1, bk, ct, rt, c⟩ (forS fi fg fb) := rs_for (L := ⟨Γ1, bk, ct, rt, c⟩) hi hg hb hio
theorem s_forK {g : TG} {tb : TS} {S : List Nat} {fg : D → Env → Option Env} {fb : Ms} (hd : Γ[i]? = some (.v .fz)) (hg : RG K g S Γ Γ2 fg) (hb : RS K io tb Γ2 ⟨Γ, Γ, Γ, rt, c⟩ fb) (hio : (S.all fun j => decide (j ∉ io)) = true) :
    RS K io (tLockWS (tFor (iKeys (tVar i)) g tb)) Γ ⟨Γ, bk, ct, rt, c⟩ (forS (keysM i) fg fb) := rs_forK (L := ⟨Γ, bk, ct, rt, c⟩) hd hg hb hio
/-- how often a while may turn -/
def FUEL : Nat := 1152921504606846976
theorem s_while {N : Nat} {cc : TT} {tb : TS} {fc : M Bool} {fb : Ms} (hc : RT K cc Γ Γ fc) (hb : RS K io tb Γ ⟨Γ, Γ, Γ, rt, c⟩ fb) : RS K io (tWhile cc tb) Γ ⟨Γ, bk, ct, rt, c⟩ (whE fc fb N) := rs_while (L := ⟨Γ, bk, ct, rt, c⟩) hc hb
end
end BV
set_option Elab.async false
set_option linter.all false
set_option maxRecDepth 100000
namespace BV
open PySem PySem.Spec PyProof.Rows L2 WK
/-! ### one rule for each operator, whatever its operands are -/
def orR (r r' : R2) : R2 := fun x y H Q => r x y H Q ∨ r' x y H Q
section
variable {X : Cx}
theorem op_or {f : Value → Value → Sem Value} {r r' : R2} (h : OpR X f r) (h' : OpR X f r') : OpR X f (orR r r') := by
  intro pins s σ H x y v u Q I rx ry q
  rcases q with q | q
  · exact h pins s σ H x y v u Q I rx ry q
  · exact h' pins s σ H x y v u Q I rx ry q
def orC (r r' : List V → Hp → VK → Prop) : List V → Hp → VK → Prop := fun xs H Q => r xs H Q ∨ r' xs H Q
theorem cr_or {f : Value} {r r' : List V → Hp → VK → Prop} (h : CallR X f r) (h' : CallR X f r') : CallR X f (orC r r') := by
  intro pins s σ H xs us Q I rx q
  rcases q with q | q
  · exact h pins s σ H xs us Q I rx q
  · exact h' pins s σ H xs us Q I rx q
def rAddS : R2 := fun x y H Q => ∃ i j, x = .str i ∧ y = .str j ∧ i.length + j.length ≤ sizeLine ∧ Q (.str (i ++ j)) H
def rAddE (K : PySem.W.Frag) : R2 := orR (rI0 fun i j => .int (i + j)) (orR (rCatA K) (orR rCat rAddS))
theorem op_addE : OpR X (binaryOp .Add) (rAddE X.K) := op_or op_add (op_or op_catA (op_or op_cat op_add_str))
def rMulE (K : PySem.W.Frag) : R2 := orR (rI CMul fun i j => .int (i * j)) (orR (rRepA K) rRep)
theorem op_mulE : OpR X (binaryOp .Mult) (rMulE X.K) := op_or op_mul (op_or op_repA op_rep)
def rEqE (K : PySem.W.Frag) : R2 := orR rEq (rEqD K)
def rNeE (K : PySem.W.Frag) : R2 := orR rNe (orR (rNeD K) (rNeNil K))
theorem op_eqE (hu : X.A.units + 64 < cLine) : OpR X (compareOp .Eq) (rEqE X.K) := op_or op_eq (op_eqD hu)
theorem op_neE (hu : X.A.units + 64 < cLine) : OpR X (compareOp .NotEq) (rNeE X.K) := op_or op_ne (op_or (op_neD hu) (op_neNil hu))
theorem op_din (hu : X.A.units + 1 < cLine) : OpR X (compareOp .In) rDIn := by
  intro pins s σ H x y v u Q I rx ry h
  obtain ⟨a, o, rfl, g, q⟩ := h
  cases ry
  exact d_in hu I g rx fun s' I' => ⟨.bl o.isSome, H, I', rfl, q⟩
theorem op_dnin (hu : X.A.units + 1 < cLine) : OpR X (compareOp .NotIn) rDNin := by
  intro pins s σ H x y v u Q I rx ry h
  obtain ⟨a, o, rfl, g, q⟩ := h
  cases ry
  exact d_notIn hu I g rx fun s' I' => ⟨.bl (!o.isSome), H, I', rfl, q⟩
def rInE (K : PySem.W.Frag) : R2 := orR (rIn K false) rDIn
def rNinE (K : PySem.W.Frag) : R2 := orR (rIn K true) rDNin
theorem op_inE (hu : X.A.units + 1 < cLine) : OpR X (compareOp .In) (rInE X.K) := op_or op_in_seq (op_din hu)
theorem op_ninE (hu : X.A.units + 1 < cLine) : OpR X (compareOp .NotIn) (rNinE X.K) := op_or op_notIn_seq (op_dnin hu)
theorem subTail {P : Program} {w : World} {A : Around} {E : Value → Shared → Prop} {s : Shared} {ve se : Expr} {a b : Value} {T id : String} {Z : Value → Shared → Prop} (ty : s.TypeIs a T) (lk : typeLookup (.type T) "__getitem__" = pure (some (.builtin id)))
    (g : wpAny (model P w) A (getItem a b) Z E s) (hs : subscripted se false a b = operate [a, b] (getItem a b)) : wpAny (model P w) A (subscriptTail ve se a b) Z E s := by
  unfold subscriptTail
  refine wpAny_bind ?_
  rw [getitemInPython_of_ne ty.not_modules]
  have rest : wpAny (model P w) A (subscripted se false a b) (fun z s1 => wpAny (model P w) A (letTemporaryGo ve a z >>= fun _ => pure z) Z E s1) E s := by
    rw [hs]
    refine wpAny_operating (wpAny_mono g ?_ fun _ _ q => q)
    intro z s1 hz
    exact wpAny_bind (wpAny_letTemporaryGo (wpAny_pure hz))
  refine wpAny_bind (wpAny_specialOf ty lk ?_)
  first
    | exact wpAny_bind (wpAny_pure (wpAny_bind rest))
    | exact wpAny_bind rest
    | exact wpAny_pure (wpAny_bind rest)
theorem ix_dict (hu : X.A.units + 1 < cLine) : IxR X rDGet := by
  intro value slice pins s σ H x y v u Q I rx ry h hs
  obtain ⟨a, w, rfl, g, q⟩ := h
  cases rx
  exact subTail (dict_typeIs I g) PySem.F.slot_dict_getitem.lookup (d_getItem hu I g ry fun w' s' I' r' => ⟨w, H, I', r', q⟩) hs
def rIxE (K : PySem.W.Frag) : R2 := orR (rIx K) rDGet
theorem ix_E (hu : X.A.units + 1 < cLine) : IxR X (rIxE X.K) := ix_seq.or (ix_dict hu)
def rSlE (K : PySem.W.Frag) : V → Option Int → Option Int → Hp → VK → Prop := fun x lo hi H Q => rSlL K x lo hi H Q ∨ rSlA K x lo hi H Q
theorem sl_E : SlR X (rSlE X.K) := sl_list.or sl_tupA
def rSumE (K : PySem.W.Frag) : List V → Hp → VK → Prop := orC (rSum K) (rSumT K)
theorem cr_sumE (hc : X.calm = true) : CallR X (.builtin "sum") (rSumE X.K) := cr_or (cr_sum hc) (cr_sumT hc)
def rMaxE (K : PySem.W.Frag) : List V → Hp → VK → Prop := orC (rMax K) (rMaxT K)
theorem cr_maxE (hc : X.calm = true) : CallR X (.builtin "max") (rMaxE X.K) := cr_or (cr_max hc) (cr_maxT hc)
def rReprI : List V → Hp → VK → Prop := fun xs H Q => ∃ i, xs = [.int i] ∧ i.natAbs.log2 < 1920 ∧ Q (.str (toString i)) H
def rReprA (K : PySem.W.Frag) : List V → Hp → VK → Prop := orC (rRepr K) rReprI
theorem call_reprA (hg : X.A.guards = some []) (hu : X.A.units + 64 < cLine) : CallR X (.builtin "repr") (rReprA X.K) := cr_or (call_reprD hg hu) SkE.call_repr_int
def iSeq (K : PySem.W.Frag) (t : TE) : TI := fun σ H R => iList K t σ H R ∨ iTup K t σ H R
theorem pi_seq {tg l : Expr} {t : TE} (h : PE X l t) : PI X tg l (iSeq X.K t) := ⟨fun pins s σ H R I q => q.elim (fun q => (pi_list h).run pins s σ H R I q) fun q => (pi_tup h).run pins s σ H R I q⟩
def iEnu (K : PySem.W.Frag) (t : TA) : TI := fun σ H R => iEnum K t σ H R ∨ iEnumT K t σ H R
theorem pi_enu {e : Expr} {ta : TA} {p pos tpos : Pos} {elts : List Expr} {kk : Nat} (hg : Gl X "enumerate") (hm : X.mg "enumerate" = none) (ha : PA X [e] ta) (hs : starEach [e] X.env = [(false, eval e X.env)] := by rfl) :
    PI X (.Tuple elts kk tpos) (.Call (.Name "enumerate" p) [e] [] pos) (iEnu X.K ta) := ⟨fun pins s σ H R I q => q.elim (fun q => (pi_enum hg hm ha hs).run pins s σ H R I q) fun q => (pi_enumT hg hm ha hs).run pins s σ H R I q⟩
def iZipE (K : PySem.W.Frag) (t : TA) : TI := fun σ H R => RZ.iZipA K t σ H R ∨ iZipM K t σ H R ∨ iZipN K t σ H R
theorem pi_zipE {e e2 : Expr} {ta : TA} {p pos tpos : Pos} {elts : List Expr} {kk : Nat} (hg : Gl X "zip") (hm : X.mg "zip" = none) (ha : PA X [e, e2] ta)
    (hs : starEach [e, e2] X.env = (false, eval e X.env) :: starEach [e2] X.env := by rfl) (hpl : (backTo pos (starEach [e2] X.env)).any (·.1) = false := by rfl) :
    PI X (.Tuple elts kk tpos) (.Call (.Name "zip" p) [e, e2] [] pos) (iZipE X.K ta) := ⟨fun pins s σ H R I q => by
      rcases q with q | q | q
      · exact (RZ.pi_zipA hg hm ha hs hpl).run pins s σ H R I q
      · exact (pi_zipM hg hm ha hs hpl).run pins s σ H R I q
      · exact (pi_zipN hg hm ha hs hpl).run pins s σ H R I q⟩
end

/-! ### what they compute -/
section
variable {K : PySem.W.Frag} {io : List Nat} {Γ Γ1 Γ2 Γ3 nx bk ct rt : List Sl} {c : Cl} {i : Nat}
def orO (f g : D → D → Option D) : D → D → Option D := fun a b => match f a b with | some d => some d | none => g a b
theorem g2_or {r r' : R2} {f g : D → D → Option D} (h : G2 K r f) (h' : G2 K r' g) : G2 K (orR r r') (orO f g) := by
  intro H W v d u e d' Q hW p q eo k
  unfold orO at eo
  cases ef : f d e with
  | some z => rw [ef] at eo; cases eo; exact .inl (h H W v d u e _ Q hW p q ef k)
  | none => rw [ef] at eo; exact .inr (h' H W v d u e _ Q hW p q eo k)
theorem orO_l {f g : D → D → Option D} {a b d : D} (h : f a b = some d) : orO f g a b = some d := by unfold orO; rw [h]
theorem orO_r {f g : D → D → Option D} {a b d : D} (h : f a b = none) (h' : g a b = some d) : orO f g a b = some d := by unfold orO; rw [h]; exact h'
def orU (f g : D → Option D) : D → Option D := fun a => match f a with | some d => some d | none => g a
theorem g1_or {r r' : List V → Hp → VK → Prop} {f g : D → Option D} (h : G1 K (fun v => r [v]) f) (h' : G1 K (fun v => r' [v]) g) : G1 K (fun v => orC r r' [v]) (orU f g) := by
  intro H W v d d' Q hW p eo k
  unfold orU at eo
  cases ef : f d with
  | some z => rw [ef] at eo; cases eo; exact .inl (h H W v d _ Q hW p ef k)
  | none => rw [ef] at eo; exact .inr (h' H W v d _ Q hW p eo k)
/-- a new list is something new -/
theorem L2'.g2 {r : R2} {f : D → D → Option D} (h : L2' K r f) : G2 K r f := by
  intro H W v d u e d' Q hW p q eo k
  refine h H W v d u e d' Q p q eo fun a vs ds n hd qs => ?_
  subst hd
  exact k _ _ (same_new n) (.lst ⟨upd_same, hW a n⟩ (qs.go (Go.same (same_new n))))
def strO : D → D → Option D | .str i, .str j => if i.length + j.length ≤ sizeLine then some (.str (i ++ j)) else none | _, _ => none
theorem g2_addS : G2 K rAddS strO := by
  intro H W v d u e d' Q hW p q eo k
  cases p with
  | str a =>
    cases q with
    | str b =>
      have eo : (if a.length + b.length ≤ sizeLine then some (D.str (a ++ b)) else none) = some d' := eo
      by_cases h : a.length + b.length ≤ sizeLine
      · rw [if_pos h] at eo; cases eo; exact ⟨a, b, rfl, rfl, h, k _ H (Same.refl H) (.str _)⟩
      · rw [if_neg h] at eo; exact nomatch eo
    | _ => exact nomatch eo
  | _ => cases q <;> exact nomatch eo
def repLD (a b : D) : Option D := match a, b with | .lst ds, .int k => if -(2 ^ 63) ≤ k ∧ k < 2 ^ 63 ∧ ds.length * k.toNat ≤ sizeLine then some (.lst (List.replicate k.toNat ds).flatten) else none | _, _ => none
theorem l2_rep : L2' K rRep repLD := by
  intro H W v d u e d' Q p q eo k
  cases p with
  | @lst a vs ds h r =>
    cases q with
    | int n =>
      have eo : (if -(2 ^ 63) ≤ n ∧ n < 2 ^ 63 ∧ ds.length * n.toNat ≤ sizeLine then some (D.lst (List.replicate n.toNat ds).flatten) else none) = some d' := eo
      by_cases hz : -(2 ^ 63) ≤ n ∧ n < 2 ^ 63 ∧ ds.length * n.toNat ≤ sizeLine
      · rw [if_pos hz] at eo
        cases eo
        exact ⟨a, n, vs, rfl, rfl, h, hz.1, hz.2.1, by rw [r.len]; exact hz.2.2, fun p np => k p _ _ np rfl (r.rep _)⟩
      · rw [if_neg hz] at eo; exact nomatch eo
    | _ => exact nomatch eo
  | _ => cases q <;> exact nomatch eo
def addE (a b : D) : Option D := match a, b with
  | .int i, .int j => some (.int (i + j))
  | .tup ds, .tup es => if ds.length + es.length ≤ sizeLine then some (.tup (ds ++ es)) else none
  | .lst ds, .lst es => if ds.length + es.length ≤ sizeLine then some (.lst (ds ++ es)) else none
  | .str i, .str j => if i.length + j.length ≤ sizeLine then some (.str (i ++ j)) else none
  | _, _ => none
theorem g2_weak {r : R2} {f g : D → D → Option D} (h : G2 K r f) (e : ∀ a b d, g a b = some d → f a b = some d) : G2 K r g := fun H W v d u e' d' Q hW p q eo k => h H W v d u e' d' Q hW p q (e _ _ _ eo) k
theorem g1_weak {r : V → Hp → VK → Prop} {f g : D → Option D} (h : G1 K r f) (e : ∀ a d, g a = some d → f a = some d) : G1 K r g := fun H W v d d' Q hW p eo k => h H W v d d' Q hW p (e _ _ eo) k
theorem e_add : G2 K (rAddE K) addE := by
  refine g2_weak (g2_or g_add (g2_or g2_catA (g2_or l2_cat.g2 g2_addS))) fun a b d e => ?_
  unfold addE at e
  split at e
  · exact orO_l e
  · exact orO_r rfl (orO_l e)
  · exact orO_r rfl (orO_r rfl (orO_l e))
  · exact orO_r rfl (orO_r rfl (orO_r rfl e))
  · exact nomatch e
def mulE (a b : D) : Option D := match a, b with
  | .int i, .int j => if cMul i j = true then some (.int (i * j)) else none
  | .tup ds, .int k => if -(2 ^ 62) ≤ k ∧ k ≤ 1000 ∧ ds.length ≤ 1000 then some (.tup (List.replicate k.toNat ds).flatten) else none
  | .lst ds, .int k => if -(2 ^ 63) ≤ k ∧ k < 2 ^ 63 ∧ ds.length * k.toNat ≤ sizeLine then some (.lst (List.replicate k.toNat ds).flatten) else none
  | _, _ => none
theorem e_mul : G2 K (rMulE K) mulE := by
  refine g2_weak (g2_or g_mul (g2_or g2_repA l2_rep.g2)) fun a b d e => ?_
  unfold mulE at e
  split at e
  · exact orO_l e
  · exact orO_r rfl (orO_l e)
  · exact orO_r rfl (orO_r rfl e)
  · exact nomatch e
/-- equal: scalars as they are, anything else as data -/
def eqE (a b : D) : Option D := orO eqD1 eqDD a b
def neE (a b : D) : Option D := orO neD1 (orO neDD neNilD) a b
theorem e_eq : G2 K (rEqE K) eqE := g2_or g2_eq g2_eqD
theorem e_ne : G2 K (rNeE K) neE := g2_or g2_ne (g2_or g2_neD g2_neNil)
def inE (a b : D) : Option D := orO (inQ false) dinD a b
def ninE (a b : D) : Option D := orO (inQ true) dninD a b
theorem e_in : G2 K (rInE K) inE := g2_or g2_in g2_din
theorem e_nin : G2 K (rNinE K) ninE := g2_or g2_in g2_dnin
def ixSD : D → D → Option D | .str z, .int i => if z.length ≤ sizeLine then (atI z.cps.toList i).map fun c => .str ⟨#[c]⟩ else none | _, _ => none
theorem g2_ixS : G2 K rIxS ixSD := by
  intro H W v d u e d' Q hW p q eo k
  cases p with
  | str z =>
    cases q with
    | int i =>
      have eo : (if z.length ≤ sizeLine then (atI z.cps.toList i).map fun c => D.str ⟨#[c]⟩ else none) = some d' := eo
      by_cases h : z.length ≤ sizeLine
      · rw [if_pos h] at eo
        obtain ⟨ch, e1, rfl⟩ := Option.map_eq_some_iff.mp eo
        exact ⟨z, i, ch, rfl, rfl, h, e1, k _ H (Same.refl H) (.str _)⟩
      · rw [if_neg h] at eo; exact nomatch eo
    | _ => exact nomatch eo
  | _ => cases q <;> exact nomatch eo
def ixE (a b : D) : Option D := match a with
  | .lst _ => ixL a b
  | .tup _ => ixT a b
  | .str _ => ixSD a b
  | .dct _ => dgetD a b
  | _ => none
theorem e_ix : G2 K (rIxE K) ixE := by
  have h : G2 K (orR (rIx K) rDGet) (orO (orO ixL (orO ixT ixSD)) dgetD) := g2_or (g2_or g2_ixL (g2_or g2_ixT g2_ixS)) g2_dget
  refine g2_weak h fun a b d e => ?_
  unfold ixE at e
  split at e
  · exact orO_l (orO_l e)
  · exact orO_l (orO_r rfl (orO_l e))
  · exact orO_l (orO_r rfl (orO_r rfl e))
  · exact orO_r rfl e
  · exact nomatch e
def sumE (d : D) : Option D := match d with | .lst ds => (intsOf ds).map fun ns => .int ns.sum | .tup ds => (intsOf ds).map fun ns => .int ns.sum | _ => none
def maxE (d : D) : Option D := match d with | .lst ds => (intsOf ds).bind fun ns => (maxI ns).map .int | .tup ds => (intsOf ds).bind fun ns => (maxI ns).map .int | _ => none
theorem orU_l {f g : D → Option D} {a d : D} (h : f a = some d) : orU f g a = some d := by unfold orU; rw [h]
theorem orU_r {f g : D → Option D} {a d : D} (h : f a = none) (h' : g a = some d) : orU f g a = some d := by unfold orU; rw [h]; exact h'
theorem e_sum : G1 K (fun v => rSumE K [v]) sumE := by
  refine g1_weak (g1_or g1_sumL g1_sumT) fun a d e => ?_
  unfold sumE at e
  split at e
  · exact orU_l e
  · exact orU_r rfl e
  · exact nomatch e
theorem e_max : G1 K (fun v => rMaxE K [v]) maxE := by
  refine g1_weak (g1_or g1_maxL g1_maxT) fun a d e => ?_
  unfold maxE at e
  split at e
  · exact orU_l e
  · exact orU_r rfl e
  · exact nomatch e
def reprI : D → Option D | .int i => if i.natAbs.log2 < 1920 then some (.str (toString i)) else none | _ => none
theorem g1_reprI : G1 K (fun v => rReprI [v]) reprI := by
  intro H W v d d' Q hW p eo k
  cases p with
  | int i =>
    have eo : (if i.natAbs.log2 < 1920 then some (D.str (toString i)) else none) = some d' := eo
    by_cases h : i.natAbs.log2 < 1920
    · rw [if_pos h] at eo; cases eo; exact ⟨i, rfl, h, k _ H (Same.refl H) (.str _)⟩
    · rw [if_neg h] at eo; exact nomatch eo
  | _ => exact nomatch eo
def reprE (d : D) : Option D := match d with | .int _ => reprI d | _ => reprD d
theorem e_repr : G1 K (fun v => rReprA K [v]) reprE := by
  refine g1_weak (g1_or g1_repr g1_reprI) fun a d e => ?_
  unfold reprE at e
  split at e
  · exact orU_r rfl e
  · exact orU_l e
/-! what is walked -/
def seqsD : D → Option (List D) | .lst ds => some ds | .tup ds => some ds | _ => none
theorem ri_seq {t : TE} {f : M D} (h : RF K t Γ Γ1 f) : RI K (iSeq K t) Γ Γ1 (itM seqsD f) := by
  intro X σ ρ F H R ds ρ' RR e k
  obtain ⟨a, ρ1, ea, e⟩ := bnd_some e
  obtain ⟨z, eo, er⟩ := lif_some e
  cases a with
  | lst es => exact .inl (ri_list h X σ ρ F H R ds ρ' RR (by unfold itM bnd; rw [ea]; exact e) k)
  | tup es => exact .inr (ri_tup h X σ ρ F H R ds ρ' RR (by unfold itM bnd; rw [ea]; exact e) k)
  | _ => exact nomatch eo
def enuE : List D → Option (List D) | [.lst ds] => some (enumL ds) | [.tup ds] => some (enumL ds) | _ => none
theorem ri_enu {t : TA} {f : M (List D)} (h : RA K t Γ Γ1 f) : RI K (iEnu K t) Γ Γ1 (itA enuE f) := by
  intro X σ ρ F H R ds ρ' RR e k
  obtain ⟨a, ρ1, ea, e⟩ := bnd_some e
  obtain ⟨z, eo, er⟩ := lif_some e
  unfold enuE at eo
  split at eo
  · exact .inl (ri_enumL h X σ ρ F H R ds ρ' RR (by unfold itA bnd; rw [ea]; cases eo; cases er; rfl) k)
  · exact .inr (ri_enumT h X σ ρ F H R ds ρ' RR (by unfold itA bnd; rw [ea]; cases eo; cases er; rfl) k)
  · exact nomatch eo
def zipE : List D → Option (List D)
  | [.lst ds, .lst es] => some (zipL ds es) | [.tup ds, .tup es] => some (zipL ds es) | [.lst ds, .tup es] => some (zipL ds es) | [.tup ds, .lst es] => some (zipL ds es) | _ => none
theorem ri_zipE {t : TA} {f : M (List D)} (h : RA K t Γ Γ1 f) : RI K (iZipE K t) Γ Γ1 (itA zipE f) := by
  intro X σ ρ F H R ds ρ' RR e k
  obtain ⟨a, ρ1, ea, e⟩ := bnd_some e
  obtain ⟨z, eo, er⟩ := lif_some e
  unfold zipE at eo
  split at eo
  · exact .inl (ri_zipA h X σ ρ F H R ds ρ' RR (by unfold itA bnd; rw [ea]; cases eo; cases er; rfl) k)
  · exact .inl (ri_zipA h X σ ρ F H R ds ρ' RR (by unfold itA bnd; rw [ea]; cases eo; cases er; rfl) k)
  · exact .inr (.inl (ri_zipM h X σ ρ F H R ds ρ' RR (by unfold itA bnd; rw [ea]; cases eo; cases er; rfl) k))
  · exact .inr (.inr (ri_zipN h X σ ρ F H R ds ρ' RR (by unfold itA bnd; rw [ea]; cases eo; cases er; rfl) k))
  · exact nomatch eo
/-! slices -/
def slE (d : D) (lo hi : Option Int) : Option D := match d with | .tup ds => some (.tup (cutD ds lo hi)) | .lst ds => some (.lst (cutD ds lo hi)) | _ => none
theorem rf_sl {te : TE} {tl th : TO} {f : M D} {fl fh : M (Option Int)} (h : RF K te Γ Γ1 f) (hl : ROp K tl Γ1 Γ2 fl) (hh : ROp K th Γ2 Γ3 fh) : RF K (tSl (rSlE K) te tl th) Γ Γ3 (slM slE f fl fh) := by
  intro X σ ρ F H Q d ρ' R e k
  obtain ⟨a, ρ1, ea, e⟩ := bnd_some e
  obtain ⟨lo, ρ2, el, e⟩ := bnd_some e
  obtain ⟨hi, ρ3, eh, e⟩ := bnd_some e
  obtain ⟨z, eo, er⟩ := lif_some e
  cases er
  have up : ∀ {r r' : V → Option Int → Option Int → Hp → VK → Prop}, (∀ x l u H, r x l u H Q → r' x l u H Q) → True := fun _ => trivial
  refine h X σ ρ F H _ a ρ1 R ea fun v F1 H1 R1 p1 s1 => ?_
  refine hl X σ ρ1 F1 H1 _ lo ρ2 R1 el fun F2 H2 R2 s2 => ?_
  refine hh X σ ρ2 F2 H2 _ hi ρ' R2 eh fun F3 H3 R3 s3 => ?_
  have p3 := p1.go ((s2.trans s3).go (X := X))
  have s13 := (s1.trans s2).trans s3
  cases p3 with
  | @tup b vs ds b' q =>
    cases eo
    refine .inr ⟨b, vs, rfl, b'.sq, fun hw => ?_, fun hw p n => ?_⟩
    · refine k _ F3 H3 R3 ?_ s13
      have : cutD ds lo hi = ds := by
        unfold cutD
        rw [← q.len, hw.1, hw.2, List.drop_zero, q.len, Nat.sub_zero, List.take_length]
      rw [this]
      exact .tup b' q
    · exact k _ F3 _ (R3.same (same_new n)) (new_tup (fun p => R3.fresh) n q.cut) (s13.trans (.same (same_new n)))
  | @lst b vs ds b' q =>
    cases eo
    exact .inl ⟨b, vs, rfl, b'.sq, fun p n => k _ F3 _ (R3.same (same_new n)) (.lst ⟨upd_same, R3.fresh n⟩ (q.cut.go (Go.same (same_new n)))) (s13.trans (.same (same_new n)))⟩
  | _ => exact nomatch eo
/-- list(d) -/
def listKD : D → Option D | .dct kvs => some (.lst (kvs.map fun kv => keyOf kv.1)) | _ => none
/-- a new dict -/
theorem ro_dnew : RO K (fun _ H Q => ∀ d, H d = none → Q (.ref d) (upd H d (.dK []))) Γ Γ .o1 (rtn (.dct [])) := by
  intro X σ ρ F H Q d ρ' R e k p np
  cases e
  have nF := R.fresh np
  refine k (.ref p) F [p] _ (R.newX np) ⟨p, rfl, rfl, .inr (.inl ⟨[], [], rfl, upd_same, .nil⟩)⟩ (fun b hb z => ?_) (.same (same_new np)) fun b hb => ?_
  · have : b = p := by simpa using hb
    subst this
    exact nF (.inl z)
  · have : b = p := by simpa using hb
    subst this
    exact .inr np
theorem s_never {f : Ms} {t : TS} {L : Tg} : RS K io t Γ L (fun _ => none) := fun X σ ρ F H D r R e p => nomatch e
end
end BV
set_option Elab.async false
set_option linter.all false
set_option maxRecDepth 100000
namespace BV
open PySem PySem.Spec PyProof.Rows L2 WK
/-- the built-ins that no name of the module hides -/
structure Bl (mg : Str → Option Value) : Prop where
  int : mg "int" = none
  abs : mg "abs" = none
  len : mg "len" = none
  max : mg "max" = none
  min : mg "min" = none
  tuple : mg "tuple" = none
  range : mg "range" = none
  zip : mg "zip" = none
  enumerate : mg "enumerate" = none
  repr : mg "repr" = none
  sum : mg "sum" = none
  all : mg "all" = none
  any : mg "any" = none
  sorted : mg "sorted" = none
  list : mg "list" = none
  dict : mg "dict" = none
  set : mg "set" = none
  isinstance : mg "isinstance" = none
  reversed : mg "reversed" = none
/-! ### draws -/
def refillR : List Int → Int → List Int × Int
  | [], l => ([], l)
  | c :: cs, l => if l < 2 then refillR cs c else (c :: cs, l)
def stkL (cells : List Int) (left many : Int) : List Int × Int := if many > 1 then refillR cells.reverse left else (cells.reverse, left)
theorem stkL_stop {cells : List Int} {left many : Int} (h : many ≤ 1 ∨ ¬ left < 2 ∨ cells = []) : stkL cells left many = (cells.reverse, left) := by
  unfold stkL
  split
  · next hm =>
    rcases h with h | h | h
    · omega
    · cases e : cells.reverse with
      | nil => rfl
      | cons c cs => unfold refillR; rw [if_neg h]
    · subst h; rfl
  · rfl
theorem stkL_step {cells : List Int} {left many z : Int} (hm : many > 1) (hl : left < 2) (hz : cells[cells.length - 1]? = some z) : stkL cells left many = stkL cells.dropLast z many := by
  unfold stkL
  rw [if_pos hm, if_pos hm]
  have hne : cells ≠ [] := by rintro rfl; simp at hz
  have e : cells = cells.dropLast ++ [z] := by
    have h1 := List.dropLast_concat_getLast hne
    have h2 : cells.getLast hne = z := by
      rw [List.getLast_eq_getElem]
      rw [List.getElem?_eq_getElem (by have := List.length_pos_iff.mpr hne; omega)] at hz
      exact Option.some.inj hz
    rw [h2] at h1
    exact h1.symm
  have e2 : cells.reverse = z :: cells.dropLast.reverse := by
    conv => lhs; rw [e]
    simp
  rw [e2]
  conv => lhs; unfold refillR
  rw [if_pos hl]
def m1F (m t : Int) : Int := (m + (t + 1) * 104729) % 998244353
def m2F (m t : Int) : Int := (m1F m t * m1F m t + (t + 1) * 17) % 2147483647
def mx1 (many : Int) : Int := if many > 1 then many else 1
def pickL (l m t many : Int) : Int := if many < 2 ∨ l > 1 then l.fmod (mx1 many) else (m2F m t / 16).fmod many
def pickR (s : Sr) (many : Int) : Int := pickL (stkL s.cells s.left many).2 s.mixed s.turn many
def pickT (cs : List Int) (l m t many : Int) : Sr := if many < 2 ∨ l > 1 then ⟨cs.reverse, l.fdiv (mx1 many), m, t⟩ else ⟨cs.reverse, l, m2F m t, t + 1⟩
def pickS (s : Sr) (many : Int) : Sr := pickT (stkL s.cells s.left many).1 (stkL s.cells s.left many).2 s.mixed s.turn many
theorem mx1_pos {many : Int} : 0 < mx1 many := by unfold mx1; split <;> omega
theorem pickR_range {s : Sr} {many : Int} : 0 ≤ pickR s many ∧ (pickR s many < many ∨ pickR s many = 0) := by
  unfold pickR pickL
  split
  · have := fmod_bounds (a := (stkL s.cells s.left many).2) (mx1_pos (many := many))
    refine ⟨this.1, ?_⟩
    have h2 := this.2
    have h1 := this.1
    by_cases hm : many > 1
    · have e : mx1 many = many := if_pos hm
      rw [e] at h2 ⊢
      exact .inl h2
    · have e : mx1 many = 1 := if_neg hm
      rw [e] at h1 h2 ⊢
      right
      omega
  · next h =>
    have := fmod_bounds (a := m2F s.mixed s.turn / 16) (b := many) (by omega)
    exact ⟨this.1, .inl this.2⟩
theorem pickR_lt {s : Sr} {many : Int} (h : 1 ≤ many) : 0 ≤ pickR s many ∧ pickR s many < many := by
  have := pickR_range (s := s) (many := many)
  omega
def F_pick (ds : List D) : Option (D × List D) := match ds with
  | [.src s, .int many] => if many < 1073741824 then some (.int (pickR s many), [.src (pickS s many), .int many]) else none
  | _ => none
theorem F_pick_len {ds : List D} {r : D × List D} (h : F_pick ds = some r) : ds.length = 2 := by
  unfold F_pick at h
  split at h
  · rfl
  · exact nomatch h
def mixF (m c : Int) : Int := (m * 69069 + c * 31 + 5) % 2147483629
def srcOf (ns : List Int) : Sr := ⟨(ns.map fun z => (z.natAbs : Int)).reverse, 1, ns.foldl mixF 11, 0⟩
def F_source (ds : List D) : Option (D × List D) := match ds with
  | [.scr ns] => if ns.length ≤ 63 then some (.src (srcOf ns), [.scr ns]) else none
  | _ => none
theorem F_source_len {ds : List D} {r : D × List D} (h : F_source ds = some r) : ds.length = 1 := by
  unfold F_source at h
  split at h
  · rfl
  · exact nomatch h
/-- what the defs of the draws promise over the heap -/
def spPickX : Sp := fun vs H Q _ => ∃ (p c : Addr) (cells : List Int) (l m t many : Int), vs = [.ref p, .int many] ∧ many < 1073741824 ∧ p ≠ c ∧ H p = some (.dK (srcK c l m t)) ∧ H c = some (.lst (cells.map V.int)) ∧
  ∀ (H' : Hp) (s' : Sr), s' = pickT (stkL cells l many).1 (stkL cells l many).2 m t many → H' p = some (.dK (srcK c s'.left s'.mixed s'.turn)) → H' c = some (.lst (s'.cells.map V.int)) → Off p c H H' → Q (.int (pickL (stkL cells l many).2 m t many)) H'
def spSourceX (K : PySem.W.Frag) : Sp := fun vs H Q _ => ∃ (a : Addr) (ns : List Int), vs = [.ref a] ∧ SqL K H a (ns.map V.int) ∧ ns.length ≤ 63 ∧
  ∀ (H' : Hp) (p c : Addr), H' p = some (.dK (srcK c 1 (ns.foldl mixF 11) 0)) → H' c = some (.lst ((srcOf ns).cells.map V.int)) → p ≠ c → Same H H' → H p = none → H c = none → Q (.ref p) H'
section
variable {K : PySem.W.Frag}
theorem pick_imp (vs : List V) (H : Hp) (Q : VK) (E : XK) (h : spB K [.v .src, .v .fz] .fz F_pick vs H Q E) : spPickX vs H Q E := by
  obtain ⟨X, ds, F, d, ds', R, e, k⟩ := h
  unfold F_pick at e
  split at e
  · next s many =>
    by_cases hm : many < 1073741824
    · rw [if_pos hm] at e
      cases e
      have l1 := R.len
      match vs, l1 with
      | [v, u], _ =>
        obtain ⟨v0, ev, p, c, s0, rfl, es, hF, npc, hp, hc⟩ := R.slot (i := 0) (c := .src) (d := .src s) rfl rfl
        obtain ⟨u0, eu, _, pu⟩ := R.slot (i := 1) (c := .fz) (d := .int many) rfl rfl
        cases es
        cases ev
        cases eu
        cases pu
        refine ⟨p, c, s.cells, s.left, s.mixed, s.turn, many, rfl, hm, npc, hp, hc, fun H' s' es hp' hc' off => ?_⟩
        have hk : ∀ b o, H b = some o → b ∉ F 0 → H' b = some o := fun b o e n => by
          rw [hF] at n
          exact off b o (fun z => n (by simp [z])) (fun z => n (by simp [z])) e
        have gH : Go H (Ws X F) H' (Ws (fun b => X b ∨ b ∈ []) F) := by
          refine ⟨fun b xs n e => hk b _ e fun z => n (.inr ⟨0, z⟩), fun b w nw n r => ?_, fun b z => ?_⟩
          · rcases r with r | ⟨o, r⟩
            · exact .inl (hk b _ r fun z => n (.inr ⟨0, z⟩))
            · exact .inr ⟨o, hk b _ r fun z => n (.inr ⟨0, z⟩)⟩
          · exact .inl (ws_nil.mp z)
        have F1 : ∀ j, j ≠ 0 → F j = [] := fun j hj => R.noF (by
          match j, hj with
          | 1, _ => rfl
          | n + 2, _ => rfl)
        refine k (.int _) F [] H' ⟨rfl, rfl, fun j => ?_, R.dis, fun b z => ⟨?_, ?_⟩, fun j b z => ?_⟩ ⟨rfl, .int _⟩ (fun b z => nomatch z) ⟨fun b o e n => hk b o e (n 0), fun j b z => .inl ⟨j, z⟩⟩ fun b z => nomatch z
        · match j with
          | 0 => exact ⟨.ref p, rfl, p, c, pickS s many, rfl, rfl, hF, npc, by rw [hp', es]; rfl, by rw [hc', es]; rfl⟩
          | 1 => exact F1 1 (by decide)
          | n + 2 => exact F1 (n + 2) (by omega)
        · rcases z with z | z
          · have := R.xt b z
            cases e : H b with
            | none => exact absurd e this.1
            | some o => rw [hk b o e (this.2 0)]; exact (fun z => nomatch z)
          · exact nomatch z
        · rcases z with z | z
          · exact (R.xt b z).2
          · exact nomatch z
        · match j with
          | 0 =>
            rw [hF] at z
            have : b = p ∨ b = c := by simpa using z
            rcases this with rfl | rfl
            · rw [hp']; exact (fun z => nomatch z)
            · rw [hc']; exact (fun z => nomatch z)
          | n + 1 => rw [F1 (n + 1) (by omega)] at z; exact nomatch z
    · rw [if_neg hm] at e; exact nomatch e
  · exact nomatch e
theorem source_imp (vs : List V) (H : Hp) (Q : VK) (E : XK) (h : spB K [.v .fz] .src F_source vs H Q E) : spSourceX K vs H Q E := by
  obtain ⟨X, ds, F, d, ds', R, e, k⟩ := h
  unfold F_source at e
  split at e
  · next ns =>
    by_cases hm : ns.length ≤ 63
    · rw [if_pos hm] at e
      cases e
      have l1 := R.len
      match vs, l1 with
      | [v], _ =>
        obtain ⟨v0, ev, _, pv⟩ := R.slot (i := 0) (c := .fz) (d := .scr ns) rfl rfl
        cases ev
        cases pv with
        | @scr a _ hz =>
          refine ⟨a, ns, rfl, hz.sq, hm, fun H' p c hp hc npc sm np nc => ?_⟩
          have F0 : ∀ j, F j = [] := fun j => R.noF (by
            match j with
            | 0 => rfl
            | n + 1 => rfl)
          have R' := R.same sm
          have tr : ∀ b, b ∈ [p, c] → H' b ≠ none ∧ H b = none := fun b hb => by
            have : b = p ∨ b = c := by simpa using hb
            rcases this with rfl | rfl
            · exact ⟨by rw [hp]; exact (fun z => nomatch z), np⟩
            · exact ⟨by rw [hc]; exact (fun z => nomatch z), nc⟩
          refine k (.ref p) F [p, c] H' ⟨rfl, rfl, fun j => ?_, R.dis, fun b z => ⟨?_, fun j z => ?_⟩, R'.ft⟩ ⟨p, c, srcOf ns, rfl, rfl, rfl, npc, hp, hc⟩ (fun b hb z => (R.xt b z).1 (tr b hb).2) (.same sm) fun b hb => .inr (tr b hb).2
          · match j with
            | 0 => exact F0 0
            | n + 1 => exact F0 (n + 1)
          · rcases z with z | z
            · exact (R'.xt b z).1
            · exact (tr b z).1
          · rw [F0 j] at z; exact nomatch z
    · rw [if_neg hm] at e; exact nomatch e
  · exact nomatch e
end
/-! ### a def that never comes to its end without return -/
def NN (f : Ms) : Prop := ∀ ρ ρ', f ρ ≠ some (.nx ρ')
theorem nn_ret {f : M D} : NN (retS f) := fun ρ ρ' e => by
  obtain ⟨p, _, h⟩ := Option.map_eq_some_iff.mp e
  exact nomatch h
theorem nn_seq {f g : Ms} (h : NN g) : NN (seqS f g) := fun ρ ρ' e => by
  obtain ⟨r, _, h'⟩ := Option.bind_eq_some_iff.mp e
  cases r with
  | nx ρ1 => exact h ρ1 ρ' h'
  | bk ρ1 => cases h'
  | ct ρ1 => cases h'
  | rt d ρ1 => cases h'
theorem nn_if {c : M Bool} {f g : Ms} (h : NN f) (h' : NN g) : NN (ifS c f g) := fun ρ ρ' e => by
  obtain ⟨p, _, e⟩ := Option.bind_eq_some_iff.mp e
  split at e
  · exact h _ _ e
  · exact h' _ _ e
/-- a law's start -/
theorem law_start {K : PySem.W.Frag} {Fn : List D → Option (D × List D)} {H : Hp} {Q : VK} {E : XK} {a : Addr} {ns : List Int} (hS : SqL K H a (ns.map V.int)) (h : ∃ as, Fn [.scr ns] = some (.bl true, as)) (q : ∀ H', Q (.bl true) H') : spB K [.v .fz] .fz Fn [.ref a] H Q E := by
  obtain ⟨as, e⟩ := h
  refine ⟨fun _ => False, [.scr ns], fun _ => [], .bl true, as, ⟨rfl, rfl, fun j => ?_, fun j k b z => (nomatch z), fun b z => z.elim, fun j b z => (nomatch z)⟩, e, fun v F' G H' R o nx s g => ?_⟩
  · match j with
    | 0 =>
      refine ⟨.ref a, rfl, rfl, .scr ?_⟩
      rcases hS with z | z
      · exact .inl ⟨z, fun z => z.elim (fun z => z) fun ⟨_, z⟩ => (nomatch z)⟩
      · exact .inr z
    | n + 1 => rfl
  · obtain ⟨_, p⟩ := o
    cases p
    exact q H'
end BV
set_option Elab.async false
set_option linter.all false
set_option maxRecDepth 100000
namespace BV
open PySem PySem.Spec PyProof.Rows L2 WK
/-! ### what a function gives, step by step -/
def Wp {α : Type} (m : M α) (ρ : Env) (Q : α → Env → Prop) : Prop := ∃ a ρ', m ρ = some (a, ρ') ∧ Q a ρ'
def Wss (f : Ms) (ρ : Env) (Q : Fl → Prop) : Prop := ∃ r, f ρ = some r ∧ Q r
def vof (o : Option (D × List D)) : Option D := o.map (·.1)
section
variable {α β : Type} {ρ : Env} {i j l : Nat} {f g h : M D} {c d : M Bool} {fa : M (List D)}
theorem wp_rtn {a : α} {Q : α → Env → Prop} : Wp (rtn a) ρ Q ↔ Q a ρ := ⟨fun ⟨_, _, e, q⟩ => by cases e; exact q, fun q => ⟨a, ρ, rfl, q⟩⟩
theorem wp_bnd {m : M α} {k : α → M β} {Q : β → Env → Prop} : Wp (bnd m k) ρ Q ↔ Wp m ρ fun a ρ1 => Wp (k a) ρ1 Q := by
  constructor
  · rintro ⟨b, ρ', e, q⟩
    obtain ⟨a, ρ1, e1, e2⟩ := bnd_some e
    exact ⟨a, ρ1, e1, b, ρ', e2, q⟩
  · rintro ⟨a, ρ1, e1, b, ρ', e2, q⟩
    exact ⟨b, ρ', by unfold bnd; rw [e1]; exact e2, q⟩
theorem wp_lif {o : Option α} {Q : α → Env → Prop} : Wp (lif o) ρ Q ↔ ∃ a, o = some a ∧ Q a ρ := by
  constructor
  · rintro ⟨a, ρ', e, q⟩
    obtain ⟨b, e1, e2⟩ := lif_some e
    cases e2
    exact ⟨_, e1, q⟩
  · rintro ⟨a, rfl, q⟩
    exact ⟨a, ρ, rfl, q⟩
theorem wp_getE {Q : D → Env → Prop} : Wp (getE i) ρ Q ↔ ∃ d, ρ[i]? = some (some d) ∧ Q d ρ := by
  constructor
  · rintro ⟨a, ρ', e, q⟩
    obtain ⟨e1, e2⟩ := getE_some e
    cases e2
    exact ⟨a, e1, q⟩
  · rintro ⟨d, e, q⟩
    exact ⟨d, ρ, by unfold getE; rw [e], q⟩
theorem wp_b1 {op : D → Option D} {Q : D → Env → Prop} : Wp (b1 op f) ρ Q ↔ Wp f ρ fun a ρ1 => ∃ d, op a = some d ∧ Q d ρ1 := by unfold b1; simp only [wp_bnd, wp_lif]
theorem wp_b2 {op : D → D → Option D} {Q : D → Env → Prop} : Wp (b2 op f g) ρ Q ↔ Wp f ρ fun a ρ1 => Wp g ρ1 fun b ρ2 => ∃ d, op a b = some d ∧ Q d ρ2 := by unfold b2; simp only [wp_bnd, wp_lif]
theorem wp_b2o {op : D → D → Option D} {Q : D → Env → Prop} : Wp (b2o op i g) ρ Q ↔ ∃ a0, ρ[i]? = some (some a0) ∧ Wp g ρ fun b ρ2 => ∃ a, ρ2[i]? = some (some a) ∧ ∃ d, op a b = some d ∧ Q d ρ2 := by unfold b2o; simp only [wp_bnd, wp_lif, wp_getE]
theorem wp_consA {Q : List D → Env → Prop} : Wp (consA f fa) ρ Q ↔ Wp f ρ fun a ρ1 => Wp fa ρ1 fun as ρ2 => Q (a :: as) ρ2 := by unfold consA; simp only [wp_bnd, wp_rtn]
theorem if_some {p : Prop} [Decidable p] {a b : α} : (if p then some a else none) = some b ↔ p ∧ a = b := by
  by_cases hp : p
  · rw [if_pos hp]; exact ⟨fun e => ⟨hp, Option.some.inj e⟩, fun e => by rw [e.2]⟩
  · rw [if_neg hp]; exact ⟨fun e => (nomatch e), fun e => absurd e.1 hp⟩
theorem wp_tupE {Q : D → Env → Prop} : Wp (tupE fa) ρ Q ↔ Wp fa ρ fun ds ρ1 => ds.length ≤ sizeLine ∧ Q (.tup ds) ρ1 := by
  unfold tupE
  simp only [wp_bnd, wp_lif, if_some]
  constructor
  · rintro ⟨a, ρ1, e, d, ⟨h, rfl⟩, q⟩; exact ⟨a, ρ1, e, h, q⟩
  · rintro ⟨a, ρ1, e, h, q⟩; exact ⟨a, ρ1, e, _, ⟨h, rfl⟩, q⟩
theorem wp_lstE {Q : D → Env → Prop} : Wp (lstE fa) ρ Q ↔ Wp fa ρ fun ds ρ1 => ds.length ≤ sizeLine ∧ Q (.lst ds) ρ1 := by
  unfold lstE
  simp only [wp_bnd, wp_lif, if_some]
  constructor
  · rintro ⟨a, ρ1, e, d, ⟨h, rfl⟩, q⟩; exact ⟨a, ρ1, e, h, q⟩
  · rintro ⟨a, ρ1, e, h, q⟩; exact ⟨a, ρ1, e, _, ⟨h, rfl⟩, q⟩
theorem wp_bt {Q : Bool → Env → Prop} : Wp (bt f) ρ Q ↔ Wp f ρ fun d ρ1 => ∃ b, isB d = some b ∧ Q b ρ1 := by unfold bt; simp only [wp_bnd, wp_lif]
theorem wp_iteM {m n : M α} {Q : α → Env → Prop} : Wp (iteM c m n) ρ Q ↔ Wp c ρ fun b ρ1 => if b = true then Wp m ρ1 Q else Wp n ρ1 Q := by
  unfold iteM
  rw [wp_bnd]
  constructor <;> rintro ⟨a, ρ1, e, q⟩ <;> refine ⟨a, ρ1, e, ?_⟩ <;> cases a <;> exact q
theorem wp_andM {Q : Bool → Env → Prop} : Wp (andM c d) ρ Q ↔ Wp c ρ fun b ρ1 => if b = true then Wp d ρ1 Q else Q false ρ1 := by
  unfold andM
  rw [wp_bnd]
  constructor <;> rintro ⟨a, ρ1, e, q⟩ <;> refine ⟨a, ρ1, e, ?_⟩ <;> cases a <;> first | exact q | exact wp_rtn.mp q | exact wp_rtn.mpr q
theorem wp_orM {Q : Bool → Env → Prop} : Wp (orM c d) ρ Q ↔ Wp c ρ fun b ρ1 => if b = true then Q true ρ1 else Wp d ρ1 Q := by
  unfold orM
  rw [wp_bnd]
  constructor <;> rintro ⟨a, ρ1, e, q⟩ <;> refine ⟨a, ρ1, e, ?_⟩ <;> cases a <;> first | exact q | exact wp_rtn.mp q | exact wp_rtn.mpr q
theorem wp_notM {Q : Bool → Env → Prop} : Wp (notM c) ρ Q ↔ Wp c ρ fun b ρ1 => Q (!b) ρ1 := by unfold notM; simp only [wp_bnd, wp_rtn]
theorem wp_andV {Q : D → Env → Prop} : Wp (andV f g) ρ Q ↔ Wp f ρ fun a ρ1 => ∃ b, isB a = some b ∧ if b = true then Wp g ρ1 Q else Q (.bl false) ρ1 := by
  unfold andV
  simp only [wp_bnd, wp_lif]
  constructor <;> rintro ⟨a, ρ1, e, b, e1, q⟩ <;> refine ⟨a, ρ1, e, b, e1, ?_⟩ <;> cases b <;> first | exact q | exact wp_rtn.mp q | exact wp_rtn.mpr q
theorem wp_orV {Q : D → Env → Prop} : Wp (orV f g) ρ Q ↔ Wp f ρ fun a ρ1 => ∃ b, isB a = some b ∧ if b = true then Q (.bl true) ρ1 else Wp g ρ1 Q := by
  unfold orV
  simp only [wp_bnd, wp_lif]
  constructor <;> rintro ⟨a, ρ1, e, b, e1, q⟩ <;> refine ⟨a, ρ1, e, b, e1, ?_⟩ <;> cases b <;> first | exact q | exact wp_rtn.mp q | exact wp_rtn.mpr q
theorem wp_notV {Q : D → Env → Prop} : Wp (notV f) ρ Q ↔ Wp f ρ fun a ρ1 => ∃ b, isB a = some b ∧ Q (.bl (!b)) ρ1 := by unfold notV; simp only [wp_bnd, wp_lif, wp_rtn]
theorem wp_slM {op : D → Option Int → Option Int → Option D} {fl fh : M (Option Int)} {Q : D → Env → Prop} : Wp (slM op f fl fh) ρ Q ↔ Wp f ρ fun a ρ1 => Wp fl ρ1 fun lo ρ2 => Wp fh ρ2 fun hi ρ3 => ∃ d, op a lo hi = some d ∧ Q d ρ3 := by unfold slM; simp only [wp_bnd, wp_lif]
theorem wp_chE {op op' : D → D → Option D} {Q : D → Env → Prop} : Wp (chE op op' f g h) ρ Q ↔ Wp f ρ fun a ρ1 => Wp g ρ1 fun b ρ2 => ∃ c, op a b = some c ∧ ∃ x, isB c = some x ∧ if x = true then Wp h ρ2 fun d ρ3 => ∃ e, op' b d = some e ∧ Q e ρ3 else Q (.bl false) ρ2 := by
  unfold chE
  simp only [wp_bnd, wp_lif]
  constructor <;> rintro ⟨a, ρ1, e, b, ρ2, e1, c, e2, x, e3, q⟩ <;> refine ⟨a, ρ1, e, b, ρ2, e1, c, e2, x, e3, ?_⟩ <;> cases x
  · exact wp_rtn.mp q
  · rw [if_pos rfl] at q ⊢; simpa only [wp_bnd, wp_lif] using q
  · exact wp_rtn.mpr q
  · rw [if_pos rfl] at q ⊢; simpa only [wp_bnd, wp_lif] using q
theorem wp_callM {F : List D → Option (D × List D)} {Q : D → Env → Prop} : Wp (callM F fa) ρ Q ↔ Wp fa ρ fun ds ρ1 => ∃ d, vof (F ds) = some d ∧ Q d ρ1 := by unfold callM; simp only [wp_bnd, wp_lif]; rfl
theorem wp_callS {F : List D → Option (D × List D)} {Q : D → Env → Prop} : Wp (callS F i fa) ρ Q ↔ ∃ s0, ρ[i]? = some (some s0) ∧ Wp fa ρ fun ds ρ1 => ∃ s, ρ1[i]? = some (some s) ∧ ∃ d s' r, F (s :: ds) = some (d, s' :: r) ∧ Q d (ρ1.set i (some s')) := by
  unfold callS
  simp only [wp_bnd, wp_getE]
  constructor
  · rintro ⟨s0, e0, ds, ρ1, e1, s, e2, a, ρ2, e3, q⟩
    obtain ⟨⟨d, as⟩, e4, e5⟩ := Option.bind_eq_some_iff.mp e3
    cases as with
    | nil => exact nomatch e5
    | cons s' r => cases e5; exact ⟨s0, e0, ds, ρ1, e1, s, e2, _, _, _, e4, q⟩
  · rintro ⟨s0, e0, ds, ρ1, e1, s, e2, d, s', r, e3, q⟩
    exact ⟨s0, e0, ds, ρ1, e1, s, e2, d, _, by rw [e3]; rfl, q⟩
theorem wp_itM {hh : D → Option (List D)} {Q : List D → Env → Prop} : Wp (itM hh f) ρ Q ↔ Wp f ρ fun a ρ1 => ∃ ds, hh a = some ds ∧ Q ds ρ1 := by unfold itM; simp only [wp_bnd, wp_lif]
theorem wp_itA {hh : List D → Option (List D)} {Q : List D → Env → Prop} : Wp (itA hh fa) ρ Q ↔ Wp fa ρ fun a ρ1 => ∃ ds, hh a = some ds ∧ Q ds ρ1 := by unfold itA; simp only [wp_bnd, wp_lif]
theorem wp_keysM {Q : List D → Env → Prop} : Wp (keysM i) ρ Q ↔ ∃ kvs, ρ[i]? = some (some (.dct kvs)) ∧ Q (kvs.map fun kv => keyOf kv.1) ρ := by
  unfold keysM
  simp only [wp_bnd, wp_lif, wp_getE]
  constructor
  · rintro ⟨d, e, ds, e1, q⟩
    cases d with
    | dct kvs => cases e1; exact ⟨kvs, e, q⟩
    | _ => exact nomatch e1
  · rintro ⟨kvs, e, q⟩
    exact ⟨_, e, _, rfl, q⟩
theorem wp_lcM {fi : M (List D)} {gg : D → Env → Option Env} {ft : M Bool} {fe : M D} {vs : List Nat} {Q : D → Env → Prop} : Wp (lcM fi gg ft fe vs) ρ Q ↔ Wp fi ρ fun ds ρ1 => ∃ out ρ2, lcE gg ft fe vs ds ρ1 [] = some (out, ρ2) ∧ Q (.lst out) ρ2 := by
  unfold lcM
  rw [wp_bnd]
  constructor
  · rintro ⟨ds, ρ1, e, a, ρ', e1, q⟩
    obtain ⟨⟨out, ρ2⟩, e2, er⟩ := Option.map_eq_some_iff.mp e1
    cases er
    exact ⟨ds, ρ1, e, out, _, e2, q⟩
  · rintro ⟨ds, ρ1, e, out, ρ2, e2, q⟩
    exact ⟨ds, ρ1, e, _, _, Option.map_eq_some_iff.mpr ⟨_, e2, rfl⟩, q⟩
/-! statements -/
variable {s t : Ms} {Q : Fl → Prop}
/-- what is wanted behind the first of two statements -/
def Sq (t : Ms) (Q : Fl → Prop) : Fl → Prop
  | .nx ρ => Wss t ρ Q
  | .bk ρ => Q (.bk ρ)
  | .ct ρ => Q (.ct ρ)
  | .rt d ρ => Q (.rt d ρ)
theorem sq_nx : Sq t Q (.nx ρ) = Wss t ρ Q := rfl
theorem sq_rt {d : D} : Sq t Q (.rt d ρ) = Q (.rt d ρ) := rfl
theorem sq_bk : Sq t Q (.bk ρ) = Q (.bk ρ) := rfl
theorem sq_ct : Sq t Q (.ct ρ) = Q (.ct ρ) := rfl
theorem ws_seq : Wss (seqS s t) ρ Q ↔ Wss s ρ (Sq t Q) := by
  constructor
  · rintro ⟨r, e, q⟩
    obtain ⟨r1, e1, e2⟩ := Option.bind_eq_some_iff.mp e
    refine ⟨r1, e1, ?_⟩
    cases r1 with
    | nx ρ1 => exact ⟨r, e2, q⟩
    | bk ρ1 => cases e2; exact q
    | ct ρ1 => cases e2; exact q
    | rt d ρ1 => cases e2; exact q
  · rintro ⟨r1, e1, q⟩
    cases r1 with
    | nx ρ1 => obtain ⟨r, e2, q⟩ := q; exact ⟨r, Option.bind_eq_some_iff.mpr ⟨_, e1, e2⟩, q⟩
    | bk ρ1 => exact ⟨_, Option.bind_eq_some_iff.mpr ⟨_, e1, rfl⟩, q⟩
    | ct ρ1 => exact ⟨_, Option.bind_eq_some_iff.mpr ⟨_, e1, rfl⟩, q⟩
    | rt d ρ1 => exact ⟨_, Option.bind_eq_some_iff.mpr ⟨_, e1, rfl⟩, q⟩
theorem ws_next : Wss nextS ρ Q ↔ Q (.nx ρ) := ⟨fun ⟨_, e, q⟩ => by cases e; exact q, fun q => ⟨_, rfl, q⟩⟩
theorem ws_brk : Wss (fun ρ => some (.bk ρ)) ρ Q ↔ Q (.bk ρ) := ⟨fun ⟨_, e, q⟩ => by cases e; exact q, fun q => ⟨_, rfl, q⟩⟩
theorem ws_cnt : Wss (fun ρ => some (.ct ρ)) ρ Q ↔ Q (.ct ρ) := ⟨fun ⟨_, e, q⟩ => by cases e; exact q, fun q => ⟨_, rfl, q⟩⟩
theorem ws_retN : Wss retN ρ Q ↔ Q (.rt .non ρ) := ⟨fun ⟨_, e, q⟩ => by cases e; exact q, fun q => ⟨_, rfl, q⟩⟩
theorem ws_ret : Wss (retS f) ρ Q ↔ Wp f ρ fun d ρ1 => Q (.rt d ρ1) := by
  constructor
  · rintro ⟨r, e, q⟩
    obtain ⟨p, e1, rfl⟩ := Option.map_eq_some_iff.mp e
    exact ⟨p.1, p.2, e1, q⟩
  · rintro ⟨d, ρ1, e, q⟩
    exact ⟨_, Option.map_eq_some_iff.mpr ⟨_, e, rfl⟩, q⟩
theorem ws_drop : Wss (dropS f) ρ Q ↔ Wp f ρ fun d ρ1 => Q (.nx ρ1) := by
  constructor
  · rintro ⟨r, e, q⟩
    obtain ⟨p, e1, rfl⟩ := Option.map_eq_some_iff.mp e
    exact ⟨p.1, p.2, e1, q⟩
  · rintro ⟨d, ρ1, e, q⟩
    exact ⟨_, Option.map_eq_some_iff.mpr ⟨_, e, rfl⟩, q⟩
theorem ws_set : Wss (setS i f) ρ Q ↔ Wp f ρ fun d ρ1 => Q (.nx (ρ1.set i (some d))) := by
  constructor
  · rintro ⟨r, e, q⟩
    obtain ⟨p, e1, rfl⟩ := Option.map_eq_some_iff.mp e
    exact ⟨p.1, p.2, e1, q⟩
  · rintro ⟨d, ρ1, e, q⟩
    exact ⟨_, Option.map_eq_some_iff.mpr ⟨_, e, rfl⟩, q⟩
theorem ws_asg {gg : D → Env → Option Env} : Wss (asgS f gg) ρ Q ↔ Wp f ρ fun d ρ1 => ∃ ρ2, gg d ρ1 = some ρ2 ∧ Q (.nx ρ2) := by
  constructor
  · rintro ⟨r, e, q⟩
    obtain ⟨p, e1, e2⟩ := Option.bind_eq_some_iff.mp e
    obtain ⟨ρ2, e3, rfl⟩ := Option.map_eq_some_iff.mp e2
    exact ⟨p.1, p.2, e1, ρ2, e3, q⟩
  · rintro ⟨d, ρ1, e, ρ2, e2, q⟩
    exact ⟨_, Option.bind_eq_some_iff.mpr ⟨_, e, Option.map_eq_some_iff.mpr ⟨_, e2, rfl⟩⟩, q⟩
theorem ws_if : Wss (ifS c s t) ρ Q ↔ Wp c ρ fun b ρ1 => if b = true then Wss s ρ1 Q else Wss t ρ1 Q := by
  constructor
  · rintro ⟨r, e, q⟩
    obtain ⟨⟨b, ρ1⟩, e1, e2⟩ := Option.bind_eq_some_iff.mp e
    refine ⟨b, ρ1, e1, ?_⟩
    cases b <;> exact ⟨r, e2, q⟩
  · rintro ⟨b, ρ1, e, q⟩
    cases b <;> obtain ⟨r, e2, q⟩ := q <;> exact ⟨r, Option.bind_eq_some_iff.mpr ⟨_, e, e2⟩, q⟩
theorem ws_for {fi : M (List D)} {gg : D → Env → Option Env} : Wss (forS fi gg s) ρ Q ↔ Wp fi ρ fun ds ρ1 => Wss (forE gg s ds) ρ1 Q := by
  constructor
  · rintro ⟨r, e, q⟩
    obtain ⟨p, e1, e2⟩ := Option.bind_eq_some_iff.mp e
    exact ⟨p.1, p.2, e1, r, e2, q⟩
  · rintro ⟨ds, ρ1, e, r, e2, q⟩
    exact ⟨r, Option.bind_eq_some_iff.mpr ⟨_, e, e2⟩, q⟩
theorem ws_append : Wss (appS i f) ρ Q ↔ ∃ ds0, ρ[i]? = some (some (.lst ds0)) ∧ Wp f ρ fun d ρ1 => ∃ ds, ρ1[i]? = some (some (.lst ds)) ∧ ds.length < sizeLine ∧ Q (.nx (ρ1.set i (some (.lst (ds ++ [d]))))) := by
  constructor
  · rintro ⟨r, e, q⟩
    unfold appS at e
    split at e
    · next ds0 hr =>
      obtain ⟨⟨d, ρ1⟩, e1, e⟩ := Option.bind_eq_some_iff.mp e
      split at e
      · next ds hr2 =>
        rw [if_some] at e
        obtain ⟨hl, rfl⟩ := e
        exact ⟨ds0, hr, d, ρ1, e1, ds, hr2, hl, q⟩
      · exact nomatch e
    · exact nomatch e
  · rintro ⟨ds0, hr, d, ρ1, e1, ds, hr2, hl, q⟩
    refine ⟨_, ?_, q⟩
    unfold appS
    rw [hr]
    refine Option.bind_eq_some_iff.mpr ⟨_, e1, ?_⟩
    simp only
    rw [hr2]
    exact if_pos hl
theorem ws_par2 : Wss (par2 i j f g) ρ Q ↔ Wp f ρ fun a ρ1 => Wp g ρ1 fun b ρ2 => Q (.nx ((ρ2.set j (some b)).set i (some a))) := by
  constructor
  · rintro ⟨r, e, q⟩
    obtain ⟨p, e1, e⟩ := Option.bind_eq_some_iff.mp e
    obtain ⟨p2, e2, rfl⟩ := Option.map_eq_some_iff.mp e
    exact ⟨p.1, p.2, e1, p2.1, p2.2, e2, q⟩
  · rintro ⟨a, ρ1, e, b, ρ2, e2, q⟩
    exact ⟨_, Option.bind_eq_some_iff.mpr ⟨_, e, Option.map_eq_some_iff.mpr ⟨_, e2, rfl⟩⟩, q⟩
theorem ws_par3 : Wss (par3 i j l f g h) ρ Q ↔ Wp f ρ fun a ρ1 => Wp g ρ1 fun b ρ2 => Wp h ρ2 fun x ρ3 => Q (.nx (((ρ3.set l (some x)).set j (some b)).set i (some a))) := by
  constructor
  · rintro ⟨r, e, q⟩
    obtain ⟨p, e1, e⟩ := Option.bind_eq_some_iff.mp e
    obtain ⟨p2, e2, e⟩ := Option.bind_eq_some_iff.mp e
    obtain ⟨p3, e3, rfl⟩ := Option.map_eq_some_iff.mp e
    exact ⟨p.1, p.2, e1, p2.1, p2.2, e2, p3.1, p3.2, e3, q⟩
  · rintro ⟨a, ρ1, e, b, ρ2, e2, x, ρ3, e3, q⟩
    exact ⟨_, Option.bind_eq_some_iff.mpr ⟨_, e, Option.bind_eq_some_iff.mpr ⟨_, e2, Option.map_eq_some_iff.mpr ⟨_, e3, rfl⟩⟩⟩, q⟩
theorem ws_put : Wss (putS i f g) ρ Q ↔ Wp f ρ fun d ρ1 => ∃ d0, ρ1[i]? = some (some d0) ∧ Wp g ρ1 fun k ρ2 => ∃ kvs, ρ2[i]? = some (some (.dct kvs)) ∧ ∃ key, keyD k = some key ∧ kvs.length < sizeLine ∧ Q (.nx (ρ2.set i (some (.dct (putKD kvs key d))))) := by
  constructor
  · rintro ⟨r, e, q⟩
    obtain ⟨⟨d, ρ1⟩, e1, e⟩ := Option.bind_eq_some_iff.mp e
    obtain ⟨⟨d0, ρ0⟩, e0, e⟩ := Option.bind_eq_some_iff.mp e
    obtain ⟨⟨k, ρ2⟩, e2, e⟩ := Option.bind_eq_some_iff.mp e
    refine ⟨d, ρ1, e1, d0, (getE_some e0).1, k, ρ2, e2, ?_⟩
    split at e
    · next kvs hr =>
      obtain ⟨key, ek, e⟩ := Option.bind_eq_some_iff.mp e
      rw [if_some] at e
      obtain ⟨hl, rfl⟩ := e
      exact ⟨kvs, hr, key, ek, hl, q⟩
    · exact nomatch e
  · rintro ⟨d, ρ1, e1, d0, e0, k, ρ2, e2, kvs, hr, key, ek, hl, q⟩
    refine ⟨_, Option.bind_eq_some_iff.mpr ⟨_, e1, Option.bind_eq_some_iff.mpr ⟨(d0, ρ1), by unfold getE; rw [e0], Option.bind_eq_some_iff.mpr ⟨_, e2, ?_⟩⟩⟩, q⟩
    simp only
    rw [hr]
    exact Option.bind_eq_some_iff.mpr ⟨key, ek, if_pos hl⟩
theorem ws_seti : Wss (setiS i f g) ρ Q ↔ Wp f ρ fun d ρ1 => ∃ d0, ρ1[i]? = some (some d0) ∧ Wp g ρ1 fun k ρ2 => ∃ ds, ρ2[i]? = some (some (.lst ds)) ∧ ∃ n, k = .int n ∧ ∃ ds', seti ds n d = some ds' ∧ Q (.nx (ρ2.set i (some (.lst ds')))) := by
  constructor
  · rintro ⟨r, e, q⟩
    obtain ⟨⟨d, ρ1⟩, e1, e⟩ := Option.bind_eq_some_iff.mp e
    obtain ⟨⟨d0, ρ0⟩, e0, e⟩ := Option.bind_eq_some_iff.mp e
    obtain ⟨⟨k, ρ2⟩, e2, e⟩ := Option.bind_eq_some_iff.mp e
    refine ⟨d, ρ1, e1, d0, (getE_some e0).1, k, ρ2, e2, ?_⟩
    split at e
    · next ds n hr hk =>
      obtain ⟨ds', es, rfl⟩ := Option.map_eq_some_iff.mp e
      exact ⟨ds, hr, n, hk, ds', es, q⟩
    · exact nomatch e
  · rintro ⟨d, ρ1, e1, d0, e0, k, ρ2, e2, ds, hr, n, rfl, ds', es, q⟩
    refine ⟨_, Option.bind_eq_some_iff.mpr ⟨_, e1, Option.bind_eq_some_iff.mpr ⟨(d0, ρ1), by unfold getE; rw [e0], Option.bind_eq_some_iff.mpr ⟨_, e2, ?_⟩⟩⟩, q⟩
    simp only
    rw [hr]
    exact Option.map_eq_some_iff.mpr ⟨ds', es, rfl⟩
theorem ws_aug {op : Int → Int → Int} : Wss (augS i op f) ρ Q ↔ ∃ a, ρ[i]? = some (some (.int a)) ∧ Wp f ρ fun d ρ1 => ∃ b, d = .int b ∧ Q (.nx (ρ1.set i (some (.int (op a b))))) := by
  constructor
  · rintro ⟨r, e, q⟩
    unfold augS at e
    split at e
    · next a hr =>
      obtain ⟨⟨d, ρ1⟩, e1, e⟩ := Option.bind_eq_some_iff.mp e
      split at e
      · next b hd => cases e; exact ⟨a, hr, d, ρ1, e1, b, hd, q⟩
      · exact nomatch e
    · exact nomatch e
  · rintro ⟨a, hr, d, ρ1, e1, b, rfl, q⟩
    refine ⟨_, ?_, q⟩
    unfold augS
    rw [hr]
    exact Option.bind_eq_some_iff.mpr ⟨_, e1, rfl⟩
theorem Wss.mono {Q' : Fl → Prop} (h : Wss s ρ Q) (k : ∀ r, Q r → Q' r) : Wss s ρ Q' := let ⟨r, e, q⟩ := h; ⟨r, e, k r q⟩
theorem Wp.mono {m : M α} {P P' : α → Env → Prop} (h : Wp m ρ P) (k : ∀ a ρ', P a ρ' → P' a ρ') : Wp m ρ P' := let ⟨a, ρ', e, q⟩ := h; ⟨a, ρ', e, k _ _ q⟩
/-! loops -/
/-- a for, by an invariant over the turn; a turn may also leave it -/
theorem for_inv {gg : D → Env → Option Env} {ds : List D} (I : Nat → Env → Prop) (h0 : I 0 ρ)
    (turn : ∀ j d ρ, ds[j]? = some d → I j ρ → ∃ ρ1, gg d ρ = some ρ1 ∧ Wss s ρ1 fun r => match r with | .nx ρ2 => I (j + 1) ρ2 | .ct ρ2 => I (j + 1) ρ2 | .bk ρ2 => Q (.nx ρ2) | .rt d ρ2 => Q (.rt d ρ2))
    (done : ∀ ρ, I ds.length ρ → Q (.nx ρ)) : Wss (forE gg s ds) ρ Q := by
  have key : ∀ k (ρ : Env), k ≤ ds.length → I (ds.length - k) ρ → Wss (forE gg s (ds.drop (ds.length - k))) ρ Q := by
    intro k
    induction k with
    | zero =>
      intro ρ _ hi
      rw [Nat.sub_zero, List.drop_length]
      exact ⟨_, rfl, done ρ hi⟩
    | succ k ih =>
      intro ρ hk hi
      have hl : ds.length - (k + 1) < ds.length := by omega
      obtain ⟨ρ1, e1, r, e2, q⟩ := turn _ _ ρ (List.getElem?_eq_getElem hl) hi
      rw [List.drop_eq_getElem_cons hl]
      have e3 : ds.length - (k + 1) + 1 = ds.length - k := by omega
      rw [e3] at q ⊢
      cases r with
      | nx ρ2 =>
        obtain ⟨r', e4, q⟩ := ih ρ2 (by omega) q
        exact ⟨r', by unfold forE; rw [e1, Option.bind_some, e2]; exact e4, q⟩
      | ct ρ2 =>
        obtain ⟨r', e4, q⟩ := ih ρ2 (by omega) q
        exact ⟨r', by unfold forE; rw [e1, Option.bind_some, e2]; exact e4, q⟩
      | bk ρ2 => exact ⟨_, by unfold forE; rw [e1, Option.bind_some, e2]; rfl, q⟩
      | rt d ρ2 => exact ⟨_, by unfold forE; rw [e1, Option.bind_some, e2]; rfl, q⟩
  have := key ds.length ρ (Nat.le_refl _) (by rw [Nat.sub_self]; exact h0)
  rwa [Nat.sub_self, List.drop_zero] at this
/-- a while, by an invariant and how often it may still turn -/
theorem while_inv {N : Nat} (I : Nat → Env → Prop) {n : Nat} (h0 : I n ρ) (hN : n < N)
    (turn : ∀ m ρ, I m ρ → Wp c ρ fun b ρ1 => if b = true then Wss s ρ1 fun r => match r with | .nx ρ2 => ∃ m', m' < m ∧ I m' ρ2 | .ct ρ2 => ∃ m', m' < m ∧ I m' ρ2 | .bk ρ2 => Q (.nx ρ2) | .rt d ρ2 => Q (.rt d ρ2) else Q (.nx ρ1)) : Wss (whE c s N) ρ Q := by
  induction N generalizing n ρ with
  | zero => omega
  | succ N ih =>
    obtain ⟨b, ρ1, e1, q⟩ := turn n ρ h0
    cases b with
    | false => exact ⟨_, by unfold whE; rw [e1]; rfl, q⟩
    | true =>
      rw [if_pos rfl] at q
      obtain ⟨r, e2, q⟩ := q
      cases r with
      | nx ρ2 =>
        obtain ⟨m, hm, hi⟩ := q
        obtain ⟨r', e3, q⟩ := ih hi (by omega)
        exact ⟨r', by unfold whE; rw [e1, Option.bind_some, if_pos rfl, e2]; exact e3, q⟩
      | ct ρ2 =>
        obtain ⟨m, hm, hi⟩ := q
        obtain ⟨r', e3, q⟩ := ih hi (by omega)
        exact ⟨r', by unfold whE; rw [e1, Option.bind_some, if_pos rfl, e2]; exact e3, q⟩
      | bk ρ2 => exact ⟨_, by unfold whE; rw [e1, Option.bind_some, if_pos rfl, e2]; rfl, q⟩
      | rt d ρ2 => exact ⟨_, by unfold whE; rw [e1, Option.bind_some, if_pos rfl, e2]; rfl, q⟩
/-- a comprehension whose parts change nothing -/
theorem lc_map {gg : D → Env → Option Env} {ft : M Bool} {fe : M D} {vs : List Nat} (p : D → Bool) (k : D → D) : ∀ {ds : List D} {acc : List D}, acc.length + ds.length ≤ sizeLine →
    (∀ d ∈ ds, ∃ ρ2, gg d (wipeE ρ vs) = some ρ2 ∧ restE ρ vs ρ2 = ρ ∧ Wp ft ρ2 (fun b ρ3 => b = p d ∧ ρ3 = ρ2) ∧ (p d = true → Wp fe ρ2 fun y ρ4 => y = k d ∧ ρ4 = ρ2)) → lcE gg ft fe vs ds ρ acc = some (acc ++ (ds.filter p).map k, ρ)
  | [], acc, _, _ => by unfold lcE; simp
  | d :: ds, acc, hl, h => by
    obtain ⟨ρ2, e1, er, ⟨b, ρ3, e2, rfl, rfl⟩, e3⟩ := h d List.mem_cons_self
    have hl' : acc.length + ds.length ≤ sizeLine := by simp at hl; omega
    unfold lcE
    rw [e1, Option.bind_some, e2, Option.bind_some]
    cases hp : p d with
    | false =>
      simp only [Bool.false_eq_true, if_false, er]
      rw [lc_map p k hl' fun d hd => h d (List.mem_cons_of_mem _ hd), List.filter_cons_of_neg (by simp [hp])]
    | true =>
      obtain ⟨y, ρ4, e4, rfl, rfl⟩ := e3 hp
      simp only [if_true]
      rw [e4, Option.bind_some, if_pos (by simp at hl; omega)]
      simp only [er]
      rw [lc_map p k (by simp at hl ⊢; omega) fun d hd => h d (List.mem_cons_of_mem _ hd), List.filter_cons_of_pos hp, List.map_cons]
      simp
/-- a comprehension, by an invariant -/
theorem lc_inv {gg : D → Env → Option Env} {ft : M Bool} {fe : M D} {vs : List Nat} {ds : List D} {P : List D → Env → Prop} (I : Nat → List D → Env → Prop) (h0 : I 0 [] ρ)
    (turn : ∀ j d acc ρ, ds[j]? = some d → I j acc ρ → ∃ ρ2, gg d (wipeE ρ vs) = some ρ2 ∧ Wp ft ρ2 fun b ρ3 => if b = true then Wp fe ρ3 fun y ρ4 => acc.length < sizeLine ∧ I (j + 1) (acc ++ [y]) (restE ρ vs ρ4) else I (j + 1) acc (restE ρ vs ρ3))
    (done : ∀ acc ρ, I ds.length acc ρ → P acc ρ) : ∃ out ρ', lcE gg ft fe vs ds ρ [] = some (out, ρ') ∧ P out ρ' := by
  have key : ∀ k acc (ρ : Env), k ≤ ds.length → I (ds.length - k) acc ρ → ∃ out ρ', lcE gg ft fe vs (ds.drop (ds.length - k)) ρ acc = some (out, ρ') ∧ P out ρ' := by
    intro k
    induction k with
    | zero =>
      intro acc ρ _ hi
      rw [Nat.sub_zero, List.drop_length] at *
      exact ⟨_, _, rfl, done acc ρ hi⟩
    | succ k ih =>
      intro acc ρ hk hi
      have hl : ds.length - (k + 1) < ds.length := by omega
      obtain ⟨ρ2, e1, b, ρ3, e2, q⟩ := turn _ _ acc ρ (List.getElem?_eq_getElem hl) hi
      rw [List.drop_eq_getElem_cons hl]
      have e3 : ds.length - (k + 1) + 1 = ds.length - k := by omega
      rw [e3] at q ⊢
      unfold lcE
      rw [e1, Option.bind_some, e2, Option.bind_some]
      cases b with
      | false =>
        simp only [Bool.false_eq_true, if_false] at q ⊢
        exact ih _ _ (by omega) q
      | true =>
        simp only [if_true] at q ⊢
        obtain ⟨y, ρ4, e4, hz, q⟩ := q
        rw [e4, Option.bind_some, if_pos hz]
        exact ih _ _ (by omega) q
  have := key ds.length [] ρ (Nat.le_refl _) (by rw [Nat.sub_self]; exact h0)
  rwa [Nat.sub_self, List.drop_zero] at this
/-- a def's value -/
theorem fn_val {N n : Nat} {ff : Ms} {ds : List D} {v : D} (hn : ds.length = n) (h : Wss ff (ds.map some ++ List.replicate (N - n) none) fun r => match r with | .rt d ρ => d = v ∧ (argsE n ρ).isSome = true | .nx ρ => v = .non ∧ (argsE n ρ).isSome = true | _ => False) : vof (fnE N n ff ds) = some v := by
  obtain ⟨r, e, q⟩ := h
  unfold fnE vof
  rw [if_pos hn, e]
  cases r with
  | rt d ρ =>
    obtain ⟨rfl, q⟩ := q
    obtain ⟨as, ea⟩ := Option.isSome_iff_exists.mp q
    simp [ea]
  | nx ρ =>
    obtain ⟨rfl, q⟩ := q
    obtain ⟨as, ea⟩ := Option.isSome_iff_exists.mp q
    simp [ea]
  | bk ρ => exact q.elim
  | ct ρ => exact q.elim
/-- .. and what becomes of its arguments -/
theorem fn_res {N n : Nat} {ff : Ms} {ds : List D} {P : D → List D → Prop} (hn : ds.length = n) (h : Wss ff (ds.map some ++ List.replicate (N - n) none) fun r => match r with | .rt d ρ => ∃ as, argsE n ρ = some as ∧ P d as | .nx ρ => ∃ as, argsE n ρ = some as ∧ P .non as | _ => False) : ∃ d as, fnE N n ff ds = some (d, as) ∧ P d as := by
  obtain ⟨r, e, q⟩ := h
  unfold fnE
  rw [if_pos hn, e]
  cases r with
  | rt d ρ =>
    obtain ⟨as, ea, q⟩ := q
    exact ⟨d, as, by simp [ea], q⟩
  | nx ρ =>
    obtain ⟨as, ea, q⟩ := q
    exact ⟨.non, as, by simp [ea], q⟩
  | bk ρ => exact q.elim
  | ct ρ => exact q.elim
end
end BV
set_option Elab.async false
set_option linter.all false
set_option maxRecDepth 100000
namespace BV
open PySem PySem.Spec PyProof.Rows L2 WK
section
variable {i j : Int} {b c : Bool} {x y : Str} {ds es : List D} {kvs : List (Key × D)} {d e : D}
theorem o_add : addE (.int i) (.int j) = some (.int (i + j)) := rfl
theorem o_addT : addE (.tup ds) (.tup es) = if ds.length + es.length ≤ sizeLine then some (.tup (ds ++ es)) else none := rfl
theorem o_addL : addE (.lst ds) (.lst es) = if ds.length + es.length ≤ sizeLine then some (.lst (ds ++ es)) else none := rfl
theorem o_sub : subO (.int i) (.int j) = some (.int (i - j)) := rfl
theorem o_mul : mulE (.int i) (.int j) = if cMul i j = true then some (.int (i * j)) else none := rfl
theorem o_mulT : mulE (.tup ds) (.int j) = if -(2 ^ 62) ≤ j ∧ j ≤ 1000 ∧ ds.length ≤ 1000 then some (.tup (List.replicate j.toNat ds).flatten) else none := rfl
theorem o_lt : ltO (.int i) (.int j) = some (.bl (decide (i < j))) := rfl
theorem o_le : leO (.int i) (.int j) = some (.bl (decide (i ≤ j))) := rfl
theorem o_gt : gtO (.int i) (.int j) = some (.bl (decide (j < i))) := rfl
theorem o_ge : geO (.int i) (.int j) = some (.bl (decide (j ≤ i))) := rfl
theorem o_max : maxO (.int i) (.int j) = some (.int (if j > i then j else i)) := rfl
theorem o_min : minO (.int i) (.int j) = some (.int (if j < i then j else i)) := rfl
theorem o_neg : negO (.int i) = some (.int (-i)) := rfl
theorem o_abs : absO (.int i) = some (.int (if i < 0 then -i else i)) := rfl
theorem o_fdiv : fdivO (.int i) (.int j) = if cDiv i j = true then some (.int (i / j)) else none := rfl
theorem o_fdivN : fdivNO (.int i) (.int j) = if cDivN i j = true then some (.int (i.fdiv j)) else none := rfl
theorem o_mod : modO (.int i) (.int j) = if cMod i j = true then some (.int (i % j)) else none := rfl
theorem o_modN : modNO (.int i) (.int j) = if cModN i j = true then some (.int (i.fmod j)) else none := rfl
theorem o_pow : powO (.int i) (.int j) = if cPow i j = true then some (.int (i ^ j.toNat)) else none := rfl
theorem o_int : intD (.int i) = some (.int i) := rfl
theorem o_isB : isB (.bl b) = some b := rfl
theorem o_isI : isI (.int i) = some (some i) := rfl
theorem o_truI : truD (.int i) = some (i != 0) := rfl
theorem o_truL : truD (.lst ds) = some (!ds.isEmpty) := rfl
theorem o_truT : truD (.tup ds) = some (!ds.isEmpty) := rfl
theorem o_truB : truD (.bl b) = some b := rfl
theorem o_truN : truD .non = some false := rfl
theorem o_lenL : lenD (.lst ds) = some (.int ds.length) := rfl
theorem o_lenT : lenD (.tup ds) = some (.int ds.length) := rfl
theorem o_ixL : ixE (.lst ds) (.int i) = L2.atI ds i := rfl
theorem o_ixT : ixE (.tup ds) (.int i) = L2.atI ds i := rfl
theorem o_ixK : ixE (.dct kvs) (.int i) = getK kvs (.inl i) := rfl
theorem o_ixS : ixE (.dct kvs) (.str x) = getK kvs (.inr x) := rfl
theorem o_seqL : seqsD (.lst ds) = some ds := rfl
theorem o_seqT : seqsD (.tup ds) = some ds := rfl
theorem o_tupL : tupleD (.lst ds) = some (.tup ds) := rfl
theorem o_tupT : tupleD (.tup ds) = some (.tup ds) := rfl
theorem o_listL : listD (.lst ds) = some (.lst ds) := rfl
theorem o_listT : listD (.tup ds) = some (.lst ds) := rfl
theorem o_rev : revL (.lst ds) = some (.lst ds.reverse) := rfl
theorem o_slL {lo hi : Option Int} : slE (.lst ds) lo hi = some (.lst (cutD ds lo hi)) := rfl
theorem o_slT {lo hi : Option Int} : slE (.tup ds) lo hi = some (.tup (cutD ds lo hi)) := rfl
theorem o_sumL {ns : List Int} : sumE (.lst (ns.map D.int)) = some (.int ns.sum) := by show (intsOf _).map _ = _; rw [intsOf_map]; rfl
theorem o_sumT {ns : List Int} : sumE (.tup (ns.map D.int)) = some (.int ns.sum) := by show (intsOf _).map _ = _; rw [intsOf_map]; rfl
theorem o_maxL {ns : List Int} : maxE (.lst (ns.map D.int)) = (maxI ns).map .int := by show (intsOf _).bind _ = _; rw [intsOf_map]; rfl
theorem o_minL {ns : List Int} : minL (.lst (ns.map D.int)) = (minI ns).map .int := by show (intsOf _).bind _ = _; rw [intsOf_map]; rfl
theorem o_sorted {ns : List Int} : sortedD (.lst (ns.map D.int)) = some (.lst ((sortI ns).map .int)) := by show (intsOf _).map _ = _; rw [intsOf_map]; rfl
theorem o_allL {bs : List Bool} : allL (.lst (bs.map D.bl)) = some (.bl (bs.all id)) := by show (blsOf _).map _ = _; rw [blsOf_map]; rfl
theorem o_anyL {bs : List Bool} : anyL (.lst (bs.map D.bl)) = some (.bl (bs.any id)) := by show (blsOf _).map _ = _; rw [blsOf_map]; rfl
theorem o_vals : valsD (.dct kvs) = some (.lst (kvs.map (·.2))) := rfl
theorem o_keyI : keyD (.int i) = some (.inl i) := rfl
theorem o_keyS : keyD (.str x) = some (.inr x) := rfl
theorem o_isN : isND .non .non = some (.bl true) := rfl
theorem o_eqI : eqE (.int i) (.int j) = some (.bl (decide (i = j))) := rfl
theorem o_neI : neE (.int i) (.int j) = some (.bl (!decide (i = j))) := rfl
theorem o_eqS : eqE (.str x) (.str y) = some (.bl (decide (x = y))) := rfl
theorem o_neS : neE (.str x) (.str y) = some (.bl (!decide (x = y))) := rfl
theorem o_inK : inE (.int i) (.dct kvs) = some (.bl (getK kvs (.inl i)).isSome) := rfl
theorem o_ninK : ninE (.int i) (.dct kvs) = some (.bl (!(getK kvs (.inl i)).isSome)) := rfl
theorem o_zipLL : zipE [.lst ds, .lst es] = some (zipL ds es) := rfl
theorem o_zipTT : zipE [.tup ds, .tup es] = some (zipL ds es) := rfl
theorem o_zipLT : zipE [.lst ds, .tup es] = some (zipL ds es) := rfl
theorem o_zipTL : zipE [.tup ds, .lst es] = some (zipL ds es) := rfl
theorem o_enuL : enuE [.lst ds] = some (enumL ds) := rfl
theorem o_enuT : enuE [.tup ds] = some (enumL ds) := rfl
theorem o_rng1 : rng1 [.int j] = if big j = true then some (rangeL 0 j.toNat) else none := rfl
theorem o_rng2 : rng2 [.int i, .int j] = if (big i && big j) = true then some (rangeL i (j - i).toNat) else none := rfl
theorem atI0 : L2.atI (d :: ds) 0 = some d := by
  refine atI_nat (j := 0) ?_
  rfl
theorem atI1 : L2.atI (d :: e :: ds) 1 = some e := by
  refine atI_nat (j := 1) ?_
  rfl
theorem atI2 {d2 : D} : L2.atI (d :: e :: d2 :: ds) 2 = some d2 := by
  refine atI_nat (j := 2) ?_
  rfl
theorem atI3 {d2 d3 : D} : L2.atI (d :: e :: d2 :: d3 :: ds) 3 = some d3 := by
  refine atI_nat (j := 3) ?_
  rfl
theorem allS_cons {r : List (Option D)} : (allS (some d :: r)).isSome = (allS r).isSome := by
  show ((allS r).map (d :: ·)).isSome = _
  cases allS r <;> rfl
theorem allS_nil : (allS []).isSome = true := rfl
theorem args_take {n : Nat} {ρ : Env} : argsE n ρ = allS (ρ.take n) := rfl
theorem true_if {α : Type} {a b : α} : (if true = true then a else b) = a := rfl
theorem false_if {α : Type} {a b : α} : (if false = true then a else b) = b := rfl
end
end BV
set_option Elab.async false
set_option linter.all false
set_option maxRecDepth 100000
namespace BV
open PySem PySem.Spec PyProof.Rows L2 WK
section
variable {X : Cx}
/-! ### list(x), x a list, a tuple or a dict -/
def rListE (K : PySem.W.Frag) : List V → Hp → VK → Prop := orC (fun xs H Q => ∃ p ys, xs = [.ref p] ∧ (SqL K H p ys ∨ SqT K H p ys) ∧ ∀ l, H l = none → Q (.ref l) (upd H l (.lst ys)))
  (fun xs H Q => ∃ (a : Addr) (kvs : List (Key × V)), xs = [.ref a] ∧ Rd H a (.dK kvs) ∧ ∀ p, H p = none → Q (.ref p) (upd H p (.lst (kvs.map fun kv => kV kv.1))))
theorem cr_listE (hc : X.calm = true) : CallR X (.type "list") (rListE X.K) := cr_or call_list_of (call_listD hc)
/-! ### dict(pairs) -/
def rDictP (K : PySem.W.Frag) : List V → Hp → VK → Prop := fun xs H Q => ∃ (a : Addr) (ps : List Addr) (kvs : List (Key × V)), xs = [.ref a] ∧ SqL K H a (ps.map V.ref) ∧ Paired (fun p kv => SqT K H p [kV kv.1, kv.2]) ps kvs ∧
    ∀ p, H p = none → Q (.ref p) (upd H p (.dK (mergeK [] kvs)))
theorem cr_dictP (hc : X.calm = true) : CallR X (.type "dict") (rDictP X.K) := call_dictP hc
/-! ### repr, of None too -/
def rReprN : List V → Hp → VK → Prop := fun xs H Q => xs = [.non] ∧ Q (.str "None") H
theorem cr_reprN : CallR X (.builtin "repr") rReprN := by
  rintro pins s σ H xs us Q I r ⟨rfl, q⟩
  obtain ⟨u, rfl, ru⟩ := vals1 r
  cases ru
  exact PySem.P.repr_of_none ⟨.str _, H, I.tok _, ⟨_, rfl⟩, q⟩
def rReprX (K : PySem.W.Frag) : List V → Hp → VK → Prop := orC (rReprA K) rReprN
theorem cr_reprX (hg : X.A.guards = some []) (hu : X.A.units + 64 < cLine) : CallR X (.builtin "repr") (rReprX X.K) := cr_or (call_reprA hg hu) cr_reprN
/-! ### d != {} -/
def rNeDE : R2 := fun x y H Q => ∃ a b ks ls, x = .ref a ∧ y = .ref b ∧ Rd H a (.dK ks) ∧ Rd H b (.dK ls) ∧ ls = [] ∧ Q (.bl (!ks.isEmpty)) H
theorem op_neDE (hu : X.A.units + 64 < cLine) : OpR X (compareOp .NotEq) rNeDE := by
  intro pins s σ H x y v u Q I rx ry h
  obtain ⟨a, b, ks, ls, rfl, rfl, ea, eb, rfl, q⟩ := h
  obtain rfl : v = Value.ref a := rx
  obtain rfl : u = Value.ref b := ry
  obtain ⟨_, ya, va, ra, da⟩ := dk_rd I.hok ea
  obtain ⟨_, yb, vb, rb, db⟩ := dk_rd I.hok eb
  have hb : vb = [] := by cases rb; rfl
  subst hb
  refine PySem.W.keq_ne (knd := mixKind X.prog X.w) (r := true) ya yb da db (by omega) (fun hl => ?_) (fin_bl I q (by
    have := ra.length
    cases va <;> cases ks <;> simp_all))
  have : va = [] := List.length_eq_zero_iff.mp hl
  subst this
  exact .nil
end
section
variable {K : PySem.W.Frag} {H : Hp} {W : Addr → Prop} {Γ Γ1 Γ2 : List Sl} {i : Nat}
theorem RpK.keys : ∀ {vs : List (Key × V)} {ds : List (Key × D)}, RpK K H W vs ds → RpA K H W (vs.map fun kv => kV kv.1) (ds.map fun kv => keyOf kv.1)
  | _, _, .nil => .nil
  | _, _, .cons a b => .cons keyOf_rp b.keys
theorem l1_or {r r' : List V → Hp → VK → Prop} {f g : D → Option D} (h : L1 K (fun v => r [v]) f) (h' : L1 K (fun v => r' [v]) g) : L1 K (fun v => orC r r' [v]) (orU f g) := by
  intro H W v d d' Q p eo k
  unfold orU at eo
  cases ef : f d with
  | some z => rw [ef] at eo; cases eo; exact .inl (h H W v d _ Q p ef k)
  | none => rw [ef] at eo; exact .inr (h' H W v d _ Q p eo k)
theorem l1_listKD : L1 K (fun v => (fun xs H Q => ∃ (a : Addr) (kvs : List (Key × V)), xs = [.ref a] ∧ Rd H a (.dK kvs) ∧ ∀ p, H p = none → Q (.ref p) (upd H p (.lst (kvs.map fun kv => kV kv.1)))) [v]) listKD := by
  intro H W v d d' Q p eo k
  cases p with
  | @dct b vs ds rr q =>
    cases eo
    exact ⟨b, vs, rfl, rr, fun p n => k p _ _ n rfl q.keys⟩
  | _ => exact nomatch eo
def listE : D → Option D := orU listD listKD
theorem e_list : L1 K (fun v => rListE K [v]) listE := l1_or l1_list l1_listKD
def pairsD : List D → Option (List (Key × D))
  | [] => some []
  | d :: r => match d with
    | .tup [k, e] => (keyD k).bind fun key => (pairsD r).map ((key, e) :: ·)
    | _ => none
def dictPD (d : D) : Option D := match d with | .lst ds => (pairsD ds).map fun kds => .dct (mergeD [] kds) | _ => none
theorem pairsD_ok : ∀ {vs : List V} {ds : List D} {kds : List (Key × D)}, RpA K H W vs ds → pairsD ds = some kds → ∃ (ps : List Addr) (kvs : List (Key × V)), vs = ps.map V.ref ∧ Paired (fun p kv => SqT K H p [kV kv.1, kv.2]) ps kvs ∧ RpK K H W kvs kds
  | _, _, _, .nil, e => by cases e; exact ⟨[], [], rfl, .nil, .nil⟩
  | _, _, _, .cons (d := d) a b, e => by
    unfold pairsD at e
    split at e
    · next k z =>
      obtain ⟨key, ek, e⟩ := Option.bind_eq_some_iff.mp e
      obtain ⟨kds, e2, rfl⟩ := Option.map_eq_some_iff.mp e
      obtain ⟨ps, kvs, rfl, h1, h2⟩ := pairsD_ok b e2
      cases a with
      | @tup p xs _ ht q =>
        cases q with
        | cons q1 q2 =>
          cases q2 with
          | cons q2 q3 =>
            cases q3
            have := keyD_ok q1.vw ek
            subst this
            exact ⟨p :: ps, (key, _) :: kvs, rfl, .cons ht.sq h1, .cons q2 h2⟩
    · exact nomatch e
/-- a new dict comes -/
theorem ro_newK {Q : VK} {X : Addr → Prop} {σ : L2.St} {ρ : Env} {F F' : Nat → List Addr} {H H' : Hp} {d : D}
    (k : ∀ v F' G H', Rep K (fun b => X b ∨ b ∈ G) Γ σ ρ F' H' → Own K H' (Ws (fun b => X b ∨ b ∈ G) F') .o1 v d G → (∀ b ∈ G, ¬ X b) → Stp F H F' H' → (∀ b ∈ G, (∃ i, b ∈ F i) ∨ H b = none) → Q v H')
    (R : Rep K X Γ σ ρ F' H') (s : Stp F H F' H') {p : Addr} {vs : List (Key × V)} {ds : List (Key × D)} (n : H' p = none) (hd : d = .dct ds) (q : RpK K H' (Ws X F') vs ds) : Q (.ref p) (upd H' p (.dK vs)) := by
  have sm : Same H' (upd H' p (.dK vs)) := same_new n
  have R2 := R.same sm
  have nF := R.fresh n
  have sub : ∀ b, Ws (fun b => X b ∨ b ∈ [p]) F' b → Ws X F' b ∨ H' b = none := fun b z => by
    rcases z with (z | z) | z
    · exact .inl (.inl z)
    · have : b = p := by simpa using z
      subst this
      exact .inr n
    · exact .inl (.inr z)
  have go : Go H' (Ws X F') (upd H' p (.dK vs)) (Ws (fun b => X b ∨ b ∈ [p]) F') := ⟨(Go.same sm).ls, (Go.same sm).fr, sub⟩
  refine k (.ref p) F' [p] _ ⟨R.len, R.gl, fun i => (R.at_ i).go go fun b _ o e => sm b o e, R.dis, fun b z => ?_, R2.ft⟩ ?_ (fun b hb z => ?_) (s.trans (.same sm)) fun b hb => ?_
  · rcases z with z | z
    · exact R2.xt b z
    · have : b = p := by simpa using z
      subst this
      exact ⟨by rw [upd_same]; exact (fun z => nomatch z), fun i z => nF (.inr ⟨i, z⟩)⟩
  · exact ⟨p, rfl, rfl, .inr (.inl ⟨vs, ds, hd, upd_same, q.go go⟩)⟩
  · have : b = p := by simpa using hb
    subst this
    exact nF (.inl z)
  · have : b = p := by simpa using hb
    subst this
    by_cases hc : ∃ i, b ∈ F i
    · exact .inl hc
    · refine .inr ?_
      cases e : H b with
      | none => rfl
      | some o => rw [s.fr b o e fun i z => hc ⟨i, z⟩] at n; exact nomatch n
theorem ro_dictP {t : TE} {f : M D} (h : RV K t Γ Γ1 f) : RO K (tCB (rDictP K) (tCons t tNil)) Γ Γ1 .o1 (b1 dictPD f) := by
  intro X σ ρ F H Q d ρ' R e k
  obtain ⟨a, ρ1, ea, e⟩ := bnd_some e
  obtain ⟨z, eo, er⟩ := lif_some e
  cases er
  refine h X σ ρ F H _ a ρ' R ea fun v F' H' R' p s => ?_
  cases p with
  | @lst b vs ds b' q =>
    obtain ⟨kds, ek, rfl⟩ := Option.map_eq_some_iff.mp (show (pairsD ds).map _ = some d from eo)
    obtain ⟨ps, kvs, rfl, h1, h2⟩ := pairsD_ok q ek
    exact ⟨b, ps, kvs, rfl, .inl (.inl b'), h1, fun p n => ro_newK k R' s n rfl (h2.merge .nil)⟩
  | _ => exact nomatch eo
/-! d.get(k, None) -/
def dgetN (a b : D) : Option D := match a with | .dct kvs => (keyD b).map fun k => (getK kvs k).getD .non | _ => none
theorem rf_dgetN {td ty : TE} {fd fy : M D} (hd : RF K td Γ Γ1 fd) (hy : RV K ty Γ1 Γ2 fy) : RF K (tDGet2 td ty (tC .non)) Γ Γ2 (b2 dgetN fd fy) := by
  intro X σ ρ F H Q d ρ' R e k
  obtain ⟨a, ρ1, ea, e⟩ := bnd_some e
  obtain ⟨b, ρ2, eb, e⟩ := bnd_some e
  obtain ⟨z, eo, er⟩ := lif_some e
  cases er
  refine hd X σ ρ F H _ a ρ1 R ea fun v F' H' R' p s => ?_
  cases a with
  | dct kvs =>
    obtain ⟨key, ek, rfl⟩ := Option.map_eq_some_iff.mp (show (keyD b).map _ = some d from eo)
    cases p with
    | @dct p vs _ rr nw q =>
      refine ⟨p, rfl, .inl ⟨_, rr⟩, hy X σ ρ1 F' H' _ b ρ' R' eb fun u F2 H2 R2 q2 s2 => ?_⟩
      have hk := keyD_ok q2 ek
      subst hk
      have g2 := s2.go (X := X)
      have rp : Rp K H2 (Ws X F2) (.ref p) (.dct kvs) := Rp.go g2 (.dct rr nw q)
      cases rp with
      | @dct _ vs2 _ rr2 nw2 q' =>
        have g := q'.get (k := key)
        refine ⟨valV vs2 key, .inl ⟨vs2, key, rr2, rfl, rfl⟩, ?_⟩
        cases eg : getK kvs key with
        | some w =>
          rw [eg] at g
          obtain ⟨x, e1, e2⟩ := g
          rw [e1]
          exact k _ F2 H2 R2 (by rw [eg]; exact e2) (s.trans s2)
        | none =>
          rw [eg] at g
          have g : valV vs2 key = none := g
          rw [g]
          exact k _ F2 H2 R2 (by rw [eg]; exact .non) (s.trans s2)
  | _ => exact nomatch eo
def reprN : D → Option D | .non => some (.str "None") | _ => none
theorem g1_reprN : G1 K (fun v => rReprN [v]) reprN := by
  intro H W v d d' Q hW p eo k
  cases p with
  | non => cases eo; exact ⟨rfl, k _ H (Same.refl H) (.str _)⟩
  | _ => exact nomatch eo
def reprX : D → Option D := orU reprE reprN
theorem e_reprX : G1 K (fun v => rReprX K [v]) reprX := g1_or e_repr g1_reprN
theorem o_reprX {d e : D} (h : reprE d = some e) : reprX d = some e := by unfold reprX orU; rw [h]
theorem o_reprXN : reprX .non = some (.str "None") := rfl
/-! d != {} -/
def neDE : D → D → Option D := fun a b => match a, b with | .dct ks, .dct [] => some (.bl (!ks.isEmpty)) | _, _ => none
theorem e_neD : G2 K rNeDE neDE := by
  intro H W v d u e d' Q hW p q eo k
  unfold neDE at eo
  split at eo
  · next ks =>
    cases eo
    cases p with
    | @dct a vs _ ra qa =>
      cases q with
      | @dct b us _ rb qb =>
        cases qb
        refine ⟨a, b, vs, [], rfl, rfl, ra, rb, rfl, k _ H (Same.refl H) ?_⟩
        have : vs.isEmpty = ks.isEmpty := by cases qa <;> rfl
        rw [this]
        exact .bl _
  · exact nomatch eo
theorem o_listEL {ds : List D} : listE (.lst ds) = some (.lst ds) := rfl
theorem o_listET {ds : List D} : listE (.tup ds) = some (.lst ds) := rfl
theorem o_listEK {kvs : List (Key × D)} : listE (.dct kvs) = some (.lst (kvs.map fun kv => keyOf kv.1)) := rfl
theorem o_neDE {kvs : List (Key × D)} : neDE (.dct kvs) (.dct []) = some (.bl (!kvs.isEmpty)) := rfl
theorem o_dgetNI {kvs : List (Key × D)} {z : Int} : dgetN (.dct kvs) (.int z) = some ((getK kvs (.inl z)).getD .non) := rfl
theorem o_dictP {ds : List D} : dictPD (.lst ds) = (pairsD ds).map fun kds => .dct (mergeD [] kds) := rfl
end
end BV
set_option Elab.async false
set_option linter.all false
set_option maxRecDepth 100000
namespace BV
open PySem PySem.Spec PyProof.Rows L2 WK
section
variable {X : Cx}
theorem lt_ints {a b : Int} : PySem.W.dataLt (.int a) (.int b) = decide (a < b) := by
  unfold PySem.W.dataLt
  rw [PySem.W.keyToks, PySem.W.keyToks]
  show (decide (a < b) || (!decide (b < a) && false)) = decide (a < b)
  rw [Bool.and_false, Bool.or_false]
theorem max_ints {ns : List Int} {n : Int} : PySem.W.maxD (.int n) (intsD ns) = .int (ns.foldl max n) := by
  induction ns generalizing n with
  | nil => rfl
  | cons m ns ih =>
    show PySem.W.maxD (if PySem.W.dataLt (.int n) (.int m) then .int m else .int n) (intsD ns) = _
    rw [lt_ints]
    by_cases h : n < m
    · rw [decide_eq_true h, if_pos rfl, ih, List.foldl_cons, Int.max_eq_right (Int.le_of_lt h)]
    · rw [decide_eq_false h, if_neg (by decide), ih, List.foldl_cons, Int.max_eq_left (by omega)]
theorem alike_ints {ns : List Int} : PySem.W.AlikeAll (intsD ns) := by
  refine ⟨fun x hx y hy => ?_, fun x hx => ?_⟩
  · obtain ⟨n, _, rfl⟩ := List.mem_map.mp hx
    obtain ⟨m, _, rfl⟩ := List.mem_map.mp hy
    rfl
  · obtain ⟨n, _, rfl⟩ := List.mem_map.mp hx
    exact fun z => nomatch z
def rMaxD (K : PySem.W.Frag) : List V → List V → Hp → VK → Prop := fun xs zs H Q => ∃ (p : Addr) (ns : List Int) (n : Int), xs = [.ref p] ∧ zs = [.int n] ∧ (SqL K H p (ns.map V.int) ∨ SqT K H p (ns.map V.int)) ∧ Q (.int ((maxI ns).getD n)) H
theorem depth_all {ns : List Int} : PyData.depthAll (intsD ns) ≤ 1 := by
  induction ns with
  | nil => show PyData.depthAll [] ≤ 1; simp [PyData.depthAll]
  | cons n ns ih =>
    show PyData.depthAll (.int n :: intsD ns) ≤ 1
    simp only [PyData.depthAll, PyData.depth]
    omega
theorem cr_maxD (hc : X.calm = true) (hu : X.A.units + 64 < cLine) : CallRK X (.builtin "max") [Str.ofString "default"] (rMaxD X.K) := by
  rintro pins s σ H xs zs us ws Q I r1 r2 ⟨p, ns, n, rfl, rfl, hs, q⟩
  obtain ⟨u, rfl, ru⟩ := vals1 r1
  cases ru
  obtain ⟨w, rfl, t, rfl⟩ := vals1 r2
  have hd : DpAll X.K H (ns.map V.int) (intsD ns) := dp_ints ns
  have hdep := depth_all (ns := ns)
  have fin : ∀ (items : Array Value), items.toList.length = ns.length → (∀ y ys, intsD ns = y :: ys → True) → True := fun _ _ _ => trivial
  have h0 : intsD ns = [] → ∀ h' tk, (∀ b o, s.heap.get? b = some o → h'.get? b = some o) → EP X pins σ Q (Value.int n t) { s with heap := h', toks := tk } := fun e h' tk hk => by
    have : ns = [] := List.map_eq_nil_iff.mp e
    subst this
    exact ⟨.int n, H, I.kept hk, ⟨_, rfl⟩, q⟩
  have h1 : ∀ (y : PyData) (ys : List PyData) (v : Value) (h' : Heap) (tk : Tok) (bs : List Addr), intsD ns = y :: ys → Reads h' v (PySem.W.maxD y ys) bs → (∀ b o, s.heap.get? b = some o → h'.get? b = some o) → EP X pins σ Q v { s with heap := h', toks := tk } := fun y ys v h' tk bs e hr hk => by
    cases ns with
    | nil => exact nomatch e
    | cons m ms =>
      have e := List.cons.inj (show PyData.int m :: intsD ms = y :: ys from e)
      obtain ⟨rfl, rfl⟩ := e
      rw [max_ints] at hr
      cases hr
      exact ⟨.int _, H, I.kept hk, ⟨_, rfl⟩, q⟩
  rcases hs with hs | hs
  · obtain ⟨its, rv, pl, hz⟩ := I.list hs
    obtain ⟨as, hr⟩ := Dp.readsAll I _ _ _ hd rv
    refine PySem.W.max_list_default (vs := its.toArray) (I.ok.hd hc) pl.isList (by simpa using hr) alike_ints (by omega) h0 (fun y ys i v h' tk bs e _ hr hk => h1 y ys v h' tk bs e hr hk)
  · obtain ⟨its, rv, tp, hz⟩ := I.tuple hs
    obtain ⟨as, hr⟩ := Dp.readsAll I _ _ _ hd rv
    refine PySem.W.max_tuple_default (vs := its.toArray) (I.ok.hd hc) tp (by simpa using hr) alike_ints (by omega) h0 (fun y ys i v h' tk bs e _ hr hk => h1 y ys v h' tk bs e hr hk)
end
section
variable {K : PySem.W.Frag} {Γ Γ1 : List Sl}
def maxDflt (n : Int) : D → Option D := fun d => match d with | .lst ds => (intsOf ds).map fun ns => .int ((maxI ns).getD n) | .tup ds => (intsOf ds).map fun ns => .int ((maxI ns).getD n) | _ => none
theorem rf_maxD {t : TE} {f : M D} {n : Int} (h : RV K t Γ Γ1 f) : RF K (tCKw (rMaxD K) (tCons t tNil) (tCons (tC (.int n)) tNil)) Γ Γ1 (b1 (maxDflt n) f) := by
  intro X σ ρ F H Q d ρ' R e k
  obtain ⟨a, ρ1, ea, e⟩ := bnd_some e
  obtain ⟨z, eo, er⟩ := lif_some e
  cases er
  refine h X σ ρ F H _ a ρ' R ea fun v F' H' R' p s => ?_
  cases p with
  | @lst b vs ds b' q =>
    obtain ⟨ns, en, rfl⟩ := Option.map_eq_some_iff.mp (show (intsOf ds).map _ = some d from eo)
    obtain rfl := intsOf_some en
    obtain rfl := q.ints
    exact ⟨b, ns, n, rfl, rfl, .inl (.inl (.inl b')), k _ F' H' R' (.int _) s⟩
  | @tup b vs ds b' q =>
    obtain ⟨ns, en, rfl⟩ := Option.map_eq_some_iff.mp (show (intsOf ds).map _ = some d from eo)
    obtain rfl := intsOf_some en
    obtain rfl := q.ints
    exact ⟨b, ns, n, rfl, rfl, .inr b'.sq, k _ F' H' R' (.int _) s⟩
  | _ => exact nomatch eo
theorem l2_addE : L2' K (rAddE K) catL := fun H W v d u e d' Q p q eo k => .inr (.inr (.inl (l2_cat H W v d u e d' Q p q eo k)))
theorem o_catL {ds es : List D} : catL (.lst ds) (.lst es) = if ds.length + es.length ≤ sizeLine then some (.lst (ds ++ es)) else none := rfl
theorem o_maxDL {n : Int} {ns : List Int} : maxDflt n (.lst (ns.map .int)) = some (.int ((maxI ns).getD n)) := by show (intsOf _).map _ = _; rw [intsOf_map]; rfl
theorem o_maxDT {n : Int} {ns : List Int} : maxDflt n (.tup (ns.map .int)) = some (.int ((maxI ns).getD n)) := by show (intsOf _).map _ = _; rw [intsOf_map]; rfl
theorem o_mulL {j : Int} {ds : List D} : mulE (.lst ds) (.int j) = if -(2 ^ 63) ≤ j ∧ j < 2 ^ 63 ∧ ds.length * j.toNat ≤ sizeLine then some (.lst (List.replicate j.toNat ds).flatten) else none := rfl
end
end BV
set_option Elab.async false
set_option linter.all false
set_option maxRecDepth 100000
namespace BV
open PySem PySem.Spec PyProof.Rows L2 WK
/-! ### isinstance(x, T), T a built-in type -/
def tyN : D → Option String
  | .non => some "NoneType" | .bl _ => some "bool" | .int _ => some "int" | .str _ => some "str" | .tup _ => some "tuple" | .lst _ => some "list" | .dct _ => some "dict" | _ => none
def isiT (T : String) (d : D) : Option D := (tyN d).bind fun n => (kitB n T).map .bl
theorem vw_ty {K : PySem.W.Frag} {H : Hp} {W : Addr → Prop} {v : V} {d : D} {n : String} (p : Vw K H W v d) (h : tyN d = some n) : TyX K H v (.type n) := by
  cases p with
  | non => cases h; exact .base .non
  | bl b => cases h; exact .base (.bl b)
  | int i => cases h; exact .base (.int i)
  | str x => cases h; exact .base (.str x)
  | tup a q =>
    cases h
    rcases a with ⟨a | ⟨o, a⟩, _⟩ | ⟨o, _, _, e, c, _⟩
    · exact .base (.tup a)
    · exact .fTuple a
    · exact .kTuple e c
  | lst a q => cases h; exact .base (.lst a)
  | dct a q =>
    cases h
    rcases a with a | ⟨o, a⟩
    · exact .base (.dK a)
    · exact .fDict a
  | _ => exact nomatch h
section
variable {K : PySem.W.Frag} {Γ Γ1 : List Sl}
theorem rf_isi {T : String} {t : TE} {f : M D} (h : RV K t Γ Γ1 f) : RF K (tCB (rIsi K) (tCons t (tCons (tC (.ty T)) tNil))) Γ Γ1 (b1 (isiT T) f) := by
  intro X σ ρ F H Q d ρ' R e k
  obtain ⟨a, ρ1, ea, e⟩ := bnd_some e
  obtain ⟨z, eo, er⟩ := lif_some e
  cases er
  refine h X σ ρ F H _ a ρ' R ea fun v F' H' R' p s => ?_
  obtain ⟨n, en, eo⟩ := Option.bind_eq_some_iff.mp (show (tyN a).bind _ = some d from eo)
  obtain ⟨b, eb, rfl⟩ := Option.map_eq_some_iff.mp eo
  exact ⟨v, .ty T, _, _, b, rfl, .ty T, vw_ty p en, kit_ty eb, k _ F' H' R' (.bl b) s⟩
end
theorem kb : kitB "int" "int" = some true ∧ kitB "bool" "int" = some true ∧ kitB "NoneType" "int" = some false ∧ kitB "str" "int" = some false ∧ kitB "tuple" "int" = some false ∧ kitB "list" "int" = some false ∧ kitB "dict" "int" = some false ∧
    kitB "int" "bool" = some false ∧ kitB "bool" "bool" = some true ∧ kitB "NoneType" "bool" = some false ∧ kitB "str" "bool" = some false ∧ kitB "tuple" "bool" = some false ∧ kitB "list" "bool" = some false ∧ kitB "dict" "bool" = some false ∧
    kitB "int" "tuple" = some false ∧ kitB "bool" "tuple" = some false ∧ kitB "NoneType" "tuple" = some false ∧ kitB "str" "tuple" = some false ∧ kitB "tuple" "tuple" = some true ∧ kitB "list" "tuple" = some false ∧ kitB "dict" "tuple" = some false := by decide +kernel
theorem o_isiI {i : Int} : isiT "int" (.int i) = some (.bl true) := congrArg (Option.map D.bl) kb.1
theorem o_isiIT {ds : List D} : isiT "tuple" (.tup ds) = some (.bl true) := by
  show (kitB "tuple" "tuple").map D.bl = _
  rw [show kitB "tuple" "tuple" = some true by decide +kernel]
  rfl
theorem o_isiIB {i : Int} : isiT "bool" (.int i) = some (.bl false) := by
  show (kitB "int" "bool").map D.bl = _
  rw [show kitB "int" "bool" = some false by decide +kernel]
  rfl
end BV
set_option Elab.async false
set_option linter.all false
set_option maxRecDepth 100000
namespace BV
open PySem PySem.Spec PyProof.Rows L2 WK
/-! ### list(d.items()) -/
section
variable {X : Cx} {pins : List (Addr × Obj)} {σ : L2.St} {H H' : Hp} {s : Shared} {h' : Heap}
/-- many new objects laid at once -/
theorem lay_many {t' : Nat} (I : Inv X pins σ H s) (k : ∀ b u, s.heap.get? b = some u → h'.get? b = some u) (old : Same H H') (new : ∀ b u, H' b = some u → H b = some u ∨ (s.heap.objs.size ≤ b ∧ ObjOk X.prog X.w H' h' b u)) :
    Inv X pins σ H' { s with heap := h', toks := t' } := by
  refine I.un ⟨fun b u q _ _ _ => k b u q, fun b u q _ _ _ => ⟨u.slots, k b u q⟩, fun b u q n _ => ?_, fun b u q _ => ⟨u, k b u q⟩, fun b xs q => old _ _ q, fun b u xs q => old _ _ q, fun b ps q => ⟨#[], by rw [old _ _ q]; simp⟩⟩ fun b u e => ?_
  · cases e : H' b with
    | none => rfl
    | some o =>
      rcases new b o e with z | ⟨z, _⟩
      · rw [n] at z; exact nomatch z
      · exact absurd (Heap.lt_size q) (Nat.not_lt.mpr z)
  · rcases new b u e with z | ⟨_, z⟩
    · exact (I.hok b u z).stay (fun c v _ q => k c v q) (fun c q => old _ _ q) fun c xs q => old _ _ q
    · exact z
/-- tuples of the pairs, at these places -/
def layT (H : Hp) : List Addr → List (Key × V) → Hp
  | a :: as, kv :: kvs => upd (layT H as kvs) a (.tup [kV kv.1, kv.2])
  | _, _ => H
theorem layT_old {b : Addr} : ∀ {as : List Addr} {kvs : List (Key × V)}, b ∉ as → layT H as kvs b = H b
  | [], _, _ => by unfold layT; rfl
  | a :: as, [], _ => by unfold layT; rfl
  | a :: as, kv :: kvs, h => by
    unfold layT
    rw [upd_ne (fun z => h (by simp [z])), layT_old (fun z => h (List.mem_cons_of_mem _ z))]
theorem layT_at {as : List Addr} {kvs : List (Key × V)} {j : Nat} {a : Addr} {kv : Key × V} (hn : as.Nodup) (h1 : as[j]? = some a) (h2 : kvs[j]? = some kv) : layT H as kvs a = some (.tup [kV kv.1, kv.2]) := by
  induction as generalizing kvs j with
  | nil => simp at h1
  | cons b as ih =>
    cases kvs with
    | nil => simp at h2
    | cons q kvs =>
      unfold layT
      have hn := List.nodup_cons.mp hn
      cases j with
      | zero =>
        simp at h1 h2
        subst h1
        subst h2
        exact upd_same
      | succ j =>
        rw [List.getElem?_cons_succ] at h1 h2
        rw [upd_ne (fun z => hn.1 (by rw [← z]; exact List.mem_of_getElem? h1))]
        exact ih hn.2 h1 h2
theorem layT_same {as : List Addr} {kvs : List (Key × V)} (hf : ∀ a ∈ as, H a = none) : Same H (layT H as kvs) := fun b o e => by
  rw [layT_old (fun z => by rw [hf b z] at e; exact nomatch e)]
  exact e
theorem is_rel {P : Program} {w : World} {k : Key} {u : Value} (h : (mixKind P w).is k u = true) : RelV (kV k) u := by
  cases k with
  | inl i =>
    cases u with
    | int j t =>
      have : i = j := by
        have h : (decide (j = i)) = true := h
        exact (of_decide_eq_true h).symm
      subst this
      exact ⟨_, rfl⟩
    | _ => exact nomatch h
  | inr x =>
    cases u with
    | str y t =>
      have : x = y := by
        have h : (decide (y = x)) = true := h
        exact (of_decide_eq_true h).symm
      subst this
      exact ⟨_, rfl⟩
    | _ => exact nomatch h
def rDItems : V → List V → Hp → VK → Prop := fun x vs H Q => ∃ (a : Addr) (kvs : List (Key × V)), x = .ref a ∧ vs = [] ∧ Rd H a (.dK kvs) ∧ ∀ p, H p = none → Q (.ref p) (upd H p (L2.DX.itemsO p a))
theorem mt_ditems {X : Cx} : MtR X "dict.items" rDItems := by
  rintro pins s σ H x xs v us Q I rx rv ⟨a, kvs, rfl, rfl, hd, q⟩
  cases rx
  cases rv
  obtain ⟨hl, hm, vs, kv, dt⟩ := dk_rd I.hok hd
  refine call_meetsIn F.slot_dict_items ?_ F.entry_dict_items (F.args_dict_items_1 _) (meets_dict_items (mixKind X.prog X.w) a hm) ⟨⟨vs, dt⟩, ?_⟩
  · obtain ⟨o, es, ep, d1, d2, _⟩ := dt
    exact ⟨o, d1, d2.1⟩
  · exact ⟨.ref s.heap.objs.size, _, I.laid (t' := s.toks) (o := L2.DX.itemsO s.heap.objs.size a) (fun b ob q => Heap.get?_push_of_some _ q) (Nat.le_refl _) (L2.DX.itemsO_ok (Heap.get?_push_size _ rfl)), rfl, q _ (I.hok.fresh (Nat.le_refl _))⟩
def tDItems0 (to : TE) : TE := fun σ H Q => to σ H fun x H1 => rDItems x [] H1 Q
theorem pe_ditems0 {X : Cx} {o : Expr} {to : TE} {apos cpos : Pos} (h : PE X o to) (hb : attributeBase o (Str.ofString "items") X.env (eval o X.env) = eval o X.env := by rfl) (hline : (apos.endLine == cpos.line) = true := by rfl) : PE X ((o.Attribute (Str.ofString "items") apos).Call [] [] cpos) (tDItems0 to) := by
  refine ⟨fun pins s σ H Q I ht => ?_⟩
  refine wpAny_Call_method0_late hb hline (thn (h.run pins s σ H _ I ht) ?_)
  rintro v s1 ⟨x, H1, I1, rv, hr⟩
  have hr2 := hr
  obtain ⟨a, kvs, rfl, _, hd, q⟩ := hr
  obtain ⟨hl, hm, vs, kv, dt⟩ := dk_rd I1.hok hd
  obtain ⟨o, es, ep, d1, d2, _⟩ := dt
  cases rv
  refine ⟨"dict", "dict.items", PySem.F.plainAttrs_dict, PySem.F.slot_dict_items, PySem.F.type_dict_items, ⟨o, d1, d2.1⟩, fun b e => ?_, ?_⟩
  · cases e
    exact ⟨o, d1, d2.2.1⟩
  · refine Calls.callWith_builtin rfl (PySem.evalArgs_none ?_)
    exact mt_ditems pins s1 σ H1 (.ref a) [] _ _ Q I1 rfl .nil hr2
def rListI : List V → Hp → VK → Prop := fun xs H Q => ∃ (p a : Addr) (kvs : List (Key × V)), xs = [.ref p] ∧ H p = some (L2.DX.itemsO p a) ∧ Rd H a (.dK kvs) ∧
  ∀ (l : Addr) (as : List Addr), H l = none → l ∉ as → as.length = kvs.length → as.Nodup → (∀ x ∈ as, H x = none) → Q (.ref l) (upd (layT H as kvs) l (.lst (as.map V.ref)))
theorem cr_listI {X : Cx} (hc : X.calm = true) : CallR X (.type "list") rListI := by
  rintro pins s σ H xs us Q I rv ⟨p, a, kvs, rfl, hp, hd, q⟩
  rw [Vals.ref1 rv]
  obtain ⟨hl, hm, vs, kv, dt⟩ := dk_rd I.hok hd
  have hv : s.heap.IsItemsView p a := (I.hok _ _ hp).1
  obtain ⟨o, es, ep, d1, d2, d3, d4, d5, d6⟩ := dt
  refine PySem.W.kdx_call (knd := mixKind X.prog X.w) (kvs := vs) (ep := ep) (I.ok.hd hc) hv ⟨o, es, d1, d2, d3, d4, d5, d6⟩ (by rw [← kv.length]; exact hl) fun h' tk acc c as hk hS hlen hG hacc => ?_
  have above : ∀ x ∈ as, s.heap.objs.size < x := hG.above
  have hf : ∀ x ∈ as, H x = none := fun x hx => I.hok.fresh (Nat.le_of_lt (above x hx))
  have hl0 : H s.heap.objs.size = none := I.hok.fresh (Nat.le_refl _)
  have hnl : s.heap.objs.size ∉ as := fun z => Nat.lt_irrefl _ (above _ z)
  have hnd : as.Nodup := hG.rise.imp fun h => Nat.ne_of_lt h
  have hlen2 : as.length = kvs.length := hlen.trans kv.length.symm
  have sm : Same H (layT H as kvs) := layT_same hf
  have sm2 : Same H (upd (layT H as kvs) s.heap.objs.size (.lst (as.map V.ref))) := fun b u e => by
    rw [upd_ne (fun z => by rw [z, hl0] at e; exact nomatch e)]
    exact sm b u e
  refine ⟨.ref s.heap.objs.size, _, lay_many I hk sm2 fun b u e => ?_, rfl, q _ as hl0 hnl hlen2 hnd hf⟩
  by_cases hb : b = s.heap.objs.size
  · subst hb
    rw [upd_same] at e
    cases e
    refine .inr ⟨Nat.le_refl _, ?_⟩
    have hv : ∀ as : List Addr, Vals (as.map V.ref) (as.map Value.ref) := fun as => by
      induction as with
      | nil => exact .nil
      | cons a as ih => exact .cons rfl ih
    refine ⟨by rw [List.length_map, hlen2]; exact hl, as.map Value.ref, c, hv as, ?_⟩
    have : acc = (as.map Value.ref).toArray := by rw [← hacc]
    rw [hS, this]
  · rw [upd_ne hb] at e
    by_cases hx : b ∈ as
    · obtain ⟨j, hj, rfl⟩ := List.mem_iff_getElem.mp hx
      have e1 : as[j]? = some as[j] := List.getElem?_eq_getElem hj
      have e2 : kvs[j]? = some (kvs[j]'(by omega)) := List.getElem?_eq_getElem (by omega)
      rw [layT_at hnd e1 e2] at e
      cases e
      refine .inr ⟨Nat.le_of_lt (above _ hx), ?_⟩
      obtain ⟨key, k, x, g1, g2, g3⟩ := hG.pairs j _ e1
      have key_ : ∀ {ks : List (Key × V)} {ws : List (Key × Value)} {i : Nat}, KV ks ws → ws[i]? = some (k, x) → ∃ y, ks[i]? = some (k, y) ∧ RelV y x := by
        intro ks ws i r
        induction r generalizing i with
        | nil => intro e; simp at e
        | @cons p q l1 l2 h t ih =>
          intro e
          cases i with
          | zero =>
            simp at e
            subst e
            obtain ⟨k0, y0⟩ := p
            obtain ⟨h1, h2⟩ := h
            have h1 : k0 = k := h1
            subst h1
            exact ⟨y0, rfl, h2⟩
          | succ i =>
            rw [List.getElem?_cons_succ] at e ⊢
            exact ih e
      obtain ⟨y, e3, ry⟩ := key_ kv g1
      have e4 : kvs[j]'(by omega) = (k, y) := by
        rw [e2] at e3
        exact Option.some.inj e3
      rw [e4]
      exact ⟨show 2 ≤ sizeLine by decide, [key, x], .cons (is_rel g2) (.cons ry .nil), _, g3, rfl, _, rfl⟩
    · rw [layT_old hx] at e
      exact .inl e
end
section
variable {K : PySem.W.Frag} {Γ Γ1 : List Sl}
def itemsD : D → Option D | .dct kvs => some (.lst (kvs.map fun kv => .tup [keyOf kv.1, kv.2])) | _ => none
theorem layT_rp {H : Hp} {W : Addr → Prop} (hW : ∀ p, H p = none → ¬ W p) : ∀ {as : List Addr} {kvs : List (Key × V)} {ds : List (Key × D)}, RpK K H W kvs ds → as.length = kvs.length → as.Nodup → (∀ a ∈ as, H a = none) → RpA K (layT H as kvs) W (as.map V.ref) (ds.map fun kv => .tup [keyOf kv.1, kv.2])
  | [], _, _, .nil, _, _, _ => .nil
  | _ :: _, _, _, .nil, hl, _, _ => nomatch hl
  | [], _, _, .cons a b, hl, _, _ => nomatch hl
  | a :: as, (k, y) :: kvs, (_, d) :: ds, .cons h b, hl, hn, hf => by
    have hn' := List.nodup_cons.mp hn
    have hf' : ∀ x ∈ as, H x = none := fun x hx => hf x (List.mem_cons_of_mem _ hx)
    have sm : Same H (layT H as kvs) := layT_same hf'
    have na : layT H as kvs a = none := by rw [layT_old hn'.1]; exact hf a (by simp)
    have sm2 : Same (layT H as kvs) (upd (layT H as kvs) a (.tup [kV k, y])) := same_new na
    have ih := layT_rp hW b (Nat.succ.inj hl) hn'.2 hf'
    refine .cons ?_ (ih.go (Go.same sm2))
    refine .tup (.inl ⟨.inl upd_same, hW a (hf a (by simp))⟩) (.cons keyOf_rp (.cons ?_ .nil))
    exact (h.go (Go.same sm)).go (Go.same sm2)
theorem ro_items {t : TE} {f : M D} (h : RV K t Γ Γ1 f) : RO K (tCB rListI (tCons (tDItems0 t) tNil)) Γ Γ1 .o1 (b1 itemsD f) := by
  intro X σ ρ F H Q d ρ' R e k
  obtain ⟨a, ρ1, ea, e⟩ := bnd_some e
  obtain ⟨z, eo, er⟩ := lif_some e
  cases er
  refine h X σ ρ F H _ a ρ' R ea fun v F' H' R' p s => ?_
  cases p with
  | @dct b vs ds rr q =>
    cases eo
    refine ⟨b, vs, rfl, rfl, rr, fun p np => ?_⟩
    have sm : Same H' (upd H' p (L2.DX.itemsO p b)) := same_new np
    have rr' : Rd (upd H' p (L2.DX.itemsO p b)) b (.dK vs) := ((Go.same (W := fun _ => False) sm).fr b _ trivial (fun z => z) rr)
    refine ⟨p, b, vs, rfl, upd_same, rr', fun l as nl hnl hlen hnd hf => ?_⟩
    generalize hG : upd H' p (L2.DX.itemsO p b) = G at sm nl hf
    have R2 := R'.same sm
    have sm2 : Same G (layT G as vs) := layT_same hf
    have R3 := R2.same sm2
    have q2 : RpA K (layT G as vs) (Ws X F') (as.map V.ref) _ := layT_rp (fun p => R2.fresh) (q.go (Go.same sm)) hlen hnd hf
    have nl2 : layT G as vs l = none := by rw [layT_old hnl]; exact nl
    exact ro_new k R3 ((s.trans (.same sm)).trans (.same sm2)) nl2 rfl q2
  | _ => exact nomatch eo
/-- y = [.. for k in d], d a name -/
theorem s_lockSet {io : List Nat} {i : Nat} {t : TE} {L : Tg} {f : Ms} (h : RS K io (tAsg (tLockWE t) (gName i)) Γ L f) : RS K io (tLockWS (tAsg t (gName i))) Γ L f := h
theorem o_items {kvs : List (Key × D)} : itemsD (.dct kvs) = some (.lst (kvs.map fun kv => .tup [keyOf kv.1, kv.2])) := rfl
end
end BV
set_option Elab.async false
set_option linter.all false
set_option maxRecDepth 100000
namespace BV
open PySem PySem.Spec PyProof.Rows L2 WK
def nothD : D := .tup [.int 0, .int 0, .int 0, .tup []]
def f_slot_cost : Ms :=
  (seqS (asgS (getE 0) (tupG 4 (consG (nameG 2) (consG (nameG 3) (consG (nameG 4) (consG (nameG 5) nilG))))))
    (seqS (ifS (orM (bt (b2 ltO (getE 1) (getE 2))) (bt (b2 gtO (getE 1) (getE 3))))
    (retS (rtn .non))
    nextS)
    (retS (b2 addE (getE 4) (b1 sumE (slM slE (getE 5) (rtn none) (bnd (b2 subO (getE 1) (getE 2)) fun d => lif (isI d))))))))
def F_slot_cost (ds : List D) : Option (D × List D) := fnE 6 2 f_slot_cost ds
def f_slopes_within : Ms :=
  (retS (slM slE (b2 ixE (getE 0) (rtn (.int 3))) (bnd (b2 subO (getE 1) (b2 ixE (getE 0) (rtn (.int 0)))) fun d => lif (isI d)) (bnd (b2 subO (getE 2) (b2 ixE (getE 0) (rtn (.int 0)))) fun d => lif (isI d))))
def F_slopes_within (ds : List D) : Option (D × List D) := fnE 3 3 f_slopes_within ds
def f_low_of : Ms :=
  (retS (b2 addE (b2 ixE (getE 0) (rtn (.int 0))) (b1 lenD (lcM (itM seqsD (b2 ixE (getE 0) (rtn (.int 3)))) (nameG 1) (bt (b2 ltO (getE 1) (rtn (.int 0)))) (getE 1) [1]))))
def F_low_of (ds : List D) : Option (D × List D) := fnE 2 1 f_low_of ds
def f_high_of : Ms :=
  (retS (b2 addE (b2 ixE (getE 0) (rtn (.int 0))) (b1 lenD (lcM (itM seqsD (b2 ixE (getE 0) (rtn (.int 3)))) (nameG 2) (bt (b2 leO (getE 2) (getE 1))) (getE 2) [2]))))
def F_high_of (ds : List D) : Option (D × List D) := fnE 3 2 f_high_of ds
def f_bounded : Ms :=
  (retS (b1 tupleD (lcM (itM seqsD (getE 0)) (nameG 2) (rtn true) (b2 minO (b2 maxO (rtn (.int 0)) (getE 2)) (getE 1)) [2])))
def F_bounded (ds : List D) : Option (D × List D) := fnE 3 2 f_bounded ds
def f_law_slot_costs : Ms :=
  (seqS (setS 1 (lstE (rtn [])))
    (seqS (forS (itM seqsD (getE 0)) (tupG 4 (consG (nameG 2) (consG (nameG 3) (consG (nameG 4) (consG (nameG 5) nilG)))))
    (seqS (setS 6 (dspE [((getE 2), (getE 4))]))
    (seqS (forS (itA enuE (consA (getE 5) (rtn []))) (tupG 2 (consG (nameG 7) (consG (nameG 8) nilG)))
    (putS 6 (b2 addE (b2o ixE 6 (b2 addE (getE 2) (getE 7))) (getE 8)) (b2 addE (b2 addE (getE 2) (rtn (.int 1))) (getE 7))))
    (appS 1 (getE 6)))))
    (retS (getE 1))))
def F_law_slot_costs (ds : List D) : Option (D × List D) := fnE 9 1 f_law_slot_costs ds
def f_law_going : Ms :=
  (seqS (par2 2 3 (lstE (rtn [])) (dspE [((rtn (.int 0)), (rtn (.int 0)))]))
    (seqS (forS (itM seqsD (getE 0)) (nameG 4)
    (seqS (setS 5 (rtn (.dct [])))
    (seqS (forS (keysM 4) (nameG 6)
    (putS 5 (b2 addE (b2 ixE (getE 4) (getE 6)) (b1 minL (lcM (keysM 3) (nameG 7) (rtn true) (b2 addE (b2 ixE (getE 3) (getE 7)) (b2 mulE (getE 1) (b2 maxO (rtn (.int 0)) (b2 subO (getE 6) (getE 7))))) [7]))) (getE 6)))
    (seqS (appS 2 (getE 5))
    (setS 3 (getE 5))))))
    (retS (getE 2))))
def F_law_going (ds : List D) : Option (D × List D) := fnE 8 2 f_law_going ds
def f_law_low : Ms :=
  (retS (b1 minL (lcM (keysM 0) (nameG 1) (bt (b2 eqE (b2 ixE (getE 0) (getE 1)) (b1 minL (b1 valsD (getE 0))))) (getE 1) [1])))
def F_law_low (ds : List D) : Option (D × List D) := fnE 2 1 f_law_low ds
def f_law_high : Ms :=
  (retS (b1 maxE (lcM (keysM 0) (nameG 2) (orM (bt (b2 ninE (b2 subO (getE 2) (rtn (.int 1))) (getE 0))) (bt (b2 leO (b2 subO (b2 ixE (getE 0) (getE 2)) (b2 ixE (getE 0) (b2 subO (getE 2) (rtn (.int 1))))) (getE 1)))) (getE 2) [2])))
def F_law_high (ds : List D) : Option (D × List D) := fnE 3 2 f_law_high ds
def f_law_starts : Ms :=
  (retS (b1 sumE (lcM (itA rng1 (consA (b1 lenD (getE 0)) (rtn []))) (nameG 1) (rtn true) (b2 maxO (rtn (.int 0)) (b2 subO (b2 ixE (getE 0) (getE 1)) (iteM (bt (b2 gtO (getE 1) (rtn (.int 0)))) (b2 ixE (getE 0) (b2 subO (getE 1) (rtn (.int 1)))) (rtn (.int 0))))) [1])))
def F_law_starts (ds : List D) : Option (D × List D) := fnE 2 1 f_law_starts ds
def f_worth_at : Ms :=
  (retS (callM F_slot_cost (consA (getE 0) (consA (getE 1) (rtn [])))))
def F_worth_at (ds : List D) : Option (D × List D) := fnE 2 2 f_worth_at ds
def f_held_slopes : Ms :=
  (seqS (asgS (getE 0) (tupG 4 (consG (nameG 4) (consG (nameG 5) (consG (nameG 6) (consG (nameG 7) nilG))))))
    (seqS (setS 8 (slM slE (callM F_bounded (consA (getE 7) (consA (getE 1) (rtn [])))) (bnd (b2 maxO (rtn (.int 0)) (b2 subO (getE 2) (getE 4))) fun d => lif (isI d)) (bnd (b2 maxO (rtn (.int 0)) (b2 subO (getE 3) (getE 4))) fun d => lif (isI d))))
    (seqS (setS 9 (b2 mulE (tupE (consA (rtn (.int 0)) (rtn []))) (b2 maxO (rtn (.int 0)) (b2 subO (b2 minO (getE 3) (getE 4)) (getE 2)))))
    (seqS (setS 10 (b2 mulE (tupE (consA (getE 1) (rtn []))) (b2 maxO (rtn (.int 0)) (b2 subO (getE 3) (b2 maxO (getE 2) (getE 5))))))
    (retS (b2 addE (b2 addE (getE 9) (getE 8)) (getE 10)))))))
def F_held_slopes (ds : List D) : Option (D × List D) := fnE 11 4 f_held_slopes ds
def f_law_of : Ms :=
  (retS (b2 ixE (getE 1) (callS F_pick 0 (consA (b1 lenD (getE 1)) (rtn [])))))
def F_law_of (ds : List D) : Option (D × List D) := fnE 2 2 f_law_of ds
def f_law_price : Ms :=
  (seqS (ifS (orM (bt (b2 neE (b1 lenD (getE 1)) (b1 lenD (getE 0)))) (bt (b2 neE (lcM (itA rng1 (consA (b1 lenD (getE 1)) (rtn []))) (nameG 3) (bt (b2 ninE (b2 ixE (getE 1) (getE 3)) (b2 ixE (getE 0) (getE 3)))) (getE 3) [3]) (lstE (rtn [])))))
    (retS (lstE (rtn [])))
    nextS)
    (retS (lstE (consA (b2 addE (b1 sumE (lcM (itA rng1 (consA (b1 lenD (getE 1)) (rtn []))) (nameG 3) (rtn true) (b2 ixE (b2 ixE (getE 0) (getE 3)) (b2 ixE (getE 1) (getE 3))) [3])) (b2 mulE (getE 2) (callM F_law_starts (consA (getE 1) (rtn []))))) (rtn [])))))
def F_law_price (ds : List D) : Option (D × List D) := fnE 4 3 f_law_price ds
def f_law_least_cost : Ms :=
  (retS (iteM (bt (b2 neE (getE 0) (lstE (rtn [])))) (b1 minL (b1 valsD (b2 ixE (callM F_law_going (consA (getE 0) (consA (getE 1) (rtn [])))) (b1 negO (rtn (.int 1)))))) (rtn (.int 0))))
def F_law_least_cost (ds : List D) : Option (D × List D) := fnE 2 2 f_law_least_cost ds
def f_sum_of : Ms :=
  (seqS (setS 2 (b2 maxO (b2 ixE (getE 0) (rtn (.int 0))) (b2 ixE (getE 1) (rtn (.int 0)))))
    (seqS (setS 3 (b2 minO (b2 ixE (getE 0) (rtn (.int 1))) (b2 ixE (getE 1) (rtn (.int 1)))))
    (seqS (ifS (bt (b2 gtO (getE 2) (getE 3)))
    (retS (rtn .non))
    nextS)
    (seqS (setS 4 (callM F_slopes_within (consA (getE 0) (consA (getE 2) (consA (getE 3) (rtn []))))))
    (seqS (setS 5 (callM F_slopes_within (consA (getE 1) (consA (getE 2) (consA (getE 3) (rtn []))))))
    (seqS (setS 6 (b1 tupleD (lcM (itA zipE (consA (getE 4) (consA (getE 5) (rtn [])))) (tupG 2 (consG (nameG 7) (consG (nameG 8) nilG))) (rtn true) (b2 addE (getE 7) (getE 8)) [7, 8])))
    (retS (tupE (consA (getE 2) (consA (getE 3) (consA (b2 addE (callM F_worth_at (consA (getE 0) (consA (getE 2) (rtn [])))) (callM F_worth_at (consA (getE 1) (consA (getE 2) (rtn []))))) (consA (getE 6) (rtn [])))))))))))))
def F_sum_of (ds : List D) : Option (D × List D) := fnE 9 2 f_sum_of ds
def f_least_worth : Ms :=
  (retS (callM F_worth_at (consA (getE 0) (consA (callM F_low_of (consA (getE 0) (rtn []))) (rtn [])))))
def F_least_worth (ds : List D) : Option (D × List D) := fnE 1 1 f_least_worth ds
def f_law_draw_slots : Ms :=
  (seqS (setS 3 (lstE (rtn [])))
    (seqS (forS (itA rng1 (consA (getE 1) (rtn []))) (nameG 4)
    (seqS (setS 5 (iteM (bt (b2 eqE (callS F_pick 0 (consA (rtn (.int 3)) (rtn []))) (rtn (.int 0)))) (callS F_pick 0 (consA (b2 addE (getE 2) (rtn (.int 1))) (rtn []))) (rtn (.int 0))))
    (seqS (setS 6 (b2 addE (getE 5) (callS F_pick 0 (consA (b2 addE (b2 subO (getE 2) (getE 5)) (rtn (.int 1))) (rtn [])))))
    (seqS (setS 7 (callS F_law_of 0 (consA (lstE (consA (rtn (.int 1)) (consA (rtn (.int 3)) (consA (rtn (.int 8)) (rtn []))))) (rtn []))))
    (seqS (setS 8 (b1 sortedD (lcM (itA rng1 (consA (b2 subO (getE 6) (getE 5)) (rtn []))) (nameG 10) (rtn true) (b2 subO (callS F_pick 0 (consA (b2 addE (b2 mulE (rtn (.int 2)) (getE 7)) (rtn (.int 1))) (rtn []))) (getE 7)) [10])))
    (seqS (setS 9 (b1 minL (b2 addE (lstE (consA (rtn (.int 0)) (rtn []))) (lcM (itA rng1 (consA (b1 lenD (getE 8)) (rtn []))) (nameG 10) (rtn true) (b1 sumE (slM slE (getE 8) (rtn none) (bnd (b2 addE (getE 10) (rtn (.int 1))) fun d => lif (isI d)))) [10]))))
    (appS 3 (tupE (consA (getE 5) (consA (getE 6) (consA (b2 subO (callS F_pick 0 (consA (rtn (.int 4)) (rtn []))) (getE 9)) (consA (b1 tupleD (getE 8)) (rtn [])))))))))))))
    (retS (b1 tupleD (getE 3)))))
def F_law_draw_slots (ds : List D) : Option (D × List D) := fnE 11 3 f_law_draw_slots ds
def f_held_worth : Ms :=
  (seqS (asgS (getE 0) (tupG 4 (consG (nameG 3) (consG (nameG 4) (consG (nameG 5) (consG (nameG 6) nilG))))))
    (seqS (setS 7 (slM slE (callM F_bounded (consA (getE 6) (consA (getE 1) (rtn [])))) (rtn none) (bnd (b2 maxO (rtn (.int 0)) (b2 subO (getE 2) (getE 3))) fun d => lif (isI d))))
    (retS (b2 addE (b2 addE (callM F_least_worth (consA (getE 0) (rtn []))) (b1 sumE (getE 7))) (b2 mulE (getE 1) (b2 maxO (rtn (.int 0)) (b2 subO (getE 2) (getE 4))))))))
def F_held_worth (ds : List D) : Option (D × List D) := fnE 8 3 f_held_worth ds
def f_law_great_slots : Ms :=
  (seqS (par2 3 4 (callS F_law_draw_slots 0 (consA (getE 1) (consA (getE 2) (rtn [])))) (callS F_law_of 0 (consA (lstE (consA (rtn (.int 0)) (consA (rtn (.int 0)) (consA (rtn (.int 0)) (consA (rtn (.int 1000)) (consA (b2 subO (b2 powO (rtn (.int 10)) (rtn (.int 6))) (getE 2)) (rtn []))))))) (rtn []))))
    (seqS (setS 5 (callS F_law_of 0 (consA (lstE (consA (rtn (.int 1)) (consA (rtn (.int 1)) (consA (rtn (.int 1)) (consA (b2 powO (rtn (.int 10)) (rtn (.int 5))) (consA (b2 powO (rtn (.int 10)) (rtn (.int 10))) (rtn []))))))) (rtn []))))
    (seqS (setS 6 (lstE (rtn [])))
    (seqS (forS (itM seqsD (getE 3)) (tupG 4 (consG (nameG 7) (consG (nameG 8) (consG (nameG 9) (consG (nameG 10) nilG)))))
    (appS 6 (tupE (consA (b2 addE (getE 7) (getE 4)) (consA (b2 addE (getE 8) (getE 4)) (consA (b2 mulE (getE 9) (getE 5)) (consA (b1 tupleD (lcM (itM seqsD (getE 10)) (nameG 11) (rtn true) (b2 mulE (getE 11) (getE 5)) [11])) (rtn []))))))))
    (retS (b1 tupleD (getE 6)))))))
def F_law_great_slots (ds : List D) : Option (D × List D) := fnE 12 3 f_law_great_slots ds
def f_held : Ms :=
  (retS (tupE (consA (getE 2) (consA (getE 3) (consA (callM F_held_worth (consA (getE 0) (consA (getE 1) (consA (getE 2) (rtn []))))) (consA (callM F_held_slopes (consA (getE 0) (consA (getE 1) (consA (getE 2) (consA (getE 3) (rtn [])))))) (rtn [])))))))
def F_held (ds : List D) : Option (D × List D) := fnE 4 4 f_held ds
def f_work_after : Ms :=
  (retS (callM F_sum_of (consA (getE 1) (consA (callM F_held (consA (getE 0) (consA (getE 2) (consA (b2 ixE (getE 1) (rtn (.int 0))) (consA (b2 ixE (getE 1) (rtn (.int 1))) (rtn [])))))) (rtn [])))))
def F_work_after (ds : List D) : Option (D × List D) := fnE 3 3 f_work_after ds
def f_works_of : Ms :=
  (seqS (setS 2 (lstE (rtn [])))
    (seqS (setS 3 (rtn nothD))
    (seqS (forS (itM seqsD (getE 0)) (nameG 4)
    (seqS (setS 3 (callM F_work_after (consA (getE 3) (consA (getE 4) (consA (getE 1) (rtn []))))))
    (appS 2 (getE 3))))
    (retS (getE 2)))))
def F_works_of (ds : List D) : Option (D × List D) := fnE 5 2 f_works_of ds
def f_best_row : Ms :=
  (seqS (setS 2 (lstE (rtn [])))
    (seqS (forS (itM seqsD (b1 revL (callM F_works_of (consA (getE 0) (consA (getE 1) (rtn [])))))) (nameG 3)
    (seqS (setS 4 (callM F_low_of (consA (getE 3) (rtn []))))
    (seqS (setS 5 (iteM (bnd (getE 2) fun d => lif (truD d)) (b2o ixE 2 (b1 negO (rtn (.int 1)))) (getE 4)))
    (appS 2 (b2 minO (b2 maxO (getE 5) (getE 4)) (callM F_high_of (consA (getE 3) (consA (getE 1) (rtn [])))))))))
    (retS (b1 tupleD (b1 revL (getE 2))))))
def F_best_row (ds : List D) : Option (D × List D) := fnE 6 2 f_best_row ds
def f_law_K31 : Ms :=
  (seqS (setS 1 (callM F_source (consA (getE 0) (rtn []))))
    (seqS (forS (itA rng1 (consA (rtn (.int 6)) (rtn []))) (nameG 2)
    (seqS (setS 3 (callS F_law_great_slots 1 (consA (callS F_pick 1 (consA (b2 ixE (lstE (consA (rtn (.int 3)) (consA (rtn (.int 6)) (consA (rtn (.int 10)) (consA (rtn (.int 16)) (consA (rtn (.int 24)) (consA (rtn (.int 60)) (rtn [])))))))) (getE 2)) (rtn []))) (consA (b2 ixE (lstE (consA (rtn (.int 3)) (consA (rtn (.int 6)) (consA (rtn (.int 9)) (consA (rtn (.int 12)) (consA (rtn (.int 6)) (consA (rtn (.int 3)) (rtn [])))))))) (getE 2)) (rtn [])))))
    (seqS (par2 4 5 (b2 addE (rtn (.int 1)) (b2 mulE (callS F_pick 1 (consA (rtn (.int 10)) (rtn []))) (callS F_law_of 1 (consA (lstE (consA (rtn (.int 1)) (consA (rtn (.int 1)) (consA (b2 powO (rtn (.int 10)) (rtn (.int 5))) (consA (b2 powO (rtn (.int 10)) (rtn (.int 8))) (rtn [])))))) (rtn []))))) (callM F_law_slot_costs (consA (getE 3) (rtn []))))
    (seqS (par2 6 7 (callM F_law_going (consA (getE 5) (consA (getE 4) (rtn [])))) (lstE (rtn [])))
    (seqS (forS (itM seqsD (b1 revL (getE 6))) (nameG 8)
    (seqS (setS 9 (iteM (bt (b2o neE 7 (lstE (rtn [])))) (b2o ixE 7 (b1 negO (rtn (.int 1)))) (callM F_law_low (consA (getE 8) (rtn [])))))
    (appS 7 (b2 minO (b2 maxO (getE 9) (callM F_law_low (consA (getE 8) (rtn [])))) (callM F_law_high (consA (getE 8) (consA (getE 4) (rtn []))))))))
    (seqS (setS 7 (b1 tupleD (b1 revL (getE 7))))
    (seqS (setS 10 (callM F_best_row (consA (getE 3) (consA (getE 4) (rtn [])))))
    (seqS (ifS (orM (bt (b2 neE (b1 reprE (getE 10)) (b1 reprE (getE 7)))) (bt (b2 neE (callM F_law_price (consA (getE 5) (consA (getE 10) (consA (getE 4) (rtn []))))) (lstE (consA (callM F_law_least_cost (consA (getE 5) (consA (getE 4) (rtn [])))) (rtn []))))))
    (retS (rtn (.bl false)))
    nextS)
    (ifS (bt (b2 neE (b1 reprE (callM F_best_row (consA (getE 3) (consA (getE 4) (rtn []))))) (b1 reprE (getE 7))))
    (retS (rtn (.bl false)))
    nextS)))))))))
    (seqS (setS 3 (tupE (consA (tupE (consA (rtn (.int 1)) (consA (rtn (.int 2)) (consA (rtn (.int 1)) (consA (tupE (consA (rtn (.int 1)) (rtn []))) (rtn [])))))) (consA (tupE (consA (rtn (.int 0)) (consA (rtn (.int 2)) (consA (rtn (.int 0)) (consA (tupE (consA (rtn (.int 1)) (consA (rtn (.int 1)) (rtn [])))) (rtn [])))))) (consA (tupE (consA (rtn (.int 0)) (consA (rtn (.int 2)) (consA (rtn (.int 0)) (consA (tupE (consA (rtn (.int 1)) (consA (rtn (.int 1)) (rtn [])))) (rtn [])))))) (consA (tupE (consA (rtn (.int 1)) (consA (rtn (.int 2)) (consA (rtn (.int 1)) (consA (tupE (consA (rtn (.int 1)) (rtn []))) (rtn [])))))) (rtn [])))))))
    (retS (b2 eqE (b1 reprE (lstE (consA (callM F_best_row (consA (getE 3) (consA (rtn (.int 3)) (rtn [])))) (consA (callM F_best_row (consA (getE 3) (consA (rtn (.int 1)) (rtn [])))) (consA (callM F_best_row (consA (tupE (rtn [])) (consA (rtn (.int 2)) (rtn [])))) (rtn [])))))) (b1 reprE (lstE (consA (tupE (consA (rtn (.int 1)) (consA (rtn (.int 1)) (consA (rtn (.int 1)) (consA (rtn (.int 1)) (rtn [])))))) (consA (tupE (consA (rtn (.int 1)) (consA (rtn (.int 0)) (consA (rtn (.int 0)) (consA (rtn (.int 1)) (rtn [])))))) (consA (tupE (rtn [])) (rtn [])))))))))))
def F_law_K31 (ds : List D) : Option (D × List D) := fnE 11 1 f_law_K31 ds
end BV
set_option Elab.async false
set_option linter.all false
set_option maxRecDepth 100000
namespace BV
open PySem PySem.Spec PyProof.Rows L2 WK

def f_least_numbers : Ms :=
  (seqS (asgS (getE 0) (tupG 4 (consG (nameG 2) (consG (nameG 3) (consG (nameG 3) (consG (nameG 4) nilG))))))
    (seqS (setS 5 (b1 lenD (lcM (itM seqsD (getE 4)) (nameG 7) (bt (b2 ltO (b2 addE (getE 7) (getE 1)) (rtn (.int 0)))) (getE 7) [7])))
    (seqS (setS 6 (b1 lenD (lcM (itM seqsD (getE 4)) (nameG 7) (bt (b2 leO (b2 addE (getE 7) (getE 1)) (rtn (.int 0)))) (getE 7) [7])))
    (retS (tupE (consA (b2 addE (getE 2) (getE 5)) (consA (b2 addE (getE 2) (getE 6)) (rtn []))))))))
def F_least_numbers (ds : List D) : Option (D × List D) := fnE 8 2 f_least_numbers ds
def f_price_rises : Ms :=
  (retS (lcM (itA zipE (consA (getE 0) (consA (b2 addE (slM slE (getE 0) (bnd (rtn (.int 1)) fun d => lif (isI d)) (rtn none)) (tupE (consA (rtn (.int 0)) (rtn [])))) (rtn [])))) (tupG 2 (consG (nameG 1) (consG (nameG 2) nilG))) (rtn true) (b2 subO (getE 1) (getE 2)) [1, 2]))
def F_price_rises (ds : List D) : Option (D × List D) := fnE 3 1 f_price_rises ds
def f_least_priced : Ms :=
  (seqS (setS 2 (b2 ixE (callM F_least_numbers (consA (getE 0) (consA (getE 1) (rtn [])))) (rtn (.int 0))))
    (retS (b2 addE (callM F_slot_cost (consA (getE 0) (consA (getE 2) (rtn [])))) (b2 mulE (getE 1) (getE 2)))))
def F_least_priced (ds : List D) : Option (D × List D) := fnE 3 2 f_least_priced ds
def f_law_bound : Ms :=
  (seqS (par2 2 3 (rtn (.int 0)) (b2 addE (b1 listE (slM slE (getE 1) (bnd (rtn (.int 1)) fun d => lif (isI d)) (rtn none))) (lstE (consA (rtn (.int 0)) (rtn [])))))
    (seqS (forS (itA enuE (consA (callM F_law_slot_costs (consA (getE 0) (rtn []))) (rtn []))) (tupG 2 (consG (nameG 4) (consG (nameG 5) nilG)))
    (setS 2 (b2 addE (getE 2) (b1 minL (lcM (keysM 5) (nameG 6) (rtn true) (b2 addE (b2 ixE (getE 5) (getE 6)) (b2 mulE (b2 subO (b2 ixE (getE 1) (getE 4)) (b2 ixE (getE 3) (getE 4))) (getE 6))) [6])))))
    (retS (getE 2))))
def F_law_bound (ds : List D) : Option (D × List D) := fnE 7 2 f_law_bound ds
def f_law_some_row : Ms :=
  (seqS (setS 2 (lstE (rtn [])))
    (seqS (forS (itM seqsD (getE 1)) (tupG 4 (consG (nameG 3) (consG (nameG 4) (consG (nameG 5) (consG (nameG 6) nilG)))))
    (seqS (setS 7 (b2 addE (getE 3) (callS F_pick 0 (consA (b2 addE (b2 subO (getE 4) (getE 3)) (rtn (.int 1))) (rtn [])))))
    (seqS (ifS (andM (bt (b2o neE 2 (lstE (rtn [])))) (bt (b2 eqE (callS F_pick 0 (consA (rtn (.int 2)) (rtn []))) (rtn (.int 0)))))
    (setS 7 (b2 minO (b2 maxO (b2o ixE 2 (b1 negO (rtn (.int 1)))) (getE 3)) (getE 4)))
    nextS)
    (appS 2 (getE 7)))))
    (retS (b1 tupleD (getE 2)))))
def F_law_some_row (ds : List D) : Option (D × List D) := fnE 8 2 f_law_some_row ds
def f_bound_of : Ms :=
  (retS (b1 sumE (lcM (itA zipE (consA (getE 0) (consA (callM F_price_rises (consA (getE 2) (rtn []))) (rtn [])))) (tupG 2 (consG (nameG 3) (consG (nameG 4) nilG))) (rtn true) (callM F_least_priced (consA (getE 3) (consA (getE 4) (rtn [])))) [3, 4])))
def F_bound_of (ds : List D) : Option (D × List D) := fnE 5 3 f_bound_of ds
def f_law_K32 : Ms :=
  (seqS (setS 1 (callM F_source (consA (getE 0) (rtn []))))
    (seqS (forS (itA rng1 (consA (rtn (.int 6)) (rtn []))) (nameG 2)
    (seqS (setS 3 (callS F_law_great_slots 1 (consA (callS F_pick 1 (consA (rtn (.int 14)) (rtn []))) (consA (rtn (.int 8)) (rtn [])))))
    (seqS (par2 4 5 (b2 addE (rtn (.int 1)) (b2 mulE (callS F_pick 1 (consA (rtn (.int 10)) (rtn []))) (callS F_law_of 1 (consA (lstE (consA (rtn (.int 1)) (consA (rtn (.int 1)) (consA (b2 powO (rtn (.int 10)) (rtn (.int 8))) (rtn []))))) (rtn []))))) (callM F_law_slot_costs (consA (getE 3) (rtn []))))
    (seqS (forS (itA rng1 (consA (rtn (.int 4)) (rtn []))) (nameG 6)
    (seqS (setS 7 (b1 tupleD (lcM (itM seqsD (getE 3)) (nameG 9) (rtn true) (callS F_law_of 1 (consA (lstE (consA (rtn (.int 0)) (consA (getE 4) (consA (callS F_pick 1 (consA (b2 addE (getE 4) (rtn (.int 1))) (rtn []))) (rtn []))))) (rtn []))) [9])))
    (seqS (setS 8 (callM F_law_bound (consA (getE 3) (consA (getE 7) (rtn [])))))
    (seqS (ifS (bt (b2 neE (b1 reprX (callM F_bound_of (consA (getE 3) (consA (getE 4) (consA (getE 7) (rtn [])))))) (b1 reprX (getE 8))))
    (retS (rtn (.bl false)))
    nextS)
    (ifS (orM (bt (b2 ltO (b2 ixE (callM F_law_price (consA (getE 5) (consA (callS F_law_some_row 1 (consA (getE 3) (rtn []))) (consA (getE 4) (rtn []))))) (rtn (.int 0))) (getE 8))) (bt (b2 ltO (callM F_law_least_cost (consA (getE 5) (consA (getE 4) (rtn [])))) (getE 8))))
    (retS (rtn (.bl false)))
    nextS)))))
    (forS (itM seqsD (slM slE (getE 3) (rtn none) (bnd (rtn (.int 3)) fun d => lif (isI d)))) (nameG 9)
    (seqS (setS 10 (callS F_law_of 1 (consA (lstE (consA (rtn (.int 0)) (consA (b2 subO (rtn (.int 0)) (callS F_law_of 1 (consA (b2 addE (b1 listE (b2 ixE (getE 9) (rtn (.int 3)))) (lstE (consA (rtn (.int 1)) (rtn [])))) (rtn [])))) (consA (getE 4) (consA (b2 subO (rtn (.int 0)) (getE 4)) (rtn [])))))) (rtn []))))
    (seqS (setS 11 (b1 dictPD (lcM (itM seqsD (b1 itemsD (b2 ixE (callM F_law_slot_costs (consA (tupE (consA (getE 9) (rtn []))) (rtn []))) (rtn (.int 0))))) (tupG 2 (consG (nameG 14) (consG (nameG 15) nilG))) (rtn true) (tupE (consA (getE 14) (consA (b2 addE (getE 15) (b2 mulE (getE 10) (getE 14))) (rtn [])))) [14, 15])))
    (seqS (setS 12 (lcM (keysM 11) (nameG 14) (bt (b2 eqE (b2 ixE (getE 11) (getE 14)) (b1 minL (b1 valsD (getE 11))))) (getE 14) [14]))
    (ifS (bt (b2 neE (b1 reprX (callM F_least_numbers (consA (getE 9) (consA (getE 10) (rtn []))))) (b1 reprX (tupE (consA (b1 minL (getE 12)) (consA (b1 maxE (getE 12)) (rtn [])))))))
    (retS (rtn (.bl false)))
    nextS)))))))))
    (seqS (setS 3 (tupE (consA (tupE (consA (rtn (.int 1)) (consA (rtn (.int 2)) (consA (rtn (.int 1)) (consA (tupE (consA (rtn (.int 1)) (rtn []))) (rtn [])))))) (consA (tupE (consA (rtn (.int 0)) (consA (rtn (.int 2)) (consA (rtn (.int 0)) (consA (tupE (consA (rtn (.int 1)) (consA (rtn (.int 1)) (rtn [])))) (rtn [])))))) (consA (tupE (consA (rtn (.int 0)) (consA (rtn (.int 2)) (consA (rtn (.int 0)) (consA (tupE (consA (rtn (.int 1)) (consA (rtn (.int 1)) (rtn [])))) (rtn [])))))) (consA (tupE (consA (rtn (.int 1)) (consA (rtn (.int 2)) (consA (rtn (.int 1)) (consA (tupE (consA (rtn (.int 1)) (rtn []))) (rtn [])))))) (rtn [])))))))
    (seqS (setS 13 (lcM (itM seqsD (lstE (consA (tupE (consA (rtn (.int 3)) (consA (rtn (.int 1)) (consA (rtn (.int 2)) (consA (rtn (.int 3)) (rtn [])))))) (consA (tupE (consA (rtn (.int 3)) (consA (rtn (.int 3)) (consA (rtn (.int 3)) (consA (rtn (.int 3)) (rtn [])))))) (consA (tupE (consA (rtn (.int 0)) (consA (rtn (.int 0)) (consA (rtn (.int 0)) (consA (rtn (.int 0)) (rtn [])))))) (consA (tupE (consA (rtn (.int 3)) (consA (rtn (.int 2)) (consA (rtn (.int 1)) (consA (rtn (.int 0)) (rtn [])))))) (rtn []))))))) (nameG 7) (rtn true) (callM F_bound_of (consA (getE 3) (consA (rtn (.int 3)) (consA (getE 7) (rtn []))))) [7]))
    (retS (b2 eqE (b1 reprX (b2 addE (getE 13) (lstE (consA (callM F_bound_of (consA (tupE (rtn [])) (consA (rtn (.int 3)) (consA (tupE (rtn [])) (rtn []))))) (consA (callM F_least_numbers (consA (tupE (consA (rtn (.int 1)) (consA (rtn (.int 4)) (consA (rtn (.int 9)) (consA (tupE (consA (b1 negO (rtn (.int 2))) (consA (rtn (.int 0)) (consA (rtn (.int 0)) (rtn []))))) (rtn [])))))) (consA (rtn (.int 0)) (rtn [])))) (rtn [])))))) (b1 reprX (lstE (consA (rtn (.int 7)) (consA (rtn (.int 5)) (consA (rtn (.int 2)) (consA (rtn (.int 3)) (consA (rtn (.int 0)) (consA (tupE (consA (rtn (.int 2)) (consA (rtn (.int 4)) (rtn [])))) (rtn [])))))))))))))))
def F_law_K32 (ds : List D) : Option (D × List D) := fnE 16 1 f_law_K32 ds
end BV
set_option Elab.async false
set_option linter.all false
set_option maxRecDepth 100000
set_option maxHeartbeats 4000000
namespace K32
open PySem PySem.Spec PyProof.Rows L2 WK BV
def topS (i : Nat) : Stmt := PySem.Challenge.pw_wakedenough_k32_whole_bounds_of_prices.main.body.getD i (.Pass ⟨0, 0, 0, 0⟩)
abbrev sSlotCost : Stmt := topS 1
theorem scsSlotCost : FnScope ["slot", "x", "need", "most", "first", "slopes"] ["slot", "x"] (defScope sSlotCost) := ⟨rfl, rfl, rfl, by decide +kernel, rfl, by decide +kernel, by decide +kernel⟩
abbrev sLeastNumbers : Stmt := topS 3
theorem scsLeastNumbers : FnScope ["slot", "price", "need", "_", "slopes", "falling", "not_rising", "slope"] ["slot", "price"] (defScope sLeastNumbers) := ⟨rfl, rfl, rfl, by decide +kernel, rfl, by decide +kernel, by decide +kernel⟩
abbrev sPriceRises : Stmt := topS 4
theorem scsPriceRises : FnScope ["prices", "price", "late"] ["prices"] (defScope sPriceRises) := ⟨rfl, rfl, rfl, by decide +kernel, rfl, by decide +kernel, by decide +kernel⟩
abbrev sLeastPriced : Stmt := topS 5
theorem scsLeastPriced : FnScope ["slot", "price", "x"] ["slot", "price"] (defScope sLeastPriced) := ⟨rfl, rfl, rfl, by decide +kernel, rfl, by decide +kernel, by decide +kernel⟩
abbrev sBoundOf : Stmt := topS 6
theorem scsBoundOf : FnScope ["slots", "b", "prices", "slot", "price"] ["slots", "b", "prices"] (defScope sBoundOf) := ⟨rfl, rfl, rfl, by decide +kernel, rfl, by decide +kernel, by decide +kernel⟩
abbrev sSo : Stmt := topS 8
theorem scsSo : FnScope ["script", "mixed", "cell"] ["script"] (defScope sSo) := ⟨rfl, rfl, rfl, by decide +kernel, rfl, by decide +kernel, by decide +kernel⟩
abbrev sPi : Stmt := topS 9
theorem scsPi : FnScope ["source", "many", "left", "mixed"] ["source", "many"] (defScope sPi) := ⟨rfl, rfl, rfl, by decide +kernel, rfl, by decide +kernel, by decide +kernel⟩
abbrev sOf : Stmt := topS 10
theorem scsOf : FnScope ["source", "some"] ["source", "some"] (defScope sOf) := ⟨rfl, rfl, rfl, by decide +kernel, rfl, by decide +kernel, by decide +kernel⟩
abbrev sLDrawSlots : Stmt := topS 11
theorem scsLDrawSlots : FnScope ["source", "ticks", "most", "found", "lap", "need", "many", "steep", "slopes", "low", "k"] ["source", "ticks", "most"] (defScope sLDrawSlots) := ⟨rfl, rfl, rfl, by decide +kernel, rfl, by decide +kernel, by decide +kernel⟩
abbrev sLGreatSlots : Stmt := topS 12
theorem scsLGreatSlots : FnScope ["source", "ticks", "most", "slots", "far", "by", "found", "need", "high", "first", "slopes", "slope"] ["source", "ticks", "most"] (defScope sLGreatSlots) := ⟨rfl, rfl, rfl, by decide +kernel, rfl, by decide +kernel, by decide +kernel⟩
abbrev sLSlotCosts : Stmt := topS 13
theorem scsLSlotCosts : FnScope ["slots", "found", "need", "most", "first", "slopes", "some", "k", "slope"] ["slots"] (defScope sLSlotCosts) := ⟨rfl, rfl, rfl, by decide +kernel, rfl, by decide +kernel, by decide +kernel⟩
abbrev sLBound : Stmt := topS 14
theorem scsLBound : FnScope ["slots", "prices", "found", "late", "t", "here", "x"] ["slots", "prices"] (defScope sLBound) := ⟨rfl, rfl, rfl, by decide +kernel, rfl, by decide +kernel, by decide +kernel⟩
abbrev sLStarts : Stmt := topS 15
theorem scsLStarts : FnScope ["row", "t"] ["row"] (defScope sLStarts) := ⟨rfl, rfl, rfl, by decide +kernel, rfl, by decide +kernel, by decide +kernel⟩
abbrev sLPrice : Stmt := topS 16
theorem scsLPrice : FnScope ["costs", "row", "b", "t"] ["costs", "row", "b"] (defScope sLPrice) := ⟨rfl, rfl, rfl, by decide +kernel, rfl, by decide +kernel, by decide +kernel⟩
abbrev sLSomeRow : Stmt := topS 17
theorem scsLSomeRow : FnScope ["source", "slots", "found", "need", "most", "first", "slopes", "x"] ["source", "slots"] (defScope sLSomeRow) := ⟨rfl, rfl, rfl, by decide +kernel, rfl, by decide +kernel, by decide +kernel⟩
abbrev sLGoing : Stmt := topS 18
theorem scsLGoing : FnScope ["costs", "b", "found", "ahead", "some", "here", "x", "y"] ["costs", "b"] (defScope sLGoing) := ⟨rfl, rfl, rfl, by decide +kernel, rfl, by decide +kernel, by decide +kernel⟩
abbrev sLLeastCost : Stmt := topS 19
theorem scsLLeastCost : FnScope ["costs", "b"] ["costs", "b"] (defScope sLLeastCost) := ⟨rfl, rfl, rfl, by decide +kernel, rfl, by decide +kernel, by decide +kernel⟩
abbrev sLa : Stmt := topS 20
theorem scsLa : FnScope ["script", "source", "lap", "slots", "b", "costs", "look", "prices", "due", "slot", "price", "worths", "some", "told", "x", "cost"] ["script"] (defScope sLa) := ⟨rfl, rfl, rfl, by decide +kernel, rfl, by decide +kernel, by decide +kernel⟩
local macro_rules | `(tactic| walk_at "rd") => `(tactic| repeat (first | refine Exists.intro _ (And.intro rfl ?_) | refine Exists.intro _ (Exists.intro _ (And.intro rfl (And.intro rfl ?_))) | refine Exists.intro _ (Exists.intro _ (And.intro rfl ?_))))
section
variable {P : Program} {w : World} {K : PySem.W.Frag} {mg : Str → Option Value} {base : Heap}
theorem ok_sourceX {f : Addr} {fd : FuncData} (F : Fun K "_law_source" "_law_source" sSo f fd) (B : Bl mg) : FnOk P w K mg base CX0 1 f fd ["script"] (spSourceX K) := by
  refine F.ok scsSo (fun vs H Q E h => ?_) (fun cdv A outer s H vs Q E hr h => ?_)
  · obtain ⟨a, ns, rfl, _⟩ := h
    rfl
  · obtain ⟨a, ns, rfl, hS, hlen, q⟩ := h
    refine ⟨_, pss_cons (ps_set (i := 1) scsSo.nd rfl (.inl rfl) pe_int)
      (pss_cons (ps_for PassesOwn.never rfl (pi_list (pv 0)) (pg_name (i := 2) scsSo.nd rfl (.inl rfl))
        (pss_one (ps_set (i := 1) scsSo.nd rfl (.inl rfl)
          (pe_op op_mod (pe_callTy call_int1 (by rfl) B.int (by decide +kernel) (pa_cons (pe_op op_add (pe_op op_add (pe_op op_mul (pv 1) pe_int) (pe_op op_mul (pv 2) pe_int)) pe_int) pa_nil)) pe_int))))
      (pss_one (ps_ret (pe_disp (pps_cons pe_str (pe_revL (pe_lc (own := [("cell", 2)]) (g := gName 2) rfl scsSo.nd (pi_list (pv 0))
          (blkOk_by (own := [("cell", 2)]) (N := ["script", "mixed", "cell"]) (sc := defScope sSo) (by decide +kernel))
          (fun _ _ _ _ _ => pg_name (i := 2) scsSo.nd rfl (Or.inl rfl)) (fun _ _ _ _ _ => pts_nil) (fun _ _ _ _ _ => pe_callB call_abs (by rfl) B.abs (by decide +kernel) (pa_cons (pv 2) pa_nil))))
        (pps_cons pe_str pe_int (pps_cons pe_str (pv 1) (pps_cons pe_str pe_int pps_nil)))) (by rfl) (by rfl) (fun z => by cases z) (by decide))))), ?_⟩
    walk_at "rd"
    refine ⟨⟨_, hS⟩, for_list (xs := ns.map V.int) (fun i σ H1 => ∃ c3, σ = [some (.ref a), some (.int ((ns.take i).foldl mixF 11)), c3] ∧ H1 = H) ⟨none, rfl, rfl⟩ (fun i σ H1 _ h => ?_) (fun i x σ H1 hx h => ?_) (fun σ H1 h => ?_)⟩
    · obtain ⟨c3, rfl, rfl⟩ := h
      exact hS
    · obtain ⟨c3, rfl, rfl⟩ := h
      obtain ⟨z, hz, rfl⟩ := int_at hx
      walk_at "rd"
      refine ⟨mulr (by decide), ?_⟩
      walk_at "rd"
      refine ⟨mulr (by decide), ?_⟩
      walk_at "rd"
      refine .inl ?_
      walk_at "rd"
      refine ⟨by show (0 : Int) < 2147483629; decide, ?_⟩
      refine ⟨some (V.int z), ?_, rfl⟩
      rw [List.take_add_one, hz, Option.toList_some, List.foldl_append]
      rfl
    · obtain ⟨c3, rfl, rfl⟩ := h
      rw [List.length_map, List.take_length]
      intro p np
      generalize eH : upd _ _ _ = H2
      obtain ⟨s2, e2⟩ := new_of eH np
      walk_at "rd"
      refine ⟨⟨_, s2.seq hS⟩, fun D nD => lc_list (K := K) (a := a) (xs := ns.map V.int) (fun i G => Same H2 G ∧ G D = some (.lst ((ns.take i).map fun z => V.int z.natAbs))) ?_ (fun i G _ h => h.1.seq (s2.seq hS)) (fun i x G hx h => ?_) (fun G h => ?_)⟩
      · exact ⟨same_new nD, upd_same⟩
      · obtain ⟨z, hz, rfl⟩ := int_at hx
        refine yesT rfl ?_
        walk_at "rd"
        refine ⟨_, h.2, ?_, fun b o e => ?_, ?_⟩
        · rw [List.length_map, List.length_take]
          exact small63 (by omega)
        · rw [upd_ne (ne_of_none e nD)]
          exact h.1 _ _ e
        · rw [upd_same, take_snoc hz, abs_eq]
      · obtain ⟨s3, e3⟩ := h
        walk_at "rd"
        refine ⟨_, _, rfl, .inl (.inl e3), fun c nc => ?_⟩
        generalize eH : upd _ _ _ = H4
        obtain ⟨s4, e4⟩ := new_of eH nc
        walk_at "rd"
        refine ⟨s4 _ _ (s3 _ _ e2), [(.inr "cells", .ref c), (.inr "left", .int 1), (.inr "mixed", .int (ns.foldl mixF 11)), (.inr "turn", .int 0)], rfl, (by show 4 ≤ 15; decide), ?_⟩
        have npc : c ≠ p := (ne_of_none (s3 _ _ e2) nc).symm
        refine q _ p c ?_ ?_ npc.symm ?_ np ?_
        · rw [upd_same]
          refine congrArg (fun l => some (HO.dK l)) ?_
          simp [mergeK, putK, srcK, WK.k12, WK.k13, WK.k14, WK.k23, WK.k24, WK.k34]
        · rw [upd_ne npc, e4, List.length_map, List.take_length, srcOf, List.map_reverse, List.map_map]
          rfl
        · intro b o e
          rw [upd_ne (ne_of_none e np)]
          exact s4 _ _ (s3 _ _ (s2 _ _ e))
        · exact (s2.trans s3).free nc
theorem ok_source {f : Addr} {fd : FuncData} (F : Fun K "_law_source" "_law_source" sSo f fd) (B : Bl mg) : FnOk P w K mg base CX0 1 f fd ["script"] (spB K [.v .fz] .src F_source) := (ok_sourceX F B).imp source_imp
theorem ok_pickX {f : Addr} {fd : FuncData} (F : Fun K "_law_pick" "_law_pick" sPi f fd) (B : Bl mg) : FnOk P w K mg base CX0 1 f fd ["source", "many"] spPickX := by
  refine F.ok scsPi (fun vs H Q E h => ?_) (fun cdv A outer s H vs Q E hr h => ?_)
  · obtain ⟨p, c, cells, l, m, t, many, rfl, _⟩ := h
    rfl
  · obtain ⟨p, c, cells, l, m, t, many, rfl, hm, npc, hp, hc, q⟩ := h
    have hu := hu_of hr
    refine ⟨_, pss_cons (ps_while PassesOwn.never (PW.pt (pw_and (pt_cmpR op_gt (pv 1) pe_int (nomark _)) (pw_and (pt_cmpR op_lt (pe_dget hu (pv 0) pe_str (fun _ _ => rfl)) pe_int (nomark _))
          (pw_and1 (pt_cmpR op_gt (pe_callB call_len_seq (by rfl) B.len PySem.boot_len (pa_cons (pe_dget hu (pv 0) pe_str (fun _ _ => rfl)) pa_nil)) pe_int (nomark _))))))
        (pss_one (ps_dput hu (pv 0) pe_str (pe_bm0 PySem.F.plainAttrs_list PySem.F.slot_list_pop PySem.F.type_list_pop mt_pop (pe_dget hu (pv 0) pe_str (fun _ _ => rfl))) rfl)))
      (pss_cons (ps_set (i := 2) scsPi.nd rfl (.inl rfl) (pe_dget hu (pv 0) pe_str (fun _ _ => rfl)))
      (pss_cons (ps_if (PW.pt (pw_or (pt_cmpR op_lt (pv 1) pe_int (nomark _)) (pw_or1 (pt_cmpR op_gt (pv 2) pe_int (nomark _)))))
        (pss_cons (ps_dput hu (pv 0) pe_str (pe_op op_fdivN (pv 2) (pe_callB (call_max2 rfl) (by rfl) B.max boot_max (pa_cons pe_int (pa_cons (pv 1) pa_nil)))) rfl)
          (pss_one (ps_ret (pe_op op_modN (pe_callTy call_int1 (by rfl) B.int (by decide +kernel) (pa_cons (pv 2) pa_nil)) (pe_callB (call_max2 rfl) (by rfl) B.max boot_max (pa_cons pe_int (pa_cons (pv 1) pa_nil))))))) pss_nil)
      (pss_cons (ps_dput hu (pv 0) pe_str (pe_op op_add (pe_dget hu (pv 0) pe_str (fun _ _ => rfl)) pe_int) rfl)
      (pss_cons (ps_set (i := 3) scsPi.nd rfl (.inl rfl) (pe_op op_mod (pe_callTy call_int1 (by rfl) B.int (by decide +kernel) (pa_cons (pe_op op_add (pe_dget hu (pv 0) pe_str (fun _ _ => rfl)) (pe_op op_mul (pe_dget hu (pv 0) pe_str (fun _ _ => rfl)) pe_int)) pa_nil)) pe_int))
      (pss_cons (ps_set (i := 3) scsPi.nd rfl (.inl rfl) (pe_op op_mod (pe_callTy call_int1 (by rfl) B.int (by decide +kernel) (pa_cons (pe_op op_add (pe_op op_mul (pv 3) (pv 3)) (pe_op op_mul (pe_dget hu (pv 0) pe_str (fun _ _ => rfl)) pe_int)) pa_nil)) pe_int))
      (pss_cons (ps_dput hu (pv 0) pe_str (pv 3) rfl)
      (pss_one (ps_ret (pe_op op_modN (pe_callTy call_int1 (by rfl) B.int (by decide +kernel) (pa_cons (pe_op op_fdiv (pv 3) pe_int) pa_nil)) (pv 1)))))))))), ?_⟩
    refine while4 (fun n σ H1 => ∃ (cs : List Int) (l1 : Int), σ = [some (.ref p), some (.int many), none, none] ∧ n = cs.length ∧ H1 p = some (.dK (srcK c l1 m t)) ∧ H1 c = some (.lst (cs.map V.int)) ∧ Off p c H H1 ∧ stkL cells l many = stkL cs l1 many)
      (fun σ H1 => ∃ (cs : List Int) (l1 : Int), σ = [some (.ref p), some (.int many), none, none] ∧ H1 p = some (.dK (srcK c l1 m t)) ∧ H1 c = some (.lst (cs.map V.int)) ∧ Off p c H H1 ∧ stkL cells l many = (cs.reverse, l1))
      cells.length ⟨cells, l, rfl, rfl, hp, hc, Off.refl p c H, rfl⟩ (fun σ H1 h => ?_) (fun aft n σ H1 h => ?_)
    · -- behind the loop
      obtain ⟨cs, l1, rfl, hp, hc, off, est⟩ := h
      rw [est] at q
      walk_at "rd"
      refine ⟨_, _, rfl, src_get hp src_left, ?_⟩
      have early : (many < 2 ∨ l1 > 1) → ∀ H2, H2 = upd H1 p (HO.dK (srcK c (l1.fdiv (if many > 1 then many else 1)) m t)) → Q (.int (l1.fmod (if many > 1 then many else 1))) H2 := by
        rintro hc1 H2 rfl
        have e1 : pickL l1 m t many = l1.fmod (if many > 1 then many else 1) := if_pos hc1
        rw [← e1]
        refine q _ ⟨cs, l1.fdiv (if many > 1 then many else 1), m, t⟩ ?_ upd_same ((upd_ne npc.symm).trans hc) (off.trans Off.at_p)
        unfold pickT
        rw [if_pos hc1, List.reverse_reverse]
        rfl
      have hd : CDivN l1 (if many > 1 then many else 1) := by
        constructor <;> split <;> omega
      walk_at "rd"
      refine ite2 (fun h1 => ?_) (fun h1 => ?_)
      · dsimp only
        refine ifT rfl ?_
        walk_at "rd"
        refine ⟨hd, _, rfl, _, _, rfl, src_put hp rfl put_left rfl, ?_⟩
        walk_at "rd"
        refine .inl ?_
        walk_at "rd"
        exact ⟨hd.1, early (.inl (of_decide_eq_true h1)) _ rfl⟩
      · walk_at "rd"
        refine ite2 (fun h2 => ?_) (fun h2 => ?_)
        · walk_at "rd"
          refine ⟨hd, _, rfl, _, _, rfl, src_put hp rfl put_left rfl, ?_⟩
          walk_at "rd"
          refine .inl ?_
          walk_at "rd"
          exact ⟨hd.1, early (.inr (of_decide_eq_true h2)) _ rfl⟩
        · have hm2 : 2 ≤ many := by
            have := of_decide_eq_false (Bool.eq_false_iff.mpr h1)
            omega
          have hl1 : ¬ l1 > 1 := of_decide_eq_false (Bool.eq_false_iff.mpr h2)
          have hc1 : ¬ (many < 2 ∨ l1 > 1) := by omega
          walk_at "rd"
          refine ⟨_, _, rfl, src_get hp src_turn, ?_⟩
          walk_at "rd"
          refine ⟨_, _, rfl, src_put hp rfl put_turn rfl, ?_⟩
          generalize eH : upd _ _ _ = H2
          obtain ⟨hp2, of2⟩ := chg eH
          have hc2 := (of2 c npc.symm).trans hc
          walk_at "rd"
          refine ⟨_, _, rfl, src_get hp2 src_mixed, ?_⟩
          walk_at "rd"
          refine ⟨_, _, rfl, src_get hp2 src_turn, ?_⟩
          walk_at "rd"
          refine ⟨mulr (by decide), ?_⟩
          walk_at "rd"
          refine .inl ?_
          walk_at "rd"
          refine ⟨by show (0 : Int) < 998244353; decide, ?_⟩
          have mb := Int.emod_lt_of_pos (m + (t + 1) * 104729) (show (0 : Int) < 998244353 by decide)
          have mb0 := Int.emod_nonneg (m + (t + 1) * 104729) (show (998244353 : Int) ≠ 0 by decide)
          walk_at "rd"
          refine ⟨mulr (by omega), ?_⟩
          walk_at "rd"
          refine ⟨_, _, rfl, src_get hp2 src_turn, ?_⟩
          walk_at "rd"
          refine ⟨mulr (by decide), ?_⟩
          walk_at "rd"
          refine .inl ?_
          walk_at "rd"
          refine ⟨by show (0 : Int) < 2147483647; decide, ?_⟩
          walk_at "rd"
          refine ⟨_, _, rfl, src_put hp2 rfl put_mixed rfl, ?_⟩
          generalize eH3 : upd _ _ _ = H3
          obtain ⟨hp3, of3⟩ := chg eH3
          have hc3 := (of3 c npc.symm).trans hc2
          walk_at "rd"
          refine ⟨by constructor <;> decide, ?_⟩
          walk_at "rd"
          refine .inl ?_
          walk_at "rd"
          refine ⟨by omega, ?_⟩
          have e1 : pickL l1 m t many = (m2F m t / 16).fmod many := if_neg hc1
          rw [e1] at q
          refine q _ ⟨cs, l1, m2F m t, t + 1⟩ ?_ hp3 hc3 (off.trans (fun b o h1 h2 e => ?_))
          · unfold pickT
            rw [if_neg hc1, List.reverse_reverse]
          · rw [of3 b h1, of2 b h1]
            exact e
    · obtain ⟨cs, l1, rfl, rfl, hp, hc, off, est⟩ := h
      walk_at "rd"
      refine ite2 (fun h1 => ?_) (fun h1 => ?_)
      · walk_at "rd"
        refine ⟨_, _, rfl, src_get hp src_left, ?_⟩
        walk_at "rd"
        refine ite2 (fun h2 => ?_) (fun h2 => ?_)
        · walk_at "rd"
          refine ⟨_, _, rfl, src_get hp src_cells, ?_⟩
          refine ⟨_, _, rfl, .inl (.inl (.inl hc)), ?_⟩
          walk_at "rd"
          refine ite2 (fun h3 => ?_) (fun h3 => ?_)
          · refine ⟨_, fun σ' H' h => ⟨cs.length - 1, ?_, h⟩, ?_⟩
            · have := of_decide_eq_true h3
              rw [List.length_map] at this
              omega
            · walk_at "rd"
              refine ⟨_, _, rfl, src_get hp src_cells, ?_⟩
              have hne : cs ≠ [] := by
                rintro rfl
                exact absurd (of_decide_eq_true h3) (by decide)
              obtain ⟨z, hz⟩ : ∃ z, cs[cs.length - 1]? = some z := by
                refine ⟨cs[cs.length - 1]'(by have := List.length_pos_iff.mpr hne; omega), ?_⟩
                rw [List.getElem?_eq_getElem]
              refine ⟨.inl ⟨rfl, _, .inl (.inl hc)⟩, _, _, .int z, rfl, rfl, hc, ?_, ?_⟩
              · rw [List.length_map, List.getElem?_map, hz]
                rfl
              generalize eH : upd _ _ _ = H2
              obtain ⟨hc2, of2⟩ := chg eH
              have hp2 := (of2 p npc).trans hp
              refine ⟨_, rfl, _, _, rfl, src_put hp2 rfl put_left rfl, cs.dropLast, z, rfl, ?_, upd_same, ?_, off.trans (fun b o h1 h2 e => ?_), ?_⟩
              · rw [List.length_dropLast]
              · rw [upd_ne npc.symm, hc2, List.map_dropLast]
              · rw [upd_ne h1, of2 b h2]
                exact e
              · rw [est]
                exact stkL_step (of_decide_eq_true h1) (of_decide_eq_true h2) hz
          · refine aft _ _ ⟨cs, l1, rfl, hp, hc, off, est.trans (stkL_stop (.inr (.inr ?_)))⟩
            have := of_decide_eq_false (Bool.eq_false_iff.mpr h3)
            rw [List.length_map] at this
            exact List.eq_nil_of_length_eq_zero (by omega)
        · exact aft _ _ ⟨cs, l1, rfl, hp, hc, off, est.trans (stkL_stop (.inr (.inl (of_decide_eq_false (Bool.eq_false_iff.mpr h2)))))⟩
      · refine aft _ _ ⟨cs, l1, rfl, hp, hc, off, est.trans (stkL_stop (.inl ?_))⟩
        have := of_decide_eq_false (Bool.eq_false_iff.mpr h1)
        omega
theorem ok_pick {f : Addr} {fd : FuncData} (F : Fun K "_law_pick" "_law_pick" sPi f fd) (B : Bl mg) : FnOk P w K mg base CX0 1 f fd ["source", "many"] (spB K [.v .src, .v .fz] .fz F_pick) := (ok_pickX F B).imp pick_imp
end

/-- the module's defs as they stand -/
structure Dfs (K : PySem.W.Frag) (mg : Str → Option Value) (fSlotCost fLeastNumbers fPriceRises fLeastPriced fBoundOf fSo fPi fOf fLDrawSlots fLGreatSlots fLSlotCosts fLBound fLStarts fLPrice fLSomeRow fLGoing fLLeastCost : Addr) (dSlotCost dLeastNumbers dPriceRises dLeastPriced dBoundOf dSo dPi dOf dLDrawSlots dLGreatSlots dLSlotCosts dLBound dLStarts dLPrice dLSomeRow dLGoing dLLeastCost : FuncData) : Prop where
  FSlotCost : Fun K "slot_cost" "slot_cost" sSlotCost fSlotCost dSlotCost
  bSlotCost : Binds K dSlotCost ["slot", "x"] []
  gSlotCost : mg "slot_cost" = some (.ref fSlotCost)
  FLeastNumbers : Fun K "least_numbers" "least_numbers" sLeastNumbers fLeastNumbers dLeastNumbers
  bLeastNumbers : Binds K dLeastNumbers ["slot", "price"] []
  gLeastNumbers : mg "least_numbers" = some (.ref fLeastNumbers)
  FPriceRises : Fun K "price_rises" "price_rises" sPriceRises fPriceRises dPriceRises
  bPriceRises : Binds K dPriceRises ["prices"] []
  gPriceRises : mg "price_rises" = some (.ref fPriceRises)
  FLeastPriced : Fun K "least_priced" "least_priced" sLeastPriced fLeastPriced dLeastPriced
  bLeastPriced : Binds K dLeastPriced ["slot", "price"] []
  gLeastPriced : mg "least_priced" = some (.ref fLeastPriced)
  FBoundOf : Fun K "bound_of" "bound_of" sBoundOf fBoundOf dBoundOf
  bBoundOf : Binds K dBoundOf ["slots", "b", "prices"] []
  gBoundOf : mg "bound_of" = some (.ref fBoundOf)
  FSo : Fun K "_law_source" "_law_source" sSo fSo dSo
  bSo : Binds K dSo ["script"] []
  gSo : mg "_law_source" = some (.ref fSo)
  FPi : Fun K "_law_pick" "_law_pick" sPi fPi dPi
  bPi : Binds K dPi ["source", "many"] []
  gPi : mg "_law_pick" = some (.ref fPi)
  FOf : Fun K "_law_of" "_law_of" sOf fOf dOf
  bOf : Binds K dOf ["source", "some"] []
  gOf : mg "_law_of" = some (.ref fOf)
  FLDrawSlots : Fun K "_law_draw_slots" "_law_draw_slots" sLDrawSlots fLDrawSlots dLDrawSlots
  bLDrawSlots : Binds K dLDrawSlots ["source", "ticks", "most"] []
  gLDrawSlots : mg "_law_draw_slots" = some (.ref fLDrawSlots)
  FLGreatSlots : Fun K "_law_great_slots" "_law_great_slots" sLGreatSlots fLGreatSlots dLGreatSlots
  bLGreatSlots : Binds K dLGreatSlots ["source", "ticks", "most"] []
  gLGreatSlots : mg "_law_great_slots" = some (.ref fLGreatSlots)
  FLSlotCosts : Fun K "_law_slot_costs" "_law_slot_costs" sLSlotCosts fLSlotCosts dLSlotCosts
  bLSlotCosts : Binds K dLSlotCosts ["slots"] []
  gLSlotCosts : mg "_law_slot_costs" = some (.ref fLSlotCosts)
  FLBound : Fun K "_law_bound" "_law_bound" sLBound fLBound dLBound
  bLBound : Binds K dLBound ["slots", "prices"] []
  gLBound : mg "_law_bound" = some (.ref fLBound)
  FLStarts : Fun K "_law_starts" "_law_starts" sLStarts fLStarts dLStarts
  bLStarts : Binds K dLStarts ["row"] []
  gLStarts : mg "_law_starts" = some (.ref fLStarts)
  FLPrice : Fun K "_law_price" "_law_price" sLPrice fLPrice dLPrice
  bLPrice : Binds K dLPrice ["costs", "row", "b"] []
  gLPrice : mg "_law_price" = some (.ref fLPrice)
  FLSomeRow : Fun K "_law_some_row" "_law_some_row" sLSomeRow fLSomeRow dLSomeRow
  bLSomeRow : Binds K dLSomeRow ["source", "slots"] []
  gLSomeRow : mg "_law_some_row" = some (.ref fLSomeRow)
  FLGoing : Fun K "_law_going" "_law_going" sLGoing fLGoing dLGoing
  bLGoing : Binds K dLGoing ["costs", "b"] []
  gLGoing : mg "_law_going" = some (.ref fLGoing)
  FLLeastCost : Fun K "_law_least_cost" "_law_least_cost" sLLeastCost fLLeastCost dLLeastCost
  bLLeastCost : Binds K dLLeastCost ["costs", "b"] []
  gLLeastCost : mg "_law_least_cost" = some (.ref fLLeastCost)
section
variable {P : Program} {w : World} {K : PySem.W.Frag} {mg : Str → Option Value} {base : Heap}
variable {fSlotCost fLeastNumbers fPriceRises fLeastPriced fBoundOf fSo fPi fOf fLDrawSlots fLGreatSlots fLSlotCosts fLBound fLStarts fLPrice fLSomeRow fLGoing fLLeastCost : Addr} {dSlotCost dLeastNumbers dPriceRises dLeastPriced dBoundOf dSo dPi dOf dLDrawSlots dLGreatSlots dLSlotCosts dLBound dLStarts dLPrice dLSomeRow dLGoing dLLeastCost : FuncData}
set_option maxHeartbeats 4000000 in
theorem ok_SlotCost (D : Dfs K mg fSlotCost fLeastNumbers fPriceRises fLeastPriced fBoundOf fSo fPi fOf fLDrawSlots fLGreatSlots fLSlotCosts fLBound fLStarts fLPrice fLSomeRow fLGoing fLLeastCost dSlotCost dLeastNumbers dPriceRises dLeastPriced dBoundOf dSo dPi dOf dLDrawSlots dLGreatSlots dLSlotCosts dLBound dLStarts dLPrice dLSomeRow dLGoing dLLeastCost) (B : Bl mg) : FnOk P w K mg base CX0 1 fSlotCost dSlotCost ["slot", "x"] (spB K [.v .fz, .v .fz] .fz F_slot_cost) := by
  refine D.FSlotCost.ok scsSlotCost (fun vs H Q E h => spB_len h) (fun cdv A outer s H vs Q E hr h => ?_)
  have hu := hu_of hr
  have hu64 := hr.units
  refine ⟨_, (pss_cons (ps_asg (pv 0) (pg_tup rfl (pgs_cons (pg_name (i := 2) scsSlotCost.nd rfl (.inl rfl)) (pgs_cons (pg_name (i := 3) scsSlotCost.nd rfl (.inl rfl)) (pgs_cons (pg_name (i := 4) scsSlotCost.nd rfl (.inl rfl)) (pgs_cons (pg_name (i := 5) scsSlotCost.nd rfl (.inl rfl)) pgs_nil))))))
      (pss_cons (ps_if (PW.pt (pw_or (pt_cmpR op_lt (pv 1) (pv 2) (nomark _)) (pw_or1 (pt_cmpR op_gt (pv 1) (pv 3) (nomark _)))))
        (pss_one (ps_ret pe_non))
        pss_nil)
      (pss_one (ps_ret (pe_op (r := rAddE K) op_addE (pv 4) (pe_callB (r := rSumE K) (cr_sumE rfl) (by rfl) B.sum (by decide +kernel) (pa_cons (pe_slice (r := rSlE K) sl_E (pv 5) po_none (po_some (pe_op op_sub (pv 1) (pv 2)))) pa_nil))))))), ?_⟩
  exact fn_post (K := K) (ms := [.v .fz, .v .fz]) (N := 6) (c := .fz) (f := f_slot_cost) (s_seq (s_asg (rf_var rfl) (rg_tup (rgs_cons (rg_name (by decide)) (rgs_cons (rg_name (by decide)) (rgs_cons (rg_name (by decide)) (rgs_cons (rg_name (by decide)) rgs_nil))))) rfl)
    (s_seq (s_ifq (rt_or (rt_t (RF.rv (rf_bin g_lt (rf_var rfl) (RF.rv (rf_var rfl))))) (rt_t (RF.rv (rf_bin g_gt (rf_var rfl) (RF.rv (rf_var rfl))))))
    (s_ret (RF.ro rf_non) rfl)
    (s_next rfl))
    (s_ret (RF.ro (rf_bin e_add (rf_var rfl) (RF.rv (rf_cb1 e_sum (RF.rv (rf_sl (rf_var rfl) rp_none (rp_some (RF.rv (rf_bin g_sub (rf_var rfl) (RF.rv (rf_var rfl))))))))))) rfl)))
    (.inl rfl) h
set_option maxHeartbeats 4000000 in
theorem ok_LeastNumbers (D : Dfs K mg fSlotCost fLeastNumbers fPriceRises fLeastPriced fBoundOf fSo fPi fOf fLDrawSlots fLGreatSlots fLSlotCosts fLBound fLStarts fLPrice fLSomeRow fLGoing fLLeastCost dSlotCost dLeastNumbers dPriceRises dLeastPriced dBoundOf dSo dPi dOf dLDrawSlots dLGreatSlots dLSlotCosts dLBound dLStarts dLPrice dLSomeRow dLGoing dLLeastCost) (B : Bl mg) : FnOk P w K mg base CX0 1 fLeastNumbers dLeastNumbers ["slot", "price"] (spB K [.v .fz, .v .fz] .fz F_least_numbers) := by
  refine D.FLeastNumbers.ok scsLeastNumbers (fun vs H Q E h => spB_len h) (fun cdv A outer s H vs Q E hr h => ?_)
  have hu := hu_of hr
  have hu64 := hr.units
  refine ⟨_, (pss_cons (ps_asg (pv 0) (pg_tup rfl (pgs_cons (pg_name (i := 2) scsLeastNumbers.nd rfl (.inl rfl)) (pgs_cons (pg_name (i := 3) scsLeastNumbers.nd rfl (.inl rfl)) (pgs_cons (pg_name (i := 3) scsLeastNumbers.nd rfl (.inl rfl)) (pgs_cons (pg_name (i := 4) scsLeastNumbers.nd rfl (.inl rfl)) pgs_nil))))))
      (pss_cons (ps_set (i := 5) scsLeastNumbers.nd rfl (.inl rfl) (pe_callB call_len_seq (by rfl) B.len PySem.boot_len (pa_cons (pe_lc (own := [("slope", 7)]) (g := gName 7) rfl scsLeastNumbers.nd (pi_seq (pv 4)) (blkOk_by (own := [("slope", 7)]) (N := ["slot", "price", "need", "_", "slopes", "falling", "not_rising", "slope"]) (sc := defScope sLeastNumbers) (by decide +kernel)) (fun _ _ _ _ _ => (pg_name (i := 7) scsLeastNumbers.nd rfl (.inl rfl))) (fun _ _ _ _ _ => pts_one (pt_cmpR op_lt (pe_op (r := rAddE K) op_addE (pv 7) (pv 1)) pe_int (nomark _))) (fun _ _ _ _ _ => (pv 7))) pa_nil)))
      (pss_cons (ps_set (i := 6) scsLeastNumbers.nd rfl (.inl rfl) (pe_callB call_len_seq (by rfl) B.len PySem.boot_len (pa_cons (pe_lc (own := [("slope", 7)]) (g := gName 7) rfl scsLeastNumbers.nd (pi_seq (pv 4)) (blkOk_by (own := [("slope", 7)]) (N := ["slot", "price", "need", "_", "slopes", "falling", "not_rising", "slope"]) (sc := defScope sLeastNumbers) (by decide +kernel)) (fun _ _ _ _ _ => (pg_name (i := 7) scsLeastNumbers.nd rfl (.inl rfl))) (fun _ _ _ _ _ => pts_one (pt_cmpR op_le (pe_op (r := rAddE K) op_addE (pv 7) (pv 1)) pe_int (nomark _))) (fun _ _ _ _ _ => (pv 7))) pa_nil)))
      (pss_one (ps_ret (pe_tup (pa_cons (pe_op (r := rAddE K) op_addE (pv 2) (pv 5)) (pa_cons (pe_op (r := rAddE K) op_addE (pv 2) (pv 6)) pa_nil)))))))), ?_⟩
  exact fn_post (K := K) (ms := [.v .fz, .v .fz]) (N := 8) (c := .fz) (f := f_least_numbers) (s_seq (s_asg (rf_var rfl) (rg_tup (rgs_cons (rg_name (by decide)) (rgs_cons (rg_name (by decide)) (rgs_cons (rg_name (by decide)) (rgs_cons (rg_name (by decide)) rgs_nil))))) rfl)
    (s_seq (s_setF (rf_cb1 g1_len (RF.rv (RO.rf (ro_lc (ri_seq (rf_var rfl)) (rg_name (by decide)) (rt_t (RF.rv (rf_bin g_lt (rf_bin e_add (rf_var rfl) (RF.rv (rf_var rfl))) (RF.rv rf_int)))) (rf_var rfl) rfl rfl rfl rfl)))) (by decide) (by decide))
    (s_seq (s_setF (rf_cb1 g1_len (RF.rv (RO.rf (ro_lc (ri_seq (rf_var rfl)) (rg_name (by decide)) (rt_t (RF.rv (rf_bin g_le (rf_bin e_add (rf_var rfl) (RF.rv (rf_var rfl))) (RF.rv rf_int)))) (rf_var rfl) rfl rfl rfl rfl)))) (by decide) (by decide))
    (s_ret (RF.ro (rf_tup (ra_cons (rf_bin e_add (rf_var rfl) (RF.rv (rf_var rfl))) (ra_cons (rf_bin e_add (rf_var rfl) (RF.rv (rf_var rfl))) ra_nil)))) rfl))))
    (.inl rfl) h
set_option maxHeartbeats 4000000 in
theorem ok_PriceRises (D : Dfs K mg fSlotCost fLeastNumbers fPriceRises fLeastPriced fBoundOf fSo fPi fOf fLDrawSlots fLGreatSlots fLSlotCosts fLBound fLStarts fLPrice fLSomeRow fLGoing fLLeastCost dSlotCost dLeastNumbers dPriceRises dLeastPriced dBoundOf dSo dPi dOf dLDrawSlots dLGreatSlots dLSlotCosts dLBound dLStarts dLPrice dLSomeRow dLGoing dLLeastCost) (B : Bl mg) : FnOk P w K mg base CX0 1 fPriceRises dPriceRises ["prices"] (spB K [.v .fz] .fz F_price_rises) := by
  refine D.FPriceRises.ok scsPriceRises (fun vs H Q E h => spB_len h) (fun cdv A outer s H vs Q E hr h => ?_)
  have hu := hu_of hr
  have hu64 := hr.units
  refine ⟨_, (pss_one (ps_ret (pe_lc (own := [("price", 1), ("late", 2)]) (g := gTup K 2 (gCons (gName 1) (gCons (gName 2) gNil))) rfl scsPriceRises.nd (pi_zipE (by rfl) B.zip (pa_cons (pv 0) (pa_cons (pe_op (r := rAddE K) op_addE (pe_slice (r := rSlE K) sl_E (pv 0) (po_some pe_int) po_none) (pe_tup (pa_cons pe_int pa_nil))) pa_nil))) (blkOk_by (own := [("price", 1), ("late", 2)]) (N := ["prices", "price", "late"]) (sc := defScope sPriceRises) (by decide +kernel)) (fun _ _ _ _ _ => (pg_tup rfl (pgs_cons (pg_name (i := 1) scsPriceRises.nd rfl (.inl rfl)) (pgs_cons (pg_name (i := 2) scsPriceRises.nd rfl (.inl rfl)) pgs_nil)))) (fun _ _ _ _ _ => pts_nil) (fun _ _ _ _ _ => (pe_op op_sub (pv 1) (pv 2)))))), ?_⟩
  exact fn_post (K := K) (ms := [.v .fz]) (N := 3) (c := .fz) (f := f_price_rises) (s_ret (RF.ro (RO.rf (ro_lc (ri_zipE (ra_cons (rf_var rfl) (ra_cons (rf_bin e_add (rf_sl (rf_var rfl) (rp_some (RF.rv rf_int)) rp_none) (RF.rv (rf_tup (ra_cons rf_int ra_nil)))) ra_nil))) (rg_tup (rgs_cons (rg_name (by decide)) (rgs_cons (rg_name (by decide)) rgs_nil))) rt_yes (rf_bin g_sub (rf_var rfl) (RF.rv (rf_var rfl))) rfl rfl rfl rfl))) rfl)
    (.inl rfl) h
set_option maxHeartbeats 4000000 in
theorem ok_LSlotCosts (D : Dfs K mg fSlotCost fLeastNumbers fPriceRises fLeastPriced fBoundOf fSo fPi fOf fLDrawSlots fLGreatSlots fLSlotCosts fLBound fLStarts fLPrice fLSomeRow fLGoing fLLeastCost dSlotCost dLeastNumbers dPriceRises dLeastPriced dBoundOf dSo dPi dOf dLDrawSlots dLGreatSlots dLSlotCosts dLBound dLStarts dLPrice dLSomeRow dLGoing dLLeastCost) (B : Bl mg) : FnOk P w K mg base CX0 1 fLSlotCosts dLSlotCosts ["slots"] (spB K [.v .fz] .fz F_law_slot_costs) := by
  refine D.FLSlotCosts.ok scsLSlotCosts (fun vs H Q E h => spB_len h) (fun cdv A outer s H vs Q E hr h => ?_)
  have hu := hu_of hr
  have hu64 := hr.units
  refine ⟨_, (pss_cons (ps_set (i := 1) scsLSlotCosts.nd rfl (.inl rfl) (pe_lst pa_nil))
      (pss_cons (ps_for PassesOwn.never rfl (pi_seq (pv 0)) (pg_tup rfl (pgs_cons (pg_name (i := 2) scsLSlotCosts.nd rfl (.inl rfl)) (pgs_cons (pg_name (i := 3) scsLSlotCosts.nd rfl (.inl rfl)) (pgs_cons (pg_name (i := 4) scsLSlotCosts.nd rfl (.inl rfl)) (pgs_cons (pg_name (i := 5) scsLSlotCosts.nd rfl (.inl rfl)) pgs_nil)))))
        (pss_cons (ps_set (i := 6) scsLSlotCosts.nd rfl (.inl rfl) (pe_disp (pps_cons (pv 2) (pv 4) pps_nil) (by rfl) (by rfl) (fun z => by cases z) (by decide)))
        (pss_cons (ps_for PassesOwn.never rfl (pi_enu (by rfl) B.enumerate (pa_cons (pv 5) pa_nil)) (pg_tup rfl (pgs_cons (pg_name (i := 7) scsLSlotCosts.nd rfl (.inl rfl)) (pgs_cons (pg_name (i := 8) scsLSlotCosts.nd rfl (.inl rfl)) pgs_nil)))
          (pss_one (ps_dput hu (pv 6) (pe_op (r := rAddE K) op_addE (pe_op (r := rAddE K) op_addE (pv 2) pe_int) (pv 7)) (pe_op (r := rAddE K) op_addE (pe_ix (r := rIxE K) (ix_E hu) (pv 6) (pe_op (r := rAddE K) op_addE (pv 2) (pv 7)) (fun _ _ => rfl)) (pv 8)) rfl)))
        (pss_one (ps_expr (pe_bm PySem.F.plainAttrs_list PySem.F.slot_list_append PySem.F.type_list_append mt_append (pv 1) (pa_cons (pv 6) pa_nil)))))))
      (pss_one (ps_ret (pv 1))))), ?_⟩
  exact fn_post (K := K) (ms := [.v .fz]) (N := 9) (c := .fz) (f := f_law_slot_costs) (s_seq (s_setO (ro_lst ra_nil) (by decide) (by decide))
    (s_seq (s_for (ri_seq (rf_var rfl)) (rg_tup (rgs_cons (rg_name (by decide)) (rgs_cons (rg_name (by decide)) (rgs_cons (rg_name (by decide)) (rgs_cons (rg_name (by decide)) rgs_nil)))))
    (s_seq (s_setO (ro_disp (.cons (rf_var rfl) (rf_var rfl) RPs.nil)) (by decide) (by decide))
    (s_seq (s_for (ri_enu (ra_cons (rf_var rfl) ra_nil)) (rg_tup (rgs_cons (rg_name (by decide)) (rgs_cons (rg_name (by decide)) rgs_nil)))
    (s_end (s_dput (rf_bin e_add (rf_bin_own e_ix rfl (RF.rv (rf_bin e_add (rf_var rfl) (RF.rv (rf_var rfl)))) rfl) (RF.rv (rf_var rfl))) rfl (RF.rv (rf_bin e_add (rf_bin e_add (rf_var rfl) (RF.rv rf_int)) (RF.rv (rf_var rfl)))) rfl) rfl) rfl)
    (s_end (s_append rfl (rf_frz rfl (by decide)) rfl) rfl))) rfl)
    (s_ret (RF.ro (rf_frz rfl (by decide))) rfl)))
    (.inl rfl) h
set_option maxHeartbeats 4000000 in
theorem ok_LStarts (D : Dfs K mg fSlotCost fLeastNumbers fPriceRises fLeastPriced fBoundOf fSo fPi fOf fLDrawSlots fLGreatSlots fLSlotCosts fLBound fLStarts fLPrice fLSomeRow fLGoing fLLeastCost dSlotCost dLeastNumbers dPriceRises dLeastPriced dBoundOf dSo dPi dOf dLDrawSlots dLGreatSlots dLSlotCosts dLBound dLStarts dLPrice dLSomeRow dLGoing dLLeastCost) (B : Bl mg) : FnOk P w K mg base CX0 1 fLStarts dLStarts ["row"] (spB K [.v .fz] .fz F_law_starts) := by
  refine D.FLStarts.ok scsLStarts (fun vs H Q E h => spB_len h) (fun cdv A outer s H vs Q E hr h => ?_)
  have hu := hu_of hr
  have hu64 := hr.units
  refine ⟨_, (pss_one (ps_ret (pe_callB (r := rSumE K) (cr_sumE rfl) (by rfl) B.sum (by decide +kernel) (pa_cons (pe_lc (own := [("t", 1)]) (g := gName 1) rfl scsLStarts.nd (pi_range1 rfl B.range (pa_cons (pe_callB call_len_seq (by rfl) B.len PySem.boot_len (pa_cons (pv 0) pa_nil)) pa_nil)) (blkOk_by (own := [("t", 1)]) (N := ["row", "t"]) (sc := defScope sLStarts) (by decide +kernel)) (fun _ _ _ _ _ => (pg_name (i := 1) scsLStarts.nd rfl (.inl rfl))) (fun _ _ _ _ _ => pts_nil) (fun _ _ _ _ _ => (pe_callB (call_max2 rfl) (by rfl) B.max boot_max (pa_cons pe_int (pa_cons (pe_op op_sub (pe_ix (r := rIxE K) (ix_E hu) (pv 0) (pv 1) (fun _ _ => rfl)) (pe_ifExp (pt_cmpR op_gt (pv 1) pe_int (nomark _)) (pe_ix (r := rIxE K) (ix_E hu) (pv 0) (pe_op op_sub (pv 1) pe_int) (fun _ _ => rfl)) pe_int)) pa_nil))))) pa_nil)))), ?_⟩
  exact fn_post (K := K) (ms := [.v .fz]) (N := 2) (c := .fz) (f := f_law_starts) (s_ret (RF.ro (rf_cb1 e_sum (RF.rv (RO.rf (ro_lc (ri_range1 (ra_cons (rf_cb1 g1_len (RF.rv (rf_var rfl))) ra_nil)) (rg_name (by decide)) rt_yes (rf_cb2 g_max rf_int (RF.rv (rf_bin g_sub (rf_bin e_ix (rf_var rfl) (RF.rv (rf_var rfl))) (RF.rv (rf_ife (rt_t (RF.rv (rf_bin g_gt (rf_var rfl) (RF.rv rf_int)))) (rf_bin e_ix (rf_var rfl) (RF.rv (rf_bin g_sub (rf_var rfl) (RF.rv rf_int)))) rf_int))))) rfl rfl rfl rfl))))) rfl)
    (.inl rfl) h
set_option maxHeartbeats 4000000 in
theorem ok_LGoing (D : Dfs K mg fSlotCost fLeastNumbers fPriceRises fLeastPriced fBoundOf fSo fPi fOf fLDrawSlots fLGreatSlots fLSlotCosts fLBound fLStarts fLPrice fLSomeRow fLGoing fLLeastCost dSlotCost dLeastNumbers dPriceRises dLeastPriced dBoundOf dSo dPi dOf dLDrawSlots dLGreatSlots dLSlotCosts dLBound dLStarts dLPrice dLSomeRow dLGoing dLLeastCost) (B : Bl mg) : FnOk P w K mg base CX0 1 fLGoing dLGoing ["costs", "b"] (spB K [.v .fz, .v .fz] .fz F_law_going) := by
  refine D.FLGoing.ok scsLGoing (fun vs H Q E h => spB_len h) (fun cdv A outer s H vs Q E hr h => ?_)
  have hu := hu_of hr
  have hu64 := hr.units
  refine ⟨_, (pss_cons (ps_asg (pe_tup (pa_cons (pe_lst pa_nil) (pa_cons (pe_disp (pps_cons pe_int pe_int pps_nil) (by rfl) (by rfl) (fun z => by cases z) (by decide)) pa_nil))) (pg_tup rfl (pgs_cons (pg_name (i := 2) scsLGoing.nd rfl (.inl rfl)) (pgs_cons (pg_name (i := 3) scsLGoing.nd rfl (.inr rfl)) pgs_nil))))
      (pss_cons (ps_for PassesOwn.never rfl (pi_seq (pv 0)) (pg_name (i := 4) scsLGoing.nd rfl (.inl rfl))
        (pss_cons (ps_set (i := 5) scsLGoing.nd rfl (.inl rfl) pe_dnewK)
        (pss_cons (ps_lockW (ps_for PassesOwn.never rfl (pi_keys (pv 4)) (pg_name (i := 6) scsLGoing.nd rfl (.inr rfl))
          (pss_one (ps_dput hu (pv 5) (pv 6) (pe_op (r := rAddE K) op_addE (pe_ix (r := rIxE K) (ix_E hu) (pv 4) (pv 6) (fun _ _ => rfl)) (pe_callB (r := rMin K) (cr_min rfl) (by rfl) B.min (by decide +kernel) (pa_cons (pe_lockW (pe_lc (own := [("y", 7)]) (g := gName 7) rfl scsLGoing.nd (pi_keys (pv 3)) (blkOk_by (own := [("y", 7)]) (N := ["costs", "b", "found", "ahead", "some", "here", "x", "y"]) (sc := defScope sLGoing) (by decide +kernel)) (fun _ _ _ _ _ => (pg_name (i := 7) scsLGoing.nd rfl (.inl rfl))) (fun _ _ _ _ _ => pts_nil) (fun _ _ _ _ _ => (pe_op (r := rAddE K) op_addE (pe_ix (r := rIxE K) (ix_E hu) (pv 3) (pv 7) (fun _ _ => rfl)) (pe_op (r := rMulE K) op_mulE (pv 1) (pe_callB (call_max2 rfl) (by rfl) B.max boot_max (pa_cons pe_int (pa_cons (pe_op op_sub (pv 6) (pv 7)) pa_nil)))))))) pa_nil))) rfl))))
        (pss_cons (ps_expr (pe_bm PySem.F.plainAttrs_list PySem.F.slot_list_append PySem.F.type_list_append mt_append (pv 2) (pa_cons (pv 5) pa_nil)))
        (pss_one (ps_set (i := 3) scsLGoing.nd rfl (.inr rfl) (pv 5)))))))
      (pss_one (ps_ret (pv 2))))), ?_⟩
  exact fn_post (K := K) (ms := [.v .fz, .v .fz]) (N := 8) (c := .fz) (f := f_law_going) (s_seq (s_tup2 (ro_lst ra_nil) (RF.ro (RO.rf (ro_disp (.cons rf_int rf_int RPs.nil)))) (by decide) (by decide) (by decide) (by decide) (by decide))
    (s_seq (s_for (ri_seq (rf_var rfl)) (rg_name (by decide))
    (s_seq (s_setO ro_dnew (by decide) (by decide))
    (s_seq (s_forK rfl (rg_name (by decide))
    (s_end (s_dput (rf_bin e_add (rf_bin e_ix (rf_var rfl) (RF.rv (rf_var rfl))) (RF.rv (rf_cb1 g1_minL (RF.rv (RO.rf (ro_lcK rfl (rg_name (by decide)) rt_yes (rf_bin e_add (rf_bin e_ix (rf_var rfl) (RF.rv (rf_var rfl))) (RF.rv (rf_bin e_mul (rf_var rfl) (RF.rv (rf_cb2 g_max rf_int (RF.rv (rf_bin g_sub (rf_var rfl) (RF.rv (rf_var rfl))))))))) rfl rfl rfl rfl)))))) rfl (RF.rv (rf_var rfl)) rfl) rfl) rfl)
    (s_seq (s_append rfl (rf_frz rfl (by decide)) rfl)
    (s_end (s_setF (rf_var rfl) (by decide) (by decide)) rfl)))) rfl)
    (s_ret (RF.ro (rf_frz rfl (by decide))) rfl)))
    (.inl rfl) h
set_option maxHeartbeats 4000000 in
theorem ok_LeastPriced (D : Dfs K mg fSlotCost fLeastNumbers fPriceRises fLeastPriced fBoundOf fSo fPi fOf fLDrawSlots fLGreatSlots fLSlotCosts fLBound fLStarts fLPrice fLSomeRow fLGoing fLLeastCost dSlotCost dLeastNumbers dPriceRises dLeastPriced dBoundOf dSo dPi dOf dLDrawSlots dLGreatSlots dLSlotCosts dLBound dLStarts dLPrice dLSomeRow dLGoing dLLeastCost) (B : Bl mg) : FnOk P w K mg base CX0 2 fLeastPriced dLeastPriced ["slot", "price"] (spB K [.v .fz, .v .fz] .fz F_least_priced) := by
  have GSlotCost : FnOk P w K mg base CX0 1 fSlotCost dSlotCost ["slot", "x"] (spB K [.v .fz, .v .fz] .fz F_slot_cost) := ok_SlotCost D B
  have GLeastNumbers : FnOk P w K mg base CX0 1 fLeastNumbers dLeastNumbers ["slot", "price"] (spB K [.v .fz, .v .fz] .fz F_least_numbers) := ok_LeastNumbers D B
  refine D.FLeastPriced.ok scsLeastPriced (fun vs H Q E h => spB_len h) (fun cdv A outer s H vs Q E hr h => ?_)
  have hu := hu_of hr
  have hu64 := hr.units
  have hrSlotCost := hr.mono (show 1 ≤ 1 by decide)
  have hrLeastNumbers := hr.mono (show 1 ≤ 1 by decide)
  refine ⟨_, (pss_cons (ps_set (i := 2) scsLeastPriced.nd rfl (.inl rfl) (pe_ix (r := rIxE K) (ix_E hu) (pe_call GLeastNumbers hrLeastNumbers (by rfl) D.gLeastNumbers D.FLeastNumbers.kp D.bLeastNumbers .nil pass0 (pa_cons (pv 0) (pa_cons (pv 1) pa_nil))) pe_int (fun _ _ => rfl)))
      (pss_one (ps_ret (pe_op (r := rAddE K) op_addE (pe_call GSlotCost hrSlotCost (by rfl) D.gSlotCost D.FSlotCost.kp D.bSlotCost .nil pass0 (pa_cons (pv 0) (pa_cons (pv 2) pa_nil))) (pe_op (r := rMulE K) op_mulE (pv 1) (pv 2)))))), ?_⟩
  exact fn_post (K := K) (ms := [.v .fz, .v .fz]) (N := 3) (c := .fz) (f := f_least_priced) (s_seq (s_setF (rf_bin e_ix (rf_call rfl (fun _ _ h => fnE_len h) (ra_cons (rf_var rfl) (ra_cons (rf_var rfl) ra_nil))) (RF.rv rf_int)) (by decide) (by decide))
    (s_ret (RF.ro (rf_bin e_add (rf_call rfl (fun _ _ h => fnE_len h) (ra_cons (rf_var rfl) (ra_cons (rf_var rfl) ra_nil))) (RF.rv (rf_bin e_mul (rf_var rfl) (RF.rv (rf_var rfl)))))) rfl))
    (.inl rfl) h
set_option maxHeartbeats 4000000 in
theorem ok_Of (D : Dfs K mg fSlotCost fLeastNumbers fPriceRises fLeastPriced fBoundOf fSo fPi fOf fLDrawSlots fLGreatSlots fLSlotCosts fLBound fLStarts fLPrice fLSomeRow fLGoing fLLeastCost dSlotCost dLeastNumbers dPriceRises dLeastPriced dBoundOf dSo dPi dOf dLDrawSlots dLGreatSlots dLSlotCosts dLBound dLStarts dLPrice dLSomeRow dLGoing dLLeastCost) (B : Bl mg) : FnOk P w K mg base CX0 2 fOf dOf ["source", "some"] (spB K [.v .src, .v .fz] .fz F_law_of) := by
  have GPi : FnOk P w K mg base CX0 1 fPi dPi ["source", "many"] (spB K [.v .src, .v .fz] .fz F_pick) := ok_pick D.FPi B
  refine D.FOf.ok scsOf (fun vs H Q E h => spB_len h) (fun cdv A outer s H vs Q E hr h => ?_)
  have hu := hu_of hr
  have hu64 := hr.units
  have hrPi := hr.mono (show 1 ≤ 1 by decide)
  refine ⟨_, (pss_one (ps_ret (pe_ix (r := rIxE K) (ix_E hu) (pv 1) (pe_call GPi hrPi (by rfl) D.gPi D.FPi.kp D.bPi .nil pass0 (pa_cons (pv 0) (pa_cons (pe_callB call_len_seq (by rfl) B.len PySem.boot_len (pa_cons (pv 1) pa_nil)) pa_nil))) (fun _ _ => rfl)))), ?_⟩
  exact fn_post (K := K) (ms := [.v .src, .v .fz]) (N := 2) (c := .fz) (f := f_law_of) (s_ret (RF.ro (rf_bin e_ix (rf_var rfl) (RF.rv (rf_callS rfl (by decide) (fun _ _ h => F_pick_len h) rfl (ra_cons (rf_cb1 g1_len (RF.rv (rf_var rfl))) ra_nil) rfl)))) rfl)
    (.inl rfl) h
set_option maxHeartbeats 4000000 in
theorem ok_LBound (D : Dfs K mg fSlotCost fLeastNumbers fPriceRises fLeastPriced fBoundOf fSo fPi fOf fLDrawSlots fLGreatSlots fLSlotCosts fLBound fLStarts fLPrice fLSomeRow fLGoing fLLeastCost dSlotCost dLeastNumbers dPriceRises dLeastPriced dBoundOf dSo dPi dOf dLDrawSlots dLGreatSlots dLSlotCosts dLBound dLStarts dLPrice dLSomeRow dLGoing dLLeastCost) (B : Bl mg) : FnOk P w K mg base CX0 2 fLBound dLBound ["slots", "prices"] (spB K [.v .fz, .v .fz] .fz F_law_bound) := by
  have GLSlotCosts : FnOk P w K mg base CX0 1 fLSlotCosts dLSlotCosts ["slots"] (spB K [.v .fz] .fz F_law_slot_costs) := ok_LSlotCosts D B
  refine D.FLBound.ok scsLBound (fun vs H Q E h => spB_len h) (fun cdv A outer s H vs Q E hr h => ?_)
  have hu := hu_of hr
  have hu64 := hr.units
  have hrLSlotCosts := hr.mono (show 1 ≤ 1 by decide)
  refine ⟨_, (pss_cons (ps_asg (pe_tup (pa_cons pe_int (pa_cons (pe_op (r := rAddE K) op_addE (pe_callTy (r := rListE K) (cr_listE rfl) (by rfl) B.list (by decide +kernel) (pa_cons (pe_slice (r := rSlE K) sl_E (pv 1) (po_some pe_int) po_none) pa_nil)) (pe_lst (pa_cons pe_int pa_nil))) pa_nil))) (pg_tup rfl (pgs_cons (pg_name (i := 2) scsLBound.nd rfl (.inl rfl)) (pgs_cons (pg_name (i := 3) scsLBound.nd rfl (.inr rfl)) pgs_nil))))
      (pss_cons (ps_for PassesOwn.never rfl (pi_enu (by rfl) B.enumerate (pa_cons (pe_call GLSlotCosts hrLSlotCosts (by rfl) D.gLSlotCosts D.FLSlotCosts.kp D.bLSlotCosts .nil pass0 (pa_cons (pv 0) pa_nil)) pa_nil)) (pg_tup rfl (pgs_cons (pg_name (i := 4) scsLBound.nd rfl (.inr rfl)) (pgs_cons (pg_name (i := 5) scsLBound.nd rfl (.inr rfl)) pgs_nil)))
        (pss_one (ps_set (i := 2) scsLBound.nd rfl (.inl rfl) (pe_op (r := rAddE K) op_addE (pv 2) (pe_callB (r := rMin K) (cr_min rfl) (by rfl) B.min (by decide +kernel) (pa_cons (pe_lockW (pe_lc (own := [("x", 6)]) (g := gName 6) rfl scsLBound.nd (pi_keys (pv 5)) (blkOk_by (own := [("x", 6)]) (N := ["slots", "prices", "found", "late", "t", "here", "x"]) (sc := defScope sLBound) (by decide +kernel)) (fun _ _ _ _ _ => (pg_name (i := 6) scsLBound.nd rfl (.inl rfl))) (fun _ _ _ _ _ => pts_nil) (fun _ _ _ _ _ => (pe_op (r := rAddE K) op_addE (pe_ix (r := rIxE K) (ix_E hu) (pv 5) (pv 6) (fun _ _ => rfl)) (pe_op (r := rMulE K) op_mulE (pe_op op_sub (pe_ix (r := rIxE K) (ix_E hu) (pv 1) (pv 4) (fun _ _ => rfl)) (pe_ix (r := rIxE K) (ix_E hu) (pv 3) (pv 4) (fun _ _ => rfl))) (pv 6)))))) pa_nil))))))
      (pss_one (ps_ret (pv 2))))), ?_⟩
  exact fn_post (K := K) (ms := [.v .fz, .v .fz]) (N := 7) (c := .fz) (f := f_law_bound) (s_seq (s_tup2 (RF.ro rf_int) (RF.ro (rf_bin e_add (RO.rf (ro_cb1 e_list (RF.rv (rf_sl (rf_var rfl) (rp_some (RF.rv rf_int)) rp_none)))) (RF.rv (RO.rf (ro_lst (ra_cons rf_int ra_nil)))))) (by decide) (by decide) (by decide) (by decide) (by decide))
    (s_seq (s_for (ri_enu (ra_cons (rf_call rfl (fun _ _ h => fnE_len h) (ra_cons (rf_var rfl) ra_nil)) ra_nil)) (rg_tup (rgs_cons (rg_name (by decide)) (rgs_cons (rg_name (by decide)) rgs_nil)))
    (s_end (s_setF (rf_bin e_add (rf_var rfl) (RF.rv (rf_cb1 g1_minL (RF.rv (RO.rf (ro_lcK rfl (rg_name (by decide)) rt_yes (rf_bin e_add (rf_bin e_ix (rf_var rfl) (RF.rv (rf_var rfl))) (RF.rv (rf_bin e_mul (rf_bin g_sub (rf_bin e_ix (rf_var rfl) (RF.rv (rf_var rfl))) (RF.rv (rf_bin e_ix (rf_var rfl) (RF.rv (rf_var rfl))))) (RF.rv (rf_var rfl))))) rfl rfl rfl rfl)))))) (by decide) (by decide)) rfl) rfl)
    (s_ret (RF.ro (rf_var rfl)) rfl)))
    (.inl rfl) h
set_option maxHeartbeats 4000000 in
theorem ok_LPrice (D : Dfs K mg fSlotCost fLeastNumbers fPriceRises fLeastPriced fBoundOf fSo fPi fOf fLDrawSlots fLGreatSlots fLSlotCosts fLBound fLStarts fLPrice fLSomeRow fLGoing fLLeastCost dSlotCost dLeastNumbers dPriceRises dLeastPriced dBoundOf dSo dPi dOf dLDrawSlots dLGreatSlots dLSlotCosts dLBound dLStarts dLPrice dLSomeRow dLGoing dLLeastCost) (B : Bl mg) : FnOk P w K mg base CX0 2 fLPrice dLPrice ["costs", "row", "b"] (spB K [.v .fz, .v .fz, .v .fz] .fz F_law_price) := by
  have GLStarts : FnOk P w K mg base CX0 1 fLStarts dLStarts ["row"] (spB K [.v .fz] .fz F_law_starts) := ok_LStarts D B
  refine D.FLPrice.ok scsLPrice (fun vs H Q E h => spB_len h) (fun cdv A outer s H vs Q E hr h => ?_)
  have hu := hu_of hr
  have hu64 := hr.units
  have hrLStarts := hr.mono (show 1 ≤ 1 by decide)
  refine ⟨_, (pss_cons (ps_if (PW.pt (pw_or (pt_cmpR (r := rNeE K) (op_neE hu64) (pe_callB call_len_seq (by rfl) B.len PySem.boot_len (pa_cons (pv 1) pa_nil)) (pe_callB call_len_seq (by rfl) B.len PySem.boot_len (pa_cons (pv 0) pa_nil)) (nomark _)) (pw_or1 (pt_cmpR (r := rNeE K) (op_neE hu64) (pe_lc (own := [("t", 3)]) (g := gName 3) rfl scsLPrice.nd (pi_range1 rfl B.range (pa_cons (pe_callB call_len_seq (by rfl) B.len PySem.boot_len (pa_cons (pv 1) pa_nil)) pa_nil)) (blkOk_by (own := [("t", 3)]) (N := ["costs", "row", "b", "t"]) (sc := defScope sLPrice) (by decide +kernel)) (fun _ _ _ _ _ => (pg_name (i := 3) scsLPrice.nd rfl (.inl rfl))) (fun _ _ _ _ _ => pts_one (pt_cmpR (r := rNinE K) (op_ninE hu) (pe_ix (r := rIxE K) (ix_E hu) (pv 1) (pv 3) (fun _ _ => rfl)) (pe_ix (r := rIxE K) (ix_E hu) (pv 0) (pv 3) (fun _ _ => rfl)) (by rfl))) (fun _ _ _ _ _ => (pv 3))) (pe_lst pa_nil) (nomark _)))))
        (pss_one (ps_ret (pe_lst pa_nil)))
        pss_nil)
      (pss_one (ps_ret (pe_lst (pa_cons (pe_op (r := rAddE K) op_addE (pe_callB (r := rSumE K) (cr_sumE rfl) (by rfl) B.sum (by decide +kernel) (pa_cons (pe_lc (own := [("t", 3)]) (g := gName 3) rfl scsLPrice.nd (pi_range1 rfl B.range (pa_cons (pe_callB call_len_seq (by rfl) B.len PySem.boot_len (pa_cons (pv 1) pa_nil)) pa_nil)) (blkOk_by (own := [("t", 3)]) (N := ["costs", "row", "b", "t"]) (sc := defScope sLPrice) (by decide +kernel)) (fun _ _ _ _ _ => (pg_name (i := 3) scsLPrice.nd rfl (.inl rfl))) (fun _ _ _ _ _ => pts_nil) (fun _ _ _ _ _ => (pe_ix (r := rIxE K) (ix_E hu) (pe_ix (r := rIxE K) (ix_E hu) (pv 0) (pv 3) (fun _ _ => rfl)) (pe_ix (r := rIxE K) (ix_E hu) (pv 1) (pv 3) (fun _ _ => rfl)) (fun _ _ => rfl)))) pa_nil)) (pe_op (r := rMulE K) op_mulE (pv 2) (pe_call GLStarts hrLStarts (by rfl) D.gLStarts D.FLStarts.kp D.bLStarts .nil pass0 (pa_cons (pv 1) pa_nil)))) pa_nil))))), ?_⟩
  exact fn_post (K := K) (ms := [.v .fz, .v .fz, .v .fz]) (N := 4) (c := .fz) (f := f_law_price) (s_seq (s_ifq (rt_or (rt_t (RF.rv (rf_bin e_ne (rf_cb1 g1_len (RF.rv (rf_var rfl))) (RF.rv (rf_cb1 g1_len (RF.rv (rf_var rfl))))))) (rt_t (RF.rv (rf_bin e_ne (RO.rf (ro_lc (ri_range1 (ra_cons (rf_cb1 g1_len (RF.rv (rf_var rfl))) ra_nil)) (rg_name (by decide)) (rt_t (RF.rv (rf_bin e_nin (rf_bin e_ix (rf_var rfl) (RF.rv (rf_var rfl))) (RF.rv (rf_bin e_ix (rf_var rfl) (RF.rv (rf_var rfl))))))) (rf_var rfl) rfl rfl rfl rfl)) (RF.rv (RO.rf (ro_lst ra_nil)))))))
    (s_ret (RF.ro (RO.rf (ro_lst ra_nil))) rfl)
    (s_next rfl))
    (s_ret (RF.ro (RO.rf (ro_lst (ra_cons (rf_bin e_add (rf_cb1 e_sum (RF.rv (RO.rf (ro_lc (ri_range1 (ra_cons (rf_cb1 g1_len (RF.rv (rf_var rfl))) ra_nil)) (rg_name (by decide)) rt_yes (rf_bin e_ix (rf_bin e_ix (rf_var rfl) (RF.rv (rf_var rfl))) (RF.rv (rf_bin e_ix (rf_var rfl) (RF.rv (rf_var rfl))))) rfl rfl rfl rfl)))) (RF.rv (rf_bin e_mul (rf_var rfl) (RF.rv (rf_call rfl (fun _ _ h => fnE_len h) (ra_cons (rf_var rfl) ra_nil)))))) ra_nil)))) rfl))
    (.inl rfl) h
set_option maxHeartbeats 4000000 in
theorem ok_LSomeRow (D : Dfs K mg fSlotCost fLeastNumbers fPriceRises fLeastPriced fBoundOf fSo fPi fOf fLDrawSlots fLGreatSlots fLSlotCosts fLBound fLStarts fLPrice fLSomeRow fLGoing fLLeastCost dSlotCost dLeastNumbers dPriceRises dLeastPriced dBoundOf dSo dPi dOf dLDrawSlots dLGreatSlots dLSlotCosts dLBound dLStarts dLPrice dLSomeRow dLGoing dLLeastCost) (B : Bl mg) : FnOk P w K mg base CX0 2 fLSomeRow dLSomeRow ["source", "slots"] (spB K [.v .src, .v .fz] .fz F_law_some_row) := by
  have GPi : FnOk P w K mg base CX0 1 fPi dPi ["source", "many"] (spB K [.v .src, .v .fz] .fz F_pick) := ok_pick D.FPi B
  refine D.FLSomeRow.ok scsLSomeRow (fun vs H Q E h => spB_len h) (fun cdv A outer s H vs Q E hr h => ?_)
  have hu := hu_of hr
  have hu64 := hr.units
  have hrPi := hr.mono (show 1 ≤ 1 by decide)
  refine ⟨_, (pss_cons (ps_set (i := 2) scsLSomeRow.nd rfl (.inl rfl) (pe_lst pa_nil))
      (pss_cons (ps_for PassesOwn.never rfl (pi_seq (pv 1)) (pg_tup rfl (pgs_cons (pg_name (i := 3) scsLSomeRow.nd rfl (.inl rfl)) (pgs_cons (pg_name (i := 4) scsLSomeRow.nd rfl (.inl rfl)) (pgs_cons (pg_name (i := 5) scsLSomeRow.nd rfl (.inl rfl)) (pgs_cons (pg_name (i := 6) scsLSomeRow.nd rfl (.inl rfl)) pgs_nil)))))
        (pss_cons (ps_set (i := 7) scsLSomeRow.nd rfl (.inl rfl) (pe_op (r := rAddE K) op_addE (pv 3) (pe_call GPi hrPi (by rfl) D.gPi D.FPi.kp D.bPi .nil pass0 (pa_cons (pv 0) (pa_cons (pe_op (r := rAddE K) op_addE (pe_op op_sub (pv 4) (pv 3)) pe_int) pa_nil)))))
        (pss_cons (ps_if (PW.pt (pw_and (pt_cmpR (r := rNeE K) (op_neE hu64) (pv 2) (pe_lst pa_nil) (nomark _)) (pw_and1 (pt_cmpR (r := rEqE K) (op_eqE hu64) (pe_call GPi hrPi (by rfl) D.gPi D.FPi.kp D.bPi .nil pass0 (pa_cons (pv 0) (pa_cons pe_int pa_nil))) pe_int (nomark _)))))
          (pss_one (ps_set (i := 7) scsLSomeRow.nd rfl (.inl rfl) (pe_callB (call_min2 rfl) (by rfl) B.min boot_min (pa_cons (pe_callB (call_max2 rfl) (by rfl) B.max boot_max (pa_cons (pe_ix (r := rIxE K) (ix_E hu) (pv 2) (pe_un un_neg pe_int) (fun _ _ => rfl)) (pa_cons (pv 3) pa_nil))) (pa_cons (pv 4) pa_nil)))))
          pss_nil)
        (pss_one (ps_expr (pe_bm PySem.F.plainAttrs_list PySem.F.slot_list_append PySem.F.type_list_append mt_append (pv 2) (pa_cons (pv 7) pa_nil)))))))
      (pss_one (ps_ret (pe_callTy call_tuple_of (by rfl) B.tuple (by decide +kernel) (pa_cons (pv 2) pa_nil)))))), ?_⟩
  exact fn_post (K := K) (ms := [.v .src, .v .fz]) (N := 8) (c := .fz) (f := f_law_some_row) (s_seq (s_setO (ro_lst ra_nil) (by decide) (by decide))
    (s_seq (s_for (ri_seq (rf_var rfl)) (rg_tup (rgs_cons (rg_name (by decide)) (rgs_cons (rg_name (by decide)) (rgs_cons (rg_name (by decide)) (rgs_cons (rg_name (by decide)) rgs_nil)))))
    (s_seq (s_setF (rf_bin e_add (rf_var rfl) (RF.rv (rf_callS rfl (by decide) (fun _ _ h => F_pick_len h) rfl (ra_cons (rf_bin e_add (rf_bin g_sub (rf_var rfl) (RF.rv (rf_var rfl))) (RF.rv rf_int)) ra_nil) rfl))) (by decide) (by decide))
    (s_seq (s_ifq (rt_and (rt_t (RF.rv (rf_bin_own e_ne rfl (RF.rv (RO.rf (ro_lst ra_nil))) rfl))) (rt_t (RF.rv (rf_bin e_eq (rf_callS rfl (by decide) (fun _ _ h => F_pick_len h) rfl (ra_cons rf_int ra_nil) rfl) (RF.rv rf_int)))))
    (s_end (s_setF (rf_cb2 g_min (rf_cb2 g_max (rf_bin_own e_ix rfl (RF.rv (rf_un g_neg (RF.rv rf_int))) rfl) (RF.rv (rf_var rfl))) (RF.rv (rf_var rfl))) (by decide) (by decide)) rfl)
    (s_next rfl))
    (s_end (s_append rfl (rf_var rfl) rfl) rfl))) rfl)
    (s_ret (RF.ro (rf_cb1 g1_tuple (rv_own rfl))) rfl)))
    (.inl rfl) h
set_option maxHeartbeats 4000000 in
theorem ok_LLeastCost (D : Dfs K mg fSlotCost fLeastNumbers fPriceRises fLeastPriced fBoundOf fSo fPi fOf fLDrawSlots fLGreatSlots fLSlotCosts fLBound fLStarts fLPrice fLSomeRow fLGoing fLLeastCost dSlotCost dLeastNumbers dPriceRises dLeastPriced dBoundOf dSo dPi dOf dLDrawSlots dLGreatSlots dLSlotCosts dLBound dLStarts dLPrice dLSomeRow dLGoing dLLeastCost) (B : Bl mg) : FnOk P w K mg base CX0 2 fLLeastCost dLLeastCost ["costs", "b"] (spB K [.v .fz, .v .fz] .fz F_law_least_cost) := by
  have GLGoing : FnOk P w K mg base CX0 1 fLGoing dLGoing ["costs", "b"] (spB K [.v .fz, .v .fz] .fz F_law_going) := ok_LGoing D B
  refine D.FLLeastCost.ok scsLLeastCost (fun vs H Q E h => spB_len h) (fun cdv A outer s H vs Q E hr h => ?_)
  have hu := hu_of hr
  have hu64 := hr.units
  have hrLGoing := hr.mono (show 1 ≤ 1 by decide)
  refine ⟨_, (pss_one (ps_ret (pe_ifExp (pt_cmpR (r := rNeE K) (op_neE hu64) (pv 0) (pe_lst pa_nil) (nomark _)) (pe_callB (r := rMin K) (cr_min rfl) (by rfl) B.min (by decide +kernel) (pa_cons (pe_callTy (r := rListV) (cr_listV rfl) (by rfl) B.list (by decide +kernel) (pa_cons (pe_dvals0 (pe_ix (r := rIxE K) (ix_E hu) (pe_call GLGoing hrLGoing (by rfl) D.gLGoing D.FLGoing.kp D.bLGoing .nil pass0 (pa_cons (pv 0) (pa_cons (pv 1) pa_nil))) (pe_un un_neg pe_int) (fun _ _ => rfl))) pa_nil)) pa_nil)) pe_int))), ?_⟩
  exact fn_post (K := K) (ms := [.v .fz, .v .fz]) (N := 2) (c := .fz) (f := f_law_least_cost) (s_ret (RF.ro (rf_ife (rt_t (RF.rv (rf_bin e_ne (rf_var rfl) (RF.rv (RO.rf (ro_lst ra_nil)))))) (rf_cb1 g1_minL (RF.rv (RO.rf (ro_vals (RF.rv (rf_bin e_ix (rf_call rfl (fun _ _ h => fnE_len h) (ra_cons (rf_var rfl) (ra_cons (rf_var rfl) ra_nil))) (RF.rv (rf_un g_neg (RF.rv rf_int))))))))) rf_int)) rfl)
    (.inl rfl) h
set_option maxHeartbeats 4000000 in
theorem ok_BoundOf (D : Dfs K mg fSlotCost fLeastNumbers fPriceRises fLeastPriced fBoundOf fSo fPi fOf fLDrawSlots fLGreatSlots fLSlotCosts fLBound fLStarts fLPrice fLSomeRow fLGoing fLLeastCost dSlotCost dLeastNumbers dPriceRises dLeastPriced dBoundOf dSo dPi dOf dLDrawSlots dLGreatSlots dLSlotCosts dLBound dLStarts dLPrice dLSomeRow dLGoing dLLeastCost) (B : Bl mg) : FnOk P w K mg base CX0 3 fBoundOf dBoundOf ["slots", "b", "prices"] (spB K [.v .fz, .v .fz, .v .fz] .fz F_bound_of) := by
  have GPriceRises : FnOk P w K mg base CX0 1 fPriceRises dPriceRises ["prices"] (spB K [.v .fz] .fz F_price_rises) := ok_PriceRises D B
  have GLeastPriced : FnOk P w K mg base CX0 2 fLeastPriced dLeastPriced ["slot", "price"] (spB K [.v .fz, .v .fz] .fz F_least_priced) := ok_LeastPriced D B
  refine D.FBoundOf.ok scsBoundOf (fun vs H Q E h => spB_len h) (fun cdv A outer s H vs Q E hr h => ?_)
  have hu := hu_of hr
  have hu64 := hr.units
  have hrPriceRises := hr.mono (show 1 ≤ 2 by decide)
  have hrLeastPriced := hr.mono (show 2 ≤ 2 by decide)
  refine ⟨_, (pss_one (ps_ret (pe_callB (r := rSumE K) (cr_sumE rfl) (by rfl) B.sum (by decide +kernel) (pa_cons (pe_lc (own := [("slot", 3), ("price", 4)]) (g := gTup K 2 (gCons (gName 3) (gCons (gName 4) gNil))) rfl scsBoundOf.nd (pi_zipE (by rfl) B.zip (pa_cons (pv 0) (pa_cons (pe_call GPriceRises hrPriceRises (by rfl) D.gPriceRises D.FPriceRises.kp D.bPriceRises .nil pass0 (pa_cons (pv 2) pa_nil)) pa_nil))) (blkOk_by (own := [("slot", 3), ("price", 4)]) (N := ["slots", "b", "prices", "slot", "price"]) (sc := defScope sBoundOf) (by decide +kernel)) (fun _ _ _ _ _ => (pg_tup rfl (pgs_cons (pg_name (i := 3) scsBoundOf.nd rfl (.inl rfl)) (pgs_cons (pg_name (i := 4) scsBoundOf.nd rfl (.inl rfl)) pgs_nil)))) (fun _ _ _ _ _ => pts_nil) (fun _ _ _ _ _ => (pe_call GLeastPriced hrLeastPriced (by rfl) D.gLeastPriced D.FLeastPriced.kp D.bLeastPriced .nil pass0 (pa_cons (pv 3) (pa_cons (pv 4) pa_nil))))) pa_nil)))), ?_⟩
  exact fn_post (K := K) (ms := [.v .fz, .v .fz, .v .fz]) (N := 5) (c := .fz) (f := f_bound_of) (s_ret (RF.ro (rf_cb1 e_sum (RF.rv (RO.rf (ro_lc (ri_zipE (ra_cons (rf_var rfl) (ra_cons (rf_call rfl (fun _ _ h => fnE_len h) (ra_cons (rf_var rfl) ra_nil)) ra_nil))) (rg_tup (rgs_cons (rg_name (by decide)) (rgs_cons (rg_name (by decide)) rgs_nil))) rt_yes (rf_call rfl (fun _ _ h => fnE_len h) (ra_cons (rf_var rfl) (ra_cons (rf_var rfl) ra_nil))) rfl rfl rfl rfl))))) rfl)
    (.inl rfl) h
set_option maxHeartbeats 4000000 in
theorem ok_LDrawSlots (D : Dfs K mg fSlotCost fLeastNumbers fPriceRises fLeastPriced fBoundOf fSo fPi fOf fLDrawSlots fLGreatSlots fLSlotCosts fLBound fLStarts fLPrice fLSomeRow fLGoing fLLeastCost dSlotCost dLeastNumbers dPriceRises dLeastPriced dBoundOf dSo dPi dOf dLDrawSlots dLGreatSlots dLSlotCosts dLBound dLStarts dLPrice dLSomeRow dLGoing dLLeastCost) (B : Bl mg) : FnOk P w K mg base CX0 3 fLDrawSlots dLDrawSlots ["source", "ticks", "most"] (spB K [.v .src, .v .fz, .v .fz] .fz F_law_draw_slots) := by
  have GPi : FnOk P w K mg base CX0 1 fPi dPi ["source", "many"] (spB K [.v .src, .v .fz] .fz F_pick) := ok_pick D.FPi B
  have GOf : FnOk P w K mg base CX0 2 fOf dOf ["source", "some"] (spB K [.v .src, .v .fz] .fz F_law_of) := ok_Of D B
  refine D.FLDrawSlots.ok scsLDrawSlots (fun vs H Q E h => spB_len h) (fun cdv A outer s H vs Q E hr h => ?_)
  have hu := hu_of hr
  have hu64 := hr.units
  have hrPi := hr.mono (show 1 ≤ 2 by decide)
  have hrOf := hr.mono (show 2 ≤ 2 by decide)
  refine ⟨_, (pss_cons (ps_set (i := 3) scsLDrawSlots.nd rfl (.inl rfl) (pe_lst pa_nil))
      (pss_cons (ps_for PassesOwn.never rfl (pi_range1 rfl B.range (pa_cons (pv 1) pa_nil)) (pg_name (i := 4) scsLDrawSlots.nd rfl (.inl rfl))
        (pss_cons (ps_set (i := 5) scsLDrawSlots.nd rfl (.inl rfl) (pe_ifExp (pt_cmpR (r := rEqE K) (op_eqE hu64) (pe_call GPi hrPi (by rfl) D.gPi D.FPi.kp D.bPi .nil pass0 (pa_cons (pv 0) (pa_cons pe_int pa_nil))) pe_int (nomark _)) (pe_call GPi hrPi (by rfl) D.gPi D.FPi.kp D.bPi .nil pass0 (pa_cons (pv 0) (pa_cons (pe_op (r := rAddE K) op_addE (pv 2) pe_int) pa_nil))) pe_int))
        (pss_cons (ps_set (i := 6) scsLDrawSlots.nd rfl (.inl rfl) (pe_op (r := rAddE K) op_addE (pv 5) (pe_call GPi hrPi (by rfl) D.gPi D.FPi.kp D.bPi .nil pass0 (pa_cons (pv 0) (pa_cons (pe_op (r := rAddE K) op_addE (pe_op op_sub (pv 2) (pv 5)) pe_int) pa_nil)))))
        (pss_cons (ps_set (i := 7) scsLDrawSlots.nd rfl (.inr rfl) (pe_call GOf hrOf (by rfl) D.gOf D.FOf.kp D.bOf .nil pass0 (pa_cons (pv 0) (pa_cons (pe_lst (pa_cons pe_int (pa_cons pe_int (pa_cons pe_int pa_nil)))) pa_nil))))
        (pss_cons (ps_set (i := 8) scsLDrawSlots.nd rfl (.inr rfl) (pe_callB (r := rSortedI K) cr_sortedI (by rfl) B.sorted (by decide +kernel) (pa_cons (pe_lc (own := [("k", 10)]) (g := gName 10) rfl scsLDrawSlots.nd (pi_range1 rfl B.range (pa_cons (pe_op op_sub (pv 6) (pv 5)) pa_nil)) (blkOk_by (own := [("k", 10)]) (N := ["source", "ticks", "most", "found", "lap", "need", "many", "steep", "slopes", "low", "k"]) (sc := defScope sLDrawSlots) (by decide +kernel)) (fun _ _ _ _ _ => (pg_name (i := 10) scsLDrawSlots.nd rfl (.inl rfl))) (fun _ _ _ _ _ => pts_nil) (fun _ _ _ _ _ => (pe_op op_sub (pe_call GPi hrPi (by rfl) D.gPi D.FPi.kp D.bPi .nil pass0 (pa_cons (pv 0) (pa_cons (pe_op (r := rAddE K) op_addE (pe_op (r := rMulE K) op_mulE pe_int (pv 7)) pe_int) pa_nil))) (pv 7)))) pa_nil)))
        (pss_cons (ps_set (i := 9) scsLDrawSlots.nd rfl (.inl rfl) (pe_callB (r := rMin K) (cr_min rfl) (by rfl) B.min (by decide +kernel) (pa_cons (pe_op (r := rAddE K) op_addE (pe_lst (pa_cons pe_int pa_nil)) (pe_lc (own := [("k", 10)]) (g := gName 10) rfl scsLDrawSlots.nd (pi_range1 rfl B.range (pa_cons (pe_callB call_len_seq (by rfl) B.len PySem.boot_len (pa_cons (pv 8) pa_nil)) pa_nil)) (blkOk_by (own := [("k", 10)]) (N := ["source", "ticks", "most", "found", "lap", "need", "many", "steep", "slopes", "low", "k"]) (sc := defScope sLDrawSlots) (by decide +kernel)) (fun _ _ _ _ _ => (pg_name (i := 10) scsLDrawSlots.nd rfl (.inl rfl))) (fun _ _ _ _ _ => pts_nil) (fun _ _ _ _ _ => (pe_callB (r := rSumE K) (cr_sumE rfl) (by rfl) B.sum (by decide +kernel) (pa_cons (pe_slice (r := rSlE K) sl_E (pv 8) po_none (po_some (pe_op (r := rAddE K) op_addE (pv 10) pe_int))) pa_nil))))) pa_nil)))
        (pss_one (ps_expr (pe_bm PySem.F.plainAttrs_list PySem.F.slot_list_append PySem.F.type_list_append mt_append (pv 3) (pa_cons (pe_tup (pa_cons (pv 5) (pa_cons (pv 6) (pa_cons (pe_op op_sub (pe_call GPi hrPi (by rfl) D.gPi D.FPi.kp D.bPi .nil pass0 (pa_cons (pv 0) (pa_cons pe_int pa_nil))) (pv 9)) (pa_cons (pe_callTy call_tuple_of (by rfl) B.tuple (by decide +kernel) (pa_cons (pv 8) pa_nil)) pa_nil))))) pa_nil))))))))))
      (pss_one (ps_ret (pe_callTy call_tuple_of (by rfl) B.tuple (by decide +kernel) (pa_cons (pv 3) pa_nil)))))), ?_⟩
  exact fn_post (K := K) (ms := [.v .src, .v .fz, .v .fz]) (N := 11) (c := .fz) (f := f_law_draw_slots) (s_seq (s_setO (ro_lst ra_nil) (by decide) (by decide))
    (s_seq (s_for (ri_range1 (ra_cons (rf_var rfl) ra_nil)) (rg_name (by decide))
    (s_seq (s_setF (rf_ife (rt_t (RF.rv (rf_bin e_eq (rf_callS rfl (by decide) (fun _ _ h => F_pick_len h) rfl (ra_cons rf_int ra_nil) rfl) (RF.rv rf_int)))) (rf_callS rfl (by decide) (fun _ _ h => F_pick_len h) rfl (ra_cons (rf_bin e_add (rf_var rfl) (RF.rv rf_int)) ra_nil) rfl) rf_int) (by decide) (by decide))
    (s_seq (s_setF (rf_bin e_add (rf_var rfl) (RF.rv (rf_callS rfl (by decide) (fun _ _ h => F_pick_len h) rfl (ra_cons (rf_bin e_add (rf_bin g_sub (rf_var rfl) (RF.rv (rf_var rfl))) (RF.rv rf_int)) ra_nil) rfl))) (by decide) (by decide))
    (s_seq (s_setF (rf_callS rfl (by decide) (fun _ _ h => fnE_len h) rfl (ra_cons (RO.rf (ro_lst (ra_cons rf_int (ra_cons rf_int (ra_cons rf_int ra_nil))))) ra_nil) rfl) (by decide) (by decide))
    (s_seq (s_setF (RO.rf (ro_cb1 l1_sortedI (RF.rv (RO.rf (ro_lc (ri_range1 (ra_cons (rf_bin g_sub (rf_var rfl) (RF.rv (rf_var rfl))) ra_nil)) (rg_name (by decide)) rt_yes (rf_bin g_sub (rf_callS rfl (by decide) (fun _ _ h => F_pick_len h) rfl (ra_cons (rf_bin e_add (rf_bin e_mul rf_int (RF.rv (rf_var rfl))) (RF.rv rf_int)) ra_nil) rfl) (RF.rv (rf_var rfl))) rfl rfl rfl rfl))))) (by decide) (by decide))
    (s_seq (s_setF (rf_cb1 g1_minL (RF.rv (rf_bin e_add (RO.rf (ro_lst (ra_cons rf_int ra_nil))) (RF.rv (RO.rf (ro_lc (ri_range1 (ra_cons (rf_cb1 g1_len (RF.rv (rf_var rfl))) ra_nil)) (rg_name (by decide)) rt_yes (rf_cb1 e_sum (RF.rv (rf_sl (rf_var rfl) rp_none (rp_some (RF.rv (rf_bin e_add (rf_var rfl) (RF.rv rf_int))))))) rfl rfl rfl rfl)))))) (by decide) (by decide))
    (s_end (s_append rfl (rf_tup (ra_cons (rf_var rfl) (ra_cons (rf_var rfl) (ra_cons (rf_bin g_sub (rf_callS rfl (by decide) (fun _ _ h => F_pick_len h) rfl (ra_cons rf_int ra_nil) rfl) (RF.rv (rf_var rfl))) (ra_cons (rf_cb1 g1_tuple (RF.rv (rf_var rfl))) ra_nil))))) rfl) rfl)))))) rfl)
    (s_ret (RF.ro (rf_cb1 g1_tuple (rv_own rfl))) rfl)))
    (.inl rfl) h
set_option maxHeartbeats 4000000 in
theorem ok_LGreatSlots (D : Dfs K mg fSlotCost fLeastNumbers fPriceRises fLeastPriced fBoundOf fSo fPi fOf fLDrawSlots fLGreatSlots fLSlotCosts fLBound fLStarts fLPrice fLSomeRow fLGoing fLLeastCost dSlotCost dLeastNumbers dPriceRises dLeastPriced dBoundOf dSo dPi dOf dLDrawSlots dLGreatSlots dLSlotCosts dLBound dLStarts dLPrice dLSomeRow dLGoing dLLeastCost) (B : Bl mg) : FnOk P w K mg base CX0 4 fLGreatSlots dLGreatSlots ["source", "ticks", "most"] (spB K [.v .src, .v .fz, .v .fz] .fz F_law_great_slots) := by
  have GOf : FnOk P w K mg base CX0 2 fOf dOf ["source", "some"] (spB K [.v .src, .v .fz] .fz F_law_of) := ok_Of D B
  have GLDrawSlots : FnOk P w K mg base CX0 3 fLDrawSlots dLDrawSlots ["source", "ticks", "most"] (spB K [.v .src, .v .fz, .v .fz] .fz F_law_draw_slots) := ok_LDrawSlots D B
  refine D.FLGreatSlots.ok scsLGreatSlots (fun vs H Q E h => spB_len h) (fun cdv A outer s H vs Q E hr h => ?_)
  have hu := hu_of hr
  have hu64 := hr.units
  have hrOf := hr.mono (show 2 ≤ 3 by decide)
  have hrLDrawSlots := hr.mono (show 3 ≤ 3 by decide)
  refine ⟨_, (pss_cons (ps_par (i := 3) (j := 4) rfl scsLGreatSlots.nd rfl rfl (by decide) rfl rfl (pa_cons (pe_call GLDrawSlots hrLDrawSlots (by rfl) D.gLDrawSlots D.FLDrawSlots.kp D.bLDrawSlots .nil pass0 (pa_cons (pv 0) (pa_cons (pv 1) (pa_cons (pv 2) pa_nil)))) (pa_cons (pe_call GOf hrOf (by rfl) D.gOf D.FOf.kp D.bOf .nil pass0 (pa_cons (pv 0) (pa_cons (pe_lst (pa_cons pe_int (pa_cons pe_int (pa_cons pe_int (pa_cons pe_int (pa_cons (pe_op op_sub (pe_op op_pow pe_int pe_int) (pv 2)) pa_nil)))))) pa_nil))) pa_nil)) (by rfl))
      (pss_cons (ps_set (i := 5) scsLGreatSlots.nd rfl (.inr rfl) (pe_call GOf hrOf (by rfl) D.gOf D.FOf.kp D.bOf .nil pass0 (pa_cons (pv 0) (pa_cons (pe_lst (pa_cons pe_int (pa_cons pe_int (pa_cons pe_int (pa_cons (pe_op op_pow pe_int pe_int) (pa_cons (pe_op op_pow pe_int pe_int) pa_nil)))))) pa_nil))))
      (pss_cons (ps_set (i := 6) scsLGreatSlots.nd rfl (.inl rfl) (pe_lst pa_nil))
      (pss_cons (ps_for PassesOwn.never rfl (pi_seq (pv 3)) (pg_tup rfl (pgs_cons (pg_name (i := 7) scsLGreatSlots.nd rfl (.inl rfl)) (pgs_cons (pg_name (i := 8) scsLGreatSlots.nd rfl (.inl rfl)) (pgs_cons (pg_name (i := 9) scsLGreatSlots.nd rfl (.inl rfl)) (pgs_cons (pg_name (i := 10) scsLGreatSlots.nd rfl (.inl rfl)) pgs_nil)))))
        (pss_one (ps_expr (pe_bm PySem.F.plainAttrs_list PySem.F.slot_list_append PySem.F.type_list_append mt_append (pv 6) (pa_cons (pe_tup (pa_cons (pe_op (r := rAddE K) op_addE (pv 7) (pv 4)) (pa_cons (pe_op (r := rAddE K) op_addE (pv 8) (pv 4)) (pa_cons (pe_op (r := rMulE K) op_mulE (pv 9) (pv 5)) (pa_cons (pe_callTy call_tuple_of (by rfl) B.tuple (by decide +kernel) (pa_cons (pe_lc (own := [("slope", 11)]) (g := gName 11) rfl scsLGreatSlots.nd (pi_seq (pv 10)) (blkOk_by (own := [("slope", 11)]) (N := ["source", "ticks", "most", "slots", "far", "by", "found", "need", "high", "first", "slopes", "slope"]) (sc := defScope sLGreatSlots) (by decide +kernel)) (fun _ _ _ _ _ => (pg_name (i := 11) scsLGreatSlots.nd rfl (.inl rfl))) (fun _ _ _ _ _ => pts_nil) (fun _ _ _ _ _ => (pe_op (r := rMulE K) op_mulE (pv 11) (pv 5)))) pa_nil)) pa_nil))))) pa_nil)))))
      (pss_one (ps_ret (pe_callTy call_tuple_of (by rfl) B.tuple (by decide +kernel) (pa_cons (pv 6) pa_nil)))))))), ?_⟩
  exact fn_post (K := K) (ms := [.v .src, .v .fz, .v .fz]) (N := 12) (c := .fz) (f := f_law_great_slots) (s_seq (s_par2 (RF.ro (rf_callS rfl (by decide) (fun _ _ h => fnE_len h) rfl (ra_cons (rf_var rfl) (ra_cons (rf_var rfl) ra_nil)) rfl)) (RF.ro (rf_callS rfl (by decide) (fun _ _ h => fnE_len h) rfl (ra_cons (RO.rf (ro_lst (ra_cons rf_int (ra_cons rf_int (ra_cons rf_int (ra_cons rf_int (ra_cons (rf_bin g_sub (rf_bin g_pow rf_int (RF.rv rf_int)) (RF.rv (rf_var rfl))) ra_nil))))))) ra_nil) rfl)) (by decide) (by decide) (by decide) (by decide) (by decide))
    (s_seq (s_setF (rf_callS rfl (by decide) (fun _ _ h => fnE_len h) rfl (ra_cons (RO.rf (ro_lst (ra_cons rf_int (ra_cons rf_int (ra_cons rf_int (ra_cons (rf_bin g_pow rf_int (RF.rv rf_int)) (ra_cons (rf_bin g_pow rf_int (RF.rv rf_int)) ra_nil))))))) ra_nil) rfl) (by decide) (by decide))
    (s_seq (s_setO (ro_lst ra_nil) (by decide) (by decide))
    (s_seq (s_for (ri_seq (rf_var rfl)) (rg_tup (rgs_cons (rg_name (by decide)) (rgs_cons (rg_name (by decide)) (rgs_cons (rg_name (by decide)) (rgs_cons (rg_name (by decide)) rgs_nil)))))
    (s_end (s_append rfl (rf_tup (ra_cons (rf_bin e_add (rf_var rfl) (RF.rv (rf_var rfl))) (ra_cons (rf_bin e_add (rf_var rfl) (RF.rv (rf_var rfl))) (ra_cons (rf_bin e_mul (rf_var rfl) (RF.rv (rf_var rfl))) (ra_cons (rf_cb1 g1_tuple (RF.rv (RO.rf (ro_lc (ri_seq (rf_var rfl)) (rg_name (by decide)) rt_yes (rf_bin e_mul (rf_var rfl) (RF.rv (rf_var rfl))) rfl rfl rfl rfl)))) ra_nil))))) rfl) rfl) rfl)
    (s_ret (RF.ro (rf_cb1 g1_tuple (rv_own rfl))) rfl)))))
    (.inl rfl) h
def spLaw (K : PySem.W.Frag) : Sp := fun vs H Q _ => ∃ (a : Addr) (ns : List Int), vs = [.ref a] ∧ SqL K H a (ns.map V.int) ∧ ns.length ≤ 63 ∧ ∀ H', Q (.bl true) H'
set_option maxHeartbeats 40000000 in
theorem ok_law {f : Addr} {fd : FuncData} (F : Fun K "law" "law" sLa f fd) (D : Dfs K mg fSlotCost fLeastNumbers fPriceRises fLeastPriced fBoundOf fSo fPi fOf fLDrawSlots fLGreatSlots fLSlotCosts fLBound fLStarts fLPrice fLSomeRow fLGoing fLLeastCost dSlotCost dLeastNumbers dPriceRises dLeastPriced dBoundOf dSo dPi dOf dLDrawSlots dLGreatSlots dLSlotCosts dLBound dLStarts dLPrice dLSomeRow dLGoing dLLeastCost) (B : Bl mg)
    (true_ : ∀ ns : List Int, ns.length ≤ 63 → ∃ as, F_law_K32 [.scr ns] = some (.bl true, as)) : FnG P w K mg base 5 f fd ["script"] (spLaw K) := by
  have GLeastNumbers : FnOk P w K mg base CX0 1 fLeastNumbers dLeastNumbers ["slot", "price"] (spB K [.v .fz, .v .fz] .fz F_least_numbers) := ok_LeastNumbers D B
  have GBoundOf : FnOk P w K mg base CX0 3 fBoundOf dBoundOf ["slots", "b", "prices"] (spB K [.v .fz, .v .fz, .v .fz] .fz F_bound_of) := ok_BoundOf D B
  have GSo : FnOk P w K mg base CX0 1 fSo dSo ["script"] (spB K [.v .fz] .src F_source) := ok_source D.FSo B
  have GPi : FnOk P w K mg base CX0 1 fPi dPi ["source", "many"] (spB K [.v .src, .v .fz] .fz F_pick) := ok_pick D.FPi B
  have GOf : FnOk P w K mg base CX0 2 fOf dOf ["source", "some"] (spB K [.v .src, .v .fz] .fz F_law_of) := ok_Of D B
  have GLGreatSlots : FnOk P w K mg base CX0 4 fLGreatSlots dLGreatSlots ["source", "ticks", "most"] (spB K [.v .src, .v .fz, .v .fz] .fz F_law_great_slots) := ok_LGreatSlots D B
  have GLSlotCosts : FnOk P w K mg base CX0 1 fLSlotCosts dLSlotCosts ["slots"] (spB K [.v .fz] .fz F_law_slot_costs) := ok_LSlotCosts D B
  have GLBound : FnOk P w K mg base CX0 2 fLBound dLBound ["slots", "prices"] (spB K [.v .fz, .v .fz] .fz F_law_bound) := ok_LBound D B
  have GLPrice : FnOk P w K mg base CX0 2 fLPrice dLPrice ["costs", "row", "b"] (spB K [.v .fz, .v .fz, .v .fz] .fz F_law_price) := ok_LPrice D B
  have GLSomeRow : FnOk P w K mg base CX0 2 fLSomeRow dLSomeRow ["source", "slots"] (spB K [.v .src, .v .fz] .fz F_law_some_row) := ok_LSomeRow D B
  have GLLeastCost : FnOk P w K mg base CX0 2 fLLeastCost dLLeastCost ["costs", "b"] (spB K [.v .fz, .v .fz] .fz F_law_least_cost) := ok_LLeastCost D B
  refine okG F scsLa (fun cdv A outer s H vs Q hr hg h => ?_)
  have hu := hu_of hr
  have hu64 := hr.units
  have hrLeastNumbers := hr.mono (show 1 ≤ 4 by decide)
  have hrBoundOf := hr.mono (show 3 ≤ 4 by decide)
  have hrSo := hr.mono (show 1 ≤ 4 by decide)
  have hrPi := hr.mono (show 1 ≤ 4 by decide)
  have hrOf := hr.mono (show 2 ≤ 4 by decide)
  have hrLGreatSlots := hr.mono (show 4 ≤ 4 by decide)
  have hrLSlotCosts := hr.mono (show 1 ≤ 4 by decide)
  have hrLBound := hr.mono (show 2 ≤ 4 by decide)
  have hrLPrice := hr.mono (show 2 ≤ 4 by decide)
  have hrLSomeRow := hr.mono (show 2 ≤ 4 by decide)
  have hrLLeastCost := hr.mono (show 2 ≤ 4 by decide)
  obtain ⟨a, ns, rfl, hS, hl, q⟩ := h
  refine ⟨_, (pss_cons (ps_set (i := 1) scsLa.nd rfl (.inr rfl) (pe_call GSo hrSo (by rfl) D.gSo D.FSo.kp D.bSo .nil pass0 (pa_cons (pv 0) pa_nil)))
      (pss_cons (ps_for PassesOwn.never rfl (pi_range1 rfl B.range (pa_cons pe_int pa_nil)) (pg_name (i := 2) scsLa.nd rfl (.inl rfl))
        (pss_cons (ps_set (i := 3) scsLa.nd rfl (.inr rfl) (pe_call GLGreatSlots hrLGreatSlots (by rfl) D.gLGreatSlots D.FLGreatSlots.kp D.bLGreatSlots .nil pass0 (pa_cons (pv 1) (pa_cons (pe_call GPi hrPi (by rfl) D.gPi D.FPi.kp D.bPi .nil pass0 (pa_cons (pv 1) (pa_cons pe_int pa_nil))) (pa_cons pe_int pa_nil)))))
        (pss_cons (ps_asg (pe_tup (pa_cons (pe_op (r := rAddE K) op_addE pe_int (pe_op (r := rMulE K) op_mulE (pe_call GPi hrPi (by rfl) D.gPi D.FPi.kp D.bPi .nil pass0 (pa_cons (pv 1) (pa_cons pe_int pa_nil))) (pe_call GOf hrOf (by rfl) D.gOf D.FOf.kp D.bOf .nil pass0 (pa_cons (pv 1) (pa_cons (pe_lst (pa_cons pe_int (pa_cons pe_int (pa_cons (pe_op op_pow pe_int pe_int) pa_nil)))) pa_nil))))) (pa_cons (pe_call GLSlotCosts hrLSlotCosts (by rfl) D.gLSlotCosts D.FLSlotCosts.kp D.bLSlotCosts .nil pass0 (pa_cons (pv 3) pa_nil)) pa_nil))) (pg_tup rfl (pgs_cons (pg_name (i := 4) scsLa.nd rfl (.inr rfl)) (pgs_cons (pg_name (i := 5) scsLa.nd rfl (.inl rfl)) pgs_nil))))
        (pss_cons (ps_for PassesOwn.never rfl (pi_range1 rfl B.range (pa_cons pe_int pa_nil)) (pg_name (i := 6) scsLa.nd rfl (.inl rfl))
          (pss_cons (ps_set (i := 7) scsLa.nd rfl (.inl rfl) (pe_callTy call_tuple_of (by rfl) B.tuple (by decide +kernel) (pa_cons (pe_lc (own := [("slot", 9)]) (g := gName 9) rfl scsLa.nd (pi_seq (pv 3)) (blkOk_by (own := [("slot", 9)]) (N := ["script", "source", "lap", "slots", "b", "costs", "look", "prices", "due", "slot", "price", "worths", "some", "told", "x", "cost"]) (sc := defScope sLa) (by decide +kernel)) (fun _ _ _ _ _ => (pg_name (i := 9) scsLa.nd rfl (.inl rfl))) (fun _ _ _ _ _ => pts_nil) (fun _ _ _ _ _ => (pe_call GOf hrOf (by rfl) D.gOf D.FOf.kp D.bOf .nil pass0 (pa_cons (pv 1) (pa_cons (pe_lst (pa_cons pe_int (pa_cons (pv 4) (pa_cons (pe_call GPi hrPi (by rfl) D.gPi D.FPi.kp D.bPi .nil pass0 (pa_cons (pv 1) (pa_cons (pe_op (r := rAddE K) op_addE (pv 4) pe_int) pa_nil))) pa_nil)))) pa_nil))))) pa_nil)))
          (pss_cons (ps_set (i := 8) scsLa.nd rfl (.inl rfl) (pe_call GLBound hrLBound (by rfl) D.gLBound D.FLBound.kp D.bLBound .nil pass0 (pa_cons (pv 3) (pa_cons (pv 7) pa_nil))))
          (pss_cons (ps_if (pt_cmpR (r := rNeE K) (op_neE hu64) (pe_callB (r := rReprX K) (cr_reprX hg hu64) (by rfl) B.repr (by decide +kernel) (pa_cons (pe_call GBoundOf hrBoundOf (by rfl) D.gBoundOf D.FBoundOf.kp D.bBoundOf .nil pass0 (pa_cons (pv 3) (pa_cons (pv 4) (pa_cons (pv 7) pa_nil)))) pa_nil)) (pe_callB (r := rReprX K) (cr_reprX hg hu64) (by rfl) B.repr (by decide +kernel) (pa_cons (pv 8) pa_nil)) (nomark _))
            (pss_one (ps_ret pe_bl))
            pss_nil)
          (pss_one (ps_if (PW.pt (pw_or (pt_cmpR op_lt (pe_ix (r := rIxE K) (ix_E hu) (pe_call GLPrice hrLPrice (by rfl) D.gLPrice D.FLPrice.kp D.bLPrice .nil pass0 (pa_cons (pv 5) (pa_cons (pe_call GLSomeRow hrLSomeRow (by rfl) D.gLSomeRow D.FLSomeRow.kp D.bLSomeRow .nil pass0 (pa_cons (pv 1) (pa_cons (pv 3) pa_nil))) (pa_cons (pv 4) pa_nil)))) pe_int (fun _ _ => rfl)) (pv 8) (nomark _)) (pw_or1 (pt_cmpR op_lt (pe_call GLLeastCost hrLLeastCost (by rfl) D.gLLeastCost D.FLLeastCost.kp D.bLLeastCost .nil pass0 (pa_cons (pv 5) (pa_cons (pv 4) pa_nil))) (pv 8) (nomark _)))))
            (pss_one (ps_ret pe_bl))
            pss_nil))))))
        (pss_one (ps_for PassesOwn.never rfl (pi_seq (pe_slice (r := rSlE K) sl_E (pv 3) po_none (po_some pe_int))) (pg_name (i := 9) scsLa.nd rfl (.inl rfl))
          (pss_cons (ps_set (i := 10) scsLa.nd rfl (.inr rfl) (pe_call GOf hrOf (by rfl) D.gOf D.FOf.kp D.bOf .nil pass0 (pa_cons (pv 1) (pa_cons (pe_lst (pa_cons pe_int (pa_cons (pe_op op_sub pe_int (pe_call GOf hrOf (by rfl) D.gOf D.FOf.kp D.bOf .nil pass0 (pa_cons (pv 1) (pa_cons (pe_op (r := rAddE K) op_addE (pe_callTy (r := rListE K) (cr_listE rfl) (by rfl) B.list (by decide +kernel) (pa_cons (pe_ix (r := rIxE K) (ix_E hu) (pv 9) pe_int (fun _ _ => rfl)) pa_nil)) (pe_lst (pa_cons pe_int pa_nil))) pa_nil)))) (pa_cons (pv 4) (pa_cons (pe_op op_sub pe_int (pv 4)) pa_nil))))) pa_nil))))
          (pss_cons (ps_set (i := 11) scsLa.nd rfl (.inr rfl) (pe_callTy (r := rDictP K) (cr_dictP rfl) (by rfl) B.dict (by decide +kernel) (pa_cons (pe_lc (own := [("x", 14), ("cost", 15)]) (g := gTup K 2 (gCons (gName 14) (gCons (gName 15) gNil))) rfl scsLa.nd (pi_seq (pe_callTy (r := rListI) (cr_listI rfl) (by rfl) B.list (by decide +kernel) (pa_cons (pe_ditems0 (pe_ix (r := rIxE K) (ix_E hu) (pe_call GLSlotCosts hrLSlotCosts (by rfl) D.gLSlotCosts D.FLSlotCosts.kp D.bLSlotCosts .nil pass0 (pa_cons (pe_tup (pa_cons (pv 9) pa_nil)) pa_nil)) pe_int (fun _ _ => rfl))) pa_nil))) (blkOk_by (own := [("x", 14), ("cost", 15)]) (N := ["script", "source", "lap", "slots", "b", "costs", "look", "prices", "due", "slot", "price", "worths", "some", "told", "x", "cost"]) (sc := defScope sLa) (by decide +kernel)) (fun _ _ _ _ _ => (pg_tup rfl (pgs_cons (pg_name (i := 14) scsLa.nd rfl (.inl rfl)) (pgs_cons (pg_name (i := 15) scsLa.nd rfl (.inl rfl)) pgs_nil)))) (fun _ _ _ _ _ => pts_nil) (fun _ _ _ _ _ => (pe_tup (pa_cons (pv 14) (pa_cons (pe_op (r := rAddE K) op_addE (pv 15) (pe_op (r := rMulE K) op_mulE (pv 10) (pv 14))) pa_nil))))) pa_nil)))
          (pss_cons (ps_lockW (ps_setLc (i := 12) (own := [("x", 14)]) (g := gName 14) rfl scsLa.nd rfl rfl (sw_true rfl rfl rfl (by decide +kernel)) (pi_keys (pv 11)) (blkOk_by (own := [("x", 14)]) (N := ["script", "source", "lap", "slots", "b", "costs", "look", "prices", "due", "slot", "price", "worths", "some", "told", "x", "cost"]) (sc := defScope sLa) (by decide +kernel)) (fun _ _ _ _ _ => (pg_name (i := 14) scsLa.nd rfl (.inl rfl))) (fun _ _ _ _ _ => pts_one (pt_cmpR (r := rEqE K) (op_eqE hu64) (pe_ix (r := rIxE K) (ix_E hu) (pv 11) (pv 14) (fun _ _ => rfl)) (pe_callB (r := rMin K) (cr_min rfl) (by rfl) B.min (by decide +kernel) (pa_cons (pe_callTy (r := rListV) (cr_listV rfl) (by rfl) B.list (by decide +kernel) (pa_cons (pe_dvals0 (pv 11)) pa_nil)) pa_nil)) (nomark _))) (fun _ _ _ _ _ => (pv 14))))
          (pss_one (ps_if (pt_cmpR (r := rNeE K) (op_neE hu64) (pe_callB (r := rReprX K) (cr_reprX hg hu64) (by rfl) B.repr (by decide +kernel) (pa_cons (pe_call GLeastNumbers hrLeastNumbers (by rfl) D.gLeastNumbers D.FLeastNumbers.kp D.bLeastNumbers .nil pass0 (pa_cons (pv 9) (pa_cons (pv 10) pa_nil))) pa_nil)) (pe_callB (r := rReprX K) (cr_reprX hg hu64) (by rfl) B.repr (by decide +kernel) (pa_cons (pe_tup (pa_cons (pe_callB (r := rMin K) (cr_min rfl) (by rfl) B.min (by decide +kernel) (pa_cons (pv 12) pa_nil)) (pa_cons (pe_callB (r := rMaxE K) (cr_maxE rfl) (by rfl) B.max (by decide +kernel) (pa_cons (pv 12) pa_nil)) pa_nil))) pa_nil)) (nomark _))
            (pss_one (ps_ret pe_bl))
            pss_nil)))))))))))
      (pss_cons (ps_set (i := 3) scsLa.nd rfl (.inr rfl) (pe_tup (pa_cons (pe_tup (pa_cons pe_int (pa_cons pe_int (pa_cons pe_int (pa_cons (pe_tup (pa_cons pe_int pa_nil)) pa_nil))))) (pa_cons (pe_tup (pa_cons pe_int (pa_cons pe_int (pa_cons pe_int (pa_cons (pe_tup (pa_cons pe_int (pa_cons pe_int pa_nil))) pa_nil))))) (pa_cons (pe_tup (pa_cons pe_int (pa_cons pe_int (pa_cons pe_int (pa_cons (pe_tup (pa_cons pe_int (pa_cons pe_int pa_nil))) pa_nil))))) (pa_cons (pe_tup (pa_cons pe_int (pa_cons pe_int (pa_cons pe_int (pa_cons (pe_tup (pa_cons pe_int pa_nil)) pa_nil))))) pa_nil))))))
      (pss_cons (ps_setLc (i := 13) (own := [("prices", 7)]) (g := gName 7) rfl scsLa.nd rfl rfl (sw_true rfl rfl rfl (by decide +kernel)) (pi_seq (pe_lst (pa_cons (pe_tup (pa_cons pe_int (pa_cons pe_int (pa_cons pe_int (pa_cons pe_int pa_nil))))) (pa_cons (pe_tup (pa_cons pe_int (pa_cons pe_int (pa_cons pe_int (pa_cons pe_int pa_nil))))) (pa_cons (pe_tup (pa_cons pe_int (pa_cons pe_int (pa_cons pe_int (pa_cons pe_int pa_nil))))) (pa_cons (pe_tup (pa_cons pe_int (pa_cons pe_int (pa_cons pe_int (pa_cons pe_int pa_nil))))) pa_nil)))))) (blkOk_by (own := [("prices", 7)]) (N := ["script", "source", "lap", "slots", "b", "costs", "look", "prices", "due", "slot", "price", "worths", "some", "told", "x", "cost"]) (sc := defScope sLa) (by decide +kernel)) (fun _ _ _ _ _ => (pg_name (i := 7) scsLa.nd rfl (.inl rfl))) (fun _ _ _ _ _ => pts_nil) (fun _ _ _ _ _ => (pe_call GBoundOf hrBoundOf (by rfl) D.gBoundOf D.FBoundOf.kp D.bBoundOf .nil pass0 (pa_cons (pv 3) (pa_cons pe_int (pa_cons (pv 7) pa_nil))))))
      (pss_one (ps_ret (pe_cmpR (r := rEqE K) (op_eqE hu64) (pe_callB (r := rReprX K) (cr_reprX hg hu64) (by rfl) B.repr (by decide +kernel) (pa_cons (pe_op (r := rAddE K) op_addE (pv 13) (pe_lst (pa_cons (pe_call GBoundOf hrBoundOf (by rfl) D.gBoundOf D.FBoundOf.kp D.bBoundOf .nil pass0 (pa_cons (pe_tup pa_nil) (pa_cons pe_int (pa_cons (pe_tup pa_nil) pa_nil)))) (pa_cons (pe_call GLeastNumbers hrLeastNumbers (by rfl) D.gLeastNumbers D.FLeastNumbers.kp D.bLeastNumbers .nil pass0 (pa_cons (pe_tup (pa_cons pe_int (pa_cons pe_int (pa_cons pe_int (pa_cons (pe_tup (pa_cons (pe_un un_neg pe_int) (pa_cons pe_int (pa_cons pe_int pa_nil)))) pa_nil))))) (pa_cons pe_int pa_nil))) pa_nil)))) pa_nil)) (pe_callB (r := rReprX K) (cr_reprX hg hu64) (by rfl) B.repr (by decide +kernel) (pa_cons (pe_lst (pa_cons pe_int (pa_cons pe_int (pa_cons pe_int (pa_cons pe_int (pa_cons pe_int (pa_cons (pe_tup (pa_cons pe_int (pa_cons pe_int pa_nil))) pa_nil))))))) pa_nil)) (nomark _)))))))), ?_⟩
  refine fn_post (K := K) (ms := [.v .fz]) (N := 16) (c := .fz) (f := f_law_K32) (E := NoE) (vs := [.ref a]) (s_seq (s_setO (ro_call rfl (fun _ _ h => F_source_len h) (ra_cons (rf_var rfl) ra_nil)) (by decide) (by decide))
    (s_seq (s_for (ri_range1 (ra_cons rf_int ra_nil)) (rg_name (by decide))
    (s_seq (s_setF (rf_callS rfl (by decide) (fun _ _ h => fnE_len h) rfl (ra_cons (rf_callS rfl (by decide) (fun _ _ h => F_pick_len h) rfl (ra_cons rf_int ra_nil) rfl) (ra_cons rf_int ra_nil)) rfl) (by decide) (by decide))
    (s_seq (s_tup2 (RF.ro (rf_bin e_add rf_int (RF.rv (rf_bin e_mul (rf_callS rfl (by decide) (fun _ _ h => F_pick_len h) rfl (ra_cons rf_int ra_nil) rfl) (RF.rv (rf_callS rfl (by decide) (fun _ _ h => fnE_len h) rfl (ra_cons (RO.rf (ro_lst (ra_cons rf_int (ra_cons rf_int (ra_cons (rf_bin g_pow rf_int (RF.rv rf_int)) ra_nil))))) ra_nil) rfl)))))) (RF.ro (rf_call rfl (fun _ _ h => fnE_len h) (ra_cons (rf_var rfl) ra_nil))) (by decide) (by decide) (by decide) (by decide) (by decide))
    (s_seq (s_for (ri_range1 (ra_cons rf_int ra_nil)) (rg_name (by decide))
    (s_seq (s_setF (rf_cb1 g1_tuple (RF.rv (RO.rf (ro_lc (ri_seq (rf_var rfl)) (rg_name (by decide)) rt_yes (rf_callS rfl (by decide) (fun _ _ h => fnE_len h) rfl (ra_cons (RO.rf (ro_lst (ra_cons rf_int (ra_cons (rf_var rfl) (ra_cons (rf_callS rfl (by decide) (fun _ _ h => F_pick_len h) rfl (ra_cons (rf_bin e_add (rf_var rfl) (RF.rv rf_int)) ra_nil) rfl) ra_nil))))) ra_nil) rfl) rfl rfl rfl rfl)))) (by decide) (by decide))
    (s_seq (s_setF (rf_call rfl (fun _ _ h => fnE_len h) (ra_cons (rf_var rfl) (ra_cons (rf_var rfl) ra_nil))) (by decide) (by decide))
    (s_seq (s_ifq (rt_t (RF.rv (rf_bin e_ne (rf_cb1 e_reprX (RF.rv (rf_call rfl (fun _ _ h => fnE_len h) (ra_cons (rf_var rfl) (ra_cons (rf_var rfl) (ra_cons (rf_var rfl) ra_nil)))))) (RF.rv (rf_cb1 e_reprX (RF.rv (rf_var rfl)))))))
    (s_ret (RF.ro rf_bl) rfl)
    (s_next rfl))
    (s_if (rt_or (rt_t (RF.rv (rf_bin g_lt (rf_bin e_ix (rf_call rfl (fun _ _ h => fnE_len h) (ra_cons (rf_var rfl) (ra_cons (rf_callS rfl (by decide) (fun _ _ h => fnE_len h) rfl (ra_cons (rf_var rfl) ra_nil) rfl) (ra_cons (rf_var rfl) ra_nil)))) (RF.rv rf_int)) (RF.rv (rf_var rfl))))) (rt_t (RF.rv (rf_bin g_lt (rf_call rfl (fun _ _ h => fnE_len h) (ra_cons (rf_var rfl) (ra_cons (rf_var rfl) ra_nil))) (RF.rv (rf_var rfl))))))
    (s_ret (RF.ro rf_bl) rfl)
    (s_next rfl))))) rfl)
    (s_end (s_for (ri_seq (rf_sl (rf_var rfl) rp_none (rp_some (RF.rv rf_int)))) (rg_name (by decide))
    (s_seq (s_setF (rf_callS rfl (by decide) (fun _ _ h => fnE_len h) rfl (ra_cons (RO.rf (ro_lst (ra_cons rf_int (ra_cons (rf_bin g_sub rf_int (RF.rv (rf_callS rfl (by decide) (fun _ _ h => fnE_len h) rfl (ra_cons (rf_bin e_add (RO.rf (ro_cb1 e_list (RF.rv (rf_bin e_ix (rf_var rfl) (RF.rv rf_int))))) (RF.rv (RO.rf (ro_lst (ra_cons rf_int ra_nil))))) ra_nil) rfl))) (ra_cons (rf_var rfl) (ra_cons (rf_bin g_sub rf_int (RF.rv (rf_var rfl))) ra_nil)))))) ra_nil) rfl) (by decide) (by decide))
    (s_seq (s_setF (RO.rf (ro_dictP (RF.rv (RO.rf (ro_lc (ri_seq (RO.rf (ro_items (RF.rv (rf_bin e_ix (rf_call rfl (fun _ _ h => fnE_len h) (ra_cons (rf_tup (ra_cons (rf_var rfl) ra_nil)) ra_nil)) (RF.rv rf_int)))))) (rg_tup (rgs_cons (rg_name (by decide)) (rgs_cons (rg_name (by decide)) rgs_nil))) rt_yes (rf_tup (ra_cons (rf_var rfl) (ra_cons (rf_bin e_add (rf_var rfl) (RF.rv (rf_bin e_mul (rf_var rfl) (RF.rv (rf_var rfl))))) ra_nil))) rfl rfl rfl rfl))))) (by decide) (by decide))
    (s_seq (s_lockSet (s_setF (RO.rf (ro_lcK rfl (rg_name (by decide)) (rt_t (RF.rv (rf_bin e_eq (rf_bin e_ix (rf_var rfl) (RF.rv (rf_var rfl))) (RF.rv (rf_cb1 g1_minL (RF.rv (RO.rf (ro_vals (RF.rv (rf_var rfl)))))))))) (rf_var rfl) rfl rfl rfl rfl)) (by decide) (by decide)))
    (s_if (rt_t (RF.rv (rf_bin e_ne (rf_cb1 e_reprX (RF.rv (rf_call rfl (fun _ _ h => fnE_len h) (ra_cons (rf_var rfl) (ra_cons (rf_var rfl) ra_nil))))) (RF.rv (rf_cb1 e_reprX (RF.rv (rf_tup (ra_cons (rf_cb1 g1_minL (RF.rv (rf_var rfl))) (ra_cons (rf_cb1 e_max (RF.rv (rf_var rfl))) ra_nil)))))))))
    (s_ret (RF.ro rf_bl) rfl)
    (s_next rfl))))) rfl) rfl)))) rfl)
    (s_seq (s_setF (rf_tup (ra_cons (rf_tup (ra_cons rf_int (ra_cons rf_int (ra_cons rf_int (ra_cons (rf_tup (ra_cons rf_int ra_nil)) ra_nil))))) (ra_cons (rf_tup (ra_cons rf_int (ra_cons rf_int (ra_cons rf_int (ra_cons (rf_tup (ra_cons rf_int (ra_cons rf_int ra_nil))) ra_nil))))) (ra_cons (rf_tup (ra_cons rf_int (ra_cons rf_int (ra_cons rf_int (ra_cons (rf_tup (ra_cons rf_int (ra_cons rf_int ra_nil))) ra_nil))))) (ra_cons (rf_tup (ra_cons rf_int (ra_cons rf_int (ra_cons rf_int (ra_cons (rf_tup (ra_cons rf_int ra_nil)) ra_nil))))) ra_nil))))) (by decide) (by decide))
    (s_seq (s_setF (RO.rf (ro_lc (ri_seq (RO.rf (ro_lst (ra_cons (rf_tup (ra_cons rf_int (ra_cons rf_int (ra_cons rf_int (ra_cons rf_int ra_nil))))) (ra_cons (rf_tup (ra_cons rf_int (ra_cons rf_int (ra_cons rf_int (ra_cons rf_int ra_nil))))) (ra_cons (rf_tup (ra_cons rf_int (ra_cons rf_int (ra_cons rf_int (ra_cons rf_int ra_nil))))) (ra_cons (rf_tup (ra_cons rf_int (ra_cons rf_int (ra_cons rf_int (ra_cons rf_int ra_nil))))) ra_nil))))))) (rg_name (by decide)) rt_yes (rf_call rfl (fun _ _ h => fnE_len h) (ra_cons (rf_var rfl) (ra_cons rf_int (ra_cons (rf_var rfl) ra_nil)))) rfl rfl rfl rfl)) (by decide) (by decide))
    (s_ret (RF.ro (rf_bin e_eq (rf_cb1 e_reprX (RF.rv (rf_bin e_add (rf_var rfl) (RF.rv (RO.rf (ro_lst (ra_cons (rf_call rfl (fun _ _ h => fnE_len h) (ra_cons (rf_tup ra_nil) (ra_cons rf_int (ra_cons (rf_tup ra_nil) ra_nil)))) (ra_cons (rf_call rfl (fun _ _ h => fnE_len h) (ra_cons (rf_tup (ra_cons rf_int (ra_cons rf_int (ra_cons rf_int (ra_cons (rf_tup (ra_cons (rf_un g_neg (RF.rv rf_int)) (ra_cons rf_int (ra_cons rf_int ra_nil)))) ra_nil))))) (ra_cons rf_int ra_nil))) ra_nil)))))))) (RF.rv (rf_cb1 e_reprX (RF.rv (RO.rf (ro_lst (ra_cons rf_int (ra_cons rf_int (ra_cons rf_int (ra_cons rf_int (ra_cons rf_int (ra_cons (rf_tup (ra_cons rf_int (ra_cons rf_int ra_nil))) ra_nil))))))))))))) rfl)))))
    (.inl rfl) (law_start hS (true_ ns hl) fun H' => q H')
end
end K32
set_option Elab.async false
set_option linter.all false
set_option maxRecDepth 100000
namespace BV
open PySem PySem.Spec PyProof.Rows L2 WK

def f_steps_after : Ms :=
  (retS (b2 addE (b2 mulE (tupE (consA (rtn (.int 0)) (rtn []))) (getE 1)) (b1 tupleD (lcM (itM seqsD (slM slE (getE 0) (bnd (getE 1) fun d => lif (isI d)) (rtn none))) (nameG 3) (rtn true) (b2 minO (getE 2) (b2 addE (getE 3) (rtn (.int 1)))) [3]))))
def F_steps_after (ds : List D) : Option (D × List D) := fnE 4 3 f_steps_after ds
def f_growth_of : Ms :=
  (retS (b2 addE (getE 1) (b1 sumE (slM slE (getE 0) (rtn none) (bnd (getE 1) fun d => lif (isI d))))))
def F_growth_of (ds : List D) : Option (D × List D) := fnE 2 2 f_growth_of ds
def f_law_need_costs : Ms :=
  (retS (lcM (itM seqsD (getE 0)) (nameG 2) (rtn true) (b1 dictPD (lcM (itA rng2 (consA (getE 2) (consA (b2 addE (getE 1) (rtn (.int 1))) (rtn [])))) (nameG 3) (rtn true) (tupE (consA (getE 3) (consA (getE 3) (rtn [])))) [3])) [2]))
def F_law_need_costs (ds : List D) : Option (D × List D) := fnE 4 2 f_law_need_costs ds
def f_law_gaps : Ms :=
  (seqS (setS 2 (lcM (itA rng1 (consA (b1 lenD (getE 0)) (rtn []))) (nameG 3) (bt (b2 geO (b2 ixE (getE 0) (getE 3)) (getE 1))) (getE 3) [3]))
    (retS (lcM (itA zipE (consA (getE 2) (consA (slM slE (getE 2) (bnd (rtn (.int 1)) fun d => lif (isI d)) (rtn none)) (rtn [])))) (tupG 2 (consG (nameG 4) (consG (nameG 5) nilG))) (bt (b2 gtO (getE 5) (b2 addE (getE 4) (rtn (.int 1))))) (tupE (consA (b2 addE (getE 4) (rtn (.int 1))) (consA (b2 subO (b2 subO (getE 5) (getE 4)) (rtn (.int 1))) (rtn [])))) [4, 5])))
def F_law_gaps (ds : List D) : Option (D × List D) := fnE 6 2 f_law_gaps ds
def f_ready_steps : Ms :=
  (seqS (setS 3 (b2 mulE (tupE (consA (getE 0) (rtn []))) (getE 1)))
    (seqS (forS (itM seqsD (getE 2)) (nameG 4)
    (setS 3 (callM F_steps_after (consA (getE 3) (consA (getE 4) (consA (getE 0) (rtn [])))))))
    (retS (getE 3))))
def F_ready_steps (ds : List D) : Option (D × List D) := fnE 5 3 f_ready_steps ds
def f_least_by_steps : Ms :=
  (seqS (setS 2 (b2 mulE (tupE (consA (getE 0) (rtn []))) (b1 (maxDflt 0) (getE 1))))
    (seqS (setS 3 (rtn (.int 0)))
    (seqS (forS (itM seqsD (getE 1)) (nameG 4)
    (seqS (setS 3 (b2 addE (getE 3) (callM F_growth_of (consA (getE 2) (consA (getE 4) (rtn []))))))
    (setS 2 (callM F_steps_after (consA (getE 2) (consA (getE 4) (consA (getE 0) (rtn []))))))))
    (retS (getE 3)))))
def F_least_by_steps (ds : List D) : Option (D × List D) := fnE 5 2 f_least_by_steps ds
def f_law_layers_cost : Ms :=
  (seqS (setS 2 (b1 sumE (getE 0)))
    (seqS (forS (itA rng2 (consA (rtn (.int 1)) (consA (b2 addE (b1 maxE (b2 addE (lstE (consA (rtn (.int 0)) (rtn []))) (b1 listE (getE 0)))) (rtn (.int 1))) (rtn [])))) (nameG 3)
    (setS 2 (b2 addE (b2 addE (getE 2) (getE 1)) (b1 sumE (lcM (itM seqsD (callM F_law_gaps (consA (getE 0) (consA (getE 3) (rtn []))))) (tupG 2 (consG (nameG 4) (consG (nameG 5) nilG))) (rtn true) (b2 minO (getE 5) (getE 1)) [4, 5])))))
    (retS (getE 2))))
def F_law_layers_cost (ds : List D) : Option (D × List D) := fnE 6 2 f_law_layers_cost ds
def f_law_ready : Ms :=
  (seqS (setS 3 (callM F_law_going (consA (callM F_law_need_costs (consA (getE 0) (consA (getE 1) (rtn [])))) (consA (getE 2) (rtn [])))))
    (seqS (setS 4 (iteM (bt (b2 neE (getE 3) (lstE (rtn [])))) (b2 ixE (getE 3) (b1 negO (rtn (.int 1)))) (dspE [((rtn (.int 0)), (rtn (.int 0)))])))
    (retS (lcM (itA rng1 (consA (b2 addE (getE 1) (rtn (.int 1))) (rtn []))) (nameG 5) (rtn true) (b1 minL (lcM (keysM 4) (nameG 6) (rtn true) (b2 addE (b2 ixE (getE 4) (getE 6)) (b2 mulE (getE 2) (b2 maxO (rtn (.int 0)) (b2 subO (getE 5) (getE 6))))) [6])) [5]))))
def F_law_ready (ds : List D) : Option (D × List D) := fnE 7 3 f_law_ready ds
def f_law_draw_needs : Ms :=
  (seqS (par2 3 4 (callS F_pick 0 (consA (rtn (.int 4)) (rtn []))) (lstE (rtn [])))
    (seqS (whE (bt (b2 ltO (b1 lenD (getE 4)) (getE 1)))
    (ifS (bt (b2 eqE (getE 3) (rtn (.int 0))))
    (appS 4 (callS F_pick 0 (consA (b2 addE (getE 2) (rtn (.int 1))) (rtn []))))
    (ifS (bt (b2 eqE (getE 3) (rtn (.int 1))))
    (setS 4 (b2 catL (b2 addE (getE 4) (b2 mulE (lstE (consA (b2 addE (rtn (.int 1)) (callS F_pick 0 (consA (getE 2) (rtn [])))) (rtn []))) (b2 addE (rtn (.int 1)) (callS F_pick 0 (consA (rtn (.int 3)) (rtn [])))))) (b2 mulE (lstE (consA (rtn (.int 0)) (rtn []))) (callS F_pick 0 (consA (rtn (.int 9)) (rtn []))))))
    (ifS (bt (b2 eqE (getE 3) (rtn (.int 2))))
    (seqS (setS 5 (iteM (bt (b2o neE 4 (lstE (rtn [])))) (b2o ixE 4 (b1 negO (rtn (.int 1)))) (callS F_pick 0 (consA (b2 addE (getE 2) (rtn (.int 1))) (rtn [])))))
    (appS 4 (b2 minO (getE 2) (b2 maxO (rtn (.int 0)) (b2 subO (b2 addE (getE 5) (callS F_pick 0 (consA (rtn (.int 5)) (rtn [])))) (rtn (.int 2)))))))
    (seqS (setS 6 (lstE (consA (rtn (.int 0)) (consA (rtn (.int 0)) (consA (getE 2) (consA (callS F_pick 0 (consA (b2 addE (getE 2) (rtn (.int 1))) (rtn []))) (rtn [])))))))
    (setS 4 (b2 catL (getE 4) (b2 mulE (lstE (consA (callS F_law_of 0 (consA (getE 6) (rtn []))) (rtn []))) (b2 addE (rtn (.int 1)) (callS F_pick 0 (consA (rtn (.int 4)) (rtn []))))))))))) FUEL)
    (retS (b1 tupleD (slM slE (getE 4) (rtn none) (bnd (getE 1) fun d => lif (isI d)))))))
def F_law_draw_needs (ds : List D) : Option (D × List D) := fnE 7 3 f_law_draw_needs ds
def f_law_K62 : Ms :=
  (seqS (setS 1 (callM F_source (consA (getE 0) (rtn []))))
    (seqS (forS (itA rng1 (consA (rtn (.int 8)) (rtn []))) (nameG 2)
    (seqS (par2 3 4 (b2 addE (rtn (.int 1)) (callS F_pick 1 (consA (rtn (.int 6)) (rtn [])))) (b2 addE (rtn (.int 1)) (callS F_pick 1 (consA (b2 ixE (lstE (consA (rtn (.int 4)) (consA (rtn (.int 12)) (rtn [])))) (b2 modO (b1 intD (getE 2)) (rtn (.int 2)))) (rtn [])))))
    (seqS (setS 5 (callS F_law_draw_needs 1 (consA (callS F_pick 1 (consA (rtn (.int 20)) (rtn []))) (consA (getE 3) (rtn [])))))
    (seqS (setS 6 (callM F_law_ready (consA (getE 5) (consA (getE 3) (consA (getE 4) (rtn []))))))
    (seqS (setS 7 (b1 tupleD (lcM (itA rng2 (consA (rtn (.int 1)) (consA (b2 addE (getE 3) (rtn (.int 1))) (rtn [])))) (nameG 9) (rtn true) (b2 subO (b2 ixE (getE 6) (getE 9)) (b2 ixE (getE 6) (b2 subO (getE 9) (rtn (.int 1))))) [9])))
    (seqS (setS 8 (lstE (consA (callM F_ready_steps (consA (getE 4) (consA (getE 3) (consA (getE 5) (rtn []))))) (consA (callM F_ready_steps (consA (getE 4) (consA (getE 3) (consA (b1 listE (getE 5)) (rtn []))))) (consA (callM F_least_by_steps (consA (getE 4) (consA (getE 5) (rtn [])))) (rtn []))))))
    (ifS (bt (b2 neE (b1 reprX (getE 8)) (b1 reprX (lstE (consA (getE 7) (consA (getE 7) (consA (b2 ixE (getE 6) (rtn (.int 0))) (rtn []))))))))
    (retS (rtn (.bl false)))
    nextS)))))))
    (seqS (forS (itA rng1 (consA (rtn (.int 2)) (rtn []))) (nameG 2)
    (seqS (par2 3 4 (b2 addE (rtn (.int 1)) (callS F_pick 1 (consA (rtn (.int 40)) (rtn [])))) (callS F_law_of 1 (consA (lstE (consA (rtn (.int 1)) (consA (rtn (.int 5)) (consA (rtn (.int 30)) (consA (b2 subO (b2 powO (rtn (.int 10)) (rtn (.int 9))) (callS F_pick 1 (consA (rtn (.int 9)) (rtn [])))) (rtn [])))))) (rtn []))))
    (seqS (setS 5 (callS F_law_draw_needs 1 (consA (rtn (.int 150)) (consA (getE 3) (rtn [])))))
    (ifS (bt (b2 neE (b1 reprX (callM F_least_by_steps (consA (getE 4) (consA (getE 5) (rtn []))))) (b1 reprX (callM F_law_layers_cost (consA (getE 5) (consA (getE 4) (rtn [])))))))
    (retS (rtn (.bl false)))
    nextS))))
    (seqS (setS 8 (lstE (consA (callM F_ready_steps (consA (rtn (.int 2)) (consA (rtn (.int 3)) (consA (tupE (rtn [])) (rtn []))))) (consA (callM F_least_by_steps (consA (rtn (.int 5)) (consA (lstE (rtn [])) (rtn [])))) (consA (callM F_ready_steps (consA (rtn (.int 2)) (consA (rtn (.int 2)) (consA (lstE (consA (rtn (.int 1)) (consA (rtn (.int 0)) (consA (rtn (.int 0)) (rtn []))))) (rtn []))))) (rtn []))))))
    (retS (b2 eqE (b1 reprX (getE 8)) (b1 reprX (lstE (consA (tupE (consA (rtn (.int 2)) (consA (rtn (.int 2)) (consA (rtn (.int 2)) (rtn []))))) (consA (rtn (.int 0)) (consA (tupE (consA (rtn (.int 2)) (consA (rtn (.int 2)) (rtn [])))) (rtn []))))))))))))
def F_law_K62 (ds : List D) : Option (D × List D) := fnE 10 1 f_law_K62 ds
end BV
set_option Elab.async false
set_option linter.all false
set_option maxRecDepth 100000
namespace BV
open PySem PySem.Spec PyProof.Rows L2 WK

def f_law_worths : Ms :=
  (seqS (setS 1 (dspE [((b2 ixE (getE 0) (rtn (.int 0))), (b2 ixE (getE 0) (rtn (.int 2))))]))
    (seqS (forS (itA enuE (consA (b2 ixE (getE 0) (rtn (.int 3))) (rtn []))) (tupG 2 (consG (nameG 2) (consG (nameG 3) nilG)))
    (putS 1 (b2 addE (b2o ixE 1 (b2 addE (b2 ixE (getE 0) (rtn (.int 0))) (getE 2))) (getE 3)) (b2 addE (b2 addE (b2 ixE (getE 0) (rtn (.int 0))) (getE 2)) (rtn (.int 1)))))
    (retS (getE 1))))
def F_law_worths (ds : List D) : Option (D × List D) := fnE 4 1 f_law_worths ds
def f_law_work_told : Ms :=
  (seqS (par2 1 2 (b1 minL (b1 listE (getE 0))) (b1 maxE (b1 listE (getE 0))))
    (retS (tupE (consA (getE 1) (consA (getE 2) (consA (b2 ixE (getE 0) (getE 1)) (consA (b1 tupleD (lcM (itA rng2 (consA (getE 1) (consA (getE 2) (rtn [])))) (nameG 3) (rtn true) (b2 subO (b2 ixE (getE 0) (b2 addE (getE 3) (rtn (.int 1)))) (b2 ixE (getE 0) (getE 3))) [3])) (rtn []))))))))
def F_law_work_told (ds : List D) : Option (D × List D) := fnE 4 1 f_law_work_told ds
def f_law_added : Ms :=
  (seqS (par2 2 3 (callM F_law_worths (consA (getE 0) (rtn []))) (callM F_law_worths (consA (getE 1) (rtn []))))
    (seqS (setS 4 (b1 dictPD (lcM (keysM 2) (nameG 5) (bt (b2 inE (getE 5) (getE 3))) (tupE (consA (getE 5) (consA (b2 addE (b2 ixE (getE 2) (getE 5)) (b2 ixE (getE 3) (getE 5))) (rtn [])))) [5])))
    (retS (iteM (bt (b2 neDE (getE 4) (rtn (.dct [])))) (callM F_law_work_told (consA (getE 4) (rtn []))) (rtn .non)))))
def F_law_added (ds : List D) : Option (D × List D) := fnE 6 2 f_law_added ds
def f_law_held : Ms :=
  (seqS (par2 4 5 (callM F_law_worths (consA (getE 0) (rtn []))) (rtn (.dct [])))
    (seqS (forS (itA rng2 (consA (getE 2) (consA (b2 addE (getE 3) (rtn (.int 1))) (rtn [])))) (nameG 6)
    (putS 5 (b1 minL (lcM (keysM 4) (nameG 7) (rtn true) (b2 addE (b2 ixE (getE 4) (getE 7)) (b2 mulE (getE 1) (b2 maxO (rtn (.int 0)) (b2 subO (getE 6) (getE 7))))) [7])) (getE 6)))
    (retS (callM F_law_work_told (consA (getE 5) (rtn []))))))
def F_law_held (ds : List D) : Option (D × List D) := fnE 8 4 f_law_held ds
def f_law_some_work : Ms :=
  (seqS (asgS (callS F_law_of 0 (consA (callS F_law_great_slots 0 (consA (rtn (.int 2)) (consA (rtn (.int 10)) (rtn [])))) (rtn []))) (tupG 4 (consG (nameG 1) (consG (nameG 2) (consG (nameG 3) (consG (nameG 4) nilG))))))
    (retS (tupE (consA (getE 1) (consA (getE 2) (consA (b2 subO (getE 3) (callS F_law_of 0 (consA (lstE (consA (rtn (.int 0)) (consA (rtn (.int 0)) (consA (rtn (.int 7)) (consA (b2 powO (rtn (.int 10)) (rtn (.int 12))) (rtn [])))))) (rtn [])))) (consA (getE 4) (rtn []))))))))
def F_law_some_work (ds : List D) : Option (D × List D) := fnE 5 1 f_law_some_work ds
def f_law_K13 : Ms :=
  (seqS (setS 1 (callM F_source (consA (getE 0) (rtn []))))
    (seqS (forS (itA rng1 (consA (rtn (.int 8)) (rtn []))) (nameG 2)
    (seqS (par2 3 4 (callS F_law_some_work 1 (rtn [])) (callS F_law_some_work 1 (rtn [])))
    (seqS (setS 5 (b2 addE (tupE (consA (b2 addE (b2 ixE (getE 3) (rtn (.int 0))) (rtn (.int 2))) (consA (b2 addE (b2 addE (b2 ixE (getE 3) (rtn (.int 0))) (rtn (.int 2))) (b1 lenD (b2 ixE (getE 4) (rtn (.int 3))))) (rtn [])))) (slM slE (getE 4) (bnd (rtn (.int 2)) fun d => lif (isI d)) (rtn none))))
    (seqS (forS (itM seqsD (lstE (consA (getE 4) (consA (getE 5) (consA (getE 3) (rtn [])))))) (nameG 6)
    (ifS (bt (b2 neE (b1 reprX (callM F_sum_of (consA (getE 3) (consA (getE 6) (rtn []))))) (b1 reprX (callM F_law_added (consA (getE 3) (consA (getE 6) (rtn [])))))))
    (retS (rtn (.bl false)))
    nextS))
    (seqS (setS 7 (b2 addE (rtn (.int 1)) (b2 mulE (callS F_pick 1 (consA (rtn (.int 9)) (rtn []))) (callS F_law_of 1 (consA (lstE (consA (rtn (.int 1)) (consA (rtn (.int 1)) (consA (b2 powO (rtn (.int 10)) (rtn (.int 5))) (rtn []))))) (rtn []))))))
    (seqS (setS 8 (b2 maxO (rtn (.int 0)) (b2 minO (b2 subO (b2 powO (rtn (.int 10)) (rtn (.int 6))) (rtn (.int 12))) (b2 addE (b2 ixE (getE 3) (rtn (.int 0))) (callS F_law_of 1 (consA (lstE (consA (b1 negO (rtn (.int 3))) (consA (rtn (.int 0)) (consA (rtn (.int 1)) (consA (rtn (.int 5)) (consA (rtn (.int 12)) (consA (b1 negO (b2 powO (rtn (.int 10)) (rtn (.int 6)))) (consA (b2 powO (rtn (.int 10)) (rtn (.int 6))) (rtn []))))))))) (rtn [])))))))
    (seqS (setS 9 (b2 addE (getE 8) (callS F_pick 1 (consA (rtn (.int 12)) (rtn [])))))
    (seqS (ifS (bt (b2 neE (b1 reprX (callM F_held (consA (getE 3) (consA (getE 7) (consA (getE 8) (consA (getE 9) (rtn []))))))) (b1 reprX (callM F_law_held (consA (getE 3) (consA (getE 7) (consA (getE 8) (consA (getE 9) (rtn [])))))))))
    (retS (rtn (.bl false)))
    nextS)
    (seqS (setS 10 (tupE (consA (getE 8) (consA (getE 9) (consA (callS F_pick 1 (consA (rtn (.int 9)) (rtn []))) (consA (b1 tupleD (b1 sortedD (lcM (itA rng2 (consA (getE 8) (consA (getE 9) (rtn [])))) (nameG 12) (rtn true) (callS F_pick 1 (consA (rtn (.int 9)) (rtn []))) [12]))) (rtn [])))))))
    (seqS (ifS (bt (b2 neE (b1 reprX (callM F_work_after (consA (getE 3) (consA (getE 10) (consA (getE 7) (rtn [])))))) (b1 reprX (callM F_law_added (consA (getE 10) (consA (callM F_law_held (consA (getE 3) (consA (getE 7) (consA (getE 8) (consA (getE 9) (rtn [])))))) (rtn [])))))))
    (retS (rtn (.bl false)))
    nextS)
    (seqS (setS 11 (callM F_law_worths (consA (getE 3) (rtn []))))
    (seqS (ifS (bt (b2 neE (b1 reprX (lstE (consA (callM F_low_of (consA (getE 3) (rtn []))) (consA (callM F_high_of (consA (getE 3) (consA (getE 7) (rtn [])))) (rtn []))))) (b1 reprX (lstE (consA (callM F_law_low (consA (getE 11) (rtn []))) (consA (callM F_law_high (consA (getE 11) (consA (getE 7) (rtn [])))) (rtn [])))))))
    (retS (rtn (.bl false)))
    nextS)
    (seqS (setS 12 (b2 subO (b2 addE (b2 ixE (getE 3) (rtn (.int 0))) (callS F_pick 1 (consA (rtn (.int 14)) (rtn [])))) (rtn (.int 2))))
    (ifS (bt (b2 neE (b1 reprX (callM F_worth_at (consA (getE 3) (consA (getE 12) (rtn []))))) (b1 reprX (b2 dgetN (getE 11) (getE 12)))))
    (retS (rtn (.bl false)))
    nextS))))))))))))))
    (seqS (setS 13 (lstE (consA (callM F_held (consA (tupE (consA (rtn (.int 1)) (consA (rtn (.int 2)) (consA (rtn (.int 4)) (consA (tupE (consA (rtn (.int 4)) (rtn []))) (rtn [])))))) (consA (rtn (.int 3)) (consA (rtn (.int 0)) (consA (rtn (.int 4)) (rtn [])))))) (consA (callM F_sum_of (consA (tupE (consA (rtn (.int 0)) (consA (rtn (.int 2)) (consA (rtn (.int 0)) (consA (tupE (consA (rtn (.int 1)) (consA (rtn (.int 1)) (rtn [])))) (rtn [])))))) (consA (tupE (consA (rtn (.int 0)) (consA (rtn (.int 2)) (consA (rtn (.int 4)) (consA (tupE (consA (rtn (.int 0)) (consA (rtn (.int 3)) (rtn [])))) (rtn [])))))) (rtn [])))) (rtn [])))))
    (seqS (appS 13 (callM F_sum_of (consA (tupE (consA (rtn (.int 0)) (consA (rtn (.int 1)) (consA (rtn (.int 0)) (consA (tupE (consA (rtn (.int 1)) (rtn []))) (rtn [])))))) (consA (tupE (consA (rtn (.int 2)) (consA (rtn (.int 3)) (consA (rtn (.int 0)) (consA (tupE (consA (rtn (.int 1)) (rtn []))) (rtn [])))))) (rtn [])))))
    (retS (b2 eqE (b1 reprX (getE 13)) (b1 reprX (lstE (consA (tupE (consA (rtn (.int 0)) (consA (rtn (.int 4)) (consA (rtn (.int 4)) (consA (tupE (consA (rtn (.int 0)) (consA (rtn (.int 3)) (consA (rtn (.int 3)) (consA (rtn (.int 3)) (rtn [])))))) (rtn [])))))) (consA (tupE (consA (rtn (.int 0)) (consA (rtn (.int 2)) (consA (rtn (.int 4)) (consA (tupE (consA (rtn (.int 1)) (consA (rtn (.int 4)) (rtn [])))) (rtn [])))))) (consA (rtn .non) (rtn []))))))))))))
def F_law_K13 (ds : List D) : Option (D × List D) := fnE 14 1 f_law_K13 ds
end BV
set_option Elab.async false
set_option linter.all false
set_option maxRecDepth 100000
namespace BV
open PySem PySem.Spec PyProof.Rows L2 WK
theorem cutD_to {l : List Int} {z : Int} (h : 0 ≤ z) : cutD (l.map D.int) none (some z) = (l.take z.toNat).map .int := by
  obtain ⟨n, rfl⟩ := Int.eq_ofNat_of_zero_le h
  unfold cutD
  rw [HT.sIx_nat, HT.sIx_none, List.drop_zero, Nat.sub_zero, Int.toNat_natCast, List.map_take, List.take_eq_take_iff]
  omega
theorem cutD_in {xs : List D} {m n : Nat} : cutD xs (some (m : Int)) (some (n : Int)) = (xs.drop m).take (n - m) := by
  unfold cutD
  rw [HT.sIx_nat, HT.sIx_nat]
  by_cases h : m ≤ xs.length
  · rw [Nat.min_eq_left h]
    by_cases h2 : n ≤ xs.length
    · rw [Nat.min_eq_left h2]
    · rw [Nat.min_eq_right (by omega), List.take_of_length_le (by rw [List.length_drop]; omega), List.take_of_length_le (by rw [List.length_drop]; omega)]
  · rw [Nat.min_eq_right (a := m) (by omega), List.drop_of_length_le (by omega), List.drop_of_length_le (by omega), List.take_nil, List.take_nil]
theorem cutD_mid {l : List Int} {x y : Int} (h : 0 ≤ x) (h2 : 0 ≤ y) : cutD (l.map D.int) (some x) (some y) = ((l.drop x.toNat).take (y.toNat - x.toNat)).map .int := by
  obtain ⟨m, rfl⟩ := Int.eq_ofNat_of_zero_le h
  obtain ⟨n, rfl⟩ := Int.eq_ofNat_of_zero_le h2
  rw [cutD_in, List.map_take, List.map_drop]
  rfl
theorem lc_of {α : Type} {ρ : Env} {gg : D → Env → Option Env} {ft : M Bool} {fe : M D} {vs : List Nat} (inj : α → D) (p : α → Bool) (k : α → D) : ∀ {l : List α} {acc : List D}, acc.length + l.length ≤ sizeLine →
    (∀ a ∈ l, ∃ ρ2, gg (inj a) (wipeE ρ vs) = some ρ2 ∧ restE ρ vs ρ2 = ρ ∧ Wp ft ρ2 (fun b ρ3 => b = p a ∧ ρ3 = ρ2) ∧ (p a = true → Wp fe ρ2 fun y ρ4 => y = k a ∧ ρ4 = ρ2)) → lcE gg ft fe vs (l.map inj) ρ acc = some (acc ++ (l.filter p).map k, ρ)
  | [], acc, _, _ => by rw [List.map_nil]; unfold lcE; simp
  | d :: ds, acc, hl, h => by
    obtain ⟨ρ2, e1, er, ⟨b, ρ3, e2, rfl, rfl⟩, e3⟩ := h d List.mem_cons_self
    have hl' : acc.length + ds.length ≤ sizeLine := by simp at hl; omega
    rw [List.map_cons]
    unfold lcE
    rw [e1, Option.bind_some, e2, Option.bind_some]
    cases hp : p d with
    | false =>
      simp only [Bool.false_eq_true, if_false, er]
      rw [lc_of inj p k hl' fun d hd => h d (List.mem_cons_of_mem _ hd), List.filter_cons_of_neg (by simp [hp])]
    | true =>
      obtain ⟨y, ρ4, e4, rfl, rfl⟩ := e3 hp
      simp only [if_true]
      rw [e4, Option.bind_some, if_pos (by simp at hl; omega)]
      simp only [er]
      rw [lc_of inj p k (by simp at hl ⊢; omega) fun d hd => h d (List.mem_cons_of_mem _ hd), List.filter_cons_of_pos hp, List.map_cons]
      simp
theorem lc_at {α : Type} {ρ : Env} {gg : D → Env → Option Env} {ft : M Bool} {fe : M D} {vs : List Nat} {P : List D → Env → Prop} (inj : α → D) (p : α → Bool) (k : α → D) {l : List α} (hl : l.length ≤ sizeLine)
    (h : ∀ a ∈ l, ∃ ρ2, gg (inj a) (wipeE ρ vs) = some ρ2 ∧ restE ρ vs ρ2 = ρ ∧ Wp ft ρ2 (fun b ρ3 => b = p a ∧ ρ3 = ρ2) ∧ (p a = true → Wp fe ρ2 fun y ρ4 => y = k a ∧ ρ4 = ρ2)) (q : P ((l.filter p).map k) ρ) : ∃ out ρ2, lcE gg ft fe vs (l.map inj) ρ [] = some (out, ρ2) ∧ P out ρ2 :=
  ⟨_, _, by rw [lc_of inj p k (by simpa using hl) h, List.nil_append], q⟩
theorem lc_all {α : Type} {ρ : Env} {gg : D → Env → Option Env} {ft : M Bool} {fe : M D} {vs : List Nat} {P : List D → Env → Prop} (inj : α → D) (k : α → D) {l : List α} (hl : l.length ≤ sizeLine)
    (h : ∀ a ∈ l, ∃ ρ2, gg (inj a) (wipeE ρ vs) = some ρ2 ∧ restE ρ vs ρ2 = ρ ∧ Wp ft ρ2 (fun b ρ3 => b = true ∧ ρ3 = ρ2) ∧ Wp fe ρ2 fun y ρ4 => y = k a ∧ ρ4 = ρ2) (q : P (l.map k) ρ) : ∃ out ρ2, lcE gg ft fe vs (l.map inj) ρ [] = some (out, ρ2) ∧ P out ρ2 :=
  lc_at inj (fun _ => true) k hl (fun a ha => let ⟨ρ2, e1, e2, e3, e4⟩ := h a ha; ⟨ρ2, e1, e2, e3, fun _ => e4⟩) (by rw [List.filter_eq_self.mpr fun _ _ => rfl]; exact q)
theorem kil {n : Nat} (h : n ≤ 1000) : n ≤ sizeLine := Nat.le_trans h (by decide)
section
variable {i j : Int} {ρ : Env} {v : Nat} {vs : List Nat} {a : Option D} {r : Env}
theorem o_maxM : maxO (.int i) (.int j) = some (.int (mx i j)) := rfl
theorem o_minM : minO (.int i) (.int j) = some (.int (mn i j)) := rfl
theorem wipe0 : wipeE ρ [] = ρ := rfl
theorem wipe1 : wipeE ρ (v :: vs) = (wipeE ρ vs).set v none := rfl
theorem sz1 : (1 ≤ sizeLine) = True := eq_true (by decide)
theorem sz0 : (0 ≤ sizeLine) = True := eq_true (by decide)
theorem sz2 : (2 ≤ sizeLine) = True := eq_true (by decide)
theorem sz3 : (3 ≤ sizeLine) = True := eq_true (by decide)
theorem sz4 : (4 ≤ sizeLine) = True := eq_true (by decide)
theorem sz5 : (5 ≤ sizeLine) = True := eq_true (by decide)
theorem sz6 : (6 ≤ sizeLine) = True := eq_true (by decide)
theorem le1k : (1 ≤ 1000) = True := eq_true (by decide)
theorem mxd {i j : Int} : (if j > i then j else i) = mx i j := rfl
theorem dec_if {p : Prop} [Decidable p] {α : Type} {a b : α} : (if decide p = true then a else b) = if p then a else b := by by_cases h : p <;> simp [h]
theorem zip_map {ns ms : List Int} : zipL (ns.map D.int) (ms.map D.int) = (List.zipWith (fun a b => (a, b)) ns ms).map fun ab => D.tup [.int ab.1, .int ab.2] := by
  unfold zipL
  induction ns generalizing ms with
  | nil => rfl
  | cons a ns ih => cases ms with
    | nil => rfl
    | cons b ms => simp [ih]
theorem rep_map {n : Nat} {z : Int} : (List.replicate n [D.int z]).flatten = (List.replicate n z).map D.int := by
  induction n with
  | zero => rfl
  | succ n ih => rw [List.replicate_succ, List.flatten_cons, ih]; rfl
theorem toPyL_nil {ds : List D} {ps : List PyData} (h : toPyL ds = some ps) : ps.isEmpty = ds.isEmpty := by
  cases ds with
  | nil => rw [toPyL] at h; cases h; rfl
  | cons d ds =>
    rw [toPyL] at h
    obtain ⟨p, e1, h⟩ := Option.bind_eq_some_iff.mp h
    obtain ⟨qs, e2, rfl⟩ := Option.map_eq_some_iff.mp h
    rfl
theorem o_neLN {ds : List D} : neE (.lst ds) (.lst []) = some (.bl (!ds.isEmpty)) := by
  show (match (none : Option D) with | some d => some d | none => orO neDD neNilD (.lst ds) (.lst [])) = _
  show (match neDD (.lst ds) (.lst []) with | some d => some d | none => neNilD (.lst ds) (.lst [])) = _
  cases h : neDD (.lst ds) (.lst []) with
  | none => rfl
  | some d =>
    obtain ⟨p, e1, h⟩ := Option.bind_eq_some_iff.mp (show (toPy (.lst ds)).bind _ = some d from h)
    obtain ⟨q, e2, h⟩ := Option.bind_eq_some_iff.mp h
    rw [toPy] at e1
    obtain ⟨ps, e3, rfl⟩ := Option.map_eq_some_iff.mp e1
    have e4 : toPy (.lst []) = some (.list []) := by rw [toPy, toPyL]; rfl
    rw [e4] at e2
    cases e2
    by_cases hs : (SeqAt.shaped (.list ps) && SeqAt.shaped (.list [])) = true
    · rw [if_pos hs] at h
      cases h
      show some (D.bl (!(PyData.eqv (.list ps) (.list [])))) = _
      have : PyData.eqv (.list ps) (.list []) = ps.isEmpty := by
        rw [PyData.eqv]
        cases ps with
        | nil => rw [PyData.eqvAll]; rfl
        | cons p ps => rw [PyData.eqvAll]; rfl
      rw [this, toPyL_nil e3]
    · rw [if_neg hs] at h; exact nomatch h
theorem toPyL_ints {ns : List Int} : toPyL (ns.map D.int) = some (intsD ns) := by
  induction ns with
  | nil => rw [List.map_nil, toPyL]; rfl
  | cons n ns ih => rw [List.map_cons, toPyL, toPy, ih]; rfl
theorem repr_ints {ns : List Int} (h : ∀ z ∈ ns, z.natAbs < 10 ^ 150) (hl : ns.length ≤ 5000) : ∃ x, reprE (.tup (ns.map D.int)) = some (.str x) := by
  refine ⟨PyData.shown (.tuple (intsD ns)), ?_⟩
  show (toPy (.tup (ns.map D.int))).bind _ = some (D.str (PyData.shown (.tuple (intsD ns))))
  rw [toPy, toPyL_ints]
  exact if_pos (shB_of (shows_row h hl))
theorem o_neL1 {i j : Int} : neE (.lst [.int i]) (.lst [.int j]) = some (.bl (!decide (i = j))) := by
  show (match neDD (.lst [.int i]) (.lst [.int j]) with | some d => some d | none => neNilD (.lst [.int i]) (.lst [.int j])) = _
  have e : neDD (.lst [.int i]) (.lst [.int j]) = some (.bl (!decide (i = j))) := by
    have t : ∀ i : Int, toPy (.lst [.int i]) = some (.list [.int i]) := fun i => by rw [toPy, toPyL, toPy, toPyL]; rfl
    show (toPy (.lst [.int i])).bind _ = _
    rw [t, Option.bind_some, t, Option.bind_some]
    have sh : ∀ i : Int, SeqAt.shaped (.list [.int i]) = true := fun i => by unfold SeqAt.shaped; rfl
    rw [if_pos (by rw [sh, sh]; rfl)]
    rw [PyData.eqv, PyData.eqvAll, PyData.eqv, PyData.eqvAll, Bool.and_true]
    rfl
  rw [e]
theorem wp_dsp1 {ρ : Env} {f g : M D} {Q : D → Env → Prop} : Wp (dspE [(f, g)]) ρ Q ↔ Wp f ρ fun k ρ1 => Wp g ρ1 fun v ρ2 => ∃ key, keyD k = some key ∧ Q (.dct [(key, v)]) ρ2 := by
  unfold dspE prsE prsE
  simp only [wp_bnd, wp_lif, wp_rtn]
  constructor
  · rintro ⟨k, ρ1, e1, v, ρ2, e2, d, e3, q⟩
    refine ⟨k, ρ1, e1, v, ρ2, e2, ?_⟩
    obtain ⟨kds, e4, e5⟩ := Option.bind_eq_some_iff.mp e3
    obtain ⟨key, e6, e7⟩ := Option.bind_eq_some_iff.mp (show (keyD k).bind _ = some kds from e4)
    cases e7
    cases e5
    exact ⟨key, e6, q⟩
  · rintro ⟨k, ρ1, e1, v, ρ2, e2, key, e3, q⟩
    refine ⟨k, ρ1, e1, v, ρ2, e2, _, ?_, q⟩
    show ((keyD k).bind _).bind _ = _
    rw [e3]
    rfl
theorem rng_map {n : Nat} : rangeL 0 n = (List.range n).map fun i => D.int ((0 : Int) + (i : Nat)) := rfl
theorem big_nat {n : Nat} (h : n ≤ 1000000) : big (n : Int) = true := by
  unfold big
  rw [decide_eq_true (by omega), decide_eq_true (by omega)]
  rfl
end
end BV
set_option Elab.async false
set_option linter.all false
set_option maxRecDepth 100000
namespace BV
open PySem PySem.Spec PyProof.Rows L2 WK
local macro_rules | `(tactic| walk_at "bv") => `(tactic| simp only [ws_seq, sq_nx, sq_rt, sq_bk, sq_ct, ws_next, ws_brk, ws_cnt, ws_retN, ws_ret, ws_drop, ws_set, ws_asg, ws_if, ws_for, ws_append, ws_par2, ws_par3, ws_put, ws_seti, ws_aug,
  wp_rtn, wp_bnd, wp_lif, wp_getE, wp_b1, wp_b2, wp_b2o, wp_consA, wp_tupE, wp_lstE, wp_bt, wp_iteM, wp_andM, wp_orM, wp_notM, wp_andV, wp_orV, wp_notV, wp_slM, wp_chE, wp_callM, wp_callS, wp_itM, wp_itA, wp_keysM, wp_lcM,
  o_add, o_sub, o_mul, o_lt, o_le, o_gt, o_ge, o_maxM, o_minM, wipe0, wipe1, sz0, sz1, sz2, sz3, sz4, sz5, sz6, le1k, dec_if, o_neg, o_abs, o_fdiv, o_fdivN, o_mod, o_modN, o_pow, o_int, o_isB, o_isI, o_truI, o_truL, o_truT, o_truB, o_truN, o_lenL, o_lenT, o_ixL, o_ixT, o_ixK, o_seqL, o_seqT, o_tupL, o_tupT, o_listL, o_listT, o_rev, o_slL, o_slT, o_sumL, o_sumT,
  o_maxL, o_minL, o_sorted, o_allL, o_anyL, o_vals, o_keyI, o_keyS, o_isN, o_eqI, o_neI, o_inK, o_ninK, o_zipLL, o_zipTT, o_zipLT, o_zipTL, o_enuL, o_enuT, o_rng1, o_rng2, o_addT, o_addL, o_mulT, atI0, atI1, atI2, atI3, if_some, true_if, false_if,
  tupG, consG, nilG, nameG, List.map_cons, List.map_nil, List.cons_append, List.nil_append, List.length_cons, List.length_nil, List.replicate, List.set_cons_zero, List.set_cons_succ, List.getElem?_cons_zero, List.getElem?_cons_succ, Nat.reduceAdd, Nat.reduceSub, Option.bind_some, Option.map_some, Option.some.injEq, if_true, exists_eq_left', exists_eq_left, and_assoc, exists_and_left,
  args_take, List.take_succ_cons, List.take_zero, allS_cons, allS_nil, and_true, true_and])
def slD (s : Slt) : D := .tup [.int s.need, .int s.most, .int s.first, .tup (s.slopes.map .int)]
theorem slot_cost_ok (s : Slt) (x : Int) : vof (F_slot_cost [slD s, .int x]) = some (if fitB s x = true then .int (costAt s x) else .non) := by
  unfold F_slot_cost slD
  refine fn_val rfl ?_
  unfold f_slot_cost
  walk_at "bv"
  by_cases h1 : x < s.need
  · rw [if_pos h1, if_neg (by rw [fit_iff]; omega)]
  · rw [if_neg h1]
    by_cases h2 : s.most < x
    · rw [if_pos h2, if_neg (by rw [fit_iff]; omega)]
    · rw [if_neg h2, if_pos (by rw [fit_iff]; omega), cutD_to (by omega)]
      exact ⟨_, o_sumT, _, o_add, rfl⟩
theorem slopes_within_ok (s : Slt) (lo hi : Int) (h1 : s.need ≤ lo) (h2 : s.need ≤ hi) : vof (F_slopes_within [slD s, .int lo, .int hi]) = some (.tup ((winL s lo hi).map .int)) := by
  unfold F_slopes_within slD
  refine fn_val rfl ?_
  unfold f_slopes_within
  walk_at "bv"
  rw [cutD_mid (by omega) (by omega)]
  rfl
theorem low_of_ok (s : Slt) (h : s.slopes.length ≤ 1000) : vof (F_low_of [slD s]) = some (.int (lowW s)) := by
  unfold F_low_of slD
  refine fn_val rfl ?_
  unfold f_low_of
  walk_at "bv"
  refine lc_at D.int (fun z => decide (z < 0)) D.int (kil h) (fun a ha => ⟨_, rfl, rfl, ?_, fun _ => ?_⟩) ⟨?_, rfl⟩
  · walk_at "bv"
  · walk_at "bv"
  · rw [List.length_map]
    rfl
theorem bounded_ok (l : List Int) (b : Int) (h : l.length ≤ 1000) : vof (F_bounded [.tup (l.map .int), .int b]) = some (.tup ((clampL l b).map .int)) := by
  unfold F_bounded
  refine fn_val rfl ?_
  unfold f_bounded
  walk_at "bv"
  refine lc_all D.int (fun z => D.int (mn (mx 0 z) b)) (kil h) (fun a ha => ⟨_, rfl, rfl, ?_, ?_⟩) ⟨?_, rfl⟩
  · walk_at "bv"
  · walk_at "bv"
  · unfold clampL
    rw [List.map_map]
    rfl
theorem high_of_ok (s : Slt) (b : Int) (h : s.slopes.length ≤ 1000) : vof (F_high_of [slD s, .int b]) = some (.int (highW s b)) := by
  unfold F_high_of slD
  refine fn_val rfl ?_
  unfold f_high_of
  walk_at "bv"
  refine lc_at D.int (fun z => decide (z ≤ b)) D.int (kil h) (fun a ha => ⟨_, rfl, rfl, ?_, fun _ => ?_⟩) ⟨?_, rfl⟩
  · walk_at "bv"
  · walk_at "bv"
  · rw [List.length_map]
    rfl
theorem worth_at_ok (s : Slt) (x : Int) : vof (F_worth_at [slD s, .int x]) = some (if fitB s x = true then .int (costAt s x) else .non) := by
  unfold F_worth_at
  refine fn_val rfl ?_
  unfold f_worth_at
  walk_at "bv"
  exact ⟨_, slot_cost_ok s x, rfl⟩
theorem least_worth_ok (s : Slt) (h : s.Len) : vof (F_least_worth [slD s]) = some (.int (leastW s)) := by
  have hl := h.len
  have hw := h.wide
  have li := low_in h
  unfold F_least_worth
  refine fn_val rfl ?_
  unfold f_least_worth
  walk_at "bv"
  refine ⟨_, low_of_ok s (by omega), _, worth_at_ok s _, ?_⟩
  rw [if_pos (fit_iff.mpr li)]
  rfl
theorem bnd_mul {b x : Int} (hb : -(2 ^ 64) < b ∧ b < 2 ^ 64) : cMul b x = true := by
  unfold cMul
  rw [decide_eq_true hb.1, decide_eq_true hb.2]
  rfl
theorem mx0 {x : Int} : 0 ≤ mx 0 x := by rw [mx_eq]; omega
theorem held_worth_ok (s : Slt) (b x : Int) (h : s.Len) (hb : -(2 ^ 64) < b ∧ b < 2 ^ 64) : vof (F_held_worth [slD s, .int b, .int x]) = some (.int (heldWorth s b x)) := by
  have hl := h.len
  have hw := h.wide
  have lw := least_worth_ok s h
  have bo := bounded_ok s.slopes b (by omega)
  unfold F_held_worth
  refine fn_val rfl ?_
  unfold f_held_worth
  unfold slD at lw ⊢
  walk_at "bv"
  refine ⟨_, bo, ?_⟩
  walk_at "bv"
  refine ⟨_, lw, ?_⟩
  rw [cutD_to mx0]
  walk_at "bv"
  exact ⟨bnd_mul hb, rfl⟩
theorem held_slopes_ok (s : Slt) (b lo hi : Int) (h : s.Len) (h1 : lo ≤ hi) (h2 : hi - lo ≤ 1000) : vof (F_held_slopes [slD s, .int b, .int lo, .int hi]) = some (.tup ((heldSlopes s b lo hi).map .int)) := by
  have hl := h.len
  have hw := h.wide
  have hm := h.mid
  have bo := bounded_ok s.slopes b (by omega)
  have cl : (clampL s.slopes b).length = s.slopes.length := List.length_map ..
  have e1 : -(2 ^ 62) ≤ mx 0 (mn hi s.need - lo) ∧ mx 0 (mn hi s.need - lo) ≤ 1000 := by rw [mx_eq, mn_eq]; omega
  have e2 : -(2 ^ 62) ≤ mx 0 (hi - mx lo s.most) ∧ mx 0 (hi - mx lo s.most) ≤ 1000 := by rw [mx_eq, mx_eq]; omega
  have sz : (1000000 : Nat) ≤ sizeLine := by decide
  unfold F_held_slopes
  refine fn_val rfl ?_
  unfold f_held_slopes
  unfold slD
  walk_at "bv"
  refine ⟨_, bo, ?_⟩
  rw [o_slT, cutD_mid mx0 mx0]
  walk_at "bv"
  refine ⟨e1.1, e1.2, e2.1, e2.2, ?_⟩
  rw [rep_map, rep_map]
  simp only [List.length_map, List.length_replicate, List.length_append, List.length_take, List.length_drop, cl]
  refine ⟨by omega, by omega, ?_⟩
  unfold heldSlopes heldMid
  rw [List.map_append (l₁ := _ ++ _), List.map_append (l₁ := List.replicate _ _)]
theorem held_ok (s : Slt) (b lo hi : Int) (h : s.Len) (hb : -(2 ^ 64) < b ∧ b < 2 ^ 64) (h1 : lo ≤ hi) (h2 : hi - lo ≤ 1000) : vof (F_held [slD s, .int b, .int lo, .int hi]) = some (slD (heldW s b lo hi)) := by
  unfold F_held
  refine fn_val rfl ?_
  unfold f_held
  walk_at "bv"
  exact ⟨_, held_worth_ok s b lo h hb, _, held_slopes_ok s b lo hi h h1 h2, rfl⟩
theorem sum_of_ok (s t w : Slt) (h : s.Len) (h2 : t.Len) (hw : sumW s t = some w) : vof (F_sum_of [slD s, slD t]) = some (slD w) := by
  have l1 := h.len
  have l2 := h.wide
  unfold sumW at hw
  split at hw
  · exact nomatch hw
  · next hle =>
    have hw := Option.some.inj hw
    subst hw
    have e1 : s.need ≤ mx s.need t.need ∧ t.need ≤ mx s.need t.need := by rw [mx_eq]; omega
    have e2 : mn s.most t.most ≤ s.most ∧ mn s.most t.most ≤ t.most := by rw [mn_eq]; omega
    have sw := slopes_within_ok s (mx s.need t.need) (mn s.most t.most) e1.1 (by omega)
    have tw := slopes_within_ok t (mx s.need t.need) (mn s.most t.most) e1.2 (by omega)
    have sc := worth_at_ok s (mx s.need t.need)
    have tc := worth_at_ok t (mx s.need t.need)
    rw [if_pos (fit_iff.mpr ⟨by omega, by omega⟩)] at sc tc
    have wl := winL_len h e1.1 (show mx s.need t.need ≤ mn s.most t.most by omega) e2.1
    unfold F_sum_of
    unfold slD at sw tw sc tc ⊢
    refine fn_val rfl ?_
    unfold f_sum_of
    walk_at "bv"
    rw [if_neg (by omega)]
    refine ⟨_, sw, _, tw, ?_⟩
    rw [o_zipTT, zip_map]
    walk_at "bv"
    refine lc_all _ (fun ab : Int × Int => D.int (ab.1 + ab.2)) ?_ (fun a ha => ⟨_, rfl, rfl, ?_, ?_⟩) ?_
    · rw [List.length_zipWith]
      exact kil (by omega)
    · walk_at "bv"
    · walk_at "bv"
    · walk_at "bv"
      refine ⟨_, sc, _, tc, ?_⟩
      walk_at "bv"
      unfold addL
      rw [List.map_zipWith, List.map_zipWith]
theorem work_after_ok (a s : Slt) (b : Int) (ha : a.Len) (h : s.Len) (hb : -(2 ^ 64) < b ∧ b < 2 ^ 64) : vof (F_work_after [slD a, slD s, .int b]) = some (slD (afterW a s b)) := by
  have hd := held_ok a b s.need s.most ha hb h.mid h.wide
  have so := sum_of_ok s _ _ h (heldW_len ha h.mid h.wide) (after_some (b := b) h)
  unfold F_work_after
  refine fn_val rfl ?_
  unfold f_work_after
  unfold slD at hd so ⊢
  walk_at "bv"
  exact ⟨_, hd, _, so, rfl⟩
end BV
set_option Elab.async false
set_option linter.all false
set_option maxRecDepth 100000
namespace BV
open PySem PySem.Spec PyProof.Rows L2 WK
local macro_rules | `(tactic| walk_at "bv") => `(tactic| try simp only [ws_seq, sq_nx, sq_rt, sq_bk, sq_ct, ws_next, ws_brk, ws_cnt, ws_retN, ws_ret, ws_drop, ws_set, ws_asg, ws_if, ws_for, ws_append, ws_par2, ws_par3, ws_put, ws_seti, ws_aug,
  wp_rtn, wp_bnd, wp_lif, wp_getE, wp_b1, wp_b2, wp_b2o, wp_consA, wp_tupE, wp_lstE, wp_bt, wp_iteM, wp_andM, wp_orM, wp_notM, wp_andV, wp_orV, wp_notV, wp_slM, wp_chE, wp_callM, wp_callS, wp_itM, wp_itA, wp_keysM, wp_lcM,
  o_add, o_sub, o_mul, o_lt, o_le, o_gt, o_ge, o_maxM, o_minM, wipe0, wipe1, sz0, sz1, sz2, sz3, sz4, sz5, sz6, le1k, dec_if, D.lst.injEq, D.dct.injEq, o_neg, o_abs, o_fdiv, o_fdivN, o_mod, o_modN, o_pow, o_int, o_isB, o_isI, o_truI, o_truL, o_truT, o_truB, o_truN, o_lenL, o_lenT, o_ixL, o_ixT, o_ixK, o_seqL, o_seqT, o_tupL, o_tupT, o_listL, o_listT, o_rev, o_slL, o_slT, o_sumL, o_sumT,
  o_maxL, o_minL, o_sorted, o_allL, o_anyL, o_vals, o_keyI, o_keyS, o_isN, o_eqI, o_neI, o_inK, o_ninK, o_zipLL, o_zipTT, o_zipLT, o_zipTL, o_enuL, o_enuT, o_rng1, o_rng2, o_addT, o_addL, o_mulT, atI0, atI1, atI2, atI3, if_some, true_if, false_if,
  tupG, consG, nilG, nameG, List.map_cons, List.map_nil, List.cons_append, List.nil_append, List.length_cons, List.length_nil, List.replicate, List.set_cons_zero, List.set_cons_succ, List.getElem?_cons_zero, List.getElem?_cons_succ, Nat.reduceAdd, Nat.reduceSub, Option.bind_some, Option.map_some, Option.some.injEq, if_true, exists_eq_left', exists_eq_left, and_assoc, exists_and_left,
  args_take, List.take_succ_cons, List.take_zero, allS_cons, allS_nil, and_true, true_and])
/-! ### dicts of numbers -/
theorem getK_app {κ : Type} [DecidableEq κ] {kvs : List (κ × D)} {k z : κ} {v : D} : getK (kvs ++ [(k, v)]) z = (getK kvs z).or (if k = z then some v else none) := by
  unfold getK
  rw [List.find?_append]
  cases h : kvs.find? (fun kv => decide (kv.1 = z)) with
  | some x => rfl
  | none =>
    by_cases e : k = z
    · simp [e]
    · simp [e]
theorem putK_new' {κ : Type} [DecidableEq κ] {kvs : List (κ × D)} {k : κ} {v : D} (h : getK kvs k = none) : putKD kvs k v = kvs ++ [(k, v)] := by
  unfold putKD
  rw [if_neg]
  intro h2
  unfold getK at h
  obtain ⟨x, hx, e⟩ := List.any_eq_true.mp h2
  have := List.find?_eq_none.mp (Option.map_eq_none_iff.mp h) x hx
  exact this e
def cdK (s : Slt) (n : Nat) : List (Key × D) := (List.range n).map fun (k : Nat) => (Sum.inl (s.need + k), D.int (s.first + (s.slopes.take k).sum))
def cdD (s : Slt) : D := .dct (cdK s (s.slopes.length + 1))
theorem cdK_succ {s : Slt} {n : Nat} : cdK s (n + 1) = cdK s n ++ [(Sum.inl (s.need + n), D.int (s.first + (s.slopes.take n).sum))] := by
  unfold cdK
  rw [mapr_succ]
theorem cdK_get {s : Slt} : ∀ {n : Nat} {z : Int}, getK (cdK s n) (.inl z) = if s.need ≤ z ∧ z < s.need + n then some (.int (s.first + (s.slopes.take (z - s.need).toNat).sum)) else none
  | 0, z => by
    rw [if_neg (by omega)]
    rfl
  | n + 1, z => by
    rw [cdK_succ, getK_app, cdK_get]
    by_cases e : z = s.need + n
    · subst e
      rw [if_pos rfl, if_neg (by omega), if_pos (by omega), show (s.need + (n : Int) - s.need).toNat = n by omega]
      rfl
    · rw [if_neg (fun q => e (Sum.inl.inj q).symm)]
      by_cases h : s.need ≤ z ∧ z < s.need + n
      · rw [if_pos h, if_pos (by omega)]; rfl
      · rw [if_neg h, if_neg (by omega)]; rfl
theorem cdK_at {s : Slt} {n j : Nat} (h : j < n) : getK (cdK s n) (.inl (s.need + (j : Int))) = some (.int (s.first + (s.slopes.take j).sum)) := by
  rw [cdK_get, if_pos (by omega), show (s.need + (j : Int) - s.need).toNat = j by omega]
theorem cdK_put {s : Slt} {n : Nat} : putKD (cdK s n) (.inl (s.need + n)) (.int (s.first + (s.slopes.take n).sum)) = cdK s (n + 1) := by
  rw [putK_new' (by rw [cdK_get, if_neg (by omega)]), cdK_succ]
theorem cdK_len {s : Slt} {n : Nat} : (cdK s n).length = n := by simp [cdK]
theorem cdK_keys {s : Slt} {n : Nat} : (cdK s n).map (fun kv => keyOf kv.1) = (numsL s n).map D.int := by
  unfold cdK numsL
  rw [List.map_map, List.map_map]
  rfl
theorem cdK_vals {s : Slt} {n : Nat} : (cdK s n).map (fun kv => kv.2) = (valsL s n).map D.int := by
  unfold cdK valsL
  rw [List.map_map, List.map_map]
  rfl
theorem minI_by {ns : List Int} {m : Int} (h0 : ns ≠ []) (h : ∀ k, k ∈ ns → (∀ y ∈ ns, k ≤ y) → k = m) : minI ns = some m := by
  cases ns with
  | nil => exact absurd rfl h0
  | cons n ns =>
    have := foldl_min (ns := ns) (n := n)
    exact congrArg some (h _ this.1 this.2)
theorem maxI_by {ns : List Int} {m : Int} (h0 : ns ≠ []) (h : ∀ k, k ∈ ns → (∀ y ∈ ns, y ≤ k) → k = m) : maxI ns = some m := by
  cases ns with
  | nil => exact absurd rfl h0
  | cons n ns =>
    have := foldl_max (ns := ns) (n := n)
    exact congrArg some (h _ this.1 this.2)
/-! ### the works of slots -/
theorem map_at {α : Type} {inj : α → D} {l : List α} {j : Nat} {d : D} (h : (l.map inj)[j]? = some d) : ∃ a, l[j]? = some a ∧ d = inj a := by
  rw [List.getElem?_map] at h
  obtain ⟨a, e, r⟩ := Option.map_eq_some_iff.mp h
  exact ⟨a, e, r.symm⟩
theorem lastW_Len {b : Int} {ss : List Slt} (h : ∀ s ∈ ss, s.Len) : (lastW w0 b ss).Len := lastW_len w0_len h
theorem works_of_ok (ss : List Slt) (b : Int) (hs : ∀ s ∈ ss, s.Len) (hl : ss.length ≤ 1000) (hb : -(2 ^ 64) < b ∧ b < 2 ^ 64) : vof (F_works_of [.tup (ss.map slD), .int b]) = some (.lst ((worksW w0 b ss).map slD)) := by
  unfold F_works_of
  refine fn_val rfl ?_
  unfold f_works_of
  walk_at "bv"
  refine for_inv (fun j ρ => ∃ c, ρ = [some (.tup (ss.map slD)), some (.int b), some (.lst ((worksW w0 b (ss.take j)).map slD)), some (slD (lastW w0 b (ss.take j))), c]) ⟨_, rfl⟩ ?_ ?_
  · rintro j d ρ hd ⟨c, rfl⟩
    obtain ⟨s, hj, rfl⟩ := map_at hd
    have wa := work_after_ok (lastW w0 b (ss.take j)) s b (lastW_Len fun x hx => hs x (List.mem_of_mem_take hx)) (hs s (List.mem_of_getElem? hj)) hb
    refine ⟨_, rfl, ?_⟩
    walk_at "bv"
    refine ⟨_, wa, ?_⟩
    walk_at "bv"
    rw [take_snoc1 hj, worksW_snoc, lastW_snoc, List.map_append, List.length_map, worksW_len]
    refine ⟨?_, _, rfl⟩
    · rw [List.length_take]
      exact Nat.lt_of_lt_of_le (show min j ss.length < 1001 by omega) (by decide)
  · rintro ρ ⟨c, rfl⟩
    rw [List.length_map, List.take_length]
    walk_at "bv"
def rowStep (b : Int) (acc : List Int) (w : Slt) : List Int := acc ++ [mn (mx (acc.getLast?.getD (lowW w)) (lowW w)) (highW w b)]
def dueR (b : Int) (ws : List Slt) : List Int := ws.foldl (rowStep b) []
theorem dueR_len {b : Int} (ws : List Slt) : (dueR b ws).length = ws.length := by
  unfold dueR
  have : ∀ (ws : List Slt) (acc : List Int), (ws.foldl (rowStep b) acc).length = acc.length + ws.length := fun ws => by
    induction ws with
    | nil => intro acc; rfl
    | cons w ws ih => intro acc; rw [List.foldl_cons, ih]; simp [rowStep]; omega
  simpa using this ws []
theorem dueR_snoc {b : Int} {ws : List Slt} {w : Slt} : dueR b (ws ++ [w]) = rowStep b (dueR b ws) w := by unfold dueR; rw [List.foldl_append]; rfl
theorem atI_last {xs : List Int} {x : Int} (h : xs.getLast? = some x) : L2.atI (xs.map D.int) (-1) = some (.int x) := by
  have h1 : xs[xs.length - 1]? = some x := by rw [← List.getLast?_eq_getElem?]; exact h
  have hl := (List.getElem?_eq_some_iff.mp h1).1
  unfold L2.atI ixN
  rw [if_neg (by omega), List.length_map, if_pos (by omega), show (-1 + (xs.length : Int)).toNat = xs.length - 1 by omega, Option.bind_some, List.getElem?_map, h1]
  rfl
theorem best_row_ok (ss : List Slt) (b : Int) (hs : ∀ s ∈ ss, s.Len) (hl : ss.length ≤ 1000) (hb : -(2 ^ 64) < b ∧ b < 2 ^ 64) : vof (F_best_row [.tup (ss.map slD), .int b]) = some (.tup ((dueR b (worksW w0 b ss).reverse).reverse.map .int)) := by
  have wo := works_of_ok ss b hs hl hb
  unfold F_best_row
  refine fn_val rfl ?_
  unfold f_best_row
  walk_at "bv"
  refine ⟨_, wo, ?_⟩
  walk_at "bv"
  rw [← List.map_reverse]
  refine for_inv (fun j ρ => ∃ c d e, ρ = [some (.tup (ss.map slD)), some (.int b), some (.lst ((dueR b ((worksW w0 b ss).reverse.take j)).map .int)), c, d, e]) ⟨_, _, _, rfl⟩ ?_ ?_
  · rintro j d ρ hd ⟨c, c2, c3, rfl⟩
    obtain ⟨w, hj, rfl⟩ := map_at hd
    have wl := worksW_Len (b := b) w0_len hs w (List.mem_reverse.mp (List.mem_of_getElem? hj))
    have lo := low_of_ok w (by have := wl.len; have := wl.wide; omega)
    have hi := high_of_ok w b (by have := wl.len; have := wl.wide; omega)
    refine ⟨_, rfl, ?_⟩
    walk_at "bv"
    refine ⟨_, lo, ?_⟩
    walk_at "bv"
    rw [List.isEmpty_map]
    cases hx : (dueR b ((worksW w0 b ss).reverse.take j)).getLast? with
    | none =>
      have hn := List.getLast?_eq_none_iff.mp hx
      rw [take_snoc1 hj, dueR_snoc, hn]
      rw [if_neg (by decide)]
      refine ⟨_, hi, ?_⟩
      walk_at "bv"
      refine ⟨by decide, _, _, _, rfl⟩
    | some x =>
      rw [if_pos (by cases e : dueR b ((worksW w0 b ss).reverse.take j) with
        | nil => rw [e] at hx; exact nomatch hx
        | cons a as => rfl)]
      refine ⟨_, atI_last hx, ?_⟩
      walk_at "bv"
      refine ⟨_, hi, ?_⟩
      walk_at "bv"
      rw [List.length_map, dueR_len, take_snoc1 hj, dueR_snoc]
      unfold rowStep
      rw [hx, List.map_append]
      refine ⟨?_, _, _, _, rfl⟩
      · rw [List.length_take, List.length_reverse, worksW_len]
        exact Nat.lt_of_lt_of_le (show min j ss.length < 1001 by omega) (by decide)
  · rintro ρ ⟨c, c2, c3, rfl⟩
    rw [List.length_map, List.take_length]
    walk_at "bv"
    rw [List.map_reverse]
end BV
set_option Elab.async false
set_option linter.all false
set_option maxRecDepth 100000
namespace BV
open PySem PySem.Spec PyProof.Rows L2 WK
local macro_rules | `(tactic| walk_at "bv") => `(tactic| try simp only [ws_seq, sq_nx, sq_rt, sq_bk, sq_ct, ws_next, ws_brk, ws_cnt, ws_retN, ws_ret, ws_drop, ws_set, ws_asg, ws_if, ws_for, ws_append, ws_par2, ws_par3, ws_put, ws_seti, ws_aug,
  wp_rtn, wp_bnd, wp_lif, wp_getE, wp_b1, wp_b2, wp_b2o, wp_consA, wp_tupE, wp_lstE, wp_bt, wp_iteM, wp_andM, wp_orM, wp_notM, wp_andV, wp_orV, wp_notV, wp_slM, wp_chE, wp_callM, wp_callS, wp_itM, wp_itA, wp_keysM, wp_lcM,
  o_add, o_sub, o_mul, o_lt, o_le, o_gt, o_ge, o_maxM, o_minM, wipe0, wipe1, sz0, sz1, sz2, sz3, sz4, sz5, sz6, le1k, dec_if, o_neLN, o_neL1, wp_dsp1, List.length_map, Int.toNat_natCast, D.lst.injEq, D.dct.injEq, o_neg, o_abs, o_fdiv, o_fdivN, o_mod, o_modN, o_pow, o_int, o_isB, o_isI, o_truI, o_truL, o_truT, o_truB, o_truN, o_lenL, o_lenT, o_ixL, o_ixT, o_ixK, o_seqL, o_seqT, o_tupL, o_tupT, o_listL, o_listT, o_rev, o_slL, o_slT, o_sumL, o_sumT,
  o_maxL, o_minL, o_sorted, o_allL, o_anyL, o_vals, o_keyI, o_keyS, o_isN, o_eqI, o_neI, o_inK, o_ninK, o_zipLL, o_zipTT, o_zipLT, o_zipTL, o_enuL, o_enuT, o_rng1, o_rng2, o_addT, o_addL, o_mulT, atI0, atI1, atI2, atI3, if_some, true_if, false_if,
  tupG, consG, nilG, nameG, List.map_cons, List.map_nil, List.cons_append, List.nil_append, List.length_cons, List.length_nil, List.replicate, List.set_cons_zero, List.set_cons_succ, List.getElem?_cons_zero, List.getElem?_cons_succ, Nat.reduceAdd, Nat.reduceSub, Option.bind_some, Option.map_some, Option.some.injEq, if_true, exists_eq_left', exists_eq_left, and_assoc, exists_and_left,
  args_take, List.take_succ_cons, List.take_zero, allS_cons, allS_nil, and_true, true_and])
theorem enum_map {l : List Int} {j : Nat} {d : D} (h : (enumL (l.map D.int))[j]? = some d) : ∃ z, l[j]? = some z ∧ d = .tup [.int (j : Nat), .int z] := by
  unfold enumL at h
  rw [List.getElem?_map] at h
  obtain ⟨i, e, r⟩ := Option.map_eq_some_iff.mp h
  obtain ⟨hl, e⟩ := List.getElem?_eq_some_iff.mp e
  rw [List.getElem_range] at e
  subst e
  rw [List.length_range, List.length_map] at hl
  refine ⟨l[j], List.getElem?_eq_getElem hl, ?_⟩
  rw [← r, List.getD_eq_getElem?_getD, List.getElem?_map, List.getElem?_eq_getElem hl]
  rfl
theorem cdD_eq (s : Slt) : cdD s = .dct (cdK s (s.slopes.length + 1)) := rfl
theorem map_int {α : Type} {l : List α} {f : α → Int} : l.map (fun a => D.int (f a)) = (l.map f).map D.int := by rw [List.map_map]; rfl
theorem atI_get {α : Type} {l : List α} {z : Int} {d : α} (h0 : 0 ≤ z) (h : l[z.toNat]? = some d) : L2.atI l z = some d := by
  obtain ⟨n, rfl⟩ := Int.eq_ofNat_of_zero_le h0
  exact atI_nat h
theorem numsL_len {s : Slt} {n : Nat} : (numsL s n).length = n := by unfold numsL; rw [List.length_map, List.length_range]
theorem slot_costs_ok (ss : List Slt) (hs : ∀ s ∈ ss, s.slopes.length ≤ 1000) (hl : ss.length ≤ 1000) : vof (F_law_slot_costs [.tup (ss.map slD)]) = some (.lst (ss.map cdD)) := by
  unfold F_law_slot_costs
  refine fn_val rfl ?_
  unfold f_law_slot_costs
  walk_at "bv"
  refine for_inv (fun j ρ => ∃ c2 c3 c4 c5 c6 c7 c8, ρ = [some (.tup (ss.map slD)), some (.lst ((ss.take j).map cdD)), c2, c3, c4, c5, c6, c7, c8]) ⟨_, _, _, _, _, _, _, rfl⟩ ?_ ?_
  · rintro j d ρ hd ⟨c2, c3, c4, c5, c6, c7, c8, rfl⟩
    obtain ⟨s, hj, rfl⟩ := map_at hd
    refine ⟨_, rfl, ?_⟩
    walk_at "bv"
    refine for_inv (fun i ρ => ∃ c7 c8, ρ = [some (.tup (ss.map slD)), some (.lst ((ss.take j).map cdD)), some (.int s.need), some (.int s.most), some (.int s.first), some (.tup (s.slopes.map .int)), some (.dct (cdK s (i + 1))), c7, c8]) ⟨c7, c8, by unfold cdK; simp⟩ ?_ ?_
    · rintro i d ρ hd ⟨c7, c8, rfl⟩
      obtain ⟨z, hi, rfl⟩ := enum_map hd
      refine ⟨_, rfl, ?_⟩
      have hil := (List.getElem?_eq_some_iff.mp hi).1
      have hsl := hs s (List.mem_of_getElem? hj)
      walk_at "bv"
      rw [cdK_at (by omega), cdK_len, show s.need + 1 + (i : Int) = s.need + ((i + 1 : Nat) : Int) by omega]
      walk_at "bv"
      rw [Int.add_assoc, ← take_sum hi, cdK_put]
      exact ⟨Nat.lt_of_lt_of_le (show i + 1 < 2000 by omega) (by decide), _, _, rfl⟩
    · rintro ρ ⟨c7, c8, rfl⟩
      have e : (enumL (s.slopes.map D.int)).length = s.slopes.length := by rw [enumL_len, List.length_map]
      rw [e]
      walk_at "bv"
      rw [take_snoc1 hj, List.map_append, List.length_take]
      exact ⟨Nat.lt_of_lt_of_le (show min j ss.length < 2000 by omega) (by decide), _, _, _, _, _, _, _, rfl⟩
  · rintro ρ ⟨c2, c3, c4, c5, c6, c7, c8, rfl⟩
    rw [List.length_map, List.take_length]
    walk_at "bv"
theorem going_ok (ss : List Slt) (b : Int) (hs : ∀ s ∈ ss, s.Wk) (hl : ss.length ≤ 1000) (hb : 0 ≤ b ∧ b < 2 ^ 64) : vof (F_law_going [.lst (ss.map cdD), .int b]) = some (.lst ((worksW w0 b ss).map cdD)) := by
  unfold F_law_going
  refine fn_val rfl ?_
  unfold f_law_going
  walk_at "bv"
  refine for_inv (fun j ρ => ∃ c4 c5 c6 c7, ρ = [some (.lst (ss.map cdD)), some (.int b), some (.lst ((worksW w0 b (ss.take j)).map cdD)), some (cdD (lastW w0 b (ss.take j))), c4, c5, c6, c7]) ⟨_, _, _, _, rfl⟩ ?_ ?_
  · rintro j d ρ hd ⟨c4, c5, c6, c7, rfl⟩
    obtain ⟨s, hj, rfl⟩ := map_at hd
    have hsl := hs s (List.mem_of_getElem? hj)
    have haw : (lastW w0 b (ss.take j)).Wk := lastW_wk hb.1 _ fun x hx => hs x (List.mem_of_mem_take hx)
    generalize ha : lastW w0 b (ss.take j) = a at haw
    have k1 := hsl.len.len
    have k2 := hsl.len.wide
    have k3 := haw.len.len
    have k4 := haw.len.wide
    refine ⟨_, rfl, ?_⟩
    rw [cdD_eq s]
    walk_at "bv"
    rw [cdK_keys]
    refine for_inv (fun i ρ => ∃ c6 c7, ρ = [some (.lst (ss.map cdD)), some (.int b), some (.lst ((worksW w0 b (ss.take j)).map cdD)), some (cdD a), some (.dct (cdK s (s.slopes.length + 1))), some (.dct (cdK (afterW a s b) i)), c6, c7]) ⟨_, _, rfl⟩ ?_ ?_
    · rintro i d ρ hd ⟨c6, c7, rfl⟩
      obtain ⟨z, hi, rfl⟩ := map_at hd
      unfold numsL at hi
      rw [List.getElem?_map] at hi
      obtain ⟨i2, hi2, ez⟩ := Option.map_eq_some_iff.mp hi
      obtain ⟨hil, hi3⟩ := List.getElem?_eq_some_iff.mp hi2
      rw [List.getElem_range] at hi3
      subst hi3
      subst ez
      rw [List.length_range] at hil
      refine ⟨_, rfl, ?_⟩
      rw [cdD_eq a]
      walk_at "bv"
      rw [cdK_at hil]
      walk_at "bv"
      rw [cdK_keys]
      refine lc_all D.int (fun y => D.int (a.first + (a.slopes.take (y - a.need).toNat).sum + b * up (s.need + (i : Int) - y))) ?_ (fun y hy => ⟨_, rfl, rfl, ?_, ?_⟩) ?_
      · rw [numsL_len]
        have : a.slopes.length + 1 ≤ 5000 := by omega
        exact Nat.le_trans this (by decide)
      · walk_at "bv"
      · obtain ⟨k, hk, rfl⟩ := List.mem_map.mp hy
        have hk := List.mem_range.mp hk
        walk_at "bv"
        rw [cdK_at hk, show (a.need + (k : Int) - a.need).toNat = k by omega]
        walk_at "bv"
        exact ⟨bnd_mul ⟨by omega, by omega⟩, rfl⟩
      · walk_at "bv"
        have mm : minI ((numsL a (a.slopes.length + 1)).map fun y => a.first + (a.slopes.take (y - a.need).toNat).sum + b * up (s.need + (i : Int) - y)) = some (heldWorth a b (s.need + i)) := by
          have e : ((numsL a (a.slopes.length + 1)).map fun y => a.first + (a.slopes.take (y - a.need).toNat).sum + b * up (s.need + (i : Int) - y)) = fromL a b (s.need + i) (a.slopes.length + 1) := by
            unfold numsL fromL
            rw [List.map_map]
            refine List.map_congr_left fun k hk => ?_
            show a.first + (a.slopes.take (a.need + (k : Int) - a.need).toNat).sum + b * up (s.need + (i : Int) - (a.need + (k : Int))) = _
            rw [show (a.need + (k : Int) - a.need).toNat = k by omega]
          rw [e]
          refine minI_by ?_ fun m h1 h2 => from_least haw hb.1 h1 h2
          rw [fromL_succ]
          exact List.append_ne_nil_of_right_ne_nil _ (by simp)
        rw [map_int, o_minL, mm]
        walk_at "bv"
        have at_ := after_at haw hsl hb.1 (j := i) (by omega)
        rw [← at_.2.2, ← at_.1, cdK_put, cdK_len]
        exact ⟨Nat.lt_of_lt_of_le (show i < 2000 by omega) (by decide), _, _, rfl⟩
    · rintro ρ ⟨c6, c7, rfl⟩
      have e : ((numsL s (s.slopes.length + 1)).map D.int).length = s.slopes.length + 1 := by unfold numsL; rw [List.length_map, List.length_map, List.length_range]
      rw [e]
      walk_at "bv"
      have at_ := (after_at haw hsl hb.1 (j := 0) (by omega)).2.1
      rw [take_snoc1 hj, worksW_snoc, lastW_snoc, ha, List.map_append, worksW_len, List.length_take]
      have ec : cdD (afterW a s b) = .dct (cdK (afterW a s b) (s.slopes.length + 1)) := by rw [cdD_eq, at_]
      rw [← ec]
      exact ⟨Nat.lt_of_lt_of_le (show min j ss.length < 2000 by omega) (by decide), _, _, _, _, rfl⟩
  · rintro ρ ⟨c4, c5, c6, c7, rfl⟩
    rw [List.length_map, List.take_length]
    walk_at "bv"
theorem low_ok (s : Slt) (h : s.Wk) : vof (F_law_low [cdD s]) = some (.int (lowW s)) := by
  have k1 := h.len.len
  have k2 := h.len.wide
  have mv : minI (valsL s (s.slopes.length + 1)) = some (leastW s) := minI_by (by unfold valsL; rw [List.range_succ]; simp) fun m h1 h2 => vals_least h h1 h2
  have hn : (numsL s (s.slopes.length + 1)).length ≤ sizeLine := by
    rw [numsL_len]
    have : s.slopes.length + 1 ≤ 5000 := by omega
    exact Nat.le_trans this (by decide)
  unfold F_law_low cdD
  refine fn_val rfl ?_
  unfold f_law_low
  walk_at "bv"
  rw [cdK_keys]
  refine lc_at D.int (fun z => decide (s.first + (s.slopes.take (z - s.need).toNat).sum = leastW s)) D.int hn (fun a ha => ⟨_, rfl, rfl, ?_, fun _ => ?_⟩) ?_
  · obtain ⟨k, hk, rfl⟩ := List.mem_map.mp ha
    have hk := List.mem_range.mp hk
    walk_at "bv"
    rw [cdK_at hk, cdK_vals, o_minL, mv]
    walk_at "bv"
    rw [show (s.need + (k : Int) - s.need).toNat = k by omega]
  · walk_at "bv"
  · walk_at "bv"
    have e : (numsL s (s.slopes.length + 1)).filter (fun z => decide (s.first + (s.slopes.take (z - s.need).toNat).sum = leastW s)) = lowsL s (s.slopes.length + 1) := by
      unfold numsL lowsL
      rw [List.filter_map]
      congr 1
      refine List.filter_congr fun k hk => ?_
      show decide (s.first + (s.slopes.take (s.need + (k : Int) - s.need).toNat).sum = leastW s) = _
      rw [show (s.need + (k : Int) - s.need).toNat = k by omega]
    rw [e, minI_by (List.ne_nil_of_mem (lows_has h)) fun m h1 h2 => lows_least h h1 h2]
    walk_at "bv"
theorem high_ok (s : Slt) (b : Int) (h : s.Wk) : vof (F_law_high [cdD s, .int b]) = some (.int (highW s b)) := by
  have k1 := h.len.len
  have k2 := h.len.wide
  have hn : (numsL s (s.slopes.length + 1)).length ≤ sizeLine := by
    rw [numsL_len]
    have : s.slopes.length + 1 ≤ 5000 := by omega
    exact Nat.le_trans this (by decide)
  unfold F_law_high cdD
  refine fn_val rfl ?_
  unfold f_law_high
  walk_at "bv"
  rw [cdK_keys]
  refine lc_at D.int (fun z => decide (z ≤ highW s b)) D.int hn (fun a ha => ⟨_, rfl, rfl, ?_, fun _ => ?_⟩) ?_
  · obtain ⟨k, hk, rfl⟩ := List.mem_map.mp ha
    have hk := List.mem_range.mp hk
    walk_at "bv"
    cases k with
    | zero =>
      have e0 : getK (cdK s (s.slopes.length + 1)) (.inl (s.need + ((0 : Nat) : Int) - 1)) = none := by rw [cdK_get, if_neg (by omega)]
      have := (highW_in (b := b) h).1
      rw [e0, if_pos (by rfl), decide_eq_true (by omega)]
    | succ k =>
      have hs := high_step (b := b) h hk
      rw [show s.need + ((k + 1 : Nat) : Int) - 1 = s.need + (k : Int) by omega, cdK_at (show k < s.slopes.length + 1 by omega), cdK_at hk]
      rw [if_neg (by simp)]
      walk_at "bv"
      exact decide_eq_decide.mpr hs
  · walk_at "bv"
  · walk_at "bv"
    have e : (numsL s (s.slopes.length + 1)).filter (fun z => decide (z ≤ highW s b)) = highsL s b (s.slopes.length + 1) := by
      unfold numsL highsL
      rw [List.filter_map]
      rfl
    rw [e, maxI_by (List.ne_nil_of_mem (highs_has h)) fun m h1 h2 => highs_most h h1 h2]
    walk_at "bv"
theorem row_at {xs : List Int} {i : Nat} (h : i < xs.length) : L2.atI (xs.map D.int) ((0 : Int) + (i : Nat)) = some (.int (xs.getD i 0)) := by
  refine atI_get (by omega) ?_
  rw [show ((0 : Int) + (i : Nat)).toNat = i by omega, List.getElem?_map, List.getElem?_eq_getElem h, List.getD_eq_getElem?_getD, List.getElem?_eq_getElem h]
  rfl
theorem starts_ok (xs : List Int) (hl : xs.length ≤ 1000) : vof (F_law_starts [.tup (xs.map .int)]) = some (.int (startsL xs)) := by
  unfold F_law_starts
  refine fn_val rfl ?_
  unfold f_law_starts
  walk_at "bv"
  refine ⟨big_nat (by omega), ?_⟩
  rw [rng_map]
  refine lc_all (fun i : Nat => D.int ((0 : Int) + (i : Nat))) (fun i => D.int (up (xs.getD i 0 - (0 :: xs).getD i 0))) (by rw [List.length_range]; exact kil hl) (fun i hi => ⟨_, rfl, rfl, ?_, ?_⟩) ?_
  · walk_at "bv"
  · have hi := List.mem_range.mp hi
    walk_at "bv"
    rw [row_at hi]
    walk_at "bv"
    cases i with
    | zero =>
      rw [if_neg (by omega)]
      walk_at "bv"
      rfl
    | succ i =>
      rw [if_pos (by omega), show (0 : Int) + ((i + 1 : Nat) : Int) - 1 = (0 : Int) + (i : Int) by omega, row_at (by omega)]
      walk_at "bv"
      rfl
  · rw [map_int]
    walk_at "bv"
    rfl
theorem serves_at {ss : List Slt} {xs : List Int} (h : servesL ss xs = true) {i : Nat} (hi : i < xs.length) : fitB (ss.getD i s0) (xs.getD i 0) = true := by
  unfold servesL servesB at h
  rw [List.all_eq_true] at h
  exact h _ (List.mem_map.mpr ⟨i, List.mem_range.mpr hi, rfl⟩)
theorem cd_at {ss : List Slt} {i : Nat} (h : i < ss.length) : L2.atI (ss.map cdD) ((0 : Int) + (i : Nat)) = some (cdD (ss.getD i s0)) := by
  refine atI_get (by omega) ?_
  rw [show ((0 : Int) + (i : Nat)).toNat = i by omega, List.getElem?_map, List.getElem?_eq_getElem h, List.getD_eq_getElem?_getD, List.getElem?_eq_getElem h]
  rfl
theorem cd_fit {s : Slt} {x : Int} (hs : s.Len) (h : fitB s x = true) : getK (cdK s (s.slopes.length + 1)) (.inl x) = some (.int (costAt s x)) := by
  have h := fit_iff.mp h
  have k1 := hs.len
  rw [cdK_get, if_pos (by omega)]
  rfl
theorem price_ok (ss : List Slt) (xs : List Int) (b : Int) (hs : ∀ s ∈ ss, s.Len) (h : xs.length = ss.length) (hv : servesL ss xs = true) (hl : xs.length ≤ 1000) (hb : 0 ≤ b ∧ b < 2 ^ 64) : vof (F_law_price [.lst (ss.map cdD), .tup (xs.map .int), .int b]) = some (.lst [.int (runL ss xs + b * startsL xs)]) := by
  have st := starts_ok xs hl
  have hg : ∀ i, i < xs.length → (ss.getD i s0).Len := fun i hi => by
    rw [List.getD_eq_getElem?_getD, List.getElem?_eq_getElem (by omega)]
    exact hs _ (List.getElem_mem _)
  unfold F_law_price
  refine fn_val rfl ?_
  unfold f_law_price
  walk_at "bv"
  rw [if_neg (by rw [h]; simp)]
  refine ⟨big_nat (by omega), ?_⟩
  rw [rng_map]
  refine lc_at (fun i : Nat => D.int ((0 : Int) + (i : Nat))) (fun _ => false) (fun i => D.int ((0 : Int) + (i : Nat))) (by rw [List.length_range]; exact kil hl) (fun i hi => ⟨_, rfl, rfl, ?_, fun z => nomatch z⟩) ?_
  · have hi := List.mem_range.mp hi
    walk_at "bv"
    rw [row_at hi, cd_at (by omega)]
    walk_at "bv"
    rw [cdD_eq]
    walk_at "bv"
    rw [cd_fit (hg i hi) (serves_at hv hi)]
    rfl
  · rw [List.filter_eq_nil_iff.mpr (fun a _ => by simp)]
    walk_at "bv"
    rw [if_neg (by decide)]
    refine ⟨big_nat (by omega), ?_⟩
    rw [rng_map]
    refine lc_all (fun i : Nat => D.int ((0 : Int) + (i : Nat))) (fun i => D.int (costAt (ss.getD i s0) (xs.getD i 0))) (by rw [List.length_range]; exact kil hl) (fun i hi => ⟨_, rfl, rfl, ?_, ?_⟩) ?_
    · walk_at "bv"
    · have hi := List.mem_range.mp hi
      walk_at "bv"
      rw [row_at hi, cd_at (by omega)]
      walk_at "bv"
      rw [cdD_eq]
      walk_at "bv"
      rw [cd_fit (hg i hi) (serves_at hv hi)]
      walk_at "bv"
    · rw [map_int]
      walk_at "bv"
      refine ⟨_, st, ?_⟩
      walk_at "bv"
      exact ⟨bnd_mul ⟨by omega, by omega⟩, rfl⟩
theorem last_cd {b : Int} {ss : List Slt} (h : ss ≠ []) : L2.atI ((worksW w0 b ss).map cdD) (-1) = some (cdD (lastW w0 b ss)) := by
  rcases List.eq_nil_or_concat ss with rfl | ⟨st, s, rfl⟩
  · exact absurd rfl h
  · rw [List.concat_eq_append, worksW_snoc, lastW_snoc, List.map_append]
    have e : ((worksW w0 b st).map cdD ++ [afterW (lastW w0 b st) s b].map cdD).length = (worksW w0 b st).length + 1 := by simp
    unfold L2.atI ixN
    rw [if_neg (by omega), if_pos (by omega), e, show (-1 + (((worksW w0 b st).length + 1 : Nat) : Int)).toNat = ((worksW w0 b st).map cdD).length by rw [List.length_map]; omega, Option.bind_some, List.getElem?_append_right (Nat.le_refl _), Nat.sub_self]
    rfl
theorem least_cost_ok (ss : List Slt) (b : Int) (hs : ∀ s ∈ ss, s.Wk) (hl : ss.length ≤ 1000) (hb : 0 ≤ b ∧ b < 2 ^ 64) : vof (F_law_least_cost [.lst (ss.map cdD), .int b]) = some (.int (leastW (lastW w0 b ss))) := by
  have go := going_ok ss b hs hl hb
  unfold F_law_least_cost
  refine fn_val rfl ?_
  unfold f_law_least_cost
  walk_at "bv"
  rw [List.isEmpty_map]
  cases ss with
  | nil => rfl
  | cons s ss =>
    have W := lastW_wk hb.1 _ hs
    rw [if_pos (by rfl)]
    refine ⟨_, go, ?_⟩
    rw [o_ixL, last_cd (by simp)]
    walk_at "bv"
    rw [cdD_eq]
    walk_at "bv"
    rw [cdK_vals, o_minL, minI_by (by unfold valsL; rw [List.range_succ]; simp) fun m h1 h2 => vals_least W h1 h2]
    walk_at "bv"
end BV
set_option Elab.async false
set_option linter.all false
set_option maxRecDepth 100000
namespace BV
open PySem PySem.Spec PyProof.Rows L2 WK
local macro_rules | `(tactic| walk_at "bv") => `(tactic| try simp only [ws_seq, sq_nx, sq_rt, sq_bk, sq_ct, ws_next, ws_brk, ws_cnt, ws_retN, ws_ret, ws_drop, ws_set, ws_asg, ws_if, ws_for, ws_append, ws_par2, ws_par3, ws_put, ws_seti, ws_aug,
  wp_rtn, wp_bnd, wp_lif, wp_getE, wp_b1, wp_b2, wp_b2o, wp_consA, wp_tupE, wp_lstE, wp_bt, wp_iteM, wp_andM, wp_orM, wp_notM, wp_andV, wp_orV, wp_notV, wp_slM, wp_chE, wp_callM, wp_callS, wp_itM, wp_itA, wp_keysM, wp_lcM,
  o_add, o_sub, o_mul, o_lt, o_le, o_gt, o_ge, o_maxM, o_minM, wipe0, wipe1, sz0, sz1, sz2, sz3, sz4, sz5, sz6, le1k, dec_if, o_neLN, o_neL1, wp_dsp1, List.length_map, Int.toNat_natCast, D.lst.injEq, D.dct.injEq, o_neg, o_abs, o_fdiv, o_fdivN, o_mod, o_modN, o_pow, o_int, o_isB, o_isI, o_truI, o_truL, o_truT, o_truB, o_truN, o_lenL, o_lenT, o_ixL, o_ixT, o_ixK, o_seqL, o_seqT, o_tupL, o_tupT, o_listL, o_listT, o_rev, o_slL, o_slT, o_sumL, o_sumT,
  o_maxL, o_minL, o_sorted, o_allL, o_anyL, o_vals, o_keyI, o_keyS, o_isN, o_eqI, o_neI, o_inK, o_ninK, o_zipLL, o_zipTT, o_zipLT, o_zipTL, o_enuL, o_enuT, o_rng1, o_rng2, o_addT, o_addL, o_mulT, atI0, atI1, atI2, atI3, if_some, true_if, false_if,
  tupG, consG, nilG, nameG, List.map_cons, List.map_nil, List.cons_append, List.nil_append, List.length_cons, List.length_nil, List.replicate, List.set_cons_zero, List.set_cons_succ, List.getElem?_cons_zero, List.getElem?_cons_succ, Nat.reduceAdd, Nat.reduceSub, Option.bind_some, Option.map_some, Option.some.injEq, if_true, exists_eq_left', exists_eq_left, and_assoc, exists_and_left,
  args_take, List.take_succ_cons, List.take_zero, allS_cons, allS_nil, and_true, true_and])
local macro_rules | `(tactic| walk_at "bv0") => `(tactic| try simp only [ws_seq, sq_nx, sq_rt, sq_bk, sq_ct, ws_next, ws_brk, ws_cnt, ws_retN, ws_ret, ws_drop, ws_set, ws_asg, ws_if, ws_for, ws_append, ws_par2, ws_par3, ws_put, ws_seti, ws_aug,
  wp_rtn, wp_bnd, wp_lif, wp_getE, wp_b1, wp_b2, wp_b2o, wp_consA, wp_tupE, wp_lstE, wp_bt, wp_andM, wp_orM, wp_notM, wp_andV, wp_orV, wp_notV, wp_slM, wp_chE, wp_callM, wp_callS, wp_itM, wp_itA, wp_keysM, wp_lcM,
  o_add, o_sub, o_mul, o_lt, o_le, o_gt, o_ge, o_maxM, o_minM, wipe0, wipe1, sz0, sz1, sz2, sz3, sz4, sz5, sz6, le1k, dec_if, o_neLN, o_neL1, wp_dsp1, List.length_map, Int.toNat_natCast, D.lst.injEq, D.dct.injEq, o_neg, o_abs, o_fdiv, o_fdivN, o_mod, o_modN, o_pow, o_int, o_isB, o_isI, o_truI, o_truL, o_truT, o_truB, o_truN, o_lenL, o_lenT, o_ixL, o_ixT, o_ixK, o_seqL, o_seqT, o_tupL, o_tupT, o_listL, o_listT, o_rev, o_slL, o_slT, o_sumL, o_sumT,
  o_maxL, o_minL, o_sorted, o_allL, o_anyL, o_vals, o_keyI, o_keyS, o_isN, o_eqI, o_neI, o_inK, o_ninK, o_zipLL, o_zipTT, o_zipLT, o_zipTL, o_enuL, o_enuT, o_rng1, o_rng2, o_addT, o_addL, o_mulT, atI0, atI1, atI2, atI3, if_some, true_if, false_if,
  tupG, consG, nilG, nameG, List.map_cons, List.map_nil, List.cons_append, List.nil_append, List.length_cons, List.length_nil, List.replicate, List.set_cons_zero, List.set_cons_succ, List.getElem?_cons_zero, List.getElem?_cons_succ, Nat.reduceAdd, Nat.reduceSub, Option.bind_some, Option.map_some, Option.some.injEq, if_true, exists_eq_left', exists_eq_left, and_assoc, exists_and_left,
  args_take, List.take_succ_cons, List.take_zero, allS_cons, allS_nil, and_true, true_and])
theorem pick_ok (s : Sr) (m : Int) (h : m < 1073741824) : F_pick [.src s, .int m] = some (.int (pickR s m), [.src (pickS s m), .int m]) := if_pos h
theorem of_ok (s : Sr) (ds : List D) (h : ds ≠ []) (hl : ds.length < 1073741824) : ∃ d s', F_law_of [.src s, .lst ds] = some (d, [.src s', .lst ds]) ∧ d ∈ ds := by
  have hp : 0 < ds.length := List.length_pos_iff.mpr h
  have pr := pickR_lt (s := s) (many := (ds.length : Int)) (by omega)
  have hj : (pickR s ds.length).toNat < ds.length := by omega
  obtain ⟨d, as, e, rfl, rfl⟩ : ∃ d as, F_law_of [.src s, .lst ds] = some (d, as) ∧ d = ds[(pickR s ds.length).toNat] ∧ as = [.src (pickS s ds.length), .lst ds] := by
    unfold F_law_of
    refine fn_res rfl ?_
    unfold f_law_of
    walk_at "bv"
    refine ⟨_, _, _, pick_ok s _ (by omega), ?_⟩
    walk_at "bv"
    rw [atI_get (d := ds[(pickR s ds.length).toNat]) pr.1 (List.getElem?_eq_getElem hj)]
    refine ⟨_, rfl, _, rfl, rfl, rfl⟩
  exact ⟨_, _, e, List.getElem_mem _⟩
/-- a comprehension that draws from what the first name holds -/
theorem lc_draw {α : Type} {ρ : Env} {gg : D → Env → Option Env} {ft : M Bool} {fe : M D} {vs : List Nat} (inj : α → D) (P : D → Prop) {l : List α} (hl : l.length ≤ sizeLine)
    (h : ∀ s a, a ∈ l → ∃ ρ2, gg (inj a) (wipeE (some (.src s) :: ρ) vs) = some ρ2 ∧ Wp ft ρ2 (fun b ρ3 => b = true ∧ ρ3 = ρ2) ∧ Wp fe ρ2 fun y ρ4 => ∃ s', restE (some (.src s) :: ρ) vs ρ4 = some (.src s') :: ρ ∧ P y) :
    ∀ s, ∃ out s', lcE gg ft fe vs (l.map inj) (some (.src s) :: ρ) [] = some (out, some (.src s') :: ρ) ∧ out.length = l.length ∧ ∀ y ∈ out, P y := by
  have key : ∀ (m : List α) (acc : List D) (s : Sr), (∀ a ∈ m, a ∈ l) → acc.length + m.length ≤ sizeLine → (∀ y ∈ acc, P y) →
      ∃ out s', lcE gg ft fe vs (m.map inj) (some (.src s) :: ρ) acc = some (out, some (.src s') :: ρ) ∧ out.length = acc.length + m.length ∧ ∀ y ∈ out, P y := by
    intro m
    induction m with
    | nil => intro acc s _ _ hp; exact ⟨acc, s, by rw [List.map_nil]; unfold lcE; rfl, rfl, hp⟩
    | cons a m ih =>
      intro acc s hm hz hp
      obtain ⟨ρ2, e1, ⟨b, ρ3, e2, rfl, rfl⟩, y, ρ4, e4, s', e5, py⟩ := h s a (hm a List.mem_cons_self)
      rw [List.length_cons] at hz
      obtain ⟨out, s'', e6, e7, e8⟩ := ih (acc ++ [y]) s' (fun x hx => hm x (List.mem_cons_of_mem _ hx)) (by simp; omega) (fun z hz => by
        rcases List.mem_append.mp hz with hz | hz
        · exact hp z hz
        · have : z = y := by simpa using hz
          subst this; exact py)
      refine ⟨out, s'', ?_, by rw [e7]; simp; omega, e8⟩
      rw [List.map_cons]
      unfold lcE
      rw [e1, Option.bind_some, e2, Option.bind_some]
      simp only [if_true]
      rw [e4, Option.bind_some, if_pos (by omega)]
      simp only [e5]
      exact e6
  intro s
  obtain ⟨out, s', e1, e2, e3⟩ := key l [] s (fun a ha => ha) (by simpa using hl) (fun y hy => nomatch hy)
  exact ⟨out, s', e1, by simpa using e2, e3⟩
theorem ints_of {P : Int → Prop} : ∀ {ds : List D}, (∀ y ∈ ds, ∃ z, y = .int z ∧ P z) → ∃ ns : List Int, ds = ns.map .int ∧ ∀ z ∈ ns, P z
  | [], _ => ⟨[], rfl, fun z hz => nomatch hz⟩
  | d :: ds, h => by
    obtain ⟨z, rfl, hz⟩ := h d List.mem_cons_self
    obtain ⟨ns, rfl, hn⟩ := ints_of (P := P) (ds := ds) fun y hy => h y (List.mem_cons_of_mem _ hy)
    refine ⟨z :: ns, rfl, fun y hy => ?_⟩
    rcases List.mem_cons.mp hy with rfl | hy
    · exact hz
    · exact hn y hy
theorem draw_slots_ok (s : Sr) (ticks : Nat) (most : Int) (ht : ticks ≤ 1000) (hm0 : 0 ≤ most) (hm1 : most ≤ 1000) : ∃ (ss : List Slt) (s' : Sr), F_law_draw_slots [.src s, .int ticks, .int most] = some (.tup (ss.map slD), [.src s', .int ticks, .int most]) ∧ ss.length = ticks ∧ ∀ s ∈ ss, s.Ok most 8 (3 + 8 * most) := by
  obtain ⟨d, as, e, ss, s', rfl, rfl, h1, h2⟩ : ∃ d as, F_law_draw_slots [.src s, .int ticks, .int most] = some (d, as) ∧ ∃ (ss : List Slt) (s' : Sr), d = .tup (ss.map slD) ∧ as = [.src s', .int ticks, .int most] ∧ ss.length = ticks ∧ ∀ s ∈ ss, s.Ok most 8 (3 + 8 * most) := by
    unfold F_law_draw_slots
    refine fn_res rfl ?_
    unfold f_law_draw_slots
    walk_at "bv"
    refine ⟨big_nat (by omega), ?_⟩
    refine for_inv (fun j ρ => ∃ (ss : List Slt) (s' : Sr) (c4 c5 c6 c7 c8 c9 c10 : Option D), ρ = [some (.src s'), some (.int ticks), some (.int most), some (.lst (ss.map slD)), c4, c5, c6, c7, c8, c9, c10] ∧ ss.length = j ∧ ∀ s ∈ ss, s.Ok most 8 (3 + 8 * most)) ⟨[], s, _, _, _, _, _, _, _, rfl, rfl, fun s hs => nomatch hs⟩ ?_ ?_
    · rintro j d ρ hd ⟨ss, s', c4, c5, c6, c7, c8, c9, c10, rfl, hj, hok⟩
      refine ⟨_, rfl, ?_⟩
      walk_at "bv0"
      refine Wp.mono (P := fun n ρ => ∃ (need : Int) (s2 : Sr), n = .int need ∧ 0 ≤ need ∧ need ≤ most ∧ ρ = [some (.src s2), some (.int ticks), some (.int most), some (.lst (ss.map slD)), some d, c5, c6, c7, c8, c9, c10]) ?_ ?_
      · walk_at "bv"
        refine ⟨_, _, _, pick_ok _ 3 (by decide), ?_⟩
        walk_at "bv"
        by_cases h3 : pickR s' 3 = 0
        · rw [if_pos h3]
          have pr := pickR_lt (s := pickS s' 3) (many := most + 1) (by omega)
          exact ⟨_, _, _, pick_ok _ _ (by omega), _, rfl, pr.1, by omega, _, rfl⟩
        · rw [if_neg h3]
          exact ⟨_, rfl, by omega, by omega, _, rfl⟩
      · rintro n ρ1 ⟨need, s2, rfl, n0, n1, rfl⟩
        have pr := pickR_lt (s := s2) (many := most - need + 1) (by omega)
        walk_at "bv"
        refine ⟨_, _, _, pick_ok _ _ (by omega), ?_⟩
        walk_at "bv"
        generalize hk : pickR s2 (most - need + 1) = k at pr
        obtain ⟨d7, s3, e7, m7⟩ := of_ok (pickS s2 (most - need + 1)) [.int 1, .int 3, .int 8] (by simp) (by decide)
        refine ⟨_, _, _, e7, ?_⟩
        obtain ⟨steep, rfl, st1, st8⟩ : ∃ z, d7 = .int z ∧ 1 ≤ z ∧ z ≤ 8 := by
          simp only [List.mem_cons, List.not_mem_nil, or_false] at m7
          rcases m7 with rfl | rfl | rfl <;> exact ⟨_, rfl, by decide, by decide⟩
        walk_at "bv"
        rw [show need + k - need = k by omega]
        refine ⟨by unfold big; rw [decide_eq_true (by omega), decide_eq_true (by omega)]; rfl, ?_⟩
        obtain ⟨m, rfl⟩ := Int.eq_ofNat_of_zero_le pr.1
        rw [Int.toNat_natCast, rng_map]
        have hm : m ≤ 1000 := by omega
        obtain ⟨out, s4, e8, l8, p8⟩ := lc_draw (gg := nameG 10) (ft := rtn true) (fe := b2 subO (callS F_pick 0 (consA (b2 addE (b2 mulE (rtn (D.int 2)) (getE 7)) (rtn (D.int 1))) (rtn []))) (getE 7)) (vs := [10])
          (ρ := [some (D.int ↑ticks), some (D.int most), some (D.lst (List.map slD ss)), some d, some (D.int need), some (D.int (need + ↑m)), some (D.int steep), c8, c9, c10])
          (fun i : Nat => D.int ((0 : Int) + (i : Nat))) (fun y => ∃ z, y = .int z ∧ (-steep ≤ z ∧ z ≤ steep)) (l := List.range m) (by rw [List.length_range]; exact kil hm) (fun s a _ => ⟨_, rfl, by walk_at "bv", by
            have pr := pickR_lt (s := s) (many := 2 * steep + 1) (by omega)
            walk_at "bv"
            refine ⟨by unfold cMul; rw [decide_eq_true (by omega), decide_eq_true (by omega)]; rfl, _, _, _, pick_ok _ _ (by omega), ?_⟩
            walk_at "bv"
            exact ⟨_, rfl, _, rfl, by omega, by omega⟩⟩) s3
        refine ⟨_, _, e8, ?_⟩
        obtain ⟨ns, rfl, hns⟩ := ints_of (P := fun z => -steep ≤ z ∧ z ≤ steep) p8
        rw [List.length_map, List.length_range] at l8
        have sp := sortI_perm ns
        have ss_ := sortI_sorted ns
        have sl : (sortI ns).length = m := by rw [sp.length_eq, l8]
        walk_at "bv"
        generalize hzs : sortI ns = zs at sp ss_ sl
        have z8 : ∀ z ∈ zs, -8 ≤ z ∧ z ≤ 8 := fun z hz => by
          have := hns z (sp.mem_iff.mp hz)
          omega
        rw [sl]
        refine ⟨big_nat (by omega), ?_⟩
        rw [rng_map]
        refine lc_all (fun i : Nat => D.int ((0 : Int) + (i : Nat))) (fun i => D.int ((zs.take (i + 1)).sum)) (by rw [List.length_range]; exact kil hm) (fun i hi => ⟨_, rfl, rfl, ?_, ?_⟩) ?_
        · walk_at "bv"
        · walk_at "bv"
          rw [cutD_to (by omega)]
          walk_at "bv"
          rw [show ((0 : Int) + (i : Int) + 1).toNat = i + 1 by omega]
        · rw [map_int]
          walk_at "bv"
          rw [List.length_range]
          refine ⟨Nat.le_trans (show 1 + m ≤ 2000 by omega) (by decide), ?_⟩
          rw [← List.map_cons (f := D.int), o_minL]
          obtain ⟨low, hlo, hl1, hl2⟩ : ∃ low, minI (0 :: sumsL zs zs.length) = some low ∧ low ∈ 0 :: sumsL zs zs.length ∧ ∀ y ∈ 0 :: sumsL zs zs.length, low ≤ y := ⟨_, rfl, foldl_min.1, foldl_min.2⟩
          have lo0 : low ≤ 0 := hl2 0 (List.mem_cons_self ..)
          have lo8 := low_ge (b := 8) (by decide) z8 hl1
          have los := low_le hl2
          have e9 : minI (0 :: (List.range m).map fun i => (zs.take (i + 1)).sum) = some low := by rw [← hlo, sl]; rfl
          rw [e9]
          walk_at "bv"
          have pr4 := pickR_lt (s := s4) (many := 4) (by decide)
          refine ⟨_, _, _, pick_ok _ 4 (by decide), ?_⟩
          walk_at "bv"
          refine ⟨Nat.lt_of_lt_of_le (show ss.length < 2000 by have := (List.getElem?_eq_some_iff.mp hd).1; rw [rangeL_len] at this; omega) (by decide), ss ++ [⟨need, need + m, pickR s4 4 - low, zs⟩], _, _, _, _, _, _, _, _, by rw [List.map_append]; rfl, by rw [List.length_append, hj]; rfl, ?_⟩
          intro s hsm
          rcases List.mem_append.mp hsm with hsm | hsm
          · exact hok s hsm
          · rw [List.mem_singleton.mp hsm]
            constructor
            · exact n0
            · show need ≤ need + m
              omega
            · show need + m ≤ most
              omega
            · show (zs.length : Int) = need + m - need
              omega
            · exact z8
            · exact ss_
            · intro k
              have := los k
              show 0 ≤ pickR s4 4 - low + (zs.take k).sum
              omega
            · show pickR s4 4 - low ≤ 3 + 8 * most
              omega
    · rintro ρ ⟨ss, s', c4, c5, c6, c7, c8, c9, c10, rfl, hj, hok⟩
      rw [rangeL_len] at hj
      walk_at "bv"
      exact ⟨_, rfl, ss, rfl, s', rfl, hj, hok⟩
  exact ⟨ss, s', e, h1, h2⟩
theorem far_mem {most : Int} {d : D} (hm0 : 0 ≤ most) (hm1 : most ≤ 1000) (h : d ∈ [D.int 0, .int 0, .int 0, .int 1000, .int (1000000 - most)]) : ∃ z, d = .int z ∧ 0 ≤ z ∧ z + most ≤ 1000000 := by
  simp only [List.mem_cons, List.not_mem_nil, or_false] at h
  rcases h with rfl | rfl | rfl | rfl | rfl <;> exact ⟨_, rfl, by omega, by omega⟩
theorem by_mem {d : D} (h : d ∈ [D.int 1, .int 1, .int 1, .int 100000, .int 10000000000]) : ∃ z, d = .int z ∧ 1 ≤ z ∧ z ≤ 10000000000 := by
  simp only [List.mem_cons, List.not_mem_nil, or_false] at h
  rcases h with rfl | rfl | rfl | rfl | rfl <;> exact ⟨_, rfl, by omega, by omega⟩
theorem p6 : (10 : Int) ^ (6 : Int).toNat = 1000000 := by decide
theorem p5 : (10 : Int) ^ (5 : Int).toNat = 100000 := by decide
theorem p8 : (10 : Int) ^ (8 : Int).toNat = 100000000 := by decide
theorem p10 : (10 : Int) ^ (10 : Int).toNat = 10000000000 := by decide
theorem c6 : cPow 10 6 = true := by decide
theorem c5 : cPow 10 5 = true := by decide
theorem c8 : cPow 10 8 = true := by decide
theorem c10 : cPow 10 10 = true := by decide
theorem great_slots_ok (s : Sr) (ticks : Nat) (most : Int) (ht : ticks ≤ 1000) (hm0 : 0 ≤ most) (hm1 : most ≤ 1000) : ∃ (ss : List Slt) (s' : Sr), F_law_great_slots [.src s, .int ticks, .int most] = some (.tup (ss.map slD), [.src s', .int ticks, .int most]) ∧ ss.length = ticks ∧
    ∀ s ∈ ss, s.Ok 1000000 80000000000 (10000000000 * (3 + 8 * most)) ∧ s.most - s.need ≤ most := by
  obtain ⟨d, as, e, ss, s', rfl, rfl, h1, h2⟩ : ∃ d as, F_law_great_slots [.src s, .int ticks, .int most] = some (d, as) ∧ ∃ (ss : List Slt) (s' : Sr), d = .tup (ss.map slD) ∧ as = [.src s', .int ticks, .int most] ∧ ss.length = ticks ∧
      ∀ s ∈ ss, s.Ok 1000000 80000000000 (10000000000 * (3 + 8 * most)) ∧ s.most - s.need ≤ most := by
    obtain ⟨ss, s1, e1, l1, o1⟩ := draw_slots_ok s ticks most ht hm0 hm1
    obtain ⟨d2, s2, e2, m2⟩ := of_ok s1 [.int 0, .int 0, .int 0, .int 1000, .int (1000000 - most)] (by simp) (show 5 < 1073741824 by decide)
    obtain ⟨far, rfl, f0, f1⟩ := far_mem hm0 hm1 m2
    obtain ⟨d3, s3, e3, m3⟩ := of_ok s2 [.int 1, .int 1, .int 1, .int 100000, .int 10000000000] (by simp) (by decide)
    obtain ⟨by1, rfl, b0, b1⟩ := by_mem m3
    unfold F_law_great_slots
    refine fn_res rfl ?_
    unfold f_law_great_slots
    walk_at "bv"
    refine ⟨_, _, _, e1, ?_⟩
    walk_at "bv"
    rw [p6]
    refine ⟨c6, _, _, _, e2, ?_⟩
    walk_at "bv"
    rw [p5, p10]
    refine ⟨c5, c10, _, _, _, e3, ?_⟩
    walk_at "bv"
    have cm : ∀ z : Int, cMul z by1 = true := fun z => by
      unfold cMul
      rw [decide_eq_true (show -(2 ^ 64) < by1 by omega), decide_eq_true (show by1 < 2 ^ 64 by omega), Bool.and_self, Bool.or_true]
    refine for_inv (fun j ρ => ∃ (c7 c8 c9 c10 c11 : Option D), ρ = [some (.src s3), some (.int ticks), some (.int most), some (.tup (ss.map slD)), some (.int far), some (.int by1), some (.lst ((ss.take j).map fun s => slD ⟨s.need + far, s.most + far, s.first * by1, s.slopes.map (· * by1)⟩)), c7, c8, c9, c10, c11]) ⟨_, _, _, _, _, rfl⟩ ?_ ?_
    · rintro j d ρ hd ⟨c7, c8, c9, c10, c11, rfl⟩
      obtain ⟨x, hj, rfl⟩ := map_at hd
      have ox := o1 x (List.mem_of_getElem? hj)
      have xl := ox.len
      have hlt := (List.getElem?_eq_some_iff.mp hj).1
      refine ⟨_, rfl, ?_⟩
      walk_at "bv"
      refine ⟨cm _, ?_⟩
      refine lc_all D.int (fun z => D.int (z * by1)) (by have := ox.mid; have := ox.hi; have := ox.lo; exact kil (by omega)) (fun z hz => ⟨_, rfl, rfl, ?_, ?_⟩) ?_
      · walk_at "bv"
      · walk_at "bv"
        exact cm _
      · rw [map_int (f := fun z => z * by1)]
        walk_at "bv"
        rw [take_snoc1 hj, List.map_append, List.length_take]
        exact ⟨Nat.lt_of_lt_of_le (show min j ss.length < 2000 by omega) (by decide), _, _, _, _, _, rfl⟩
    · rintro ρ ⟨c7, c8, c9, c10, c11, rfl⟩
      rw [List.length_map, List.take_length]
      walk_at "bv"
      refine ⟨_, rfl, ss.map fun s => ⟨s.need + far, s.most + far, s.first * by1, s.slopes.map (· * by1)⟩, by rw [List.map_map]; rfl, _, rfl, by rw [List.length_map]; exact l1, ?_⟩
      intro t ht
      obtain ⟨x, hx, rfl⟩ := List.mem_map.mp ht
      have ox := o1 x hx
      refine ⟨ox.great f0 f1 b0 b1 (by omega), ?_⟩
      show x.most + far - (x.need + far) ≤ most
      have := ox.hi
      have := ox.lo
      omega
  exact ⟨ss, s', e, h1, h2⟩
end BV
set_option Elab.async false
set_option linter.all false
set_option maxRecDepth 100000
namespace BV
open PySem PySem.Spec PyProof.Rows L2 WK
local macro_rules | `(tactic| walk_at "bv") => `(tactic| try simp only [ws_seq, sq_nx, sq_rt, sq_bk, sq_ct, ws_next, ws_brk, ws_cnt, ws_retN, ws_ret, ws_drop, ws_set, ws_asg, ws_if, ws_for, ws_append, ws_par2, ws_par3, ws_put, ws_seti, ws_aug,
  wp_rtn, wp_bnd, wp_lif, wp_getE, wp_b1, wp_b2, wp_b2o, wp_consA, wp_tupE, wp_lstE, wp_bt, wp_iteM, wp_andM, wp_orM, wp_notM, wp_andV, wp_orV, wp_notV, wp_slM, wp_chE, wp_callM, wp_callS, wp_itM, wp_itA, wp_keysM, wp_lcM,
  o_add, o_sub, o_mul, o_lt, o_le, o_gt, o_ge, o_maxM, o_minM, wipe0, wipe1, sz0, sz1, sz2, sz3, sz4, sz5, sz6, le1k, dec_if, o_neLN, o_neL1, o_neS, o_eqS, wp_dsp1, List.length_map, Int.toNat_natCast, D.lst.injEq, D.dct.injEq, o_neg, o_abs, o_fdiv, o_fdivN, o_mod, o_modN, o_pow, o_int, o_isB, o_isI, o_truI, o_truL, o_truT, o_truB, o_truN, o_lenL, o_lenT, o_ixL, o_ixT, o_ixK, o_seqL, o_seqT, o_tupL, o_tupT, o_listL, o_listT, o_rev, o_slL, o_slT, o_sumL, o_sumT,
  o_maxL, o_minL, o_sorted, o_allL, o_anyL, o_vals, o_keyI, o_keyS, o_isN, o_eqI, o_neI, o_inK, o_ninK, o_zipLL, o_zipTT, o_zipLT, o_zipTL, o_enuL, o_enuT, o_rng1, o_rng2, o_addT, o_addL, o_mulT, atI0, atI1, atI2, atI3, if_some, true_if, false_if,
  tupG, consG, nilG, nameG, List.map_cons, List.map_nil, List.cons_append, List.nil_append, List.length_cons, List.length_nil, List.replicate, List.set_cons_zero, List.set_cons_succ, List.getElem?_cons_zero, List.getElem?_cons_succ, Nat.reduceAdd, Nat.reduceSub, Option.bind_some, Option.map_some, Option.some.injEq, if_true, exists_eq_left', exists_eq_left, and_assoc, exists_and_left,
  args_take, List.take_succ_cons, List.take_zero, allS_cons, allS_nil, and_true, true_and])
local macro_rules | `(tactic| walk_at "bv0") => `(tactic| try simp only [ws_seq, sq_nx, sq_rt, sq_bk, sq_ct, ws_next, ws_brk, ws_cnt, ws_retN, ws_ret, ws_drop, ws_set, ws_asg, ws_if, ws_for, ws_append, ws_par2, ws_par3, ws_put, ws_seti, ws_aug,
  wp_rtn, wp_bnd, wp_lif, wp_getE, wp_b1, wp_b2, wp_b2o, wp_consA, wp_tupE, wp_lstE, wp_bt, wp_andM, wp_orM, wp_notM, wp_andV, wp_orV, wp_notV, wp_slM, wp_chE, wp_callM, wp_callS, wp_itM, wp_itA, wp_keysM, wp_lcM,
  o_add, o_sub, o_mul, o_lt, o_le, o_gt, o_ge, o_maxM, o_minM, wipe0, wipe1, sz0, sz1, sz2, sz3, sz4, sz5, sz6, le1k, dec_if, o_neLN, o_neL1, o_neS, o_eqS, wp_dsp1, List.length_map, Int.toNat_natCast, D.lst.injEq, D.dct.injEq, o_neg, o_abs, o_fdiv, o_fdivN, o_mod, o_modN, o_pow, o_int, o_isB, o_isI, o_truI, o_truL, o_truT, o_truB, o_truN, o_lenL, o_lenT, o_ixL, o_ixT, o_ixK, o_seqL, o_seqT, o_tupL, o_tupT, o_listL, o_listT, o_rev, o_slL, o_slT, o_sumL, o_sumT,
  o_maxL, o_minL, o_sorted, o_allL, o_anyL, o_vals, o_keyI, o_keyS, o_isN, o_eqI, o_neI, o_inK, o_ninK, o_zipLL, o_zipTT, o_zipLT, o_zipTL, o_enuL, o_enuT, o_rng1, o_rng2, o_addT, o_addL, o_mulT, atI0, atI1, atI2, atI3, if_some, true_if, false_if,
  tupG, consG, nilG, nameG, List.map_cons, List.map_nil, List.cons_append, List.nil_append, List.length_cons, List.length_nil, List.replicate, List.set_cons_zero, List.set_cons_succ, List.getElem?_cons_zero, List.getElem?_cons_succ, Nat.reduceAdd, Nat.reduceSub, Option.bind_some, Option.map_some, Option.some.injEq, if_true, exists_eq_left', exists_eq_left, and_assoc, exists_and_left,
  args_take, List.take_succ_cons, List.take_zero, allS_cons, allS_nil, and_true, true_and])
/-! ### the row from the lows costs the least -/
def clampW (w : Slt) (b x : Int) : Int := mn (mx x (lowW w)) (highW w b)
def downR (b : Int) : Int → List Slt → List Int
  | _, [] => []
  | x, w :: ws => clampW w b x :: downR b (clampW w b x) ws
theorem clamp_in {w : Slt} {b x : Int} (hb : 0 ≤ b) (h : w.Wk) : w.need ≤ clampW w b x ∧ clampW w b x ≤ w.most := by
  have l1 := lowW_in h
  have l2 := highW_in (b := b) h
  have l3 := low_high hb h
  unfold clampW
  rw [mn_eq, mx_eq]
  omega
theorem clamp_held {w : Slt} {b x : Int} (hb : 0 ≤ b) (h : w.Wk) : heldWorth w b x = costAt w (clampW w b x) + b * up (x - clampW w b x) := by
  have l3 := low_high hb h
  have e : clampW w b x = min (max x (lowW w)) (highW w b) := by unfold clampW; rw [mn_eq, mx_eq]
  by_cases h1 : x ≤ lowW w
  · have e1 : clampW w b x = lowW w := by rw [e]; omega
    have e2 : up (x - lowW w) = 0 := by rw [up_eq]; omega
    rw [held_low h hb h1, e1, e2, Int.mul_zero, Int.add_zero]
    rfl
  · by_cases h2 : x ≤ highW w b
    · have e1 : clampW w b x = x := by rw [e]; omega
      have e2 : up (x - x) = 0 := by rw [up_eq]; omega
      have m := held_mid h hb (x - lowW w).toNat (by omega)
      rw [show lowW w + (((x - lowW w).toNat : Nat) : Int) = x by omega] at m
      rw [m, e1, e2, Int.mul_zero, Int.add_zero]
    · have e1 : clampW w b x = highW w b := by rw [e]; omega
      have e2 : up (x - highW w b) = (((x - highW w b).toNat : Nat) : Int) := by rw [up_eq]; omega
      have m := held_mid h hb (highW w b - lowW w).toNat (by omega)
      rw [show lowW w + (((highW w b - lowW w).toNat : Nat) : Int) = highW w b by omega] at m
      have g := held_high h hb (x - highW w b).toNat
      rw [show highW w b + (((x - highW w b).toNat : Nat) : Int) = x by omega] at g
      rw [g, m, e1, e2]
theorem down_ok {b : Int} (hb : 0 ≤ b) (ss : List Slt) : (∀ s ∈ ss, s.Wk) → ∀ x, (downR b x (worksW w0 b ss).reverse).reverse.length = ss.length ∧ servesL ss (downR b x (worksW w0 b ss).reverse).reverse = true ∧
    runL ss (downR b x (worksW w0 b ss).reverse).reverse + b * startsL (downR b x (worksW w0 b ss).reverse).reverse + b * up (x - lastX (downR b x (worksW w0 b ss).reverse).reverse) = heldWorth (lastW w0 b ss) b x := by
  refine snoc_ind (P := fun ss => (∀ s ∈ ss, s.Wk) → ∀ x, (downR b x (worksW w0 b ss).reverse).reverse.length = ss.length ∧ servesL ss (downR b x (worksW w0 b ss).reverse).reverse = true ∧
    runL ss (downR b x (worksW w0 b ss).reverse).reverse + b * startsL (downR b x (worksW w0 b ss).reverse).reverse + b * up (x - lastX (downR b x (worksW w0 b ss).reverse).reverse) = heldWorth (lastW w0 b ss) b x) (fun _ x => ?_) (fun ss s ih hw x => ?_) ss
  · refine ⟨rfl, rfl, ?_⟩
    show (0 : Int) + b * 0 + b * up (x - 0) = heldWorth w0 b x
    unfold heldWorth
    rw [show leastW w0 = 0 from rfl, mx_eq, mx_eq, up_eq]
    simp [w0, clampL]
  · have hs := hw s (by simp)
    have hws : ∀ x ∈ ss, x.Wk := fun x hx => hw x (List.mem_append_left _ hx)
    have W := lastW_wk hb ss hws
    obtain ⟨aw, n1, n2⟩ := after_wk hb W hs
    rw [worksW_snoc, List.reverse_append, lastW_snoc]
    show (clampW (afterW (lastW w0 b ss) s b) b x :: downR b (clampW (afterW (lastW w0 b ss) s b) b x) (worksW w0 b ss).reverse).reverse.length = _ ∧ servesL _ (clampW (afterW (lastW w0 b ss) s b) b x :: downR b (clampW (afterW (lastW w0 b ss) s b) b x) (worksW w0 b ss).reverse).reverse = true ∧
      runL _ (clampW (afterW (lastW w0 b ss) s b) b x :: downR b (clampW (afterW (lastW w0 b ss) s b) b x) (worksW w0 b ss).reverse).reverse + b * startsL (clampW (afterW (lastW w0 b ss) s b) b x :: downR b (clampW (afterW (lastW w0 b ss) s b) b x) (worksW w0 b ss).reverse).reverse +
        b * up (x - lastX (clampW (afterW (lastW w0 b ss) s b) b x :: downR b (clampW (afterW (lastW w0 b ss) s b) b x) (worksW w0 b ss).reverse).reverse) = _
    have ci := clamp_in (x := x) hb aw
    have ch := clamp_held (x := x) hb aw
    generalize hy : clampW (afterW (lastW w0 b ss) s b) b x = y at ci ch
    obtain ⟨i1, i2, i3⟩ := ih hws y
    generalize hr : (downR b y (worksW w0 b ss).reverse).reverse = row at i1 i2 i3
    rw [List.reverse_cons, hr]
    rw [n1, n2] at ci
    refine ⟨by simp [i1], ?_, ?_⟩
    · rw [servesL_snoc i1, i2, Bool.true_and]
      exact fit_iff.mpr ci
    · have c := after_cost (b := b) W.len hs.len (y - s.need).toNat (by omega)
      rw [show s.need + ((y - s.need).toNat : Int) = y by omega] at c
      rw [runL_snoc i1, startsL_snoc, lastX_snoc, ch, c, ← i3, Int.mul_add]
      omega
theorem fold_down {b : Int} : ∀ (ws : List Slt) (acc : List Int) (x : Int), acc.getLast? = some x → ws.foldl (rowStep b) acc = acc ++ downR b x ws
  | [], acc, x, _ => by simp [downR]
  | w :: ws, acc, x, h => by
    have e : rowStep b acc w = acc ++ [clampW w b x] := by unfold rowStep clampW; rw [h]; rfl
    rw [List.foldl_cons, e, fold_down ws _ (clampW w b x) (by simp)]
    simp [downR]
theorem due_down {b : Int} {w : Slt} {ws : List Slt} : dueR b (w :: ws) = downR b (lowW w) (w :: ws) := by
  have e : rowStep b [] w = [clampW w b (lowW w)] := rfl
  unfold dueR
  rw [List.foldl_cons, e, fold_down ws _ (clampW w b (lowW w)) rfl]
  rfl
def dueRow (b : Int) (ss : List Slt) : List Int := (dueR b (worksW w0 b ss).reverse).reverse
theorem due_ok {b : Int} (hb : 0 ≤ b) {ss : List Slt} (hw : ∀ s ∈ ss, s.Wk) : (dueRow b ss).length = ss.length ∧ servesL ss (dueRow b ss) = true ∧ runL ss (dueRow b ss) + b * startsL (dueRow b ss) = leastW (lastW w0 b ss) := by
  rcases List.eq_nil_or_concat ss with rfl | ⟨st, s, rfl⟩
  · refine ⟨rfl, rfl, ?_⟩
    show (0 : Int) + b * 0 = leastW w0
    rw [show leastW w0 = 0 from rfl]
    simp
  · rw [List.concat_eq_append] at hw ⊢
    have W := lastW_wk hb _ hw
    obtain ⟨d1, d2, d3⟩ := down_ok hb (st ++ [s]) hw (lowW (lastW w0 b (st ++ [s])))
    have e : dueRow b (st ++ [s]) = (downR b (lowW (lastW w0 b (st ++ [s]))) (worksW w0 b (st ++ [s])).reverse).reverse := by
      unfold dueRow
      rw [worksW_snoc, List.reverse_append, lastW_snoc]
      show (dueR b (_ :: _)).reverse = (downR b _ (_ :: _)).reverse
      rw [due_down]
    rw [← e] at d1 d2 d3
    refine ⟨d1, d2, ?_⟩
    rw [held_low W hb (Int.le_refl _)] at d3
    have ll := low_high hb W
    have lx : lastX (dueRow b (st ++ [s])) = lowW (lastW w0 b (st ++ [s])) := by
      rw [e, worksW_snoc, List.reverse_append, lastW_snoc]
      show lastX ((clampW _ b _ :: downR b _ _).reverse) = _
      rw [List.reverse_cons, lastX_snoc]
      rw [lastW_snoc] at ll
      unfold clampW
      rw [mn_eq, mx_eq]
      omega
    rw [lx, show up (lowW (lastW w0 b (st ++ [s])) - lowW (lastW w0 b (st ++ [s]))) = 0 by rw [up_eq]; omega, Int.mul_zero, Int.add_zero] at d3
    exact d3
theorem due_nums {b M : Int} (hb : 0 ≤ b) {ss : List Slt} (hw : ∀ s ∈ ss, s.Wk) (hM : ∀ s ∈ ss, s.most ≤ M) : ∀ x ∈ dueRow b ss, 0 ≤ x ∧ x ≤ M := by
  obtain ⟨d1, d2, _⟩ := due_ok hb hw
  intro x hx
  obtain ⟨i, hi, rfl⟩ := List.mem_iff_getElem.mp hx
  have f := fit_iff.mp (serves_at d2 hi)
  have hg : ss.getD i s0 ∈ ss := by
    rw [List.getD_eq_getElem?_getD, List.getElem?_eq_getElem (by omega)]
    exact List.getElem_mem _
  have := (hw _ hg).lo
  have := hM _ hg
  rw [show (dueRow b ss).getD i 0 = (dueRow b ss)[i] by rw [List.getD_eq_getElem?_getD, List.getElem?_eq_getElem hi]; rfl] at f
  omega
theorem reprE_str {d e : D} (h : reprE d = some e) : ∃ x, e = .str x := by
  unfold reprE at h
  split at h
  · unfold reprI at h
    rw [if_some] at h
    exact ⟨_, h.2.symm⟩
  · have hp : ∀ d, reprP d = some e → ∃ x, e = .str x := fun d h => by
      obtain ⟨p, _, h⟩ := Option.bind_eq_some_iff.mp (show (toPy d).bind _ = some e from h)
      rw [if_some] at h
      exact ⟨_, h.2.symm⟩
    unfold reprD at h
    split at h
    · exact hp _ h
    · exact hp _ h
    · exact nomatch h
/-! ### the law -/
theorem source_ok {ns : List Int} (h : ns.length ≤ 63) : vof (F_source [.scr ns]) = some (.src (srcOf ns)) := by
  show vof (if ns.length ≤ 63 then _ else none) = _
  rw [if_pos h]
  rfl
theorem law_sizes {j : Nat} {d : D} (h : (rangeL 0 (Int.toNat 6))[j]? = some d) : ∃ t m : Int, d = .int ((0 : Int) + (j : Nat)) ∧ L2.atI [D.int 3, .int 6, .int 10, .int 16, .int 24, .int 60] ((0 : Int) + (j : Nat)) = some (.int t) ∧ L2.atI [D.int 3, .int 6, .int 9, .int 12, .int 6, .int 3] ((0 : Int) + (j : Nat)) = some (.int m) ∧ 1 ≤ t ∧ t ≤ 60 ∧ 3 ≤ m ∧ m ≤ 12 := by
  have hj : j < 6 := by have := (List.getElem?_eq_some_iff.mp h).1; rwa [rangeL_len] at this
  have e : d = .int ((0 : Int) + (j : Nat)) := by rw [show Int.toNat 6 = 6 from rfl, rangeL_at hj] at h; exact (Option.some.inj h).symm
  rcases (by omega : j = 0 ∨ j = 1 ∨ j = 2 ∨ j = 3 ∨ j = 4 ∨ j = 5) with rfl | rfl | rfl | rfl | rfl | rfl <;> exact ⟨_, _, e, rfl, rfl, by decide, by decide, by decide, by decide⟩
theorem exLen : ∀ s ∈ [(⟨1, 2, 1, [1]⟩ : Slt), ⟨0, 2, 0, [1, 1]⟩, ⟨0, 2, 0, [1, 1]⟩, ⟨1, 2, 1, [1]⟩], s.Len := by
  intro s hs
  simp only [List.mem_cons, List.not_mem_nil, or_false] at hs
  rcases hs with rfl | rfl | rfl | rfl <;> exact ⟨rfl, by decide, by decide⟩
theorem law_true (ns : List Int) (hn : ns.length ≤ 63) : ∃ as, F_law_K31 [.scr ns] = some (.bl true, as) := by
  obtain ⟨d, as, e, rfl⟩ : ∃ d as, F_law_K31 [.scr ns] = some (d, as) ∧ d = .bl true := by
    unfold F_law_K31
    refine fn_res rfl ?_
    unfold f_law_K31
    walk_at "bv0"
    refine ⟨.src (srcOf ns), source_ok hn, by decide, ?_⟩
    refine for_inv (fun j ρ => ∃ (s : Sr) (c2 c3 c4 c5 c6 c7 c8 c9 c10 : Option D), ρ = [some (.scr ns), some (.src s), c2, c3, c4, c5, c6, c7, c8, c9, c10]) ⟨_, _, _, _, _, _, _, _, _, _, rfl⟩ ?_ ?_
    · rintro j d ρ hd ⟨s, c2, c3, c4, c5, c6, c7, c8, c9, c10, rfl⟩
      obtain ⟨t, m, rfl, e1, e2, t1, t2, m1, m2⟩ := law_sizes hd
      have pr := pickR_lt (s := s) (many := t) t1
      refine ⟨_, rfl, ?_⟩
      walk_at "bv0"
      rw [e1]
      walk_at "bv0"
      refine ⟨_, _, _, pick_ok _ _ (by omega), ?_⟩
      walk_at "bv0"
      rw [e2]
      walk_at "bv0"
      generalize hk : pickR s t = k at pr
      obtain ⟨n, rfl⟩ := Int.eq_ofNat_of_zero_le pr.1
      obtain ⟨ss, s2, eg, lg, og⟩ := great_slots_ok (pickS s t) n m (by omega) (by omega) (by omega)
      refine ⟨_, _, _, eg, ?_⟩
      walk_at "bv0"
      have pr2 := pickR_lt (s := s2) (many := 10) (by decide)
      refine ⟨_, _, _, pick_ok _ 10 (by decide), ?_⟩
      walk_at "bv0"
      rw [p5, p8]
      obtain ⟨d3, s3, e3, m3⟩ := of_ok (pickS s2 10) [.int 1, .int 1, .int 100000, .int 100000000] (by simp) (by decide)
      obtain ⟨c, rfl, c1, c2'⟩ : ∃ z, d3 = .int z ∧ 1 ≤ z ∧ z ≤ 100000000 := by
        simp only [List.mem_cons, List.not_mem_nil, or_false] at m3
        rcases m3 with rfl | rfl | rfl | rfl <;> exact ⟨_, rfl, by omega, by omega⟩
      refine ⟨BV.c5, BV.c8, _, _, _, e3, ?_⟩
      generalize pickR s2 10 = q at pr2
      have bq : 0 ≤ q * c ∧ q * c ≤ 900000000 := ⟨Int.mul_nonneg pr2.1 (by omega), Int.le_trans (Int.mul_le_mul (show q ≤ 9 by omega) c2' (by omega) (by omega)) (by decide)⟩
      generalize hb : 1 + q * c = b
      have hb0 : 1 ≤ b := by omega
      have hb1 : b ≤ 900000001 := by omega
      walk_at "bv0"
      rw [hb]
      refine ⟨bnd_mul ⟨by omega, by omega⟩, ?_⟩
      have hw : ∀ x ∈ ss, x.Wk := fun x hx => ok_wk (og x hx).1 (by have := (og x hx).2; omega)
      have hL : ∀ x ∈ ss, x.Len := fun x hx => (hw x hx).len
      have hl : ss.length ≤ 1000 := by omega
      have B2 : -(2 ^ 64) < b ∧ b < 2 ^ 64 := ⟨by omega, by omega⟩
      have B3 : 0 ≤ b ∧ b < 2 ^ 64 := ⟨by omega, by omega⟩
      have hWs : ∀ x ∈ worksW w0 b ss, x.Wk := fun x hx => by
        obtain ⟨i, hi, hg⟩ := List.mem_iff_getElem.mp hx
        obtain ⟨s, es, rfl⟩ := works_at (i := i) (by rw [List.getElem?_eq_getElem hi, hg])
        exact (after_wk B3.1 (lastW_wk B3.1 _ fun s hs => hw s (List.mem_of_mem_take hs)) (hw s (List.mem_of_getElem? es))).1
      refine ⟨_, slot_costs_ok ss (fun x hx => by have := (hL x hx).len; have := (hL x hx).wide; omega) hl, ?_⟩
      walk_at "bv0"
      refine ⟨_, going_ok ss b hw hl B3, ?_⟩
      walk_at "bv0"
      rw [← List.map_reverse]
      refine for_inv (fun i ρ => ∃ (c8 c9 c10 : Option D), ρ = [some (.scr ns), some (.src s3), some (.int ((0 : Int) + (j : Nat))), some (.tup (ss.map slD)), some (.int b), some (.lst (ss.map cdD)), some (.lst ((worksW w0 b ss).map cdD)), some (.lst ((dueR b ((worksW w0 b ss).reverse.take i)).map .int)), c8, c9, c10]) ⟨_, _, _, rfl⟩ ?_ ?_
      · rintro i d ρ hd ⟨c8, c9, c10, rfl⟩
        obtain ⟨w, hi, rfl⟩ := map_at hd
        have ww := hWs w (List.mem_reverse.mp (List.mem_of_getElem? hi))
        have lo := low_ok w ww
        have hi_ := high_ok w b ww
        have hlen : (dueR b ((worksW w0 b ss).reverse.take i)).length < sizeLine := by
          rw [dueR_len, List.length_take, List.length_reverse, worksW_len]
          exact Nat.lt_of_lt_of_le (show min i ss.length < 1001 by omega) (by decide)
        refine ⟨_, rfl, ?_⟩
        walk_at "bv"
        rw [List.isEmpty_map]
        cases hx : (dueR b ((worksW w0 b ss).reverse.take i)).getLast? with
        | none =>
          have hn := List.getLast?_eq_none_iff.mp hx
          rw [take_snoc1 hi, dueR_snoc, hn]
          rw [if_neg (by decide)]
          refine ⟨_, lo, ?_⟩
          walk_at "bv"
          refine ⟨_, lo, ?_⟩
          walk_at "bv"
          refine ⟨_, hi_, ?_⟩
          walk_at "bv"
          refine ⟨by decide, _, _, _, rfl⟩
        | some x =>
          rw [if_pos (by cases e : dueR b ((worksW w0 b ss).reverse.take i) with
            | nil => rw [e] at hx; exact nomatch hx
            | cons a as => rfl)]
          refine ⟨_, atI_last hx, ?_⟩
          walk_at "bv"
          refine ⟨_, lo, ?_⟩
          walk_at "bv"
          refine ⟨_, hi_, ?_⟩
          walk_at "bv"
          rw [take_snoc1 hi, dueR_snoc]
          unfold rowStep
          rw [hx, List.map_append]
          refine ⟨hlen, _, _, _, rfl⟩
      · rintro ρ ⟨c8, c9, c10, rfl⟩
        rw [List.length_map, List.take_length]
        have br := best_row_ok ss b hL hl B2
        obtain ⟨d1, d2, d3⟩ := due_ok B3.1 hw
        have dn := due_nums (M := 1000000) B3.1 hw fun x hx => (og x hx).1.hi
        unfold dueRow at d1 d2 d3 dn
        have pk := price_ok ss _ b hL d1 d2 (by omega) B3
        have lc := least_cost_ok ss b hw hl B3
        rw [d3] at pk
        obtain ⟨x, rx⟩ := repr_ints (ns := (dueR b (worksW w0 b ss).reverse).reverse) (fun z hz => by have := dn z hz; exact Nat.lt_of_le_of_lt (show z.natAbs ≤ 10 ^ 40 by omega) (by decide)) (by omega)
        walk_at "bv0"
        rw [← List.map_reverse]
        refine ⟨_, br, ?_⟩
        walk_at "bv0"
        refine ⟨_, rx, ?_⟩
        walk_at "bv0"
        refine ⟨_, rx, ?_⟩
        walk_at "bv0"
        have dt {p : Prop} [Decidable p] (h : p) : ¬ (!decide p) = true := by rw [decide_eq_true h]; decide
        rw [if_neg (dt trivial)]
        refine ⟨_, pk, _, lc, _, o_neL1, _, rfl, ?_⟩
        rw [if_neg (dt rfl)]
        refine ⟨_, br, _, rx, _, rx, _, o_neS, _, rfl, ?_⟩
        rw [if_neg (dt rfl)]
        exact ⟨_, _, _, _, _, _, _, _, _, _, rfl⟩
    · rintro ρ ⟨s, c2, c3, c4, c5, c6, c7, c8, c9, c10, rfl⟩
      walk_at "bv0"
      refine ⟨_, best_row_ok [⟨1, 2, 1, [1]⟩, ⟨0, 2, 0, [1, 1]⟩, ⟨0, 2, 0, [1, 1]⟩, ⟨1, 2, 1, [1]⟩] 3 exLen (by decide) (by decide), _, best_row_ok [⟨1, 2, 1, [1]⟩, ⟨0, 2, 0, [1, 1]⟩, ⟨0, 2, 0, [1, 1]⟩, ⟨1, 2, 1, [1]⟩] 1 exLen (by decide) (by decide), _, best_row_ok [] 2 (fun s hs => nomatch hs) (by decide) (by decide), ?_⟩
      have e1 : (dueR 3 (worksW w0 3 [⟨1, 2, 1, [1]⟩, ⟨0, 2, 0, [1, 1]⟩, ⟨0, 2, 0, [1, 1]⟩, ⟨1, 2, 1, [1]⟩]).reverse).reverse = [1, 1, 1, 1] := by decide +kernel
      have e2 : (dueR 1 (worksW w0 1 [⟨1, 2, 1, [1]⟩, ⟨0, 2, 0, [1, 1]⟩, ⟨0, 2, 0, [1, 1]⟩, ⟨1, 2, 1, [1]⟩]).reverse).reverse = [1, 0, 0, 1] := by decide +kernel
      have e3 : (dueR 2 (worksW w0 2 []).reverse).reverse = [] := by decide +kernel
      rw [e1, e2, e3]
      have re : (reprE (.lst [D.tup [.int 1, .int 1, .int 1, .int 1], .tup [.int 1, .int 0, .int 0, .int 1], .tup []])).isSome = true := by decide +kernel
      obtain ⟨r, er⟩ := Option.isSome_iff_exists.mp re
      obtain ⟨x, rfl⟩ := reprE_str er
      refine ⟨_, er, _, er, _, o_eqS, _, rfl, ?_⟩
      rw [decide_eq_true rfl]
  exact ⟨as, e⟩
end BV
set_option Elab.async false
set_option linter.all false
set_option maxRecDepth 100000
namespace BV
open PySem PySem.Spec PyProof.Rows L2 WK
local macro_rules | `(tactic| walk_at "bv") => `(tactic| try simp only [ws_seq, sq_nx, sq_rt, sq_bk, sq_ct, ws_next, ws_brk, ws_cnt, ws_retN, ws_ret, ws_drop, ws_set, ws_asg, ws_if, ws_for, ws_append, ws_par2, ws_par3, ws_put, ws_seti, ws_aug,
  wp_rtn, wp_bnd, wp_lif, wp_getE, wp_b1, wp_b2, wp_b2o, wp_consA, wp_tupE, wp_lstE, wp_bt, wp_iteM, wp_andM, wp_orM, wp_notM, wp_andV, wp_orV, wp_notV, wp_slM, wp_chE, wp_callM, wp_callS, wp_itM, wp_itA, wp_keysM, wp_lcM,
  o_add, o_sub, o_mul, o_lt, o_le, o_gt, o_ge, o_maxM, o_minM, wipe0, wipe1, sz0, sz1, sz2, sz3, sz4, sz5, sz6, le1k, dec_if, o_neLN, o_neL1, o_neS, o_eqS, o_listEL, o_listET, o_listEK, o_neDE, o_dgetNI, o_dictP, o_reprXN, wp_dsp1, List.length_map, Int.toNat_natCast, D.lst.injEq, D.dct.injEq, o_neg, o_abs, o_fdiv, o_fdivN, o_mod, o_modN, o_pow, o_int, o_isB, o_isI, o_truI, o_truL, o_truT, o_truB, o_truN, o_lenL, o_lenT, o_ixL, o_ixT, o_ixK, o_seqL, o_seqT, o_tupL, o_tupT, o_listL, o_listT, o_rev, o_slL, o_slT, o_sumL, o_sumT,
  o_maxL, o_minL, o_sorted, o_allL, o_anyL, o_vals, o_keyI, o_keyS, o_isN, o_eqI, o_neI, o_inK, o_ninK, o_zipLL, o_zipTT, o_zipLT, o_zipTL, o_enuL, o_enuT, o_rng1, o_rng2, o_addT, o_addL, o_mulT, atI0, atI1, atI2, atI3, if_some, true_if, false_if,
  tupG, consG, nilG, nameG, List.map_cons, List.map_nil, List.cons_append, List.nil_append, List.length_cons, List.length_nil, List.replicate, List.set_cons_zero, List.set_cons_succ, List.getElem?_cons_zero, List.getElem?_cons_succ, Nat.reduceAdd, Nat.reduceSub, Option.bind_some, Option.map_some, Option.some.injEq, if_true, exists_eq_left', exists_eq_left, and_assoc, exists_and_left,
  args_take, List.take_succ_cons, List.take_zero, allS_cons, allS_nil, and_true, true_and])
local macro_rules | `(tactic| walk_at "bv0") => `(tactic| try simp only [ws_seq, sq_nx, sq_rt, sq_bk, sq_ct, ws_next, ws_brk, ws_cnt, ws_retN, ws_ret, ws_drop, ws_set, ws_asg, ws_if, ws_for, ws_append, ws_par2, ws_par3, ws_put, ws_seti, ws_aug,
  wp_rtn, wp_bnd, wp_lif, wp_getE, wp_b1, wp_b2, wp_b2o, wp_consA, wp_tupE, wp_lstE, wp_bt, wp_andM, wp_orM, wp_notM, wp_andV, wp_orV, wp_notV, wp_slM, wp_chE, wp_callM, wp_callS, wp_itM, wp_itA, wp_keysM, wp_lcM,
  o_add, o_sub, o_mul, o_lt, o_le, o_gt, o_ge, o_maxM, o_minM, wipe0, wipe1, sz0, sz1, sz2, sz3, sz4, sz5, sz6, le1k, dec_if, o_neLN, o_neL1, o_neS, o_eqS, o_listEL, o_listET, o_listEK, o_neDE, o_dgetNI, o_dictP, o_reprXN, wp_dsp1, List.length_map, Int.toNat_natCast, D.lst.injEq, D.dct.injEq, o_neg, o_abs, o_fdiv, o_fdivN, o_mod, o_modN, o_pow, o_int, o_isB, o_isI, o_truI, o_truL, o_truT, o_truB, o_truN, o_lenL, o_lenT, o_ixL, o_ixT, o_ixK, o_seqL, o_seqT, o_tupL, o_tupT, o_listL, o_listT, o_rev, o_slL, o_slT, o_sumL, o_sumT,
  o_maxL, o_minL, o_sorted, o_allL, o_anyL, o_vals, o_keyI, o_keyS, o_isN, o_eqI, o_neI, o_inK, o_ninK, o_zipLL, o_zipTT, o_zipLT, o_zipTL, o_enuL, o_enuT, o_rng1, o_rng2, o_addT, o_addL, o_mulT, atI0, atI1, atI2, atI3, if_some, true_if, false_if,
  tupG, consG, nilG, nameG, List.map_cons, List.map_nil, List.cons_append, List.nil_append, List.length_cons, List.length_nil, List.replicate, List.set_cons_zero, List.set_cons_succ, List.getElem?_cons_zero, List.getElem?_cons_succ, Nat.reduceAdd, Nat.reduceSub, Option.bind_some, Option.map_some, Option.some.injEq, if_true, exists_eq_left', exists_eq_left, and_assoc, exists_and_left,
  args_take, List.take_succ_cons, List.take_zero, allS_cons, allS_nil, and_true, true_and])
local macro_rules | `(tactic| walk_at "bv1") => `(tactic| try simp only [sq_rt, sq_bk, sq_ct, ws_next, ws_brk, ws_cnt, ws_retN, ws_ret, ws_drop, ws_set, ws_asg, ws_if, ws_for, ws_append, ws_par2, ws_par3, ws_put, ws_seti, ws_aug,
  wp_rtn, wp_bnd, wp_lif, wp_getE, wp_b1, wp_b2, wp_b2o, wp_consA, wp_tupE, wp_lstE, wp_bt, wp_andM, wp_orM, wp_notM, wp_andV, wp_orV, wp_notV, wp_slM, wp_chE, wp_callM, wp_callS, wp_itM, wp_itA, wp_keysM, wp_lcM,
  o_add, o_sub, o_mul, o_lt, o_le, o_gt, o_ge, o_maxM, o_minM, wipe0, wipe1, sz0, sz1, sz2, sz3, sz4, sz5, sz6, le1k, dec_if, o_neLN, o_neL1, o_neS, o_eqS, o_listEL, o_listET, o_listEK, o_neDE, o_dgetNI, o_dictP, o_reprXN, wp_dsp1, List.length_map, Int.toNat_natCast, D.lst.injEq, D.dct.injEq, o_neg, o_abs, o_fdiv, o_fdivN, o_mod, o_modN, o_pow, o_int, o_isB, o_isI, o_truI, o_truL, o_truT, o_truB, o_truN, o_lenL, o_lenT, o_ixL, o_ixT, o_ixK, o_seqL, o_seqT, o_tupL, o_tupT, o_listL, o_listT, o_rev, o_slL, o_slT, o_sumL, o_sumT,
  o_maxL, o_minL, o_sorted, o_allL, o_anyL, o_vals, o_keyI, o_keyS, o_isN, o_eqI, o_neI, o_inK, o_ninK, o_zipLL, o_zipTT, o_zipLT, o_zipTL, o_enuL, o_enuT, o_rng1, o_rng2, o_addT, o_addL, o_mulT, atI0, atI1, atI2, atI3, if_some, true_if, false_if,
  tupG, consG, nilG, nameG, List.map_cons, List.map_nil, List.cons_append, List.nil_append, List.length_cons, List.length_nil, List.replicate, List.set_cons_zero, List.set_cons_succ, List.getElem?_cons_zero, List.getElem?_cons_succ, Nat.reduceAdd, Nat.reduceSub, Option.bind_some, Option.map_some, Option.some.injEq, if_true, exists_eq_left', exists_eq_left, and_assoc, exists_and_left,
  args_take, List.take_succ_cons, List.take_zero, allS_cons, allS_nil, and_true, true_and])
theorem worths_ok (s : Slt) (h : s.slopes.length ≤ 1000) : vof (F_law_worths [slD s]) = some (cdD s) := by
  unfold F_law_worths slD
  refine fn_val rfl ?_
  unfold f_law_worths
  walk_at "bv"
  refine for_inv (fun i ρ => ∃ c2 c3, ρ = [some (slD s), some (.dct (cdK s (i + 1))), c2, c3]) ⟨_, _, by unfold cdK slD; simp; exact ⟨rfl, rfl⟩⟩ ?_ ?_
  · rintro i d ρ hd ⟨c2, c3, rfl⟩
    obtain ⟨z, hi, rfl⟩ := enum_map hd
    refine ⟨_, rfl, ?_⟩
    have hil := (List.getElem?_eq_some_iff.mp hi).1
    unfold slD
    walk_at "bv"
    rw [cdK_at (by omega), cdK_len, show s.need + (i : Int) + 1 = s.need + ((i + 1 : Nat) : Int) by omega]
    walk_at "bv"
    rw [Int.add_assoc, ← take_sum hi, cdK_put]
    exact ⟨Nat.lt_of_lt_of_le (show i + 1 < 2000 by omega) (by decide), _, _, rfl⟩
  · rintro ρ ⟨c2, c3, rfl⟩
    have e : (enumL (s.slopes.map D.int)).length = s.slopes.length := by rw [enumL_len, List.length_map]
    rw [e]
    walk_at "bv"
    rfl
theorem rng2_map {lo hi : Int} (h1 : -(2 ^ 62) ≤ lo) (h2 : lo < 2 ^ 62) (h3 : -(2 ^ 62) ≤ hi) (h4 : hi < 2 ^ 62) : rng2 [.int lo, .int hi] = some ((List.range (hi - lo).toNat).map fun (i : Nat) => D.int (lo + (i : Int))) := by
  rw [o_rng2]
  have : (big lo && big hi) = true := by
    unfold big
    rw [decide_eq_true h1, decide_eq_true h2, decide_eq_true h3, decide_eq_true h4]
    rfl
  rw [if_pos this]
  rfl
theorem work_told_ok (w : Slt) (h : w.Len) (h0 : 0 ≤ w.need) (h1 : w.most ≤ 3000000) : vof (F_law_work_told [cdD w]) = some (slD w) := by
  have k1 := h.len
  have k2 := h.wide
  have k3 := h.mid
  unfold F_law_work_told
  rw [cdD_eq]
  refine fn_val rfl ?_
  unfold f_law_work_told
  walk_at "bv"
  rw [cdK_keys]
  have e1 : minI (numsL w (w.slopes.length + 1)) = some w.need := minI_by (by unfold numsL; rw [List.range_succ]; simp) fun m h1 h2 => nums_least h h1 h2
  have e2 : maxI (numsL w (w.slopes.length + 1)) = some w.most := maxI_by (by unfold numsL; rw [List.range_succ]; simp) fun m h1 h2 => nums_most h h1 h2
  rw [o_minL, o_maxL, e1, e2]
  walk_at "bv"
  have c0 := cdK_at (s := w) (n := w.slopes.length + 1) (j := 0) (by omega)
  rw [show w.need + ((0 : Nat) : Int) = w.need by omega] at c0
  rw [c0]
  refine ⟨_, rfl, ?_, ?_⟩
  · unfold big
    rw [decide_eq_true (show -(2 ^ 62) ≤ w.need by omega), decide_eq_true (show w.need < 2 ^ 62 by omega), decide_eq_true (show -(2 ^ 62) ≤ w.most by omega), decide_eq_true (show w.most < 2 ^ 62 by omega)]
    rfl
  have hn : (List.range w.slopes.length).length ≤ sizeLine := by
    rw [List.length_range]
    have : w.slopes.length ≤ 5000 := by omega
    exact Nat.le_trans this (by decide)
  show ∃ out ρ2, lcE _ _ _ _ ((List.range (w.most - w.need).toNat).map fun (i : Nat) => D.int (w.need + (i : Int))) _ [] = some (out, ρ2) ∧ _
  rw [show (w.most - w.need).toNat = w.slopes.length by omega]
  refine lc_all (fun i : Nat => D.int (w.need + (i : Int))) (fun i => D.int ((w.first + (w.slopes.take (i + 1)).sum) - (w.first + (w.slopes.take i).sum))) hn (fun i hi => ⟨_, rfl, rfl, ?_, ?_⟩) ?_
  · walk_at "bv"
  · have hi := List.mem_range.mp hi
    walk_at "bv"
    rw [show w.need + (i : Int) + 1 = w.need + ((i + 1 : Nat) : Int) by omega, cdK_at (show i + 1 < w.slopes.length + 1 by omega), cdK_at (show i < w.slopes.length + 1 by omega)]
    walk_at "bv"
  · rw [map_int (f := fun i : Nat => (w.first + (w.slopes.take (i + 1)).sum) - (w.first + (w.slopes.take i).sum)), diffs_are _ (Nat.le_refl _), List.take_length]
    refine ⟨?_, rfl⟩
    unfold slD
    simp
theorem merge_cd {s : Slt} : ∀ n : Nat, mergeD [] (cdK s n) = cdK s n
  | 0 => rfl
  | n + 1 => by
    rw [cdK_succ]
    unfold mergeD
    rw [List.foldl_append]
    show putKD (mergeD [] (cdK s n)) _ _ = _
    rw [merge_cd n, cdK_put, cdK_succ]
theorem pairs_map {α : Type} {l : List α} {f : α → Key} {g : α → D} {kd : α → D} (h : ∀ a, keyD (kd a) = some (f a)) : pairsD (l.map fun a => .tup [kd a, g a]) = some (l.map fun a => (f a, g a)) := by
  induction l with
  | nil => rfl
  | cons a l ih =>
    rw [List.map_cons]
    show (keyD (kd a)).bind _ = _
    rw [h, Option.bind_some, ih]
    rfl
def seqI (lo : Int) (n : Nat) : List Int := (List.range n).map fun (i : Nat) => lo + (i : Int)
theorem seqI_succ {lo : Int} {n : Nat} : seqI lo (n + 1) = seqI lo n ++ [lo + (n : Int)] := mapr_succ
theorem seqI_filter {lo hi a : Int} : ∀ n : Nat, (seqI a n).filter (fun x => decide (lo ≤ x ∧ x ≤ hi)) = seqI (max a lo) (min (a + n - 1) hi - max a lo + 1).toNat
  | 0 => by
    rw [show (min (a + ((0 : Nat) : Int) - 1) hi - max a lo + 1).toNat = 0 by omega]
    rfl
  | n + 1 => by
    rw [seqI_succ, List.filter_append, seqI_filter n]
    have fp : ∀ q : Bool, (fun x : Int => decide (lo ≤ x ∧ x ≤ hi)) (a + (n : Int)) = q → List.filter (fun x => decide (lo ≤ x ∧ x ≤ hi)) [a + (n : Int)] = if q = true then [a + (n : Int)] else [] := fun q e => by
      rw [List.filter_cons, List.filter_nil]
      have e : decide (lo ≤ a + (n : Int) ∧ a + (n : Int) ≤ hi) = q := e
      rw [e]
    by_cases h : lo ≤ a + (n : Int) ∧ a + (n : Int) ≤ hi
    · rw [fp true (decide_eq_true h), if_pos rfl]
      rw [show (min (a + ((n + 1 : Nat) : Int) - 1) hi - max a lo + 1).toNat = (min (a + (n : Int) - 1) hi - max a lo + 1).toNat + 1 by omega, seqI_succ]
      rw [show max a lo + (((min (a + (n : Int) - 1) hi - max a lo + 1).toNat : Nat) : Int) = a + (n : Int) by omega]
    · rw [fp false (decide_eq_false h), if_neg (by decide), List.append_nil]
      rw [show (min (a + ((n + 1 : Nat) : Int) - 1) hi - max a lo + 1).toNat = (min (a + (n : Int) - 1) hi - max a lo + 1).toNat by omega]
theorem win_getD {s : Slt} {lo hi : Int} (h : s.Len) (h1 : s.need ≤ lo) (h2 : lo ≤ hi) (h3 : hi ≤ s.most) {i : Nat} (hi' : (i : Int) < hi - lo) : (winL s lo hi).getD i 0 = s.slopes.getD (lo + (i : Int) - s.need).toNat 0 := by
  unfold winL
  rw [List.getD_eq_getElem?_getD, List.getD_eq_getElem?_getD, List.getElem?_take, if_pos (by omega), List.getElem?_drop, show (lo - s.need).toNat + i = (lo + (i : Int) - s.need).toNat by omega]
theorem sum_need {s t w : Slt} (h : sumW s t = some w) : w.need = max s.need t.need ∧ w.most = min s.most t.most ∧ w.need ≤ w.most ∧ w.slopes = addL (winL s w.need w.most) (winL t w.need w.most) ∧ w.first = costAt s w.need + costAt t w.need := by
  unfold sumW at h
  split at h
  · exact nomatch h
  · next hle =>
    have h := Option.some.inj h
    subst h
    exact ⟨mx_eq _ _, mn_eq _ _, by show mx _ _ ≤ mn _ _; omega, rfl, rfl⟩
theorem sum_cost {s t w : Slt} (hs : s.Len) (ht : t.Len) (h : sumW s t = some w) : ∀ n : Nat, w.need + n ≤ w.most → costAt w (w.need + n) = costAt s (w.need + n) + costAt t (w.need + n)
  | 0, _ => by
    obtain ⟨_, _, _, _, e⟩ := sum_need h
    have : costAt w (w.need + ((0 : Nat) : Int)) = w.first := by
      unfold costAt
      rw [show (w.need + ((0 : Nat) : Int) - w.need).toNat = 0 by omega]
      simp
    rw [this, e, show w.need + ((0 : Nat) : Int) = w.need by omega]
  | n + 1, hn => by
    have ih := sum_cost hs ht h n (by omega)
    obtain ⟨e1, e2, e3, e4, _⟩ := sum_need h
    have wl := sumW_len hs ht h
    have c1 := cost_step (s := w) (x := w.need + n) wl (by omega) (by omega)
    have c2 := cost_step (s := s) (x := w.need + n) hs (by omega) (by omega)
    have c3 := cost_step (s := t) (x := w.need + n) ht (by omega) (by omega)
    have l1 := winL_len hs (show s.need ≤ w.need by omega) e3 (show w.most ≤ s.most by omega)
    have l2 := winL_len ht (show t.need ≤ w.need by omega) e3 (show w.most ≤ t.most by omega)
    have g1 := win_getD hs (show s.need ≤ w.need by omega) e3 (show w.most ≤ s.most by omega) (i := n) (by omega)
    have g2 := win_getD ht (show t.need ≤ w.need by omega) e3 (show w.most ≤ t.most by omega) (i := n) (by omega)
    have z : w.slopes.getD (w.need + (n : Int) - w.need).toNat 0 = (winL s w.need w.most).getD n 0 + (winL t w.need w.most).getD n 0 := by
      rw [show (w.need + (n : Int) - w.need).toNat = n by omega, e4]
      exact zip_getD (by omega) (by omega)
    rw [show w.need + ((n + 1 : Nat) : Int) = w.need + n + 1 by omega, c1, c2, c3, ih, z, g1, g2]
    omega
theorem added_ok (s t : Slt) (h : s.Len) (h2 : t.Len) (b0 : 0 ≤ s.need ∧ s.most ≤ 3000000) : vof (F_law_added [slD s, slD t]) = some (match sumW s t with | some w => slD w | none => .non) := by
  have k1 := h.len
  have k2 := h.wide
  have k3 := h2.len
  have k4 := h2.wide
  have ws := worths_ok s (by omega)
  have wt := worths_ok t (by omega)
  unfold F_law_added
  refine fn_val rfl ?_
  unfold f_law_added
  walk_at "bv"
  refine ⟨_, ws, _, wt, ?_⟩
  rw [cdD_eq s, cdD_eq t]
  walk_at "bv"
  rw [cdK_keys]
  refine lc_at D.int (fun x => decide (t.need ≤ x ∧ x ≤ t.most)) (fun x => D.tup [.int x, .int (costAt s x + costAt t x)]) ?_ (fun x hx => ⟨_, rfl, rfl, ?_, fun hp => ?_⟩) ?_
  · rw [numsL_len]
    exact Nat.le_trans (show s.slopes.length + 1 ≤ 5000 by omega) (by decide)
  · walk_at "bv"
    rw [cdK_get]
    by_cases hx : t.need ≤ x ∧ x ≤ t.most
    · rw [if_pos (by have := h2.mid; omega), decide_eq_true hx]; rfl
    · rw [if_neg (by have := h2.mid; omega), decide_eq_false hx]; rfl
  · have hp := of_decide_eq_true hp
    obtain ⟨k, hk, rfl⟩ := List.mem_map.mp hx
    have hk := List.mem_range.mp hk
    walk_at "bv"
    rw [cd_fit h (fit_iff.mpr ⟨by omega, by omega⟩), cd_fit h2 (fit_iff.mpr hp)]
    walk_at "bv"
  · walk_at "bv"
    rw [show numsL s (s.slopes.length + 1) = seqI s.need (s.slopes.length + 1) from rfl, seqI_filter]
    generalize hm : (min (s.need + ((s.slopes.length + 1 : Nat) : Int) - 1) t.most - max s.need t.need + 1).toNat = m
    rw [pairs_map (f := fun x => .inl x) (fun _ => rfl)]
    have hmid := h.mid
    have hmid2 := h2.mid
    cases hw : sumW s t with
    | none =>
      have e : m = 0 := by
        unfold sumW at hw
        split at hw
        · next hle => rw [mx_eq, mn_eq] at hle; omega
        · exact nomatch hw
      subst e
      exact ⟨_, rfl, _, rfl, _, rfl, rfl⟩
    | some w =>
      obtain ⟨e1, e2, e3, e4, _⟩ := sum_need hw
      have wl := sumW_len h h2 hw
      have l1 := wl.len
      have em : m = w.slopes.length + 1 := by omega
      have ek : (seqI (max s.need t.need) m).map (fun a => ((Sum.inl a : Key), D.int (costAt s a + costAt t a))) = cdK w (w.slopes.length + 1) := by
        rw [em]
        unfold seqI cdK
        rw [List.map_map]
        refine List.map_congr_left fun i hi => ?_
        have hi := List.mem_range.mp hi
        have c := sum_cost h h2 hw i (by omega)
        show ((Sum.inl (max s.need t.need + (i : Int)) : Key), D.int (costAt s (max s.need t.need + (i : Int)) + costAt t (max s.need t.need + (i : Int)))) = _
        rw [← e1, ← c, costN]
      rw [ek]
      refine ⟨_, congrArg (fun z => some (D.dct z)) (merge_cd _), _, rfl, _, rfl, ?_⟩
      have ne : (!(cdK w (w.slopes.length + 1)).isEmpty) = true := by
        rw [cdK_succ]
        simp
      rw [if_pos ne]
      exact ⟨_, work_told_ok w wl (by omega) (by omega), rfl⟩
theorem held_law_ok (s : Slt) (b lo hi : Int) (h : s.Wk) (hb : 0 ≤ b ∧ b < 2 ^ 64) (h1 : lo ≤ hi) (h2 : hi - lo ≤ 1000) (h3 : 0 ≤ lo) (h4 : hi ≤ 3000000) : vof (F_law_held [slD s, .int b, .int lo, .int hi]) = some (slD (heldW s b lo hi)) := by
  have k1 := h.len.len
  have k2 := h.len.wide
  have ws := worths_ok s (by omega)
  have hwl := heldW_len (b := b) h.len h1 h2
  have wt := work_told_ok (heldW s b lo hi) hwl h3 h4
  have hlen : ((heldW s b lo hi).slopes.length : Int) = hi - lo := hwl.len
  unfold F_law_held
  refine fn_val rfl ?_
  unfold f_law_held
  walk_at "bv"
  refine ⟨_, ws, ?_⟩
  walk_at "bv"
  refine ⟨?_, ?_⟩
  · unfold big
    rw [decide_eq_true (show -(2 ^ 62) ≤ lo by omega), decide_eq_true (show lo < 2 ^ 62 by omega), decide_eq_true (show -(2 ^ 62) ≤ hi + 1 by omega), decide_eq_true (show hi + 1 < 2 ^ 62 by omega)]
    rfl
  refine for_inv (fun i ρ => ∃ c6 c7, ρ = [some (slD s), some (.int b), some (.int lo), some (.int hi), some (cdD s), some (.dct (cdK (heldW s b lo hi) i)), c6, c7]) ⟨_, _, rfl⟩ ?_ ?_
  · rintro i d ρ hd ⟨c6, c7, rfl⟩
    have hil := (List.getElem?_eq_some_iff.mp hd).1
    rw [rangeL_len] at hil
    rw [rangeL_at hil] at hd
    cases hd
    refine ⟨_, rfl, ?_⟩
    rw [cdD_eq]
    walk_at "bv"
    rw [cdK_keys]
    refine lc_all D.int (fun y => D.int (s.first + (s.slopes.take (y - s.need).toNat).sum + b * up (lo + (i : Int) - y))) ?_ (fun y hy => ⟨_, rfl, rfl, ?_, ?_⟩) ?_
    · rw [numsL_len]
      have : s.slopes.length + 1 ≤ 5000 := by omega
      exact Nat.le_trans this (by decide)
    · walk_at "bv"
    · obtain ⟨k, hk, rfl⟩ := List.mem_map.mp hy
      have hk := List.mem_range.mp hk
      walk_at "bv"
      rw [cdK_at hk, show (s.need + (k : Int) - s.need).toNat = k by omega]
      walk_at "bv"
      exact ⟨bnd_mul ⟨by omega, by omega⟩, rfl⟩
    · walk_at "bv"
      have mm : minI ((numsL s (s.slopes.length + 1)).map fun y => s.first + (s.slopes.take (y - s.need).toNat).sum + b * up (lo + (i : Int) - y)) = some (heldWorth s b (lo + i)) := by
        have e : ((numsL s (s.slopes.length + 1)).map fun y => s.first + (s.slopes.take (y - s.need).toNat).sum + b * up (lo + (i : Int) - y)) = fromL s b (lo + i) (s.slopes.length + 1) := by
          unfold numsL fromL
          rw [List.map_map]
          refine List.map_congr_left fun k hk => ?_
          show s.first + (s.slopes.take (s.need + (k : Int) - s.need).toNat).sum + b * up (lo + (i : Int) - (s.need + (k : Int))) = _
          rw [show (s.need + (k : Int) - s.need).toNat = k by omega]
        rw [e]
        refine minI_by ?_ fun m h1 h2 => from_least h hb.1 h1 h2
        rw [fromL_succ]
        exact List.append_ne_nil_of_right_ne_nil _ (by simp)
      rw [map_int, o_minL, mm]
      walk_at "bv"
      have hc := held_cost (b := b) h.len h1 h2 i (by omega)
      have hc2 : (heldW s b lo hi).first + ((heldW s b lo hi).slopes.take i).sum = heldWorth s b (lo + i) := by rw [← hc, ← costN]; rfl
      rw [← hc2, cdK_len]
      have pp := cdK_put (s := heldW s b lo hi) (n := i)
      have pp : putKD (cdK (heldW s b lo hi) i) (.inl (lo + (i : Int))) (.int ((heldW s b lo hi).first + ((heldW s b lo hi).slopes.take i).sum)) = cdK (heldW s b lo hi) (i + 1) := pp
      rw [pp]
      exact ⟨Nat.lt_of_lt_of_le (show i < 2000 by omega) (by decide), _, _, rfl⟩
  · rintro ρ ⟨c6, c7, rfl⟩
    rw [rangeL_len, show (hi + 1 - lo).toNat = (heldW s b lo hi).slopes.length + 1 by omega]
    walk_at "bv"
    exact ⟨_, wt, rfl⟩
theorem sum_of_none (s t : Slt) (hw : sumW s t = none) : vof (F_sum_of [slD s, slD t]) = some .non := by
  unfold sumW at hw
  split at hw
  · next hle =>
    unfold F_sum_of slD
    refine fn_val rfl ?_
    unfold f_sum_of
    walk_at "bv"
    rw [if_pos (by omega)]
    trivial
  · exact nomatch hw
/-! ### the law -/
structure Sz (w : Slt) : Prop where
  need : w.need.natAbs < 10 ^ 150
  most : w.most.natAbs < 10 ^ 150
  first : w.first.natAbs < 10 ^ 150
  slopes : ∀ z ∈ w.slopes, z.natAbs < 10 ^ 150
  len : w.slopes.length ≤ 1000
theorem toPy_sl (w : Slt) : toPy (slD w) = some (sltD w) := by
  unfold slD
  rw [toPy, toPyL, toPy, toPyL, toPy, toPyL, toPy, toPyL, toPy, toPyL_ints, toPyL]
  rfl
theorem lil_sl {w : Slt} (h : Sz w) : Lil (sltD w) ∧ cost (sltD w) ≤ 200000 := by
  have ci := cost_ints (ns := w.slopes)
  have hl := h.len
  refine ⟨?_, ?_⟩
  · simp only [sltD, Lil, LilAll, and_true]
    exact ⟨h.need, h.most, h.first, lil_ints h.slopes⟩
  · simp only [sltD, cost, costAll]
    omega
theorem repr_sl {w : Slt} (h : Sz w) : ∃ x, reprX (slD w) = some (.str x) := by
  refine ⟨(sltD w).shown, o_reprX ?_⟩
  show (toPy (slD w)).bind _ = some (D.str _)
  rw [toPy_sl, Option.bind_some, if_pos (shB_of (shows_of (lil_sl h).1 (Nat.le_trans sml_depth (by decide)) (Nat.le_trans (lil_sl h).2 (by decide))))]
/-- values of a work that is not too great -/
structure Bw (w : Slt) (F B : Int) : Prop where
  len : w.Len
  lo : 0 ≤ w.need
  hi : w.most ≤ 3000000
  few : w.most - w.need ≤ 24
  fst : -F ≤ w.first ∧ w.first ≤ F
  steep : ∀ z ∈ w.slopes, -B ≤ z ∧ z ≤ B
theorem Bw.sz {w : Slt} {F B : Int} (h : Bw w F B) (hF : F ≤ 10 ^ 40) (hB : B ≤ 10 ^ 40) : Sz w := by
  have h1 := h.lo
  have h2 := h.len.mid
  have h3 := h.hi
  have h4 := h.fst
  have h5 := h.len.len
  have h6 := h.few
  have big : (10 : Nat) ^ 40 < 10 ^ 150 := by decide
  refine ⟨?_, ?_, ?_, fun z hz => ?_, by omega⟩
  · exact Nat.lt_of_le_of_lt (show w.need.natAbs ≤ 10 ^ 40 by omega) big
  · exact Nat.lt_of_le_of_lt (show w.most.natAbs ≤ 10 ^ 40 by omega) big
  · exact Nat.lt_of_le_of_lt (show w.first.natAbs ≤ 10 ^ 40 by omega) big
  · have := h.steep z hz
    exact Nat.lt_of_le_of_lt (show z.natAbs ≤ 10 ^ 40 by omega) big
theorem Bw.cost {w : Slt} {F B x : Int} (h : Bw w F B) (hB : 0 ≤ B) : -(F + 24 * B) ≤ costAt w x ∧ costAt w x ≤ F + 24 * B := by
  have h5 := h.len.len
  have h6 := h.few
  have b := sum_bounds (b := B) (l := w.slopes.take (x - w.need).toNat) fun z hz => h.steep z (List.mem_of_mem_take hz)
  have l24 : ((w.slopes.take (x - w.need).toNat).length : Int) ≤ 24 := by
    rw [List.length_take]
    omega
  have : B * ((w.slopes.take (x - w.need).toNat).length : Int) ≤ B * 24 := Int.mul_le_mul_of_nonneg_left l24 hB
  have := h.fst
  unfold costAt
  omega
theorem win_mem {s : Slt} {lo hi z : Int} (h : z ∈ winL s lo hi) : z ∈ s.slopes := List.mem_of_mem_drop (List.mem_of_mem_take h)
theorem zip_mem {l m : List Int} {z : Int} (h : z ∈ addL l m) : ∃ a ∈ l, ∃ b ∈ m, z = a + b := by
  unfold addL at h
  obtain ⟨i, hi, rfl⟩ := List.mem_iff_getElem.mp h
  rw [List.length_zipWith] at hi
  rw [List.getElem_zipWith]
  exact ⟨_, List.getElem_mem (by omega), _, List.getElem_mem (by omega), rfl⟩
theorem sum_bw {s t w : Slt} {F B F' B' : Int} (hs : Bw s F B) (ht : Bw t F' B') (hB : 0 ≤ B) (hB' : 0 ≤ B') (h : sumW s t = some w) : Bw w (F + 24 * B + F' + 24 * B') (B + B') := by
  obtain ⟨e1, e2, e3, e4, e5⟩ := sum_need h
  have h1 := hs.lo
  have h2 := hs.hi
  have h3 := hs.few
  have c1 := hs.cost (x := w.need) hB
  have c2 := ht.cost (x := w.need) hB'
  refine ⟨sumW_len hs.len ht.len h, by omega, by omega, by omega, by omega, fun z hz => ?_⟩
  rw [e4] at hz
  obtain ⟨a, ha, c, hc, rfl⟩ := zip_mem hz
  have := hs.steep a (win_mem ha)
  have := ht.steep c (win_mem hc)
  omega
theorem held_bw {s : Slt} {F B b lo hi : Int} (hs : Bw s F B) (hw : s.Wk) (hB : 0 ≤ B) (hb : 0 ≤ b) (h1 : lo ≤ hi) (h2 : hi - lo ≤ 24) (h3 : 0 ≤ lo) (h4 : hi ≤ 3000000) : Bw (heldW s b lo hi) (F + 24 * B + b * 3000000) b := by
  have hl := heldW_len (b := b) hs.len h1 (by omega)
  refine ⟨hl, h3, h4, h2, ?_, fun z hz => ?_⟩
  · obtain ⟨y, y1, y2, e⟩ := held_reach (b := b) lo hw hb
    have c := hs.cost (x := y) hB
    have l := hs.lo
    have u1 : 0 ≤ up (lo - y) ∧ up (lo - y) ≤ 3000000 := by rw [up_eq]; omega
    have m1 : 0 ≤ b * up (lo - y) := Int.mul_nonneg hb u1.1
    have m2 : b * up (lo - y) ≤ b * 3000000 := Int.mul_le_mul_of_nonneg_left u1.2 hb
    show -(F + 24 * B + b * 3000000) ≤ heldWorth s b lo ∧ heldWorth s b lo ≤ F + 24 * B + b * 3000000
    rw [e]
    omega
  · have hz : z ∈ heldSlopes s b lo hi := hz
    rw [heldSlopes_is hs.len h1 (by omega)] at hz
    obtain ⟨i, _, rfl⟩ := List.mem_map.mp hz
    have := stH_bd (s := s) (x := lo + (i : Int)) hb
    omega
theorem of_okT (s : Sr) (ds : List D) (h : ds ≠ []) (hl : ds.length < 1073741824) : ∃ d s', F_law_of [.src s, .tup ds] = some (d, [.src s', .tup ds]) ∧ d ∈ ds := by
  have hp : 0 < ds.length := List.length_pos_iff.mpr h
  have pr := pickR_lt (s := s) (many := (ds.length : Int)) (by omega)
  have hj : (pickR s ds.length).toNat < ds.length := by omega
  obtain ⟨d, as, e, rfl, rfl⟩ : ∃ d as, F_law_of [.src s, .tup ds] = some (d, as) ∧ d = ds[(pickR s ds.length).toNat] ∧ as = [.src (pickS s ds.length), .tup ds] := by
    unfold F_law_of
    refine fn_res rfl ?_
    unfold f_law_of
    walk_at "bv"
    refine ⟨_, _, _, pick_ok s _ (by omega), ?_⟩
    walk_at "bv"
    rw [atI_get (d := ds[(pickR s ds.length).toNat]) pr.1 (List.getElem?_eq_getElem hj)]
    refine ⟨_, rfl, _, rfl, rfl, rfl⟩
  exact ⟨_, _, e, List.getElem_mem _⟩
theorem p12 : (10 : Int) ^ (12 : Int).toNat = 1000000000000 := by decide
theorem c12 : cPow 10 12 = true := by decide
theorem some_work_ok (s : Sr) : ∃ (w : Slt) (s' : Sr), F_law_some_work [.src s] = some (slD w, [.src s']) ∧ w.Wk ∧ w.most ≤ 1000000 ∧ w.most - w.need ≤ 10 ∧ Bw w 2000000000000 80000000000 := by
  obtain ⟨ss, s1, e1, l1, o1⟩ := great_slots_ok s 2 10 (by decide) (by decide) (by decide)
  have e1 : F_law_great_slots [.src s, .int 2, .int 10] = some (.tup (ss.map slD), [.src s1, .int 2, .int 10]) := e1
  obtain ⟨d2, s2, e2, m2⟩ := of_okT s1 (ss.map slD) (by cases ss with | nil => exact nomatch l1 | cons a as => simp) (by rw [List.length_map, l1]; decide)
  obtain ⟨w, hw, rfl⟩ := List.mem_map.mp m2
  obtain ⟨ok, few⟩ := o1 w hw
  obtain ⟨d3, s3, e3, m3⟩ := of_ok s2 [.int 0, .int 0, .int 7, .int 1000000000000] (by simp) (by decide)
  obtain ⟨z, rfl, z0, z1⟩ : ∃ z, d3 = .int z ∧ 0 ≤ z ∧ z ≤ 1000000000000 := by
    simp only [List.mem_cons, List.not_mem_nil, or_false] at m3
    rcases m3 with rfl | rfl | rfl | rfl <;> exact ⟨_, rfl, by omega, by omega⟩
  obtain ⟨d, as, e, rfl, rfl⟩ : ∃ d as, F_law_some_work [.src s] = some (d, as) ∧ d = slD ⟨w.need, w.most, w.first - z, w.slopes⟩ ∧ as = [.src s3] := by
    unfold F_law_some_work
    refine fn_res rfl ?_
    unfold f_law_some_work
    walk_at "bv"
    refine ⟨_, _, _, e1, _, _, _, e2, ?_⟩
    unfold slD
    walk_at "bv"
    rw [p12]
    refine ⟨c12, _, _, _, e3, ?_⟩
    walk_at "bv"
    exact ⟨_, rfl, rfl⟩
  have hl := ok.len
  have hmid := ok.mid
  have p0 := ok.pos 0
  have f0 := ok.fst
  have hh := ok.hi
  have hlo := ok.lo
  have p0 : 0 ≤ w.first := by simpa using p0
  have L : Slt.Len ⟨w.need, w.most, w.first - z, w.slopes⟩ := ⟨ok.len, ok.mid, by show w.most - w.need ≤ 1000; omega⟩
  refine ⟨⟨w.need, w.most, w.first - z, w.slopes⟩, s3, e, ⟨L, ok.lo, ok.asc⟩, ok.hi, few, ⟨L, ok.lo, by show w.most ≤ 3000000; omega, by show w.most - w.need ≤ 24; omega, ?_, ok.steep⟩⟩
  show -2000000000000 ≤ w.first - z ∧ w.first - z ≤ 2000000000000
  omega
/-- a comprehension that draws, whatever holds the draws -/
theorem lc_drawE {α : Type} {gg : D → Env → Option Env} {ft : M Bool} {fe : M D} {vs : List Nat} (E : Sr → Env) (inj : α → D) (P : D → Prop) {l : List α} (hl : l.length ≤ sizeLine)
    (h : ∀ s a, a ∈ l → ∃ ρ2, gg (inj a) (wipeE (E s) vs) = some ρ2 ∧ Wp ft ρ2 (fun b ρ3 => b = true ∧ ρ3 = ρ2) ∧ Wp fe ρ2 fun y ρ4 => ∃ s', restE (E s) vs ρ4 = E s' ∧ P y) :
    ∀ s, ∃ out s', lcE gg ft fe vs (l.map inj) (E s) [] = some (out, E s') ∧ out.length = l.length ∧ ∀ y ∈ out, P y := by
  have key : ∀ (m : List α) (acc : List D) (s : Sr), (∀ a ∈ m, a ∈ l) → acc.length + m.length ≤ sizeLine → (∀ y ∈ acc, P y) →
      ∃ out s', lcE gg ft fe vs (m.map inj) (E s) acc = some (out, E s') ∧ out.length = acc.length + m.length ∧ ∀ y ∈ out, P y := by
    intro m
    induction m with
    | nil => intro acc s _ _ hp; exact ⟨acc, s, by rw [List.map_nil]; unfold lcE; rfl, rfl, hp⟩
    | cons a m ih =>
      intro acc s hm hz hp
      obtain ⟨ρ2, e1, ⟨b, ρ3, e2, rfl, rfl⟩, y, ρ4, e4, s', e5, py⟩ := h s a (hm a List.mem_cons_self)
      rw [List.length_cons] at hz
      obtain ⟨out, s'', e6, e7, e8⟩ := ih (acc ++ [y]) s' (fun x hx => hm x (List.mem_cons_of_mem _ hx)) (by simp; omega) (fun z hz => by
        rcases List.mem_append.mp hz with hz | hz
        · exact hp z hz
        · have : z = y := by simpa using hz
          subst this; exact py)
      refine ⟨out, s'', ?_, by rw [e7]; simp; omega, e8⟩
      rw [List.map_cons]
      unfold lcE
      rw [e1, Option.bind_some, e2, Option.bind_some]
      simp only [if_true]
      rw [e4, Option.bind_some, if_pos (by omega)]
      simp only [e5]
      exact e6
  intro s
  obtain ⟨out, s', e1, e2, e3⟩ := key l [] s (fun a ha => ha) (by simpa using hl) (fun y hy => nomatch hy)
  exact ⟨out, s', e1, by simpa using e2, e3⟩
theorem cut2 {a b c d : D} : cutD [a, b, c, d] (some 2) none = [c, d] := rfl
theorem slD_fold (s : Slt) : D.tup [.int s.need, .int s.most, .int s.first, .tup (s.slopes.map .int)] = slD s := rfl
theorem repr_intsL {ns : List Int} (h : ∀ z ∈ ns, z.natAbs < 10 ^ 150) (hl : ns.length ≤ 5000) : ∃ x, reprE (.lst (ns.map D.int)) = some (.str x) := by
  refine ⟨PyData.shown (.list (intsD ns)), ?_⟩
  show (toPy (.lst (ns.map D.int))).bind _ = some (D.str (PyData.shown (.list (intsD ns))))
  rw [toPy, toPyL_ints]
  exact if_pos (shB_of (shows_lst h hl))
theorem sq_step {t : Ms} {ρ : Env} {Q : Fl → Prop} (h : Wss t ρ Q) : Sq t Q (.nx ρ) := h
theorem law_true13 (ns : List Int) (hn : ns.length ≤ 63) : ∃ as, F_law_K13 [.scr ns] = some (.bl true, as) := by
  obtain ⟨d, as, e, rfl⟩ : ∃ d as, F_law_K13 [.scr ns] = some (d, as) ∧ d = .bl true := by
    unfold F_law_K13
    refine fn_res rfl ?_
    unfold f_law_K13
    refine ws_seq.mpr ?_
    walk_at "bv1"
    refine ⟨.src (srcOf ns), source_ok hn, ?_⟩
    refine sq_nx ▸ ws_seq.mpr ?_
    walk_at "bv1"
    refine ⟨by decide, ?_⟩
    refine Wss.mono (Q := fun r => ∃ (s : Sr) (c2 c3 c4 c5 c6 c7 c8 c9 c10 c11 c12 c13 : Option D), r = .nx [some (.scr ns), some (.src s), c2, c3, c4, c5, c6, c7, c8, c9, c10, c11, c12, c13])
      (for_inv (fun j ρ => ∃ (s : Sr) (c2 c3 c4 c5 c6 c7 c8 c9 c10 c11 c12 c13 : Option D), ρ = [some (.scr ns), some (.src s), c2, c3, c4, c5, c6, c7, c8, c9, c10, c11, c12, c13]) ⟨_, _, _, _, _, _, _, _, _, _, _, _, _, rfl⟩ ?_
        fun ρ ⟨s, c2, c3, c4, c5, c6, c7, c8, c9, c10, c11, c12, c13, e⟩ => ⟨s, c2, c3, c4, c5, c6, c7, c8, c9, c10, c11, c12, c13, by rw [e]⟩) ?_
    · rintro j d ρ hd ⟨s, c2, c3, c4, c5, c6, c7, c8, c9, c10, c11, c12, c13, rfl⟩
      obtain ⟨one, s1, e1, w1, m1, f1, b1⟩ := some_work_ok s
      obtain ⟨other, s2, e2, w2, m2, f2, b2⟩ := some_work_ok s1
      refine ⟨_, rfl, ?_⟩
      refine ws_seq.mpr ?_
      walk_at "bv1"
      refine ⟨_, _, _, e1, ?_⟩
      walk_at "bv1"
      refine ⟨_, _, _, e2, ?_⟩
      refine sq_nx ▸ ws_seq.mpr ?_
      unfold slD
      walk_at "bv1"
      rw [cut2, slD_fold one, slD_fold other, show D.tup [.int (one.need + 2), .int (one.need + 2 + (other.slopes.length : Int)), .int other.first, .tup (other.slopes.map .int)] = slD ⟨one.need + 2, one.need + 2 + (other.slopes.length : Int), other.first, other.slopes⟩ from rfl]
      have ol := w2.len.len
      have nl : Slt.Len ⟨one.need + 2, one.need + 2 + (other.slopes.length : Int), other.first, other.slopes⟩ := ⟨by show (other.slopes.length : Int) = one.need + 2 + (other.slopes.length : Int) - (one.need + 2); omega, by show one.need + 2 ≤ one.need + 2 + (other.slopes.length : Int); omega, by show one.need + 2 + (other.slopes.length : Int) - (one.need + 2) ≤ 1000; omega⟩
      have olo := w1.lo
      have omid := w1.len.mid
      have nb : Bw ⟨one.need + 2, one.need + 2 + (other.slopes.length : Int), other.first, other.slopes⟩ 2000000000000 80000000000 := ⟨nl, by show 0 ≤ one.need + 2; omega, by show one.need + 2 + (other.slopes.length : Int) ≤ 3000000; omega, by show one.need + 2 + (other.slopes.length : Int) - (one.need + 2) ≤ 24; omega, b2.fst, b2.steep⟩
      generalize (⟨one.need + 2, one.need + 2 + (other.slopes.length : Int), other.first, other.slopes⟩ : Slt) = near at nl nb
      refine ⟨show (4 : Nat) ≤ sizeLine by decide, ?_⟩
      have dt {p : Prop} [Decidable p] (h : p) : ¬ (!decide p) = true := by rw [decide_eq_true h]; decide
      have hall : ∀ l ∈ [other, near, one], l.Len ∧ Bw l 2000000000000 80000000000 := by
        intro l hl
        simp only [List.mem_cons, List.not_mem_nil, or_false] at hl
        rcases hl with rfl | rfl | rfl
        · exact ⟨w2.len, b2⟩
        · exact ⟨nl, nb⟩
        · exact ⟨w1.len, b1⟩
      refine sq_step (ws_seq.mpr ?_)
      walk_at "bv1"
      show Wss (forE _ _ ([other, near, one].map slD)) _ _
      refine Wss.mono (Q := fun r => ∃ c, r = .nx [some (.scr ns), some (.src s2), some d, some (slD one), some (slD other), some (slD near), c, c7, c8, c9, c10, c11, c12, c13]) (for_inv (fun j ρ => ∃ c, ρ = [some (.scr ns), some (.src s2), some d, some (slD one), some (slD other), some (slD near), c, c7, c8, c9, c10, c11, c12, c13]) ⟨_, rfl⟩ ?_ fun ρ ⟨c, e⟩ => ⟨c, by rw [e]⟩) ?_
      · rintro i dd ρ hdd ⟨c, rfl⟩
        obtain ⟨late, hl, rfl⟩ := map_at hdd
        obtain ⟨ll, lb⟩ := hall late (List.mem_of_getElem? hl)
        have ad := added_ok one late w1.len ll ⟨w1.lo, by omega⟩
        refine ⟨_, rfl, ?_⟩
        walk_at "bv0"
        cases hw : sumW one late with
        | none =>
          rw [hw] at ad
          refine ⟨_, sum_of_none one late hw, _, o_reprXN, _, ad, _, o_reprXN, _, o_neS, _, rfl, ?_⟩
          rw [if_neg (dt rfl)]
          exact ⟨_, rfl⟩
        | some w =>
          rw [hw] at ad
          have wb := sum_bw b1 lb (by decide) (by decide) hw
          obtain ⟨x, rx⟩ := repr_sl (wb.sz (by decide) (by decide))
          refine ⟨_, sum_of_ok one late w w1.len ll hw, _, rx, _, ad, _, rx, _, o_neS, _, rfl, ?_⟩
          rw [if_neg (dt rfl)]
          exact ⟨_, rfl⟩
      rintro _ ⟨c, rfl⟩
      have pr2 := pickR_lt (s := s2) (many := 9) (by decide)
      refine sq_step (ws_seq.mpr ?_)
      walk_at "bv1"
      refine ⟨_, _, _, pick_ok _ 9 (by decide), ?_⟩
      walk_at "bv1"
      rw [p5]
      obtain ⟨d3, s3, e3, m3⟩ := of_ok (pickS s2 9) [.int 1, .int 1, .int 100000] (by simp) (by decide)
      obtain ⟨c', rfl, c1, c2'⟩ : ∃ z, d3 = .int z ∧ 1 ≤ z ∧ z ≤ 100000 := by
        simp only [List.mem_cons, List.not_mem_nil, or_false] at m3
        rcases m3 with rfl | rfl | rfl <;> exact ⟨_, rfl, by omega, by omega⟩
      refine ⟨BV.c5, _, _, _, e3, ?_⟩
      generalize pickR s2 9 = q at pr2
      have bq : 0 ≤ q * c' ∧ q * c' ≤ 800000 := ⟨Int.mul_nonneg pr2.1 (by omega), Int.le_trans (Int.mul_le_mul (show q ≤ 8 by omega) c2' (by omega) (by omega)) (by decide)⟩
      generalize hb : 1 + q * c' = b
      have hb0 : 1 ≤ b := by omega
      have hb1 : b ≤ 800001 := by omega
      have B2 : -(2 ^ 64) < b ∧ b < 2 ^ 64 := ⟨by omega, by omega⟩
      have B3 : 0 ≤ b ∧ b < 2 ^ 64 := ⟨by omega, by omega⟩
      have hmul : cMul q c' = true := bnd_mul ⟨by omega, by omega⟩
      walk_at "bv1"
      rw [hb]
      refine ⟨hmul, ?_⟩
      -- low
      refine sq_step (ws_seq.mpr ?_)
      rw [← slD_fold one]
      walk_at "bv1"
      rw [p6]
      obtain ⟨d4, s4, e4, m4⟩ := of_ok s3 [.int (-3), .int 0, .int 1, .int 5, .int 12, .int (-1000000), .int 1000000] (by simp) (by decide)
      obtain ⟨z, rfl⟩ : ∃ z, d4 = .int z := by
        simp only [List.mem_cons, List.not_mem_nil, or_false] at m4
        rcases m4 with rfl | rfl | rfl | rfl | rfl | rfl | rfl <;> exact ⟨_, rfl⟩
      refine ⟨BV.c6, BV.c6, BV.c6, show (7 : Nat) ≤ sizeLine by decide, _, _, _, e4, ?_⟩
      walk_at "bv1"
      rw [slD_fold one]
      generalize hlow : mx 0 (mn (1000000 - 12) (one.need + z)) = low
      have l0 : 0 ≤ low ∧ low ≤ 999988 := by rw [← hlow, mx_eq, mn_eq]; omega
      -- high
      refine sq_step (ws_seq.mpr ?_)
      have pr5 := pickR_lt (s := s4) (many := 12) (by decide)
      walk_at "bv1"
      refine ⟨_, _, _, pick_ok _ 12 (by decide), ?_⟩
      generalize pickR s4 12 = q2 at pr5
      walk_at "bv1"
      generalize hhi : low + q2 = high
      have h0 : low ≤ high ∧ high - low ≤ 11 := by omega
      -- held
      have hk := held_ok one b low high w1.len B2 h0.1 (by omega)
      have hkl := held_law_ok one b low high w1 B3 h0.1 (by omega) l0.1 (by omega)
      have hbw := held_bw (b := b) b1 w1 (by decide) B3.1 h0.1 (by omega) l0.1 (by omega : high ≤ 3000000)
      obtain ⟨x1, rx1⟩ := repr_sl (hbw.sz (by omega) (by omega))
      refine sq_step (ws_seq.mpr ?_)
      walk_at "bv1"
      refine ⟨_, hk, _, rx1, _, hkl, _, rx1, _, o_neS, _, rfl, ?_⟩
      rw [if_neg (dt rfl)]
      -- slot
      refine sq_step (ws_seq.mpr ?_)
      have pr6 := pickR_lt (s := pickS s4 12) (many := 9) (by decide)
      walk_at "bv1"
      refine ⟨_, _, _, pick_ok _ 9 (by decide), ?_⟩
      generalize pickR (pickS s4 12) 9 = p9 at pr6
      walk_at "bv1"
      refine ⟨?_, ?_⟩
      · unfold big
        rw [decide_eq_true (show -(2 ^ 62) ≤ low by omega), decide_eq_true (show low < 2 ^ 62 by omega), decide_eq_true (show -(2 ^ 62) ≤ high by omega), decide_eq_true (show high < 2 ^ 62 by omega)]
        rfl
      show ∃ out ρ2, lcE _ _ _ _ ((List.range (high - low).toNat).map fun (i : Nat) => D.int (low + (i : Int))) _ [] = some (out, ρ2) ∧ _
      have hn2 : (List.range (high - low).toNat).length ≤ sizeLine := by
        rw [List.length_range]
        exact Nat.le_trans (show (high - low).toNat ≤ 11 by omega) (by decide)
      obtain ⟨out, s6, e6, l6, p6'⟩ := lc_drawE (gg := nameG 12) (ft := rtn true) (fe := callS F_pick 1 (consA (rtn (D.int 9)) (rtn []))) (vs := [12])
        (fun s => [some (D.scr ns), some (D.src s), some d, some (slD one), some (slD other), some (slD near), c, some (D.int b), some (D.int low), some (D.int high), c10, c11, c12, c13])
        (fun i : Nat => D.int (low + (i : Int))) (fun y => ∃ z, y = .int z ∧ (0 ≤ z ∧ z ≤ 8)) hn2 (fun s a _ => ⟨_, rfl, by walk_at "bv1", by
          have pr := pickR_lt (s := s) (many := 9) (by decide)
          walk_at "bv1"
          refine ⟨_, _, _, pick_ok _ _ (by decide), ?_⟩
          exact ⟨_, rfl, _, rfl, by omega, by omega⟩⟩) (pickS (pickS s4 12) 9)
      refine ⟨_, _, e6, ?_⟩
      obtain ⟨zs, rfl, hzs⟩ := ints_of (P := fun z => 0 ≤ z ∧ z ≤ 8) p6'
      rw [List.length_map, List.length_range] at l6
      have sp := sortI_perm zs
      have ssd := sortI_sorted zs
      have sl : (sortI zs).length = (high - low).toNat := by rw [sp.length_eq, l6]
      walk_at "bv1"
      generalize sortI zs = us at sp ssd sl
      have hus : ∀ z ∈ us, 0 ≤ z ∧ z ≤ 8 := fun z hz => hzs z (sp.mem_iff.mp hz)
      rw [show D.tup [.int low, .int high, .int p9, .tup (us.map .int)] = slD ⟨low, high, p9, us⟩ from rfl]
      have SL : Slt.Len ⟨low, high, p9, us⟩ := ⟨by show (us.length : Int) = high - low; omega, h0.1, by show high - low ≤ 1000; omega⟩
      have SB : Bw ⟨low, high, p9, us⟩ 8 8 := ⟨SL, l0.1, by show high ≤ 3000000; omega, by show high - low ≤ 24; omega, by show -8 ≤ p9 ∧ p9 ≤ 8; omega, fun z hz => by have := hus z hz; omega⟩
      have AF : sumW ⟨low, high, p9, us⟩ (heldW one b low high) = some (afterW one ⟨low, high, p9, us⟩ b) := after_some (b := b) SL
      have AB := sum_bw SB hbw (by decide) B3.1 AF
      have wa := work_after_ok one ⟨low, high, p9, us⟩ b w1.len SL B2
      have ad := added_ok ⟨low, high, p9, us⟩ (heldW one b low high) SL hbw.len ⟨l0.1, by show high ≤ 3000000; omega⟩
      rw [AF] at ad
      obtain ⟨x2, rx2⟩ := repr_sl (AB.sz (by omega) (by omega))
      -- after
      refine sq_step (ws_seq.mpr ?_)
      walk_at "bv1"
      refine ⟨_, wa, _, rx2, _, hkl, _, ad, _, rx2, _, o_neS, _, rfl, ?_⟩
      rw [if_neg (dt rfl)]
      -- here
      have k1 := w1.len.len
      refine sq_step (ws_seq.mpr ?_)
      walk_at "bv1"
      refine ⟨_, worths_ok one (by omega), ?_⟩
      -- low and high
      obtain ⟨x3, rx3⟩ := repr_intsL (ns := [lowW one, highW one b]) (fun z hz => by
        have l1 := lowW_in w1
        have l2 := highW_in (b := b) w1
        have big : (10 : Nat) ^ 40 < 10 ^ 150 := by decide
        simp only [List.mem_cons, List.not_mem_nil, or_false] at hz
        rcases hz with rfl | rfl
        · exact Nat.lt_of_le_of_lt (show (lowW one).natAbs ≤ 10 ^ 40 by omega) big
        · exact Nat.lt_of_le_of_lt (show (highW one b).natAbs ≤ 10 ^ 40 by omega) big) (by simp)
      have rx3 := o_reprX rx3
      refine sq_step (ws_seq.mpr ?_)
      walk_at "bv1"
      refine ⟨_, low_of_ok one (by omega), _, high_of_ok one b (by omega), _, rx3, _, low_ok one w1, _, high_ok one b w1, _, rx3, _, o_neS, _, rfl, ?_⟩
      rw [if_neg (dt rfl)]
      -- worth
      refine sq_step (ws_seq.mpr ?_)
      have pr7 := pickR_lt (s := s6) (many := 14) (by decide)
      rw [← slD_fold one]
      walk_at "bv1"
      refine ⟨_, _, _, pick_ok _ 14 (by decide), ?_⟩
      walk_at "bv1"
      rw [slD_fold one]
      generalize one.need + pickR s6 14 - 2 = x
      refine sq_step ?_
      rw [cdD_eq]
      walk_at "bv1"
      refine ⟨_, worth_at_ok one x, ?_⟩
      by_cases hf : fitB one x = true
      · rw [if_pos hf, cd_fit w1.len hf]
        have cb := b1.cost (x := x) (by decide)
        have big : (10 : Nat) ^ 40 < 10 ^ 150 := by decide
        have rx : reprX (.int (costAt one x)) = some (.str (toString (costAt one x))) := o_reprX (by
          show (if (costAt one x).natAbs.log2 < 1920 then _ else none) = _
          rw [if_pos (lil_int (Nat.lt_of_le_of_lt (show (costAt one x).natAbs ≤ 10 ^ 40 by omega) big))])
        refine ⟨_, rx, _, rx, _, o_neS, _, rfl, ?_⟩
        rw [if_neg (dt rfl)]
        exact ⟨_, _, _, _, _, _, _, _, _, _, _, _, _, rfl⟩
      · have hn : getK (cdK one (one.slopes.length + 1)) (.inl x) = none := by
          rw [cdK_get, if_neg (by
            intro q
            exact hf (fit_iff.mpr ⟨by omega, by omega⟩))]
        rw [if_neg hf, hn]
        refine ⟨_, o_reprXN, _, o_reprXN, _, o_neS, _, rfl, ?_⟩
        rw [if_neg (dt rfl)]
        exact ⟨_, _, _, _, _, _, _, _, _, _, _, _, _, rfl⟩
    · rintro _ ⟨s, c2, c3, c4, c5, c6, c7, c8, c9, c10, c11, c12, c13, rfl⟩
      walk_at "bv0"
      have h1 : heldW ⟨1, 2, 4, [4]⟩ 3 0 4 = ⟨0, 4, 4, [0, 3, 3, 3]⟩ := rfl
      have h2 : sumW ⟨0, 2, 0, [1, 1]⟩ ⟨0, 2, 4, [0, 3]⟩ = some ⟨0, 2, 4, [1, 4]⟩ := rfl
      have h3 : sumW ⟨0, 1, 0, [1]⟩ ⟨2, 3, 0, [1]⟩ = none := rfl
      have g1 := held_ok ⟨1, 2, 4, [4]⟩ 3 0 4 ⟨rfl, by decide, by decide⟩ (by decide) (by decide) (by decide)
      have g2 := sum_of_ok ⟨0, 2, 0, [1, 1]⟩ ⟨0, 2, 4, [0, 3]⟩ _ ⟨rfl, by decide, by decide⟩ ⟨rfl, by decide, by decide⟩ h2
      have g3 := sum_of_none ⟨0, 1, 0, [1]⟩ ⟨2, 3, 0, [1]⟩ h3
      rw [h1] at g1
      have re : (reprE (.lst [D.tup [.int 0, .int 4, .int 4, .tup [.int 0, .int 3, .int 3, .int 3]], .tup [.int 0, .int 2, .int 4, .tup [.int 1, .int 4]], .non])).isSome = true := by decide +kernel
      obtain ⟨r, er⟩ := Option.isSome_iff_exists.mp re
      obtain ⟨x, rfl⟩ := reprE_str er
      have ex := o_reprX er
      refine ⟨_, g1, _, g2, _, g3, by decide, _, ex, _, ex, _, o_eqS, _, rfl, ?_⟩
      rw [decide_eq_true rfl]
  exact ⟨as, e⟩
end BV
set_option Elab.async false
set_option linter.all false
set_option maxRecDepth 100000
namespace BV
open PySem PySem.Spec PyProof.Rows L2 WK
local macro_rules | `(tactic| walk_at "bv") => `(tactic| try simp only [ws_seq, sq_nx, sq_rt, sq_bk, sq_ct, ws_next, ws_brk, ws_cnt, ws_retN, ws_ret, ws_drop, ws_set, ws_asg, ws_if, ws_for, ws_append, ws_par2, ws_par3, ws_put, ws_seti, ws_aug,
  wp_rtn, wp_bnd, wp_lif, wp_getE, wp_b1, wp_b2, wp_b2o, wp_consA, wp_tupE, wp_lstE, wp_bt, wp_iteM, wp_andM, wp_orM, wp_notM, wp_andV, wp_orV, wp_notV, wp_slM, wp_chE, wp_callM, wp_callS, wp_itM, wp_itA, wp_keysM, wp_lcM,
  o_add, o_sub, o_mul, o_lt, o_le, o_gt, o_ge, o_maxM, o_minM, wipe0, wipe1, sz0, sz1, sz2, sz3, sz4, sz5, sz6, le1k, dec_if, o_neLN, o_neL1, o_neS, o_eqS, o_listEL, o_listET, o_listEK, o_neDE, o_dgetNI, o_dictP, o_reprXN, o_maxDL, o_maxDT, o_catL, o_mulL, wp_dsp1, List.length_map, Int.toNat_natCast, D.lst.injEq, D.dct.injEq, o_neg, o_abs, o_fdiv, o_fdivN, o_mod, o_modN, o_pow, o_int, o_isB, o_isI, o_truI, o_truL, o_truT, o_truB, o_truN, o_lenL, o_lenT, o_ixL, o_ixT, o_ixK, o_seqL, o_seqT, o_tupL, o_tupT, o_listL, o_listT, o_rev, o_slL, o_slT, o_sumL, o_sumT,
  o_maxL, o_minL, o_sorted, o_allL, o_anyL, o_vals, o_keyI, o_keyS, o_isN, o_eqI, o_neI, o_inK, o_ninK, o_zipLL, o_zipTT, o_zipLT, o_zipTL, o_enuL, o_enuT, o_rng1, o_rng2, o_addT, o_addL, o_mulT, atI0, atI1, atI2, atI3, if_some, true_if, false_if,
  tupG, consG, nilG, nameG, List.map_cons, List.map_nil, List.cons_append, List.nil_append, List.length_cons, List.length_nil, List.replicate, List.set_cons_zero, List.set_cons_succ, List.getElem?_cons_zero, List.getElem?_cons_succ, Nat.reduceAdd, Nat.reduceSub, Option.bind_some, Option.map_some, Option.some.injEq, if_true, exists_eq_left', exists_eq_left, and_assoc, exists_and_left,
  args_take, List.take_succ_cons, List.take_zero, allS_cons, allS_nil, and_true, true_and])
local macro_rules | `(tactic| walk_at "bv0") => `(tactic| try simp only [ws_seq, sq_nx, sq_rt, sq_bk, sq_ct, ws_next, ws_brk, ws_cnt, ws_retN, ws_ret, ws_drop, ws_set, ws_asg, ws_if, ws_for, ws_append, ws_par2, ws_par3, ws_put, ws_seti, ws_aug,
  wp_rtn, wp_bnd, wp_lif, wp_getE, wp_b1, wp_b2, wp_b2o, wp_consA, wp_tupE, wp_lstE, wp_bt, wp_andM, wp_orM, wp_notM, wp_andV, wp_orV, wp_notV, wp_slM, wp_chE, wp_callM, wp_callS, wp_itM, wp_itA, wp_keysM, wp_lcM,
  o_add, o_sub, o_mul, o_lt, o_le, o_gt, o_ge, o_maxM, o_minM, wipe0, wipe1, sz0, sz1, sz2, sz3, sz4, sz5, sz6, le1k, dec_if, o_neLN, o_neL1, o_neS, o_eqS, o_listEL, o_listET, o_listEK, o_neDE, o_dgetNI, o_dictP, o_reprXN, o_maxDL, o_maxDT, o_catL, o_mulL, wp_dsp1, List.length_map, Int.toNat_natCast, D.lst.injEq, D.dct.injEq, o_neg, o_abs, o_fdiv, o_fdivN, o_mod, o_modN, o_pow, o_int, o_isB, o_isI, o_truI, o_truL, o_truT, o_truB, o_truN, o_lenL, o_lenT, o_ixL, o_ixT, o_ixK, o_seqL, o_seqT, o_tupL, o_tupT, o_listL, o_listT, o_rev, o_slL, o_slT, o_sumL, o_sumT,
  o_maxL, o_minL, o_sorted, o_allL, o_anyL, o_vals, o_keyI, o_keyS, o_isN, o_eqI, o_neI, o_inK, o_ninK, o_zipLL, o_zipTT, o_zipLT, o_zipTL, o_enuL, o_enuT, o_rng1, o_rng2, o_addT, o_addL, o_mulT, atI0, atI1, atI2, atI3, if_some, true_if, false_if,
  tupG, consG, nilG, nameG, List.map_cons, List.map_nil, List.cons_append, List.nil_append, List.length_cons, List.length_nil, List.replicate, List.set_cons_zero, List.set_cons_succ, List.getElem?_cons_zero, List.getElem?_cons_succ, Nat.reduceAdd, Nat.reduceSub, Option.bind_some, Option.map_some, Option.some.injEq, if_true, exists_eq_left', exists_eq_left, and_assoc, exists_and_left,
  args_take, List.take_succ_cons, List.take_zero, allS_cons, allS_nil, and_true, true_and])
local macro_rules | `(tactic| walk_at "bv1") => `(tactic| try simp only [sq_rt, sq_bk, sq_ct, ws_next, ws_brk, ws_cnt, ws_retN, ws_ret, ws_drop, ws_set, ws_asg, ws_if, ws_for, ws_append, ws_par2, ws_par3, ws_put, ws_seti, ws_aug,
  wp_rtn, wp_bnd, wp_lif, wp_getE, wp_b1, wp_b2, wp_b2o, wp_consA, wp_tupE, wp_lstE, wp_bt, wp_andM, wp_orM, wp_notM, wp_andV, wp_orV, wp_notV, wp_slM, wp_chE, wp_callM, wp_callS, wp_itM, wp_itA, wp_keysM, wp_lcM,
  o_add, o_sub, o_mul, o_lt, o_le, o_gt, o_ge, o_maxM, o_minM, wipe0, wipe1, sz0, sz1, sz2, sz3, sz4, sz5, sz6, le1k, dec_if, o_neLN, o_neL1, o_neS, o_eqS, o_listEL, o_listET, o_listEK, o_neDE, o_dgetNI, o_dictP, o_reprXN, o_maxDL, o_maxDT, o_catL, o_mulL, wp_dsp1, List.length_map, Int.toNat_natCast, D.lst.injEq, D.dct.injEq, o_neg, o_abs, o_fdiv, o_fdivN, o_mod, o_modN, o_pow, o_int, o_isB, o_isI, o_truI, o_truL, o_truT, o_truB, o_truN, o_lenL, o_lenT, o_ixL, o_ixT, o_ixK, o_seqL, o_seqT, o_tupL, o_tupT, o_listL, o_listT, o_rev, o_slL, o_slT, o_sumL, o_sumT,
  o_maxL, o_minL, o_sorted, o_allL, o_anyL, o_vals, o_keyI, o_keyS, o_isN, o_eqI, o_neI, o_inK, o_ninK, o_zipLL, o_zipTT, o_zipLT, o_zipTL, o_enuL, o_enuT, o_rng1, o_rng2, o_addT, o_addL, o_mulT, atI0, atI1, atI2, atI3, if_some, true_if, false_if,
  tupG, consG, nilG, nameG, List.map_cons, List.map_nil, List.cons_append, List.nil_append, List.length_cons, List.length_nil, List.replicate, List.set_cons_zero, List.set_cons_succ, List.getElem?_cons_zero, List.getElem?_cons_succ, Nat.reduceAdd, Nat.reduceSub, Option.bind_some, Option.map_some, Option.some.injEq, if_true, exists_eq_left', exists_eq_left, and_assoc, exists_and_left,
  args_take, List.take_succ_cons, List.take_zero, allS_cons, allS_nil, and_true, true_and])
/-! ### steps -/
def stL (d : Slt) (b : Int) (top : Nat) : List Int := (List.range top).map fun (k : Nat) => WK.stH d b (k : Int)
theorem stL_len {d : Slt} {b : Int} {top : Nat} : (stL d b top).length = top := by simp [stL]
def stepsA (st : List Int) (need : Nat) (b : Int) : List Int := List.replicate need 0 ++ (st.drop need).map fun s => mn b (s + 1)
theorem cutD_from {l : List Int} {n : Nat} : cutD (l.map D.int) (some (n : Int)) none = (l.drop n).map .int := by
  unfold cutD
  rw [HT.sIx_nat, HT.sIx_none, List.map_drop, List.length_map]
  by_cases h : n ≤ l.length
  · rw [Nat.min_eq_left h, List.take_of_length_le (by simp)]
  · rw [Nat.min_eq_right (by omega), List.drop_of_length_le (by simp), List.drop_of_length_le (by simp; omega)]
    simp
theorem steps_after_ok (st : List Int) (need : Nat) (b : Int) (h : st.length ≤ 1000) (hn : need ≤ 1000) : vof (F_steps_after [.tup (st.map .int), .int need, .int b]) = some (.tup ((stepsA st need b).map .int)) := by
  unfold F_steps_after
  refine fn_val rfl ?_
  unfold f_steps_after
  walk_at "bv"
  rw [cutD_from]
  refine ⟨by omega, by omega, ?_⟩
  refine lc_all D.int (fun s => D.int (mn b (s + 1))) (by rw [List.length_drop]; exact kil (by omega)) (fun a ha => ⟨_, rfl, rfl, ?_, ?_⟩) ?_
  · walk_at "bv"
  · walk_at "bv"
  · rw [map_int (f := fun s => mn b (s + 1))]
    walk_at "bv"
    rw [rep_map, List.length_map, List.length_replicate, List.length_drop]
    refine ⟨Nat.le_trans (show need + (st.length - need) ≤ 5000 by omega) (by decide), ?_⟩
    unfold stepsA
    rw [List.map_append]
theorem growth_ok (st : List Int) (need : Nat) : vof (F_growth_of [.tup (st.map .int), .int need]) = some (.int (need + (st.take need).sum)) := by
  unfold F_growth_of
  refine fn_val rfl ?_
  unfold f_growth_of
  walk_at "bv"
  rw [cutD_to (by omega)]
  walk_at "bv"
theorem steps_plain {d : Slt} {b : Int} {need top : Nat} (hb : 0 ≤ b) (hd : d.Wk) (h : need ≤ top) (ht : top ≤ 1000) : stepsA (stL d b top) need b = stL (afterW d (plainW need top 1) b) b top := by
  have P := plain_wk (n := (need : Int)) (top := (top : Int)) (by omega) (by omega) (by omega)
  obtain ⟨_, n1, n2⟩ := after_wk hb hd P
  have e1 : (plainW (need : Int) (top : Int) 1).need = need := rfl
  have e2 : (plainW (need : Int) (top : Int) 1).most = top := rfl
  refine List.ext_getElem? fun k => ?_
  have gt : ∀ (d : Slt), k < top → (stL d b top)[k]? = some (WK.stH d b (k : Int)) := fun d h => by
    unfold stL
    rw [List.getElem?_map, List.getElem?_range h]
    rfl
  by_cases h2 : k < top
  · rw [gt _ h2]
    unfold stepsA
    by_cases hk : k < need
    · rw [List.getElem?_append_left (by simpa using hk), List.getElem?_replicate, if_pos hk]
      unfold WK.stH
      rw [n1, e1, if_pos (by omega)]
    · rw [List.getElem?_append_right (by simpa using hk), List.length_replicate, List.getElem?_map, List.getElem?_drop, show need + (k - need) = k by omega, gt d h2]
      have bd := stH_bd (s := d) (x := (k : Int)) hb
      have sl := after_slope (b := b) hd.len P.len (x := (k : Int)) (by rw [e1]; omega) (by rw [e2]; omega)
      rw [e1, plain_slope (by omega) (by omega)] at sl
      show some (mn b (WK.stH d b k + 1)) = some (WK.stH _ b k)
      have r : WK.stH (afterW d (plainW need top 1) b) b k = clampZ ((afterW d (plainW need top 1) b).slopes.getD ((k : Int) - need).toNat 0) b := by
        conv => lhs; unfold WK.stH
        rw [n1, n2, e1, e2, if_neg (by omega), if_pos (by omega)]
      rw [r, sl]
      unfold clampZ
      rw [mn_eq, mn_eq, mx_eq]
      congr 1
      omega
  · rw [List.getElem?_eq_none, List.getElem?_eq_none (by rw [stL_len]; omega)]
    unfold stepsA
    simp [stL_len]
    omega
theorem steps_zero {b : Int} {top : Nat} : List.replicate top b = stL w0 b top := by
  unfold stL
  refine List.ext_getElem (by simp) fun k h1 h2 => ?_
  rw [List.getElem_replicate, List.getElem_map, List.getElem_range]
  unfold WK.stH
  show b = if (k : Int) < 0 then 0 else if (k : Int) < 0 then _ else b
  rw [if_neg (by omega), if_neg (by omega)]
theorem held_take {d : Slt} {b : Int} {top : Nat} (hd : d.Wk) : ∀ n : Nat, n ≤ top → heldWorth d b n = heldWorth d b 0 + ((stL d b top).take n).sum
  | 0, _ => by simp
  | n + 1, hn => by
    have ih := held_take (b := b) (top := top) hd n (by omega)
    have hn' : n < top := by omega
    have e : (stL d b top)[n]? = some (WK.stH d b (n : Int)) := by
      unfold stL
      rw [List.getElem?_map, List.getElem?_range hn']
      rfl
    rw [take_sum e, show (((n + 1 : Nat) : Int)) = (n : Int) + 1 by omega, held_step hd.len, ih]
    omega
theorem held_zero {d : Slt} {b : Int} (hd : d.Wk) (hb : 0 ≤ b) : heldWorth d b 0 = leastW d := held_low hd hb (by have := hd.lo; have := (lowW_in hd).1; omega)
theorem least_plain {d : Slt} {b : Int} {need top : Nat} (hb : 0 ≤ b) (hd : d.Wk) (h : need ≤ top) (ht : top ≤ 1000) : leastW d + (need + ((stL d b top).take need).sum) = leastW (afterW d (plainW need top 1) b) := by
  have P := plain_wk (n := (need : Int)) (top := (top : Int)) (by omega) (by omega) (by omega)
  obtain ⟨aw, n1, n2⟩ := after_wk hb hd P
  have c := after_cost (b := b) hd.len P.len 0 (by show ((need : Int)) + ((0 : Nat) : Int) ≤ top; omega)
  have e1 : (plainW (need : Int) (top : Int) 1).need = need := rfl
  have e2 : (plainW (need : Int) (top : Int) 1).most = top := rfl
  have lw : lowW (afterW d (plainW need top 1) b) = need := by
    have l1 := lowW_in aw
    rw [n1, n2, e1, e2] at l1
    by_cases q : lowW (afterW d (plainW need top 1) b) = need
    · exact q
    · have i := low_iff aw (x := (need : Int)) (by rw [n1, e1]; omega) (by rw [n2, e2]; omega)
      have sl := after_slope (b := b) hd.len P.len (x := (need : Int)) (by rw [e1]; omega) (by rw [e2]; omega)
      rw [e1, plain_slope (by omega) (by omega)] at sl
      have bd := stH_bd (s := d) (x := (need : Int)) hb
      rw [n1, e1] at i
      rw [sl] at i
      omega
  have hh := held_take (b := b) (top := top) hd need h
  rw [held_zero hd hb] at hh
  unfold leastW at *
  rw [lw]
  rw [e1, show (need : Int) + ((0 : Nat) : Int) = need by omega, plain_cost] at c
  rw [c, hh]
  omega
/-- a need row of numbers up to top -/
structure Ndt (ns : List Int) (top : Int) : Prop where
  len : ns.length ≤ 1000
  rng : ∀ z ∈ ns, 0 ≤ z ∧ z ≤ top
theorem Ndt.nd {ns : List Int} {top : Int} (h : Ndt ns top) (h0 : 0 ≤ top) (i : Nat) : 0 ≤ WK.nd ns i ∧ WK.nd ns i ≤ top := by
  unfold WK.nd
  rw [List.getD_eq_getElem?_getD]
  cases e : ns[i]? with
  | none => exact ⟨Int.le_refl 0, h0⟩
  | some z => exact h.rng z (List.mem_of_getElem? e)
theorem plainS_wk {ns : List Int} {top : Int} (h : Ndt ns top) (ht : top ≤ 1000) : ∀ s ∈ plainS ns top, s.Wk := fun s hs => by
  obtain ⟨n, hn, rfl⟩ := List.mem_map.mp hs
  have := h.rng n hn
  exact plain_wk this.1 this.2 (by omega)
theorem rep_ones {b : Int} {n : Nat} : (List.replicate n [D.int b]).flatten = (List.replicate n b).map D.int := rep_map
theorem seqs_any {d : D} {ns : List Int} (h : d = .tup (ns.map .int) ∨ d = .lst (ns.map .int)) : seqsD d = some (ns.map .int) := by rcases h with rfl | rfl <;> rfl
theorem ready_steps_ok (ns : List Int) (most : Nat) (b : Int) (dn : D) (hd : dn = .tup (ns.map .int) ∨ dn = .lst (ns.map .int)) (h : Ndt ns most) (hm : most ≤ 1000) (hb : 0 ≤ b) : vof (F_ready_steps [.int b, .int most, dn]) = some (.tup ((stL (lastW w0 b (plainS ns most)) b most).map .int)) := by
  have hw := plainS_wk h (by omega)
  unfold F_ready_steps
  refine fn_val rfl ?_
  unfold f_ready_steps
  walk_at "bv"
  refine ⟨by omega, by omega, _, seqs_any hd, ?_⟩
  rw [rep_map, steps_zero]
  refine for_inv (fun j ρ => ∃ c, ρ = [some (.int b), some (.int most), some dn, some (.tup ((stL (lastW w0 b (plainS (ns.take j) most)) b most).map .int)), c]) ⟨_, rfl⟩ ?_ ?_
  · rintro j d ρ hdd ⟨c, rfl⟩
    obtain ⟨z, hj, rfl⟩ := map_at hdd
    have rz := h.rng z (List.mem_of_getElem? hj)
    obtain ⟨m, rfl⟩ := Int.eq_ofNat_of_zero_le rz.1
    have W := lastW_wk hb (plainS (ns.take j) most) fun s hs => by
      obtain ⟨n, hn, rfl⟩ := List.mem_map.mp hs
      exact hw _ (List.mem_map.mpr ⟨n, List.mem_of_mem_take hn, rfl⟩)
    have so := steps_after_ok (stL (lastW w0 b (plainS (ns.take j) most)) b most) m b (by rw [stL_len]; omega) (by omega)
    rw [steps_plain hb W (by omega) hm] at so
    refine ⟨_, rfl, ?_⟩
    walk_at "bv"
    refine ⟨_, so, ?_⟩
    rw [plainS_at hj, lastW_snoc]
    exact ⟨_, rfl⟩
  · rintro ρ ⟨c, rfl⟩
    rw [List.length_map, List.take_length]
    walk_at "bv"
theorem least_steps_ok (ns : List Int) (top : Nat) (b : Int) (dn : D) (hd : dn = .tup (ns.map .int) ∨ dn = .lst (ns.map .int)) (h : Ndt ns top) (hm : top ≤ 1000) (hb : 0 ≤ b) : vof (F_least_by_steps [.int b, dn]) = some (.int (layC ns b ns.length)) := by
  obtain ⟨t, et, ht, hr⟩ : ∃ t : Nat, (maxI ns).getD 0 = t ∧ t ≤ 1000 ∧ Ndt ns t := by
    cases ns with
    | nil => exact ⟨0, rfl, by omega, ⟨by simp, fun z hz => nomatch hz⟩⟩
    | cons n ns =>
      have fm := foldl_max (ns := ns) (n := n)
      have r1 := h.rng _ fm.1
      refine ⟨(ns.foldl max n).toNat, ?_, by omega, ⟨h.len, fun z hz => ?_⟩⟩
      · show ns.foldl max n = _
        omega
      · have r2 := h.rng z hz
        have r3 := fm.2 z hz
        omega
  have hw := plainS_wk hr (by omega)
  have pl := plain_least (b := b) hb (fun i => (hr.nd (by omega) i).1) (fun i => (hr.nd (by omega) i).2) (by omega : (t : Int) ≤ 1000)
  have em : maxDflt 0 dn = some (.int t) := by
    rcases hd with rfl | rfl
    · rw [o_maxDT, et]
    · rw [o_maxDL, et]
  unfold F_least_by_steps
  refine fn_val rfl ?_
  unfold f_least_by_steps
  walk_at "bv"
  rw [em]
  walk_at "bv"
  refine ⟨by omega, by omega, _, seqs_any hd, ?_⟩
  rw [rep_map, steps_zero]
  refine for_inv (fun j ρ => ∃ c, ρ = [some (.int b), some dn, some (.tup ((stL (lastW w0 b (plainS (ns.take j) t)) b t).map .int)), some (.int (leastW (lastW w0 b (plainS (ns.take j) t)))), c]) ⟨_, rfl⟩ ?_ ?_
  · rintro j d ρ hdd ⟨c, rfl⟩
    obtain ⟨z, hj, rfl⟩ := map_at hdd
    have rz := hr.rng z (List.mem_of_getElem? hj)
    obtain ⟨m, rfl⟩ := Int.eq_ofNat_of_zero_le rz.1
    have W := lastW_wk hb (plainS (ns.take j) t) fun s hs => by
      obtain ⟨n, hn, rfl⟩ := List.mem_map.mp hs
      exact hw _ (List.mem_map.mpr ⟨n, List.mem_of_mem_take hn, rfl⟩)
    have so := steps_after_ok (stL (lastW w0 b (plainS (ns.take j) t)) b t) m b (by rw [stL_len]; omega) (by omega)
    rw [steps_plain hb W (by omega) ht] at so
    have gr := growth_ok (stL (lastW w0 b (plainS (ns.take j) t)) b t) m
    have lp := least_plain hb W (need := m) (top := t) (by omega) ht
    refine ⟨_, rfl, ?_⟩
    walk_at "bv"
    refine ⟨_, gr, ?_⟩
    walk_at "bv"
    refine ⟨_, so, ?_⟩
    rw [plainS_at hj, lastW_snoc, ← lp]
    exact ⟨_, rfl⟩
  · rintro ρ ⟨c, rfl⟩
    rw [List.length_map, List.take_length]
    walk_at "bv"
    rw [pl]
theorem need_costs_ok (ns : List Int) (most : Nat) (h : Ndt ns most) (hm : most ≤ 900) : vof (F_law_need_costs [.tup (ns.map .int), .int most]) = some (.lst ((plainS ns most).map cdD)) := by
  unfold F_law_need_costs
  refine fn_val rfl ?_
  unfold f_law_need_costs
  walk_at "bv"
  refine lc_all D.int (fun z => cdD (plainW z most 1)) (kil h.len) (fun z hz => ⟨_, rfl, rfl, ?_, ?_⟩) ?_
  · walk_at "bv"
  · have rz := h.rng z hz
    walk_at "bv"
    refine ⟨?_, ?_⟩
    · unfold big
      rw [decide_eq_true (show -(2 ^ 62) ≤ z by omega), decide_eq_true (show z < 2 ^ 62 by omega), decide_eq_true (show -(2 ^ 62) ≤ (most : Int) + 1 by omega), decide_eq_true (show (most : Int) + 1 < 2 ^ 62 by omega)]
      rfl
    show ∃ out ρ2, lcE _ _ _ _ ((List.range ((most : Int) + 1 - z).toNat).map fun (i : Nat) => D.int (z + (i : Int))) _ [] = some (out, ρ2) ∧ _
    refine lc_all (fun i : Nat => D.int (z + (i : Int))) (fun i => D.tup [.int (z + (i : Int)), .int (z + (i : Int))]) (by rw [List.length_range]; exact kil (by omega)) (fun i hi => ⟨_, rfl, rfl, ?_, ?_⟩) ?_
    · walk_at "bv"
    · walk_at "bv"
    · walk_at "bv"
      rw [pairs_map (f := fun i : Nat => .inl (z + (i : Int))) (kd := fun i : Nat => D.int (z + (i : Int))) (g := fun i : Nat => D.int (z + (i : Int))) (fun _ => rfl)]
      have ek : (List.range ((most : Int) + 1 - z).toNat).map (fun (i : Nat) => ((Sum.inl (z + (i : Int)) : Key), D.int (z + (i : Int)))) = cdK (plainW z most 1) ((plainW z most 1).slopes.length + 1) := by
        have el : (plainW z most 1).slopes.length = ((most : Int) - z).toNat := List.length_replicate ..
        rw [el, show ((most : Int) + 1 - z).toNat = ((most : Int) - z).toNat + 1 by omega]
        unfold cdK
        refine List.map_congr_left fun i hi => ?_
        have hi := List.mem_range.mp hi
        show _ = ((Sum.inl (z + (i : Int)) : Key), D.int (z * 1 + ((List.replicate ((most : Int) - z).toNat (1 : Int)).take i).sum))
        rw [List.take_replicate, List.sum_replicate_int, Int.mul_one, Nat.min_eq_left (by omega)]
        simp
      rw [ek]
      exact ⟨_, congrArg (fun z => some (D.dct z)) (merge_cd _), rfl⟩
  · unfold plainS
    rw [List.map_map]
    exact ⟨rfl, rfl⟩
theorem nums_ready {s : Slt} {b x : Int} (h : s.Wk) (hb : 0 ≤ b) : minI ((numsL s (s.slopes.length + 1)).map fun y => s.first + (s.slopes.take (y - s.need).toNat).sum + b * up (x - y)) = some (heldWorth s b x) := by
  have e : ((numsL s (s.slopes.length + 1)).map fun y => s.first + (s.slopes.take (y - s.need).toNat).sum + b * up (x - y)) = fromL s b x (s.slopes.length + 1) := by
    unfold numsL fromL
    rw [List.map_map]
    refine List.map_congr_left fun k hk => ?_
    show s.first + (s.slopes.take (s.need + (k : Int) - s.need).toNat).sum + b * up (x - (s.need + (k : Int))) = _
    rw [show (s.need + (k : Int) - s.need).toNat = k by omega]
  rw [e]
  refine minI_by ?_ fun m h1 h2 => from_least h hb h1 h2
  rw [fromL_succ]
  exact List.append_ne_nil_of_right_ne_nil _ (by simp)
theorem ready_ok (ns : List Int) (most : Nat) (b : Int) (h : Ndt ns most) (hm : most ≤ 900) (hb : 0 ≤ b ∧ b < 2 ^ 64) : vof (F_law_ready [.tup (ns.map .int), .int most, .int b]) = some (.lst (((List.range (most + 1)).map fun (x : Nat) => heldWorth (lastW w0 b (plainS ns most)) b (x : Int)).map .int)) := by
  have hw := plainS_wk h (by omega)
  have pl : (plainS ns most).length = ns.length := plainS_len
  have nc := need_costs_ok ns most h hm
  have go := going_ok (plainS ns most) b hw (by rw [pl]; exact h.len) hb
  have W := lastW_wk hb.1 _ hw
  have k1 := W.len.len
  have k2 := W.len.wide
  unfold F_law_ready
  refine fn_val rfl ?_
  unfold f_law_ready
  walk_at "bv0"
  refine ⟨_, nc, _, go, ?_⟩
  walk_at "bv0"
  refine Wp.mono (P := fun d ρ => d = cdD (lastW w0 b (plainS ns most)) ∧ ρ = [some (.tup (ns.map .int)), some (.int most), some (.int b), some (.lst ((worksW w0 b (plainS ns most)).map cdD)), none, none, none]) ?_ ?_
  · walk_at "bv"
    rw [List.isEmpty_map]
    cases hn : plainS ns most with
    | nil => rfl
    | cons a as =>
      rw [if_pos (by rfl), last_cd (by simp)]
      exact ⟨_, rfl, rfl⟩
  · rintro _ _ ⟨rfl, rfl⟩
    rw [cdD_eq]
    walk_at "bv"
    refine ⟨big_nat (n := most + 1) (by omega), ?_⟩
    rw [show ((most : Int) + 1).toNat = most + 1 by omega, rng_map]
    refine lc_all (fun i : Nat => D.int ((0 : Int) + (i : Nat))) (fun x => D.int (heldWorth (lastW w0 b (plainS ns most)) b (x : Int))) (by rw [List.length_range]; exact kil (by omega)) (fun x hx => ⟨_, rfl, rfl, ?_, ?_⟩) ?_
    · walk_at "bv"
    · have hx := List.mem_range.mp hx
      walk_at "bv"
      rw [cdK_keys]
      refine lc_all D.int (fun y => D.int ((lastW w0 b (plainS ns most)).first + ((lastW w0 b (plainS ns most)).slopes.take (y - (lastW w0 b (plainS ns most)).need).toNat).sum + b * up ((0 : Int) + (x : Int) - y))) ?_ (fun y hy => ⟨_, rfl, rfl, ?_, ?_⟩) ?_
      · rw [numsL_len]
        exact Nat.le_trans (show (lastW w0 b (plainS ns most)).slopes.length + 1 ≤ 5000 by omega) (by decide)
      · walk_at "bv"
      · obtain ⟨k, hk, rfl⟩ := List.mem_map.mp hy
        have hk := List.mem_range.mp hk
        walk_at "bv"
        rw [cdK_at hk, show ((lastW w0 b (plainS ns most)).need + (k : Int) - (lastW w0 b (plainS ns most)).need).toNat = k by omega]
        walk_at "bv"
        exact ⟨bnd_mul ⟨by omega, by omega⟩, rfl⟩
      · rw [map_int, o_minL, nums_ready W hb.1]
        walk_at "bv"
        rw [show (0 : Int) + (x : Int) = (x : Int) by omega]

    · exact ⟨by rw [List.map_map]; rfl, rfl⟩
theorem due_steps {d : Slt} {b : Int} {most : Nat} (hd : d.Len) {i : Nat} : heldWorth d b ((i + 1 : Nat) : Int) - heldWorth d b (i : Int) = WK.stH d b (i : Int) := by
  rw [show (((i + 1 : Nat) : Int)) = (i : Int) + 1 by omega, held_step hd]
  omega
def prT (p : Int × Int) : D := .tup [.int p.1, .int p.2]
theorem zip_pairs {os : List Int} : List.zipWith (fun a b => (a, b)) os (os.drop 1) = (List.range (os.length - 1)).map fun j => (os.getD j 0, os.getD (j + 1) 0) := by
  refine List.ext_getElem? fun j => ?_
  rw [List.getElem?_zipWith, List.getElem?_drop, List.getElem?_map]
  by_cases h : j < os.length - 1
  · rw [List.getElem?_eq_getElem (show j < os.length by omega), List.getElem?_eq_getElem (show 1 + j < os.length by omega), List.getElem?_range h]
    show some (os[j], os[1 + j]) = some (os.getD j 0, os.getD (j + 1) 0)
    rw [List.getD_eq_getElem?_getD, List.getD_eq_getElem?_getD, List.getElem?_eq_getElem (show j < os.length by omega), List.getElem?_eq_getElem (show j + 1 < os.length by omega)]
    simp [Nat.add_comm]
  · rw [List.getElem?_eq_none (l := os) (i := 1 + j) (by omega), List.getElem?_eq_none (l := List.range (os.length - 1)) (by rw [List.length_range]; omega)]
    cases os[j]? <;> rfl
theorem onL_len' {ns : List Int} {k : Int} : (onL ns k ns.length).length ≤ ns.length := by
  unfold onL
  rw [List.length_map]
  exact Nat.le_trans (List.length_filter_le ..) (by rw [List.length_range]; exact Nat.le_refl _)
theorem gaps_ok (ns : List Int) (k : Int) (h : ns.length ≤ 1000) : vof (F_law_gaps [.tup (ns.map .int), .int k]) = some (.lst ((gapsL ns k).map prT)) := by
  unfold F_law_gaps
  refine fn_val rfl ?_
  unfold f_law_gaps
  walk_at "bv"
  refine ⟨big_nat (by omega), ?_⟩
  rw [rng_map]
  refine lc_at (fun i : Nat => D.int ((0 : Int) + (i : Nat))) (fun t => decide (k ≤ ns.getD t 0)) (fun t => D.int ((0 : Int) + (t : Nat))) (by rw [List.length_range]; exact kil h) (fun i hi => ⟨_, rfl, rfl, ?_, fun _ => ?_⟩) ?_
  · have hi := List.mem_range.mp hi
    walk_at "bv"
    rw [row_at hi]
    walk_at "bv"
  · walk_at "bv"
  · have eo : ((List.range ns.length).filter fun t => decide (k ≤ ns.getD t 0)).map (fun (t : Nat) => D.int ((0 : Int) + (t : Int))) = (onL ns k ns.length).map .int := by
      unfold onL
      rw [List.map_map]
      refine List.map_congr_left fun t _ => ?_
      show D.int (0 + (t : Int)) = D.int (t : Int)
      rw [Int.zero_add]
    rw [eo]
    have ol := onL_len' (ns := ns) (k := k)
    have hg : gapsL ns k = pairsL (onL ns k ns.length) ((onL ns k ns.length).length - 1) := rfl
    rw [hg]
    generalize onL ns k ns.length = os at ol
    walk_at "bv"
    have cd : cutD (os.map D.int) (some 1) none = (os.drop 1).map .int := cutD_from (n := 1)
    rw [cd, zip_map]
    refine lc_at _ (fun ab : Int × Int => decide (ab.1 + 1 < ab.2)) (fun ab => D.tup [.int (ab.1 + 1), .int (ab.2 - ab.1 - 1)]) (by rw [List.length_zipWith]; exact kil (by omega)) (fun a ha => ⟨_, rfl, rfl, ?_, fun _ => ?_⟩) ?_
    · walk_at "bv"
    · walk_at "bv"
    · rw [zip_pairs, List.filter_map, List.map_map]
      refine ⟨?_, rfl⟩
      unfold pairsL
      rw [List.map_map]
      congr 1
      have ef : ((fun ab : Int × Int => decide (ab.1 + 1 < ab.2)) ∘ fun j => (os.getD j 0, os.getD (j + 1) 0)) = fun j => decide (1 < os.getD (j + 1) 0 - os.getD j 0) := by
        funext j
        show decide (os.getD j 0 + 1 < os.getD (j + 1) 0) = _
        exact decide_eq_decide.mpr (by omega)
      rw [ef]

theorem topV_le {ns : List Int} {M : Int} (h0 : 0 ≤ M) (h : ∀ i, WK.nd ns i ≤ M) : ∀ t, topV ns t ≤ M
  | 0 => h0
  | t + 1 => by
    have h1 := topV_le h0 h t
    have h2 := h t
    show max _ _ ≤ _
    omega
theorem max_top {ns : List Int} {top : Int} (h : Ndt ns top) (h0 : 0 ≤ top) : ns.foldl max 0 = topV ns ns.length := by
  have fm := foldl_max (ns := ns) (n := 0)
  refine Int.le_antisymm ?_ ?_
  · rcases List.mem_cons.mp fm.1 with e | e
    · rw [e]; exact top_nn _
    · obtain ⟨i, hi, e⟩ := List.mem_iff_getElem.mp e
      have := top_ge (ns := ns) ns.length i hi
      rw [← e]
      refine Int.le_trans (Int.le_of_eq ?_) this
      unfold WK.nd
      rw [List.getD_eq_getElem?_getD, List.getElem?_eq_getElem hi]
      rfl
  · refine topV_le (fm.2 0 (by simp)) (fun i => ?_) _
    unfold WK.nd
    rw [List.getD_eq_getElem?_getD]
    cases e : ns[i]? with
    | none => exact fm.2 0 (by simp)
    | some z => exact fm.2 z (List.mem_cons_of_mem _ (List.mem_of_getElem? e))
theorem layers_ok (ns : List Int) (b top : Int) (h : Ndt ns top) (h0 : 0 ≤ top) (h1 : top ≤ 1000) : vof (F_law_layers_cost [.tup (ns.map .int), .int b]) = some (.int (layC ns b ns.length)) := by
  have tn := top_nn (ns := ns) ns.length
  have tl := topV_le (ns := ns) h0 (fun i => (h.nd h0 i).2) ns.length
  unfold F_law_layers_cost
  refine fn_val rfl ?_
  unfold f_law_layers_cost
  walk_at "bv"
  have hl := h.len
  refine ⟨Nat.le_trans (show 1 + ns.length ≤ 5000 by omega) (by decide), ?_⟩
  rw [← List.map_cons (f := D.int), o_maxL]
  have em : maxI (0 :: ns) = some (topV ns ns.length) := congrArg some (max_top h h0)
  rw [em]
  walk_at "bv"
  refine ⟨?_, ?_⟩
  · unfold big
    rw [decide_eq_true (show -(2 ^ 62) ≤ topV ns ns.length + 1 by omega), decide_eq_true (show topV ns ns.length + 1 < 2 ^ 62 by omega)]
    rfl
  refine for_inv (fun j ρ => ∃ c3 c4 c5, ρ = [some (.tup (ns.map .int)), some (.int b), some (.int (lawLay ns b j)), c3, c4, c5]) ⟨_, _, _, rfl⟩ ?_ ?_
  · rintro j d ρ hd ⟨c3, c4, c5, rfl⟩
    have hj := (List.getElem?_eq_some_iff.mp hd).1
    rw [rangeL_len] at hj
    rw [rangeL_at hj] at hd
    cases hd
    have ga := gaps_ok ns (1 + (j : Int)) hl
    have gl := gapsL_len (ns := ns) (k := 1 + (j : Int))
    refine ⟨_, rfl, ?_⟩
    walk_at "bv"
    refine ⟨_, ga, ?_⟩
    walk_at "bv"
    refine lc_all prT (fun g => D.int (mn g.2 b)) (kil (by omega)) (fun a ha => ⟨_, rfl, rfl, ?_, ?_⟩) ?_
    · walk_at "bv"
    · walk_at "bv"
    · rw [map_int]
      walk_at "bv"
      have e : ((gapsL ns (1 + (j : Int))).map fun g => mn g.2 b).sum = gsum b (gapsL ns (1 + (j : Int))) := by
        unfold gsum
        exact congrArg List.sum (List.map_congr_left fun g _ => mn_eq _ _)
      have e2 : lawLay ns b (j + 1) = lawLay ns b j + b + gsum b (gapsL ns (1 + (j : Int))) := by
        rw [lawLay]
      rw [e, e2]
      generalize lawLay ns b j + b + gsum b (gapsL ns (1 + (j : Int))) = q
      exact ⟨_, _, _, rfl⟩
  · rintro ρ ⟨c3, c4, c5, rfl⟩
    rw [rangeL_len, show (topV ns ns.length + 1 - 1).toNat = (topV ns ns.length).toNat by omega]
    walk_at "bv"
    rw [lawLay_top]
theorem draw_needs_ok (s : Sr) (ticks most : Nat) (ht : ticks ≤ 900) (hm0 : 1 ≤ most) (hm1 : most ≤ 900) : ∃ (ns : List Int) (s' : Sr), F_law_draw_needs [.src s, .int ticks, .int most] = some (.tup (ns.map .int), [.src s', .int ticks, .int most]) ∧ ns.length = ticks ∧ ∀ z ∈ ns, 0 ≤ z ∧ z ≤ most := by
  obtain ⟨d, as, e, ns, rfl, s', rfl, h1, h2⟩ : ∃ d as, F_law_draw_needs [.src s, .int ticks, .int most] = some (d, as) ∧ ∃ ns : List Int, d = .tup (ns.map .int) ∧ ∃ s' : Sr, as = [.src s', .int ticks, .int most] ∧ ns.length = ticks ∧ ∀ z ∈ ns, 0 ≤ z ∧ z ≤ most := by
    have pr0 := pickR_lt (s := s) (many := 4) (by decide)
    unfold F_law_draw_needs
    refine fn_res rfl ?_
    unfold f_law_draw_needs
    refine ws_seq.mpr ?_
    walk_at "bv1"
    refine ⟨_, _, _, pick_ok _ 4 (by decide), ?_⟩
    generalize pickR s 4 = way at pr0
    refine sq_step (ws_seq.mpr ?_)
    refine Wss.mono (Q := fun r => ∃ (found : List Int) (s' : Sr) (c5 c6 : Option D), r = .nx [some (.src s'), some (.int ticks), some (.int most), some (.int way), some (.lst (found.map .int)), c5, c6] ∧ ticks ≤ found.length ∧ ∀ z ∈ found, 0 ≤ z ∧ z ≤ (most : Int)) ?_ ?_
    · refine while_inv (fun m ρ => ∃ (found : List Int) (s' : Sr) (c5 c6 : Option D), ρ = [some (.src s'), some (.int ticks), some (.int most), some (.int way), some (.lst (found.map .int)), c5, c6] ∧ m + found.length = ticks + 20 ∧ ∀ z ∈ found, 0 ≤ z ∧ z ≤ (most : Int)) (n := ticks + 20) ⟨[], _, _, _, rfl, rfl, fun z hz => nomatch hz⟩ (Nat.lt_of_le_of_lt (show ticks + 20 ≤ 1000 by omega) (by unfold FUEL; decide)) ?_
      rintro m ρ ⟨found, s', c5, c6, rfl, hlen, hf⟩
      have pa := pickR_lt (s := s') (many := (most : Int) + 1) (by omega)
      have sz : ∀ n : Nat, n ≤ 5000 → n ≤ sizeLine := fun n h => Nat.le_trans h (by decide)
      walk_at "bv0"
      by_cases hl : (found.length : Int) < ticks
      · rw [if_pos hl]
        by_cases w0 : way = 0
        · rw [if_pos w0]
          refine ⟨_, _, _, pick_ok _ _ (by omega), ?_⟩
          walk_at "bv0"
          refine ⟨Nat.lt_of_lt_of_le (show found.length < 2000 by omega) (by decide), m - 1, by omega, found ++ [pickR s' (most + 1)], _, _, _, by rw [List.map_append]; rfl, by rw [List.length_append]; show m - 1 + (found.length + 1) = _; omega, fun z hz => ?_⟩
          rcases List.mem_append.mp hz with hz | hz
          · exact hf z hz
          · have : z = pickR s' (most + 1) := by simpa using hz
            omega
        · rw [if_neg w0]
          by_cases w1 : way = 1
          · rw [if_pos w1]
            have p1 := pickR_lt (s := s') (many := (most : Int)) (by omega)
            have p2 := pickR_lt (s := pickS s' most) (many := 3) (by decide)
            have p3 := pickR_lt (s := pickS (pickS s' most) 3) (many := 9) (by decide)
            refine ⟨_, _, _, pick_ok _ _ (by omega), ?_⟩
            walk_at "bv0"
            refine ⟨_, _, _, pick_ok _ _ (by decide), ?_⟩
            generalize pickR s' most = a1 at p1
            generalize pickR (pickS s' most) 3 = a2 at p2
            walk_at "bv0"
            rw [rep_map]
            walk_at "bv0"
            refine ⟨by omega, by omega, sz _ (by simp; omega), ?_⟩
            rw [← List.map_append]
            walk_at "bv0"
            rw [List.length_replicate]
            refine ⟨sz _ (by omega), _, _, _, pick_ok _ _ (by decide), ?_⟩
            generalize pickR (pickS (pickS s' most) 3) 9 = a3 at p3
            walk_at "bv0"
            rw [rep_map]
            walk_at "bv0"
            refine ⟨by omega, by omega, sz _ (by simp; omega), ?_⟩
            rw [← List.map_append]
            rw [List.length_append, List.length_replicate, List.length_replicate]
            refine ⟨sz _ (by omega), m - ((1 + a2).toNat + a3.toNat), by omega, (found ++ List.replicate (1 + a2).toNat (1 + a1)) ++ List.replicate a3.toNat 0, _, _, _, rfl, by rw [List.length_append, List.length_append, List.length_replicate, List.length_replicate]; omega, fun z hz => ?_⟩
            rcases List.mem_append.mp hz with hz | hz
            · rcases List.mem_append.mp hz with hz | hz
              · exact hf z hz
              · have := List.eq_of_mem_replicate hz
                omega
            · have := List.eq_of_mem_replicate hz
              omega
          · rw [if_neg w1]
            by_cases w2 : way = 2
            · rw [if_pos w2]
              refine Wp.mono (P := fun d ρ => ∃ (x : Int) (s2 : Sr), d = .int x ∧ ρ = [some (.src s2), some (.int ticks), some (.int most), some (.int way), some (.lst (found.map .int)), c5, c6]) ?_ ?_
              · walk_at "bv"
                rw [List.isEmpty_map]
                cases hx : found.getLast? with
                | none =>
                  have hn := List.getLast?_eq_none_iff.mp hx
                  subst hn
                  rw [if_neg (by decide)]
                  exact ⟨_, _, _, pick_ok _ _ (by omega), _, rfl, _, rfl⟩
                | some x =>
                  rw [if_pos (by cases e : found with
                    | nil => rw [e] at hx; exact nomatch hx
                    | cons a as => rfl)]
                  exact ⟨_, atI_last hx, _, rfl, _, rfl⟩
              · rintro _ _ ⟨x, s2, rfl, rfl⟩
                walk_at "bv0"
                refine ⟨_, _, _, pick_ok _ 5 (by decide), ?_⟩
                walk_at "bv0"
                have cl : 0 ≤ mn (most : Int) (mx 0 (x + pickR s2 5 - 2)) ∧ mn (most : Int) (mx 0 (x + pickR s2 5 - 2)) ≤ most := by rw [mn_eq, mx_eq]; omega
                generalize mn (most : Int) (mx 0 (x + pickR s2 5 - 2)) = y at cl
                refine ⟨Nat.lt_of_lt_of_le (show found.length < 2000 by omega) (by decide), m - 1, by omega, found ++ [y], _, _, _, by rw [List.map_append]; rfl, by rw [List.length_append]; show m - 1 + (found.length + 1) = _; omega, fun z hz => ?_⟩
                rcases List.mem_append.mp hz with hz | hz
                · exact hf z hz
                · have : z = y := by simpa using hz
                  omega
            · rw [if_neg w2]
              refine ⟨_, _, _, pick_ok _ _ (by omega), ?_⟩
              generalize pickR s' (most + 1) = a1 at pa
              obtain ⟨d7, s3, e7, m7⟩ := of_ok (pickS s' (most + 1)) [.int 0, .int 0, .int most, .int a1] (by simp) (by show 4 < 1073741824; decide)
              obtain ⟨y, rfl, y0, y1⟩ : ∃ z, d7 = .int z ∧ 0 ≤ z ∧ z ≤ (most : Int) := by
                simp only [List.mem_cons, List.not_mem_nil, or_false] at m7
                rcases m7 with rfl | rfl | rfl | rfl <;> exact ⟨_, rfl, by omega, by omega⟩
              have p2 := pickR_lt (s := s3) (many := 4) (by decide)
              refine ⟨_, _, _, e7, _, _, _, pick_ok _ 4 (by decide), ?_⟩
              generalize pickR s3 4 = a2 at p2
              walk_at "bv0"
              rw [rep_map]
              walk_at "bv0"
              refine ⟨by omega, by omega, sz _ (by simp; omega), ?_⟩
              rw [← List.map_append]
              rw [List.length_replicate]
              refine ⟨sz _ (by omega), m - (1 + a2).toNat, by omega, found ++ List.replicate (1 + a2).toNat y, _, _, _, rfl, by rw [List.length_append, List.length_replicate]; omega, fun z hz => ?_⟩
              rcases List.mem_append.mp hz with hz | hz
              · exact hf z hz
              · have := List.eq_of_mem_replicate hz
                omega
      · rw [if_neg hl]
        exact ⟨_, _, _, _, rfl, by omega, hf⟩
    · rintro _ ⟨found, s', c5, c6, rfl, hl, hf⟩
      refine sq_step ?_
      walk_at "bv1"
      rw [cutD_to (by omega), Int.toNat_natCast]
      refine ⟨_, rfl, found.take ticks, rfl, _, rfl, by rw [List.length_take]; omega, fun z hz => hf z (List.mem_of_mem_take hz)⟩
  exact ⟨ns, s', e, h1, h2⟩
theorem repr_k62 {st : List Int} {z : Int} (h : ∀ y ∈ st, y.natAbs < 10 ^ 150) (hl : st.length ≤ 1000) (hz : z.natAbs < 10 ^ 150) : ∃ x, reprX (.lst [.tup (st.map .int), .tup (st.map .int), .int z]) = some (.str x) := by
  have tp : toPy (.lst [.tup (st.map .int), .tup (st.map .int), .int z]) = some (.list [.tuple (intsD st), .tuple (intsD st), .int z]) := by
    rw [toPy, toPyL, toPy, toPyL_ints, toPyL, toPy, toPyL_ints, toPyL, toPy, toPyL]
    rfl
  refine ⟨PyData.shown (.list [.tuple (intsD st), .tuple (intsD st), .int z]), o_reprX ?_⟩
  show (toPy _).bind _ = some (D.str _)
  rw [tp, Option.bind_some]
  have ci := cost_ints (ns := st)
  refine if_pos (shB_of (shows_of ?_ ?_ ?_))
  · simp only [Lil, LilAll, and_true]
    exact ⟨lil_ints h, lil_ints h, hz⟩
  · simp only [PyData.depth, PyData.depthAll, depth_ints]
    omega
  · refine Nat.le_trans (m := 400000) ?_ (by decide)
    simp only [cost, costAll]
    omega
theorem mod_at {j : Nat} (h : j < 8) : ∃ t : Int, L2.atI [D.int 4, .int 12] (((0 : Int) + (j : Nat)) % 2) = some (.int t) ∧ 1 ≤ t ∧ t ≤ 12 := by
  rcases (by omega : j = 0 ∨ j = 1 ∨ j = 2 ∨ j = 3 ∨ j = 4 ∨ j = 5 ∨ j = 6 ∨ j = 7) with rfl | rfl | rfl | rfl | rfl | rfl | rfl | rfl <;> exact ⟨_, rfl, by decide, by decide⟩
theorem ready_at {f : Nat → Int} {n i : Nat} (h : i < n) {z : Int} (hz : z = (i : Int)) : L2.atI ((((List.range n).map f)).map D.int) z = some (.int (f i)) := by
  subst hz
  refine atI_get (by omega) ?_
  rw [Int.toNat_natCast, List.getElem?_map, List.getElem?_map, List.getElem?_range h]
  rfl
theorem p9 : (10 : Int) ^ (9 : Int).toNat = 1000000000 := by decide
theorem c9 : cPow 10 9 = true := by decide
theorem Ndt.ndw {ns : List Int} {top : Int} (h : Ndt ns top) (ht : top ≤ 1000000000) : Ndw ns := ⟨h.len, fun z hz => by have := h.rng z hz; omega⟩
theorem law_true62 (ns : List Int) (hn : ns.length ≤ 63) : ∃ as, F_law_K62 [.scr ns] = some (.bl true, as) := by
  obtain ⟨d, as, e, rfl⟩ : ∃ d as, F_law_K62 [.scr ns] = some (d, as) ∧ d = .bl true := by
    unfold F_law_K62
    refine fn_res rfl ?_
    unfold f_law_K62
    refine ws_seq.mpr ?_
    walk_at "bv1"
    refine ⟨.src (srcOf ns), source_ok hn, ?_⟩
    refine sq_step (ws_seq.mpr ?_)
    walk_at "bv1"
    refine ⟨by decide, ?_⟩
    have dt {p : Prop} [Decidable p] (h : p) : ¬ (!decide p) = true := by rw [decide_eq_true h]; decide
    refine Wss.mono (Q := fun r => ∃ (s : Sr) (c2 c3 c4 c5 c6 c7 c8 c9 : Option D), r = .nx [some (.scr ns), some (.src s), c2, c3, c4, c5, c6, c7, c8, c9])
      (for_inv (fun j ρ => ∃ (s : Sr) (c2 c3 c4 c5 c6 c7 c8 c9 : Option D), ρ = [some (.scr ns), some (.src s), c2, c3, c4, c5, c6, c7, c8, c9]) ⟨_, _, _, _, _, _, _, _, _, rfl⟩ ?_
        fun ρ ⟨s, c2, c3, c4, c5, c6, c7, c8, c9, e⟩ => ⟨s, c2, c3, c4, c5, c6, c7, c8, c9, by rw [e]⟩) ?_
    · rintro j d ρ hd ⟨s, c2, c3, c4, c5, c6, c7, c8, c9, rfl⟩
      have hj : j < 8 := by have := (List.getElem?_eq_some_iff.mp hd).1; rwa [rangeL_len] at this
      have ed : d = .int ((0 : Int) + (j : Nat)) := by rw [show Int.toNat 8 = 8 from rfl, rangeL_at hj] at hd; exact (Option.some.inj hd).symm
      subst ed
      have p1 := pickR_lt (s := s) (many := 6) (by decide)
      refine ⟨_, rfl, ?_⟩
      refine ws_seq.mpr ?_
      walk_at "bv1"
      refine ⟨_, _, _, pick_ok _ 6 (by decide), ?_⟩
      generalize pickR s 6 = m at p1
      walk_at "bv1"
      obtain ⟨t, et, t1, t2⟩ := mod_at hj
      rw [et]
      have p2 := pickR_lt (s := pickS s 6) (many := t) t1
      refine ⟨rfl, _, rfl, _, _, _, pick_ok _ _ (by omega), ?_⟩
      generalize pickR (pickS s 6) t = q at p2
      walk_at "bv1"
      obtain ⟨mm, emm⟩ := Int.eq_ofNat_of_zero_le (show 0 ≤ 1 + m by omega)
      have emm : 1 + m = (mm : Int) := emm
      generalize hb : 1 + q = b
      have hb1 : 1 ≤ b ∧ b ≤ 12 := by omega
      rw [emm]
      refine sq_step (ws_seq.mpr ?_)
      have p3 := pickR_lt (s := pickS (pickS s 6) t) (many := 20) (by decide)
      walk_at "bv1"
      refine ⟨_, _, _, pick_ok _ 20 (by decide), ?_⟩
      generalize pickR (pickS (pickS s 6) t) 20 = n0 at p3
      obtain ⟨n, rfl⟩ := Int.eq_ofNat_of_zero_le p3.1
      obtain ⟨nds, s3, e3, l3, r3⟩ := draw_needs_ok (pickS (pickS (pickS s 6) t) 20) n mm (by omega) (by omega) (by omega)
      have N : Ndt nds mm := ⟨by omega, r3⟩
      have hw := plainS_wk N (by omega)
      have W := lastW_wk (b := b) (by omega) _ hw
      walk_at "bv1"
      refine ⟨_, _, _, e3, ?_⟩
      have rd := ready_ok nds mm b N (by omega) ⟨by omega, by omega⟩
      refine sq_step (ws_seq.mpr ?_)
      walk_at "bv1"
      refine ⟨_, rd, ?_⟩
      refine sq_step (ws_seq.mpr ?_)
      walk_at "bv1"
      refine ⟨?_, ?_⟩
      · unfold big
        rw [decide_eq_true (show -(2 ^ 62) ≤ (mm : Int) + 1 by omega), decide_eq_true (show (mm : Int) + 1 < 2 ^ 62 by omega)]
        rfl
      rw [show ((mm : Int) + 1 - 1).toNat = mm by omega]
      show ∃ out ρ2, lcE _ _ _ _ ((List.range mm).map fun (i : Nat) => D.int (1 + (i : Int))) _ [] = some (out, ρ2) ∧ _
      refine lc_all (fun i : Nat => D.int (1 + (i : Int))) (fun i => D.int (WK.stH (lastW w0 b (plainS nds mm)) b (i : Int))) (by rw [List.length_range]; exact kil (by omega)) (fun i hi => ⟨_, rfl, rfl, ?_, ?_⟩) ?_
      · walk_at "bv1"
      · have hi := List.mem_range.mp hi
        walk_at "bv1"
        rw [ready_at (i := i + 1) (by omega) (by omega), ready_at (i := i) (by omega) (by omega)]
        walk_at "bv1"
        rw [due_steps (most := 0) W.len]
      · rw [map_int (f := fun i : Nat => WK.stH (lastW w0 b (plainS nds mm)) b (i : Int)), show (List.range mm).map (fun (i : Nat) => WK.stH (lastW w0 b (plainS nds mm)) b (i : Int)) = stL (lastW w0 b (plainS nds mm)) b mm from rfl]
        walk_at "bv1"
        have g1 := ready_steps_ok nds mm b _ (.inl rfl) N (by omega) (by omega)
        have g2 := ready_steps_ok nds mm b _ (.inr rfl) N (by omega) (by omega)
        have g3 := least_steps_ok nds mm b _ (.inl rfl) N (by omega) (by omega)
        refine sq_step (ws_seq.mpr ?_)
        walk_at "bv1"
        refine ⟨_, g1, _, g2, _, g3, ?_⟩
        have ls := lay_small (N.ndw (by omega)) (b := b) (by omega) (by omega)
        obtain ⟨x, rx⟩ := repr_k62 (st := stL (lastW w0 b (plainS nds mm)) b mm) (z := layC nds b nds.length) (fun y hy => by
          obtain ⟨i, _, rfl⟩ := List.mem_map.mp hy
          have := stH_bd (s := lastW w0 b (plainS nds mm)) (x := (i : Int)) (b := b) (by omega)
          exact Nat.lt_of_le_of_lt (show (WK.stH (lastW w0 b (plainS nds mm)) b (i : Int)).natAbs ≤ 12 by omega) (by decide)) (by rw [stL_len]; omega) ls
        have h0 : heldWorth (lastW w0 b (plainS nds mm)) b ((0 : Nat) : Int) = layC nds b nds.length := by
          rw [show ((0 : Nat) : Int) = 0 from rfl, held_zero W (by omega)]
          exact plain_least (by omega) (fun i => (N.nd (by omega) i).1) (fun i => (N.nd (by omega) i).2) (by omega)
        refine sq_step ?_
        walk_at "bv1"
        rw [ready_at (n := mm + 1) (i := 0) (z := 0) (Nat.succ_pos _) rfl, h0]
        refine ⟨_, rx, _, rfl, _, rx, _, o_neS, _, rfl, ?_⟩
        rw [if_neg (dt rfl)]
        exact ⟨_, _, _, _, _, _, _, _, _, rfl⟩
    · rintro _ ⟨s, c2, c3, c4, c5, c6, c7, c8, c9, rfl⟩
      refine sq_step (ws_seq.mpr ?_)
      walk_at "bv1"
      refine ⟨by decide, ?_⟩
      refine Wss.mono (Q := fun r => ∃ (s : Sr) (c2 c3 c4 c5 c6 c7 c8 c9 : Option D), r = .nx [some (.scr ns), some (.src s), c2, c3, c4, c5, c6, c7, c8, c9])
        (for_inv (fun j ρ => ∃ (s : Sr) (c2 c3 c4 c5 c6 c7 c8 c9 : Option D), ρ = [some (.scr ns), some (.src s), c2, c3, c4, c5, c6, c7, c8, c9]) ⟨_, _, _, _, _, _, _, _, _, rfl⟩ ?_
          fun ρ ⟨s, c2, c3, c4, c5, c6, c7, c8, c9, e⟩ => ⟨s, c2, c3, c4, c5, c6, c7, c8, c9, by rw [e]⟩) ?_
      · rintro j d ρ hd ⟨s, c2, c3, c4, c5, c6, c7, c8, c9, rfl⟩
        have p1 := pickR_lt (s := s) (many := 40) (by decide)
        have p2 := pickR_lt (s := pickS s 40) (many := 9) (by decide)
        refine ⟨_, rfl, ?_⟩
        refine ws_seq.mpr ?_
        walk_at "bv1"
        refine ⟨_, _, _, pick_ok _ 40 (by decide), ?_⟩
        walk_at "bv1"
        rw [BV.p9]
        refine ⟨BV.c9, _, _, _, pick_ok _ 9 (by decide), ?_⟩
        generalize pickR s 40 = m at p1
        generalize pickR (pickS s 40) 9 = q at p2
        walk_at "bv1"
        obtain ⟨d7, s3, e7, m7⟩ := of_ok (pickS (pickS s 40) 9) [.int 1, .int 5, .int 30, .int (1000000000 - q)] (by simp) (by show 4 < 1073741824; decide)
        obtain ⟨b, rfl, y0, y1⟩ : ∃ z, d7 = .int z ∧ 1 ≤ z ∧ z ≤ 1000000000 := by
          simp only [List.mem_cons, List.not_mem_nil, or_false] at m7
          rcases m7 with rfl | rfl | rfl | rfl <;> exact ⟨_, rfl, by omega, by omega⟩
        refine ⟨_, _, _, e7, ?_⟩
        obtain ⟨mm, emm⟩ := Int.eq_ofNat_of_zero_le (show 0 ≤ 1 + m by omega)
        have emm : 1 + m = (mm : Int) := emm
        rw [emm]
        obtain ⟨nds, s4, e4, l4, r4⟩ := draw_needs_ok s3 150 mm (by decide) (by omega) (by omega)
        have e4 : F_law_draw_needs [.src s3, .int 150, .int mm] = some (.tup (nds.map .int), [.src s4, .int 150, .int mm]) := e4
        have N : Ndt nds mm := ⟨by omega, r4⟩
        have g3 := least_steps_ok nds mm b _ (.inl rfl) N (by omega) (by omega)
        have g4 := layers_ok nds b mm N (by omega) (by omega)
        have ls := lay_small (N.ndw (by omega)) (b := b) (by omega) (by omega)
        have rx : reprX (.int (layC nds b nds.length)) = some (.str (toString (layC nds b nds.length))) := o_reprX (by
          show (if (layC nds b nds.length).natAbs.log2 < 1920 then _ else none) = _
          rw [if_pos (lil_int ls)])
        refine sq_step (ws_seq.mpr ?_)
        walk_at "bv1"
        refine ⟨_, _, _, e4, ?_⟩
        refine sq_step ?_
        walk_at "bv1"
        refine ⟨_, g3, _, rx, _, g4, _, rx, _, o_neS, _, rfl, ?_⟩
        rw [if_neg (dt rfl)]
        exact ⟨_, _, _, _, _, _, _, _, _, rfl⟩
      · rintro _ ⟨s, c2, c3, c4, c5, c6, c7, c8, c9, rfl⟩
        have g1 := ready_steps_ok [] 3 2 _ (.inl rfl) ⟨by simp, fun z hz => nomatch hz⟩ (by decide) (by decide)
        have g2 := least_steps_ok [] 0 5 _ (.inr rfl) ⟨by simp, fun z hz => nomatch hz⟩ (by decide) (by decide)
        have g3 := ready_steps_ok [1, 0, 0] 2 2 _ (.inr rfl) ⟨by simp, fun z hz => by simp at hz; omega⟩ (by decide) (by decide)
        have v1 : stL (lastW w0 2 (plainS [] 3)) 2 3 = [2, 2, 2] := by decide +kernel
        have v3 : stL (lastW w0 2 (plainS [1, 0, 0] 2)) 2 2 = [2, 2] := by decide +kernel
        have v2 : layC [] 5 ([] : List Int).length = 0 := by decide +kernel
        have g1 : vof (F_ready_steps [.int 2, .int 3, .tup []]) = some (.tup ((stL (lastW w0 2 (plainS [] 3)) 2 3).map .int)) := g1
        have g3 : vof (F_ready_steps [.int 2, .int 2, .lst [.int 1, .int 0, .int 0]]) = some (.tup ((stL (lastW w0 2 (plainS [1, 0, 0] 2)) 2 2).map .int)) := g3
        rw [v1] at g1
        rw [v2] at g2
        rw [v3] at g3
        have re : (reprE (.lst [D.tup [.int 2, .int 2, .int 2], .int 0, .tup [.int 2, .int 2]])).isSome = true := by decide +kernel
        obtain ⟨r, er⟩ := Option.isSome_iff_exists.mp re
        obtain ⟨x, rfl⟩ := reprE_str er
        have ex := o_reprX er
        refine sq_step (ws_seq.mpr ?_)
        walk_at "bv1"
        refine ⟨_, g1, _, g2, _, g3, ?_⟩
        refine sq_step ?_
        walk_at "bv1"
        refine ⟨_, ex, _, ex, _, o_eqS, ?_⟩
        rw [decide_eq_true rfl]
        exact ⟨_, rfl, rfl⟩
  exact ⟨as, e⟩
end BV
set_option Elab.async false
set_option linter.all false
set_option maxRecDepth 100000
namespace BV
open PySem PySem.Spec PyProof.Rows L2 WK
local macro_rules | `(tactic| walk_at "bv") => `(tactic| try simp only [ws_seq, sq_nx, sq_rt, sq_bk, sq_ct, ws_next, ws_brk, ws_cnt, ws_retN, ws_ret, ws_drop, ws_set, ws_asg, ws_if, ws_for, ws_append, ws_par2, ws_par3, ws_put, ws_seti, ws_aug,
  wp_rtn, wp_bnd, wp_lif, wp_getE, wp_b1, wp_b2, wp_b2o, wp_consA, wp_tupE, wp_lstE, wp_bt, wp_iteM, wp_andM, wp_orM, wp_notM, wp_andV, wp_orV, wp_notV, wp_slM, wp_chE, wp_callM, wp_callS, wp_itM, wp_itA, wp_keysM, wp_lcM,
  o_add, o_sub, o_mul, o_lt, o_le, o_gt, o_ge, o_maxM, o_minM, wipe0, wipe1, sz0, sz1, sz2, sz3, sz4, sz5, sz6, le1k, dec_if, o_neLN, o_neL1, o_neS, o_eqS, o_listEL, o_listET, o_listEK, o_neDE, o_dgetNI, o_dictP, o_reprXN, o_maxDL, o_items, o_maxDT, o_catL, o_mulL, wp_dsp1, List.length_map, Int.toNat_natCast, D.lst.injEq, D.dct.injEq, o_neg, o_abs, o_fdiv, o_fdivN, o_mod, o_modN, o_pow, o_int, o_isB, o_isI, o_truI, o_truL, o_truT, o_truB, o_truN, o_lenL, o_lenT, o_ixL, o_ixT, o_ixK, o_seqL, o_seqT, o_tupL, o_tupT, o_listL, o_listT, o_rev, o_slL, o_slT, o_sumL, o_sumT,
  o_maxL, o_minL, o_sorted, o_allL, o_anyL, o_vals, o_keyI, o_keyS, o_isN, o_eqI, o_neI, o_inK, o_ninK, o_zipLL, o_zipTT, o_zipLT, o_zipTL, o_enuL, o_enuT, o_rng1, o_rng2, o_addT, o_addL, o_mulT, atI0, atI1, atI2, atI3, if_some, true_if, false_if,
  tupG, consG, nilG, nameG, List.map_cons, List.map_nil, List.cons_append, List.nil_append, List.length_cons, List.length_nil, List.replicate, List.set_cons_zero, List.set_cons_succ, List.getElem?_cons_zero, List.getElem?_cons_succ, Nat.reduceAdd, Nat.reduceSub, Option.bind_some, Option.map_some, Option.some.injEq, if_true, exists_eq_left', exists_eq_left, and_assoc, exists_and_left,
  args_take, List.take_succ_cons, List.take_zero, allS_cons, allS_nil, and_true, true_and])
local macro_rules | `(tactic| walk_at "bv0") => `(tactic| try simp only [ws_seq, sq_nx, sq_rt, sq_bk, sq_ct, ws_next, ws_brk, ws_cnt, ws_retN, ws_ret, ws_drop, ws_set, ws_asg, ws_if, ws_for, ws_append, ws_par2, ws_par3, ws_put, ws_seti, ws_aug,
  wp_rtn, wp_bnd, wp_lif, wp_getE, wp_b1, wp_b2, wp_b2o, wp_consA, wp_tupE, wp_lstE, wp_bt, wp_andM, wp_orM, wp_notM, wp_andV, wp_orV, wp_notV, wp_slM, wp_chE, wp_callM, wp_callS, wp_itM, wp_itA, wp_keysM, wp_lcM,
  o_add, o_sub, o_mul, o_lt, o_le, o_gt, o_ge, o_maxM, o_minM, wipe0, wipe1, sz0, sz1, sz2, sz3, sz4, sz5, sz6, le1k, dec_if, o_neLN, o_neL1, o_neS, o_eqS, o_listEL, o_listET, o_listEK, o_neDE, o_dgetNI, o_dictP, o_reprXN, o_maxDL, o_items, o_maxDT, o_catL, o_mulL, wp_dsp1, List.length_map, Int.toNat_natCast, D.lst.injEq, D.dct.injEq, o_neg, o_abs, o_fdiv, o_fdivN, o_mod, o_modN, o_pow, o_int, o_isB, o_isI, o_truI, o_truL, o_truT, o_truB, o_truN, o_lenL, o_lenT, o_ixL, o_ixT, o_ixK, o_seqL, o_seqT, o_tupL, o_tupT, o_listL, o_listT, o_rev, o_slL, o_slT, o_sumL, o_sumT,
  o_maxL, o_minL, o_sorted, o_allL, o_anyL, o_vals, o_keyI, o_keyS, o_isN, o_eqI, o_neI, o_inK, o_ninK, o_zipLL, o_zipTT, o_zipLT, o_zipTL, o_enuL, o_enuT, o_rng1, o_rng2, o_addT, o_addL, o_mulT, atI0, atI1, atI2, atI3, if_some, true_if, false_if,
  tupG, consG, nilG, nameG, List.map_cons, List.map_nil, List.cons_append, List.nil_append, List.length_cons, List.length_nil, List.replicate, List.set_cons_zero, List.set_cons_succ, List.getElem?_cons_zero, List.getElem?_cons_succ, Nat.reduceAdd, Nat.reduceSub, Option.bind_some, Option.map_some, Option.some.injEq, if_true, exists_eq_left', exists_eq_left, and_assoc, exists_and_left,
  args_take, List.take_succ_cons, List.take_zero, allS_cons, allS_nil, and_true, true_and])
local macro_rules | `(tactic| walk_at "bv1") => `(tactic| try simp only [sq_rt, sq_bk, sq_ct, ws_next, ws_brk, ws_cnt, ws_retN, ws_ret, ws_drop, ws_set, ws_asg, ws_if, ws_for, ws_append, ws_par2, ws_par3, ws_put, ws_seti, ws_aug,
  wp_rtn, wp_bnd, wp_lif, wp_getE, wp_b1, wp_b2, wp_b2o, wp_consA, wp_tupE, wp_lstE, wp_bt, wp_andM, wp_orM, wp_notM, wp_andV, wp_orV, wp_notV, wp_slM, wp_chE, wp_callM, wp_callS, wp_itM, wp_itA, wp_keysM, wp_lcM,
  o_add, o_sub, o_mul, o_lt, o_le, o_gt, o_ge, o_maxM, o_minM, wipe0, wipe1, sz0, sz1, sz2, sz3, sz4, sz5, sz6, le1k, dec_if, o_neLN, o_neL1, o_neS, o_eqS, o_listEL, o_listET, o_listEK, o_neDE, o_dgetNI, o_dictP, o_reprXN, o_maxDL, o_items, o_maxDT, o_catL, o_mulL, wp_dsp1, List.length_map, Int.toNat_natCast, D.lst.injEq, D.dct.injEq, o_neg, o_abs, o_fdiv, o_fdivN, o_mod, o_modN, o_pow, o_int, o_isB, o_isI, o_truI, o_truL, o_truT, o_truB, o_truN, o_lenL, o_lenT, o_ixL, o_ixT, o_ixK, o_seqL, o_seqT, o_tupL, o_tupT, o_listL, o_listT, o_rev, o_slL, o_slT, o_sumL, o_sumT,
  o_maxL, o_minL, o_sorted, o_allL, o_anyL, o_vals, o_keyI, o_keyS, o_isN, o_eqI, o_neI, o_inK, o_ninK, o_zipLL, o_zipTT, o_zipLT, o_zipTL, o_enuL, o_enuT, o_rng1, o_rng2, o_addT, o_addL, o_mulT, atI0, atI1, atI2, atI3, if_some, true_if, false_if,
  tupG, consG, nilG, nameG, List.map_cons, List.map_nil, List.cons_append, List.nil_append, List.length_cons, List.length_nil, List.replicate, List.set_cons_zero, List.set_cons_succ, List.getElem?_cons_zero, List.getElem?_cons_succ, Nat.reduceAdd, Nat.reduceSub, Option.bind_some, Option.map_some, Option.some.injEq, if_true, exists_eq_left', exists_eq_left, and_assoc, exists_and_left,
  args_take, List.take_succ_cons, List.take_zero, allS_cons, allS_nil, and_true, true_and])
/-! ### a slot with a price on each number -/
def tilt (s : Slt) (p : Int) : Slt := ⟨s.need, s.most, s.first + p * s.need, s.slopes.map (· + p)⟩
theorem sum_addc {p : Int} : ∀ {l : List Int}, (l.map (· + p)).sum = l.sum + p * l.length
  | [] => by simp
  | z :: l => by
    rw [List.map_cons, List.sum_cons, List.sum_cons, sum_addc, List.length_cons, Int.natCast_add, Int.mul_add]
    omega
theorem tilt_len {s : Slt} {p : Int} (h : s.Len) : (tilt s p).Len := ⟨by show ((s.slopes.map (· + p)).length : Int) = s.most - s.need; rw [List.length_map]; exact h.len, h.mid, h.wide⟩
theorem tilt_wk {s : Slt} {p : Int} (h : s.Wk) : (tilt s p).Wk := ⟨tilt_len h.len, h.lo, List.pairwise_map.mpr (h.asc.imp fun q => by omega)⟩
theorem tilt_cost {s : Slt} {p x : Int} (h : s.Len) (h1 : s.need ≤ x) (h2 : x ≤ s.most) : costAt (tilt s p) x = costAt s x + p * x := by
  have hl := h.len
  show s.first + p * s.need + ((s.slopes.map (· + p)).take (x - s.need).toNat).sum = s.first + (s.slopes.take (x - s.need).toNat).sum + p * x
  rw [← List.map_take, sum_addc, List.length_take, Nat.min_eq_left (by omega)]
  have e : p * x = p * s.need + p * (((x - s.need).toNat : Nat) : Int) := by
    rw [← Int.mul_add]
    congr 1
    omega
  rw [e]
  omega
theorem tilt_low {s : Slt} {p : Int} : lowW (tilt s p) = s.need + ((s.slopes.filter fun z => decide (z + p < 0)).length : Nat) := by
  show s.need + (((s.slopes.map (· + p)).filter fun z => decide (z < 0)).length : Nat) = _
  rw [List.filter_map, List.length_map]
  rfl
theorem tilt_high {s : Slt} {p : Int} : highW (tilt s p) 0 = s.need + ((s.slopes.filter fun z => decide (z + p ≤ 0)).length : Nat) := by
  show s.need + (((s.slopes.map (· + p)).filter fun z => decide (z ≤ 0)).length : Nat) = _
  rw [List.filter_map, List.length_map]
  rfl
theorem least_numbers_ok (s : Slt) (p : Int) (h : s.slopes.length ≤ 1000) : vof (F_least_numbers [slD s, .int p]) = some (.tup [.int (lowW (tilt s p)), .int (highW (tilt s p) 0)]) := by
  unfold F_least_numbers slD
  refine fn_val rfl ?_
  unfold f_least_numbers
  walk_at "bv"
  refine lc_at D.int (fun z => decide (z + p < 0)) D.int (kil h) (fun a ha => ⟨_, rfl, rfl, ?_, fun _ => ?_⟩) ?_
  · walk_at "bv"
  · walk_at "bv"
  · walk_at "bv"
    refine lc_at D.int (fun z => decide (z + p ≤ 0)) D.int (kil h) (fun a ha => ⟨_, rfl, rfl, ?_, fun _ => ?_⟩) ?_
    · walk_at "bv"
    · walk_at "bv"
    · walk_at "bv"
      rw [tilt_low, tilt_high]
theorem least_priced_ok (s : Slt) (p : Int) (h : s.Wk) (hp : -(2 ^ 64) < p ∧ p < 2 ^ 64) : vof (F_least_priced [slD s, .int p]) = some (.int (leastW (tilt s p))) := by
  have k1 := h.len.len
  have k2 := h.len.wide
  have ln := least_numbers_ok s p (by omega)
  have li : s.need ≤ lowW (tilt s p) ∧ lowW (tilt s p) ≤ s.most := lowW_in (tilt_wk (p := p) h)
  have sc := slot_cost_ok s (lowW (tilt s p))
  rw [if_pos (fit_iff.mpr li)] at sc
  unfold F_least_priced
  refine fn_val rfl ?_
  unfold f_least_priced
  walk_at "bv"
  refine ⟨_, ln, ?_⟩
  walk_at "bv"
  refine ⟨_, sc, ?_⟩
  walk_at "bv"
  refine ⟨bnd_mul hp, ?_⟩
  unfold leastW
  rw [tilt_cost h.len li.1 li.2]
/-! ### bounds of prices -/
def risesG (ps : List Int) (q : Int) : List Int := List.zipWith (fun a b => a - b) ps (ps.drop 1 ++ [q])
theorem risesG_snoc {ps : List Int} {p q : Int} : risesG (ps ++ [p]) q = risesG ps p ++ [p - q] := by
  unfold risesG
  cases ps with
  | nil => rfl
  | cons a t =>
    show List.zipWith _ ((a :: t) ++ [p]) ((t ++ [p]) ++ [q]) = List.zipWith _ (a :: t) (t ++ [p]) ++ [p - q]
    rw [List.zipWith_append (by simp)]
    rfl
theorem risesG_len {ps : List Int} {q : Int} : (risesG ps q).length = ps.length := by
  unfold risesG
  rw [List.length_zipWith, List.length_append, List.length_drop]
  simp
  omega
def boundG (ss : List Slt) (ps : List Int) (q : Int) : Int := (List.zipWith (fun s r => leastW (tilt s r)) ss (risesG ps q)).sum
theorem boundG_snoc {ss : List Slt} {s : Slt} {ps : List Int} {p q : Int} (h : ps.length = ss.length) : boundG (ss ++ [s]) (ps ++ [p]) q = boundG ss ps p + leastW (tilt s (p - q)) := by
  unfold boundG
  rw [risesG_snoc, List.zipWith_append (by rw [risesG_len, h]), List.sum_append]
  simp
theorem up_mul {p b d : Int} (h0 : 0 ≤ p) (h1 : p ≤ b) : p * d ≤ b * up d := by
  rw [up_eq]
  by_cases h : d ≤ 0
  · rw [Int.max_eq_left h, Int.mul_zero]
    exact Int.mul_nonpos_of_nonneg_of_nonpos h0 h
  · rw [Int.max_eq_right (by omega)]
    exact Int.mul_le_mul_of_nonneg_right h1 (by omega)
theorem bound_le {b : Int} (ss : List Slt) : (∀ s ∈ ss, s.Wk) → ∀ (xs ps : List Int) (q : Int), xs.length = ss.length → ps.length = ss.length → servesL ss xs = true → (∀ p ∈ ps, 0 ≤ p ∧ p ≤ b) → boundG ss ps q ≤ runL ss xs + b * startsL xs - q * lastX xs := by
  refine snoc_ind (P := fun ss => (∀ s ∈ ss, s.Wk) → ∀ (xs ps : List Int) (q : Int), xs.length = ss.length → ps.length = ss.length → servesL ss xs = true → (∀ p ∈ ps, 0 ≤ p ∧ p ≤ b) → boundG ss ps q ≤ runL ss xs + b * startsL xs - q * lastX xs) ?_ ?_ ss
  · intro _ xs ps q h1 h2 _ _
    have e1 : xs = [] := List.length_eq_zero_iff.mp h1
    have e2 : ps = [] := List.length_eq_zero_iff.mp h2
    subst e1
    subst e2
    show (0 : Int) ≤ 0 + b * 0 - q * 0
    simp
  · intro ss s ih hw xs ps q h1 h2 h3 h4
    rcases List.eq_nil_or_concat xs with rfl | ⟨row, x, rfl⟩
    · simp at h1
    rcases List.eq_nil_or_concat ps with rfl | ⟨pr, p, rfl⟩
    · simp at h2
    rw [List.concat_eq_append] at h1 h2 h3 h4 ⊢
    rw [List.concat_eq_append] at *
    have l1 : row.length = ss.length := by simpa using h1
    have l2 : pr.length = ss.length := by simpa using h2
    rw [servesL_snoc l1, Bool.and_eq_true] at h3
    have hs := hw s (by simp)
    have f := fit_iff.mp h3.2
    have i := ih (fun x hx => hw x (List.mem_append_left _ hx)) row pr p l1 l2 h3.1 fun y hy => h4 y (List.mem_append_left _ hy)
    have hp := h4 p (by simp)
    have ll := least_le (tilt_wk (p := p - q) hs) (y := x) f.1 f.2
    rw [tilt_cost hs.len f.1 f.2] at ll
    have um := up_mul (d := x - lastX row) hp.1 hp.2
    rw [boundG_snoc l2, runL_snoc l1, startsL_snoc, lastX_snoc, Int.mul_add]
    have e1 : (p - q) * x = p * x - q * x := Int.sub_mul ..
    have e2 : p * (x - lastX row) = p * x - p * lastX row := Int.mul_sub ..
    omega
theorem leasts_cost {ss : List Slt} {ps : List Int} {b : Int} (hb : 0 ≤ b) (hw : ∀ s ∈ ss, s.Wk) (h : ps.length = ss.length) (hp : ∀ p ∈ ps, 0 ≤ p ∧ p ≤ b) : boundG ss ps 0 ≤ leastW (lastW w0 b ss) := by
  have W := lastW_wk hb ss hw
  have li := lowW_in W
  obtain ⟨xs, r1, r2, r3, r4⟩ := rows_reach hb ss hw (lowW (lastW w0 b ss)) li.1 li.2
  have := bound_le ss hw xs ps 0 r1 h r2 hp
  rw [r4] at this
  unfold leastW
  omega
theorem rises_ok (ps : List Int) (h : ps.length ≤ 1000) : vof (F_price_rises [.tup (ps.map .int)]) = some (.lst ((risesG ps 0).map .int)) := by
  unfold F_price_rises
  refine fn_val rfl ?_
  unfold f_price_rises
  walk_at "bv"
  have cd : cutD (ps.map D.int) (some 1) none = (ps.drop 1).map .int := cutD_from (n := 1)
  rw [cd, List.length_map, List.length_drop]
  refine ⟨Nat.le_trans (show ps.length - 1 + 1 ≤ 5000 by omega) (by decide), ?_⟩
  rw [show (ps.drop 1).map D.int ++ [D.int 0] = (ps.drop 1 ++ [0]).map .int by rw [List.map_append]; rfl, zip_map]
  refine lc_all _ (fun ab : Int × Int => D.int (ab.1 - ab.2)) (by rw [List.length_zipWith]; exact kil (by omega)) (fun a ha => ⟨_, rfl, rfl, ?_, ?_⟩) ⟨?_, rfl⟩
  · walk_at "bv"
  · walk_at "bv"
  · unfold risesG
    rw [List.map_zipWith, List.map_zipWith]
theorem zip_slots {ss : List Slt} {rs : List Int} : zipL (ss.map slD) (rs.map D.int) = (List.zipWith (fun a b => (a, b)) ss rs).map fun ab => D.tup [slD ab.1, .int ab.2] := by
  unfold zipL
  induction ss generalizing rs with
  | nil => rfl
  | cons a ss ih => cases rs with
    | nil => rfl
    | cons b rs => simp [ih]
theorem rises_bd {ps : List Int} {b : Int} (h : ∀ p ∈ ps, 0 ≤ p ∧ p ≤ b) : ∀ r ∈ risesG ps 0, -b ≤ r ∧ r ≤ b := by
  intro r hr
  unfold risesG at hr
  obtain ⟨i, hi, rfl⟩ := List.mem_iff_getElem.mp hr
  rw [List.getElem_zipWith]
  rw [List.length_zipWith] at hi
  have h1 := h ps[i] (List.getElem_mem _)
  have h2 : 0 ≤ (ps.drop 1 ++ [0])[i]'(by omega) ∧ (ps.drop 1 ++ [0])[i]'(by omega) ≤ b := by
    rcases List.mem_append.mp (List.getElem_mem (l := ps.drop 1 ++ [0]) (n := i) (by omega)) with z | z
    · exact h _ (List.mem_of_mem_drop z)
    · have z : (ps.drop 1 ++ [0])[i]'(by omega) = 0 := by simpa using z
      omega
  omega
theorem bound_of_ok (ss : List Slt) (ps : List Int) (b c : Int) (hw : ∀ s ∈ ss, s.Wk) (hl : ss.length ≤ 1000) (h : ps.length = ss.length) (hp : ∀ p ∈ ps, 0 ≤ p ∧ p ≤ b) (hb : b < 2 ^ 64) : vof (F_bound_of [.tup (ss.map slD), .int c, .tup (ps.map .int)]) = some (.int (boundG ss ps 0)) := by
  have ri := rises_ok ps (by omega)
  have rb := rises_bd hp
  unfold F_bound_of
  refine fn_val rfl ?_
  unfold f_bound_of
  walk_at "bv"
  refine ⟨_, ri, ?_⟩
  rw [o_zipTL, zip_slots]
  walk_at "bv"
  refine lc_all _ (fun ab : Slt × Int => D.int (leastW (tilt ab.1 ab.2))) (by rw [List.length_zipWith]; exact kil (by omega)) (fun a ha => ⟨_, rfl, rfl, ?_, ?_⟩) ?_
  · walk_at "bv"
  · obtain ⟨i, hi, rfl⟩ := List.mem_iff_getElem.mp ha
    rw [List.length_zipWith] at hi
    rw [List.getElem_zipWith]
    have r := rb _ (List.getElem_mem (l := risesG ps 0) (n := i) (by omega))
    have lp := least_priced_ok (ss[i]'(by omega)) ((risesG ps 0)[i]'(by omega)) (hw _ (List.getElem_mem _)) ⟨by omega, by omega⟩
    walk_at "bv"
    exact ⟨_, lp, rfl⟩
  · rw [map_int]
    walk_at "bv"
    unfold boundG
    rw [List.map_zipWith]
theorem tilt_vals {s : Slt} {p : Int} (h : s.Len) : (numsL s (s.slopes.length + 1)).map (fun x => s.first + (s.slopes.take (x - s.need).toNat).sum + p * x) = valsL (tilt s p) (s.slopes.length + 1) := by
  unfold numsL valsL
  rw [List.map_map]
  refine List.map_congr_left fun k hk => ?_
  have hk := List.mem_range.mp hk
  have hl := h.len
  have c := tilt_cost (p := p) (x := s.need + (k : Int)) h (by omega) (by omega)
  have e1 : costAt (tilt s p) ((tilt s p).need + (k : Int)) = (tilt s p).first + ((tilt s p).slopes.take k).sum := costN
  have e1 : costAt (tilt s p) (s.need + (k : Int)) = (tilt s p).first + ((tilt s p).slopes.take k).sum := e1
  show s.first + (s.slopes.take (s.need + (k : Int) - s.need).toNat).sum + p * (s.need + (k : Int)) = _
  rw [← e1, c]
  rfl
theorem enum_at {α : Type} {inj : α → D} {l : List α} {j : Nat} {d : D} (h : (enumL (l.map inj))[j]? = some d) : ∃ a, l[j]? = some a ∧ d = .tup [.int (j : Nat), inj a] := by
  unfold enumL at h
  rw [List.getElem?_map] at h
  obtain ⟨i, e, r⟩ := Option.map_eq_some_iff.mp h
  obtain ⟨hl, e⟩ := List.getElem?_eq_some_iff.mp e
  rw [List.getElem_range] at e
  subst e
  rw [List.length_range, List.length_map] at hl
  refine ⟨l[j], List.getElem?_eq_getElem hl, ?_⟩
  rw [← r, List.getD_eq_getElem?_getD, List.getElem?_map, List.getElem?_eq_getElem hl]
  rfl
theorem law_bound_ok (ss : List Slt) (ps : List Int) (b : Int) (hw : ∀ s ∈ ss, s.Wk) (hl : ss.length ≤ 1000) (h : ps.length = ss.length) (hp : ∀ p ∈ ps, 0 ≤ p ∧ p ≤ b) (hb : b < 2 ^ 64) : vof (F_law_bound [.tup (ss.map slD), .tup (ps.map .int)]) = some (.int (boundG ss ps 0)) := by
  have sc := slot_costs_ok ss (fun s hs => by have := (hw s hs).len.len; have := (hw s hs).len.wide; omega) hl
  have rb := rises_bd hp
  unfold F_law_bound
  refine fn_val rfl ?_
  unfold f_law_bound
  walk_at "bv"
  have cd : cutD (ps.map D.int) (some 1) none = (ps.drop 1).map .int := cutD_from (n := 1)
  rw [cd, List.length_map, List.length_drop]
  refine ⟨Nat.le_trans (show ps.length - 1 + 1 ≤ 5000 by omega) (by decide), _, sc, ?_⟩
  rw [show (ps.drop 1).map D.int ++ [D.int 0] = (ps.drop 1 ++ [0]).map .int by rw [List.map_append]; rfl]
  walk_at "bv"
  have ll : (List.zipWith (fun s r => leastW (tilt s r)) ss (risesG ps 0)).length = ss.length := by rw [List.length_zipWith, risesG_len]; omega
  refine for_inv (fun j ρ => ∃ c4 c5 c6, ρ = [some (.tup (ss.map slD)), some (.tup (ps.map .int)), some (.int ((List.zipWith (fun s r => leastW (tilt s r)) ss (risesG ps 0)).take j).sum), some (.lst ((ps.drop 1 ++ [0]).map .int)), c4, c5, c6]) ⟨_, _, _, rfl⟩ ?_ ?_
  · rintro j d ρ hd ⟨c4, c5, c6, rfl⟩
    obtain ⟨s, hj, rfl⟩ := enum_at hd
    have hjl := (List.getElem?_eq_some_iff.mp hj).1
    have hs := hw s (List.mem_of_getElem? hj)
    have k1 := hs.len.len
    have k2 := hs.len.wide
    have hpj : ps[j]? = some (ps[j]'(by omega)) := List.getElem?_eq_getElem (by omega)
    have hlj : (ps.drop 1 ++ [0])[j]? = some ((ps.drop 1 ++ [0])[j]'(by simp; omega)) := List.getElem?_eq_getElem (by simp; omega)
    have hrj : (risesG ps 0)[j]? = some (ps[j]'(by omega) - (ps.drop 1 ++ [0])[j]'(by simp; omega)) := by
      unfold risesG
      rw [List.getElem?_zipWith, hpj, hlj]
    generalize ps[j]'(by omega) = p at hpj hrj
    generalize (ps.drop 1 ++ [0])[j]'(by simp; omega) = l at hlj hrj
    have r := rb _ (List.mem_of_getElem? hrj)
    have a1 : L2.atI (ps.map D.int) (j : Int) = some (.int p) := atI_get (by omega) (by rw [Int.toNat_natCast, List.getElem?_map, hpj]; rfl)
    have a2 : L2.atI ((ps.drop 1 ++ [0]).map D.int) (j : Int) = some (.int l) := atI_get (by omega) (by rw [Int.toNat_natCast, List.getElem?_map, hlj]; rfl)
    have hz : (List.zipWith (fun s r => leastW (tilt s r)) ss (risesG ps 0))[j]? = some (leastW (tilt s (p - l))) := by rw [List.getElem?_zipWith, hj, hrj]
    refine ⟨_, rfl, ?_⟩
    rw [cdD_eq]
    walk_at "bv"
    rw [cdK_keys]
    refine lc_all D.int (fun x => D.int (s.first + (s.slopes.take (x - s.need).toNat).sum + (p - l) * x)) ?_ (fun y hy => ⟨_, rfl, rfl, ?_, ?_⟩) ?_
    · rw [numsL_len]
      exact Nat.le_trans (show s.slopes.length + 1 ≤ 5000 by omega) (by decide)
    · walk_at "bv"
    · obtain ⟨k, hk, rfl⟩ := List.mem_map.mp hy
      have hk := List.mem_range.mp hk
      walk_at "bv"
      rw [cdK_at hk, show (s.need + (k : Int) - s.need).toNat = k by omega, a1, a2]
      walk_at "bv"
      exact bnd_mul ⟨by omega, by omega⟩
    · rw [map_int, o_minL, tilt_vals hs.len, show s.slopes.length + 1 = (tilt s (p - l)).slopes.length + 1 by show _ = (s.slopes.map _).length + 1; rw [List.length_map], minI_by (by unfold valsL; rw [List.range_succ]; simp) fun m h1 h2 => vals_least (tilt_wk hs) h1 h2]
      walk_at "bv"
      rw [take_sum hz]
      exact ⟨_, _, _, rfl⟩
  · rintro ρ ⟨c4, c5, c6, rfl⟩
    rw [enumL_len, List.length_map, ← ll, List.take_length]
    walk_at "bv"
    rfl
theorem some_row_ok (s : Sr) (ss : List Slt) (hw : ∀ s ∈ ss, s.Wk) (hl : ss.length ≤ 1000) : ∃ (xs : List Int) (s' : Sr), F_law_some_row [.src s, .tup (ss.map slD)] = some (.tup (xs.map .int), [.src s', .tup (ss.map slD)]) ∧ xs.length = ss.length ∧ servesL ss xs = true := by
  obtain ⟨d, as, e, xs, rfl, s', rfl, h1, h2⟩ : ∃ d as, F_law_some_row [.src s, .tup (ss.map slD)] = some (d, as) ∧ ∃ xs : List Int, d = .tup (xs.map .int) ∧ ∃ s' : Sr, as = [.src s', .tup (ss.map slD)] ∧ xs.length = ss.length ∧ servesL ss xs = true := by
    unfold F_law_some_row
    refine fn_res rfl ?_
    unfold f_law_some_row
    refine ws_seq.mpr ?_
    walk_at "bv1"
    refine sq_step (ws_seq.mpr ?_)
    walk_at "bv1"
    refine Wss.mono (Q := fun r => ∃ (xs : List Int) (s' : Sr) (c3 c4 c5 c6 c7 : Option D), r = .nx [some (.src s'), some (.tup (ss.map slD)), some (.lst (xs.map .int)), c3, c4, c5, c6, c7] ∧ xs.length = ss.length ∧ servesL ss xs = true)
      (for_inv (fun j ρ => ∃ (xs : List Int) (s' : Sr) (c3 c4 c5 c6 c7 : Option D), ρ = [some (.src s'), some (.tup (ss.map slD)), some (.lst (xs.map .int)), c3, c4, c5, c6, c7] ∧ xs.length = j ∧ servesL (ss.take j) xs = true) ⟨[], _, _, _, _, _, _, rfl, rfl, rfl⟩ ?_ ?_) ?_
    · rintro j d ρ hd ⟨xs, s', c3, c4, c5, c6, c7, rfl, hx, hv⟩
      obtain ⟨t, hj, rfl⟩ := map_at hd
      have hjl := (List.getElem?_eq_some_iff.mp hj).1
      have ht := hw t (List.mem_of_getElem? hj)
      have m1 := ht.len.mid
      have m2 := ht.len.wide
      have pr := pickR_lt (s := s') (many := t.most - t.need + 1) (by omega)
      have hx2 : xs.length = (ss.take j).length := by rw [List.length_take]; omega
      refine ⟨_, rfl, ?_⟩
      refine ws_seq.mpr ?_
      walk_at "bv1"
      refine ⟨_, _, _, pick_ok _ _ (by omega), ?_⟩
      generalize pickR s' (t.most - t.need + 1) = q at pr
      walk_at "bv1"
      refine sq_step (ws_seq.mpr ?_)
      refine Wss.mono (Q := fun r => ∃ (x : Int) (s2 : Sr), t.need ≤ x ∧ x ≤ t.most ∧ r = .nx [some (.src s2), some (.tup (ss.map slD)), some (.lst (xs.map .int)), some (.int t.need), some (.int t.most), some (.int t.first), some (.tup (t.slopes.map .int)), some (.int x)]) ?_ ?_
      · walk_at "bv"
        rw [List.isEmpty_map]
        cases hxs : xs.getLast? with
        | none =>
          have hn := List.getLast?_eq_none_iff.mp hxs
          rw [hn]
          rw [if_neg (by decide)]
          exact ⟨_, by omega, by omega, _, rfl⟩
        | some y =>
          rw [if_pos (by cases e : xs with
            | nil => rw [e] at hxs; exact nomatch hxs
            | cons a as => rfl)]
          refine ⟨_, _, _, pick_ok _ 2 (by decide), ?_⟩
          walk_at "bv"
          by_cases h2 : pickR (pickS s' (t.most - t.need + 1)) 2 = 0
          · rw [if_pos h2]
            refine ⟨_, atI_last hxs, ?_⟩
            walk_at "bv"
            exact ⟨_, by rw [mn_eq, mx_eq]; omega, by rw [mn_eq, mx_eq]; omega, _, rfl⟩
          · rw [if_neg h2]
            exact ⟨_, by omega, by omega, _, rfl⟩
      · rintro _ ⟨x, s2, x1, x2, rfl⟩
        refine sq_step ?_
        walk_at "bv1"
        refine ⟨Nat.lt_of_lt_of_le (show xs.length < 2000 by omega) (by decide), xs ++ [x], _, _, _, _, _, _, by rw [List.map_append]; rfl, by rw [List.length_append, hx]; rfl, ?_⟩
        rw [take_snoc1 hj, servesL_snoc hx2, hv, Bool.true_and]
        exact fit_iff.mpr ⟨x1, x2⟩
    · rintro ρ ⟨xs, s', c3, c4, c5, c6, c7, rfl, hx, hv⟩
      rw [List.length_map] at hx hv
      rw [List.take_length] at hv
      exact ⟨xs, s', c3, c4, c5, c6, c7, rfl, hx, hv⟩
    · rintro _ ⟨xs, s', c3, c4, c5, c6, c7, rfl, hx, hv⟩
      refine sq_step ?_
      walk_at "bv1"
      exact ⟨_, rfl, xs, rfl, _, rfl, hx, hv⟩
  exact ⟨xs, s', e, h1, h2⟩
theorem high_strict {s : Slt} (h : s.Wk) : ∀ n : Nat, highW s 0 + (n : Int) ≤ s.most → costAt s (highW s 0) + n ≤ costAt s (highW s 0 + (n : Int))
  | 0, _ => by simp
  | n + 1, hn => by
    have ih := high_strict h n (by omega)
    have hi := highW_in (b := 0) h
    have st := cost_step (s := s) (x := highW s 0 + (n : Int)) h.len (by omega) (by omega)
    have ng := high_iff h (b := 0) (x := highW s 0 + (n : Int)) (by omega) (by omega)
    have ng2 : ¬ s.slopes.getD (highW s 0 + (n : Int) - s.need).toNat 0 ≤ 0 := fun z => by have := ng.mpr z; omega
    rw [show highW s 0 + ((n + 1 : Nat) : Int) = highW s 0 + (n : Int) + 1 by omega, st]
    omega
theorem high_least {s : Slt} (h : s.Wk) : costAt s (highW s 0) = leastW s := by
  have lh := low_high (b := 0) (Int.le_refl 0) h
  have m := held_mid h (Int.le_refl 0) (highW s 0 - lowW s).toNat (by omega)
  rw [show lowW s + (((highW s 0 - lowW s).toNat : Nat) : Int) = highW s 0 by omega] at m
  have u := held_up (b := 0) h.len (Int.le_refl 0) (lowW s) (highW s 0 - lowW s).toNat
  rw [show lowW s + (((highW s 0 - lowW s).toNat : Nat) : Int) = highW s 0 by omega, held_low h (Int.le_refl 0) (Int.le_refl _)] at u
  omega
theorem maxI_of {ns : List Int} {m : Int} (h1 : m ∈ ns) (h2 : ∀ y ∈ ns, y ≤ m) : maxI ns = some m := by
  cases ns with
  | nil => exact nomatch h1
  | cons n ns =>
    have := foldl_max (ns := ns) (n := n)
    refine congrArg some (Int.le_antisymm (h2 _ this.1) (this.2 m h1))
theorem lows_most {s : Slt} (h : s.Wk) : maxI (lowsL s (s.slopes.length + 1)) = some (highW s 0) := by
  have hl := h.len.len
  have hi := highW_in (b := 0) h
  refine maxI_of ?_ fun y hy => ?_
  · refine List.mem_map.mpr ⟨(highW s 0 - s.need).toNat, List.mem_filter.mpr ⟨List.mem_range.mpr (by omega), ?_⟩, by omega⟩
    rw [← costN, show s.need + (((highW s 0 - s.need).toNat : Nat) : Int) = highW s 0 by omega]
    exact decide_eq_true (high_least h)
  · obtain ⟨k, hk, rfl⟩ := List.mem_map.mp hy
    obtain ⟨k1, k2⟩ := List.mem_filter.mp hk
    have k1 := List.mem_range.mp k1
    have k2 := of_decide_eq_true k2
    rw [← costN] at k2
    by_cases q : s.need + (k : Int) ≤ highW s 0
    · exact q
    · have hs := high_strict h (s.need + (k : Int) - highW s 0).toNat (by omega)
      rw [show highW s 0 + (((s.need + (k : Int) - highW s 0).toNat : Nat) : Int) = s.need + (k : Int) by omega, high_least h] at hs
      omega
/-- the pairs (x, cost + p * x) of a slot, as a dict -/
def tiltP (p : Int) (kv : Key × D) : D := match kv with
  | (.inl x, .int c) => .tup [.int x, .int (c + p * x)]
  | _ => .non
theorem merge_tilt {s : Slt} {p : Int} (h : s.Len) : pairsD ((cdK s (s.slopes.length + 1)).map (tiltP p)) = some (cdK (tilt s p) (s.slopes.length + 1)) := by
  unfold cdK
  rw [List.map_map]
  rw [show (tiltP p ∘ fun (k : Nat) => ((Sum.inl (s.need + k), D.int (s.first + (s.slopes.take k).sum)) : Key × D)) = fun (k : Nat) => D.tup [.int (s.need + k), .int (s.first + (s.slopes.take k).sum + p * (s.need + k))] from rfl]
  rw [pairs_map (kd := fun k : Nat => D.int (s.need + (k : Int))) (f := fun k : Nat => .inl (s.need + (k : Int))) (fun _ => rfl)]
  refine congrArg some (List.map_congr_left fun k hk => ?_)
  have hk := List.mem_range.mp hk
  have hl := h.len
  have c := tilt_cost (p := p) (x := s.need + (k : Int)) h (by omega) (by omega)
  have e1 : costAt (tilt s p) ((tilt s p).need + (k : Int)) = (tilt s p).first + ((tilt s p).slopes.take k).sum := costN
  have e1 : costAt (tilt s p) (s.need + (k : Int)) = (tilt s p).first + ((tilt s p).slopes.take k).sum := e1
  rw [costN] at c
  rw [← e1, c]
  rfl
theorem least_tilt_bd {s : Slt} {r M : Int} (h : s.Ok 1000000 80000000000 (10000000000 * (3 + 8 * 8))) (hf : s.most - s.need ≤ 8) (hr : -M ≤ r ∧ r ≤ M) (hM : 0 ≤ M) : -(10000000000000 + M * 1000000) ≤ leastW (tilt s r) ∧ leastW (tilt s r) ≤ 10000000000000 + M * 1000000 := by
  have w := ok_wk h (by omega)
  have li : s.need ≤ lowW (tilt s r) ∧ lowW (tilt s r) ≤ s.most := lowW_in (tilt_wk w)
  have e : leastW (tilt s r) = costAt s (lowW (tilt s r)) + r * lowW (tilt s r) := tilt_cost w.len li.1 li.2
  have hl := h.len
  have ph := h.hi
  have pl := h.lo
  have p := h.pos (lowW (tilt s r) - s.need).toNat
  have f := h.fst
  have b := sum_bounds (b := 80000000000) (l := s.slopes.take (lowW (tilt s r) - s.need).toNat) fun z hz => h.steep z (List.mem_of_mem_take hz)
  have l8 : ((s.slopes.take (lowW (tilt s r) - s.need).toNat).length : Int) ≤ 8 := by
    rw [List.length_take]
    omega
  generalize lowW (tilt s r) = x at *
  have u1 : r * x ≤ M * 1000000 := Int.le_trans (Int.mul_le_mul_of_nonneg_right hr.2 (by omega)) (Int.mul_le_mul_of_nonneg_left (by omega) hM)
  have u2 : -(M * 1000000) ≤ r * x := by
    have a1 : -M * x ≤ r * x := Int.mul_le_mul_of_nonneg_right hr.1 (by omega)
    have a2 : M * x ≤ M * 1000000 := Int.mul_le_mul_of_nonneg_left (by omega) hM
    rw [Int.neg_mul] at a1
    omega
  rw [e]
  unfold costAt
  omega
theorem bound_bd {ss : List Slt} {ps : List Int} {b : Int} (og : ∀ s ∈ ss, s.Ok 1000000 80000000000 (10000000000 * (3 + 8 * 8)) ∧ s.most - s.need ≤ 8) (hl : ss.length ≤ 14) (hp : ∀ p ∈ ps, 0 ≤ p ∧ p ≤ b) (hb : 0 ≤ b ∧ b ≤ 900000001) : (boundG ss ps 0).natAbs ≤ 10 ^ 40 := by
  have rb := rises_bd hp
  have sb := sum_bounds (b := 1000000000000000000) (l := List.zipWith (fun s r => leastW (tilt s r)) ss (risesG ps 0)) fun z hz => by
    obtain ⟨i, hi, rfl⟩ := List.mem_iff_getElem.mp hz
    rw [List.length_zipWith] at hi
    rw [List.getElem_zipWith]
    have r := rb _ (List.getElem_mem (l := risesG ps 0) (n := i) (by omega))
    have o := og _ (List.getElem_mem (l := ss) (n := i) (by omega))
    have := least_tilt_bd (r := (risesG ps 0)[i]'(by omega)) o.1 o.2 (M := 900000001) ⟨by omega, by omega⟩ (by decide)
    omega
  have ll : ((List.zipWith (fun s r => leastW (tilt s r)) ss (risesG ps 0)).length : Int) ≤ 14 := by
    rw [List.length_zipWith]
    omega
  unfold boundG
  omega
theorem nums_lows {s : Slt} {n : Nat} : (numsL s n).filter (fun z => decide (s.first + (s.slopes.take (z - s.need).toNat).sum = leastW s)) = lowsL s n := by
  unfold numsL lowsL
  rw [List.filter_map]
  congr 1
  refine List.filter_congr fun k hk => ?_
  show decide (s.first + (s.slopes.take (s.need + (k : Int) - s.need).toNat).sum = leastW s) = _
  rw [show (s.need + (k : Int) - s.need).toNat = k by omega]
theorem cutD_3 {xs : List D} : cutD xs none (some 3) = xs.take 3 := by
  unfold cutD
  rw [show HT.sIx xs.length xs.length (some 3) = min 3 xs.length from HT.sIx_nat xs.length xs.length 3, HT.sIx_none, List.drop_zero, Nat.sub_zero, List.take_eq_take_iff]
  omega
theorem repr_pair {a b : Int} (h1 : a.natAbs ≤ 10 ^ 40) (h2 : b.natAbs ≤ 10 ^ 40) : ∃ x, reprX (.tup [.int a, .int b]) = some (.str x) := by
  have big : (10 : Nat) ^ 40 < 10 ^ 150 := by decide
  obtain ⟨x, e⟩ := repr_ints (ns := [a, b]) (fun z hz => by
    simp only [List.mem_cons, List.not_mem_nil, or_false] at hz
    rcases hz with rfl | rfl
    · exact Nat.lt_of_le_of_lt h1 big
    · exact Nat.lt_of_le_of_lt h2 big) (by simp)
  exact ⟨x, o_reprX e⟩
theorem repr_num {a : Int} (h : a.natAbs ≤ 10 ^ 40) : reprX (.int a) = some (.str (toString a)) := o_reprX (by
  show (if a.natAbs.log2 < 1920 then _ else none) = _
  rw [if_pos (lil_int (Nat.lt_of_le_of_lt h (by decide)))])
def exSl : List Slt := [⟨1, 2, 1, [1]⟩, ⟨0, 2, 0, [1, 1]⟩, ⟨0, 2, 0, [1, 1]⟩, ⟨1, 2, 1, [1]⟩]
def exPs : List (List Int) := [[3, 1, 2, 3], [3, 3, 3, 3], [0, 0, 0, 0], [3, 2, 1, 0]]
def exD : D := .tup (exSl.map slD)
theorem exWk : ∀ s ∈ exSl, s.Wk := fun s hs => by
  have L := exLen s hs
  unfold exSl at hs
  simp only [List.mem_cons, List.not_mem_nil, or_false] at hs
  rcases hs with rfl | rfl | rfl | rfl <;> exact ⟨L, by decide, by decide⟩
theorem ex_bound (ps : List Int) (h1 : ps.length = 4) (h2 : ∀ p ∈ ps, 0 ≤ p ∧ p ≤ 3) : vof (F_bound_of [exD, .int 3, .tup (ps.map .int)]) = some (.int (boundG exSl ps 0)) := bound_of_ok exSl ps 3 3 exWk (by decide) h1 h2 (by decide)
theorem ex_all : ∀ ps ∈ exPs, ps.length = 4 ∧ ∀ p ∈ ps, 0 ≤ p ∧ p ≤ 3 := by decide +kernel
theorem ex_vals : exPs.map (fun ps => boundG exSl ps 0) = [7, 5, 2, 3] := by decide +kernel
theorem ex_lc {a0 a1 : Option D} {c2 c4 c5 c6 c7 c8 c9 c10 c11 c12 c13 c14 c15 : Option D} : lcE (nameG 7) (rtn true) (callM F_bound_of (consA (getE 3) (consA (rtn (.int 3)) (consA (getE 7) (rtn []))))) [7] (exPs.map fun ps => D.tup (ps.map .int)) [a0, a1, c2, some exD, c4, c5, c6, c7, c8, c9, c10, c11, c12, c13, c14, c15] [] =
    some ([.int 7, .int 5, .int 2, .int 3], [a0, a1, c2, some exD, c4, c5, c6, c7, c8, c9, c10, c11, c12, c13, c14, c15]) := by
  have h := lc_of (ρ := [a0, a1, c2, some exD, c4, c5, c6, c7, c8, c9, c10, c11, c12, c13, c14, c15]) (gg := nameG 7) (ft := rtn true) (fe := callM F_bound_of (consA (getE 3) (consA (rtn (.int 3)) (consA (getE 7) (rtn []))))) (vs := [7])
    (fun ps : List Int => D.tup (ps.map .int)) (fun _ => true) (fun ps => D.int (boundG exSl ps 0)) (l := exPs) (acc := []) (by decide +kernel) (fun ps hps => ⟨_, rfl, rfl, by walk_at "bv1", fun _ => by
      walk_at "bv1"
      exact ⟨_, ex_bound ps (ex_all ps hps).1 (ex_all ps hps).2, rfl⟩⟩)
  rw [h, List.filter_eq_self.mpr fun _ _ => rfl, List.nil_append, map_int, ex_vals]
  rfl
theorem law_true32 (ns : List Int) (hn : ns.length ≤ 63) : ∃ as, F_law_K32 [.scr ns] = some (.bl true, as) := by
  obtain ⟨d, as, e, rfl⟩ : ∃ d as, F_law_K32 [.scr ns] = some (d, as) ∧ d = .bl true := by
    unfold F_law_K32
    refine fn_res rfl ?_
    unfold f_law_K32
    refine ws_seq.mpr ?_
    walk_at "bv1"
    refine ⟨.src (srcOf ns), source_ok hn, ?_⟩
    refine sq_step (ws_seq.mpr ?_)
    walk_at "bv1"
    refine ⟨by decide, ?_⟩
    have dt {p : Prop} [Decidable p] (h : p) : ¬ (!decide p) = true := by rw [decide_eq_true h]; decide
    refine Wss.mono (Q := fun r => ∃ (s : Sr) (c2 c3 c4 c5 c6 c7 c8 c9 c10 c11 c12 c13 c14 c15 : Option D), r = .nx [some (.scr ns), some (.src s), c2, c3, c4, c5, c6, c7, c8, c9, c10, c11, c12, c13, c14, c15])
      (for_inv (fun j ρ => ∃ (s : Sr) (c2 c3 c4 c5 c6 c7 c8 c9 c10 c11 c12 c13 c14 c15 : Option D), ρ = [some (.scr ns), some (.src s), c2, c3, c4, c5, c6, c7, c8, c9, c10, c11, c12, c13, c14, c15]) ⟨_, _, _, _, _, _, _, _, _, _, _, _, _, _, _, rfl⟩ ?_
        fun ρ ⟨s, c2, c3, c4, c5, c6, c7, c8, c9, c10, c11, c12, c13, c14, c15, e⟩ => ⟨s, c2, c3, c4, c5, c6, c7, c8, c9, c10, c11, c12, c13, c14, c15, by rw [e]⟩) ?_
    · rintro j d ρ hd ⟨s, c2, c3, c4, c5, c6, c7, c8, c9, c10, c11, c12, c13, c14, c15, rfl⟩
      have p1 := pickR_lt (s := s) (many := 14) (by decide)
      refine ⟨_, rfl, ?_⟩
      refine ws_seq.mpr ?_
      walk_at "bv1"
      refine ⟨_, _, _, pick_ok _ 14 (by decide), ?_⟩
      generalize pickR s 14 = n0 at p1
      obtain ⟨n, rfl⟩ := Int.eq_ofNat_of_zero_le p1.1
      obtain ⟨ss, s2, eg, lg, og⟩ := great_slots_ok (pickS s 14) n 8 (by omega) (by decide) (by decide)
      walk_at "bv1"
      refine ⟨_, _, _, eg, ?_⟩
      have hw : ∀ x ∈ ss, x.Wk := fun x hx => ok_wk (og x hx).1 (by have := (og x hx).2; omega)
      have hL : ∀ x ∈ ss, x.Len := fun x hx => (hw x hx).len
      have hl : ss.length ≤ 1000 := by omega
      refine sq_step (ws_seq.mpr ?_)
      have p2 := pickR_lt (s := s2) (many := 10) (by decide)
      walk_at "bv1"
      refine ⟨_, _, _, pick_ok _ 10 (by decide), ?_⟩
      walk_at "bv1"
      rw [BV.p8]
      obtain ⟨d3, s3, e3, m3⟩ := of_ok (pickS s2 10) [.int 1, .int 1, .int 100000000] (by simp) (by decide)
      obtain ⟨c, rfl, q1, q2⟩ : ∃ z, d3 = .int z ∧ 1 ≤ z ∧ z ≤ 100000000 := by
        simp only [List.mem_cons, List.not_mem_nil, or_false] at m3
        rcases m3 with rfl | rfl | rfl <;> exact ⟨_, rfl, by omega, by omega⟩
      refine ⟨BV.c8, _, _, _, e3, ?_⟩
      generalize pickR s2 10 = q at p2
      have bq : 0 ≤ q * c ∧ q * c ≤ 900000000 := ⟨Int.mul_nonneg p2.1 (by omega), Int.le_trans (Int.mul_le_mul (show q ≤ 9 by omega) q2 (by omega) (by omega)) (by decide)⟩
      generalize hb : 1 + q * c = b
      have hb0 : 1 ≤ b := by omega
      have hb1 : b ≤ 900000001 := by omega
      have B3 : 0 ≤ b ∧ b < 2 ^ 64 := ⟨by omega, by omega⟩
      have hmul : cMul q c = true := bnd_mul ⟨by omega, by omega⟩
      walk_at "bv1"
      rw [hb]
      refine ⟨hmul, _, slot_costs_ok ss (fun x hx => by have := (hL x hx).len; have := (hL x hx).wide; omega) hl, ?_⟩
      refine sq_step (ws_seq.mpr ?_)
      walk_at "bv1"
      refine ⟨by decide, ?_⟩
      refine Wss.mono (Q := fun r => ∃ (s' : Sr) (c6 c7 c8 c9 : Option D), r = .nx [some (.scr ns), some (.src s'), some d, some (.tup (ss.map slD)), some (.int b), some (.lst (ss.map cdD)), c6, c7, c8, c9, c10, c11, c12, c13, c14, c15])
        (for_inv (fun j ρ => ∃ (s' : Sr) (c6 c7 c8 c9 : Option D), ρ = [some (.scr ns), some (.src s'), some d, some (.tup (ss.map slD)), some (.int b), some (.lst (ss.map cdD)), c6, c7, c8, c9, c10, c11, c12, c13, c14, c15]) ⟨_, _, _, _, _, rfl⟩ ?_
          fun ρ ⟨s', c6, c7, c8, c9, e⟩ => ⟨s', c6, c7, c8, c9, by rw [e]⟩) ?_
      · rintro i dd ρ hdd ⟨s', c6, c7, c8, c9, rfl⟩
        refine ⟨_, rfl, ?_⟩
        refine ws_seq.mpr ?_
        walk_at "bv1"
        obtain ⟨out, s4, e4, l4, p4⟩ := lc_drawE (gg := nameG 9) (ft := rtn true) (fe := callS F_law_of 1 (consA (lstE (consA (rtn (.int 0)) (consA (getE 4) (consA (callS F_pick 1 (consA (b2 addE (getE 4) (rtn (.int 1))) (rtn []))) (rtn []))))) (rtn []))) (vs := [9])
          (fun s => [some (.scr ns), some (.src s), some d, some (.tup (ss.map slD)), some (.int b), some (.lst (ss.map cdD)), some dd, c7, c8, c9, c10, c11, c12, c13, c14, c15])
          slD (fun y => ∃ z, y = .int z ∧ (0 ≤ z ∧ z ≤ b)) (l := ss) (kil hl) (fun s a _ => ⟨_, rfl, by walk_at "bv1", by
            have pr := pickR_lt (s := s) (many := b + 1) (by omega)
            walk_at "bv1"
            refine ⟨_, _, _, pick_ok _ _ (by omega), ?_⟩
            generalize pickR s (b + 1) = a1 at pr
            obtain ⟨d7, s7, e7, m7⟩ := of_ok (pickS s (b + 1)) [.int 0, .int b, .int a1] (by simp) (by show 3 < 1073741824; decide)
            obtain ⟨y, rfl, y0, y1⟩ : ∃ z, d7 = .int z ∧ 0 ≤ z ∧ z ≤ b := by
              simp only [List.mem_cons, List.not_mem_nil, or_false] at m7
              rcases m7 with rfl | rfl | rfl <;> exact ⟨_, rfl, by omega, by omega⟩
            walk_at "bv1"
            exact ⟨_, _, _, e7, _, rfl, _, rfl, y0, y1⟩⟩) s'
        refine ⟨_, _, e4, ?_⟩
        obtain ⟨ps, rfl, hp⟩ := ints_of (P := fun z => 0 ≤ z ∧ z ≤ b) p4
        rw [List.length_map] at l4
        have lb := law_bound_ok ss ps b hw hl l4 hp B3.2
        have bo := bound_of_ok ss ps b b hw hl l4 hp B3.2
        have rx := repr_num (bound_bd og (by omega) hp ⟨by omega, hb1⟩)
        walk_at "bv1"
        refine sq_step (ws_seq.mpr ?_)
        walk_at "bv1"
        refine ⟨_, lb, ?_⟩
        refine sq_step (ws_seq.mpr ?_)
        walk_at "bv1"
        refine ⟨_, bo, _, rx, _, rx, _, o_neS, _, rfl, ?_⟩
        rw [if_neg (dt rfl)]
        obtain ⟨xs, s5, e5, l5, v5⟩ := some_row_ok s4 ss hw hl
        have pk := price_ok ss xs b hL l5 v5 (by omega) B3
        have lc := least_cost_ok ss b hw hl B3
        have q1 := bound_le ss hw xs ps 0 l5 l4 v5 hp
        have q2 := leasts_cost B3.1 hw l4 hp
        refine sq_step ?_
        walk_at "bv1"
        refine ⟨_, _, _, e5, _, pk, ?_⟩
        walk_at "bv1"
        rw [if_neg (by omega)]
        refine ⟨_, lc, ?_⟩
        walk_at "bv1"
        rw [if_neg (by omega)]
        exact ⟨_, _, _, _, _, rfl⟩
      · rintro _ ⟨s', c6, c7, c8, c9, rfl⟩
        refine sq_step ?_
        walk_at "bv1"
        rw [cutD_3, ← List.map_take]
        refine for_inv (fun j ρ => ∃ (s' : Sr) (c6 c7 c8 c9 c10 c11 c12 c13 c14 c15 : Option D), ρ = [some (.scr ns), some (.src s'), some d, some (.tup (ss.map slD)), some (.int b), some (.lst (ss.map cdD)), c6, c7, c8, c9, c10, c11, c12, c13, c14, c15]) ⟨_, _, _, _, _, _, _, _, _, _, _, rfl⟩ ?_ ?_
        · rintro i dd ρ hdd ⟨s', c6, c7, c8, c9, c10, c11, c12, c13, c14, c15, rfl⟩
          obtain ⟨t, hj, rfl⟩ := map_at hdd
          have tm := List.mem_of_mem_take (List.mem_of_getElem? hj)
          have tw := hw t tm
          have to := og t tm
          have k1 := tw.len.len
          have k2 := tw.len.wide
          refine ⟨_, rfl, ?_⟩
          refine ws_seq.mpr ?_
          rw [← slD_fold t]
          walk_at "bv1"
          obtain ⟨d5, s5, e5, m5⟩ := of_ok s' (t.slopes.map D.int ++ [.int 1]) (by simp) (by simp; omega)
          obtain ⟨z, rfl, z0, z1⟩ : ∃ z, d5 = .int z ∧ -80000000000 ≤ z ∧ z ≤ 80000000000 := by
            rcases List.mem_append.mp m5 with m | m
            · obtain ⟨y, hy, rfl⟩ := List.mem_map.mp m
              exact ⟨y, rfl, (to.1.steep y hy).1, (to.1.steep y hy).2⟩
            · have : d5 = .int 1 := by simpa using m
              exact ⟨1, this, by omega, by omega⟩
          refine ⟨Nat.le_trans (show t.slopes.length + 1 ≤ 5000 by omega) (by decide), _, _, _, e5, ?_⟩
          walk_at "bv1"
          obtain ⟨d6, s6, e6, m6⟩ := of_ok s5 [.int 0, .int (0 - z), .int b, .int (0 - b)] (by simp) (by show 4 < 1073741824; decide)
          obtain ⟨p, rfl, y0, y1⟩ : ∃ z, d6 = .int z ∧ -80000000000 ≤ z ∧ z ≤ 80000000000 := by
            simp only [List.mem_cons, List.not_mem_nil, or_false] at m6
            rcases m6 with rfl | rfl | rfl | rfl <;> exact ⟨_, rfl, by omega, by omega⟩
          refine ⟨_, _, _, e6, ?_⟩
          rw [slD_fold t]
          have sc : vof (F_law_slot_costs [.tup [slD t]]) = some (.lst [cdD t]) := slot_costs_ok [t] (fun x hx => by
            have : x = t := by simpa using hx
            subst this
            omega) (show 1 ≤ 1000 by decide)
          have ln := least_numbers_ok t p (by omega)
          have tl := tilt_wk (p := p) tw
          have tls : (tilt t p).slopes.length = t.slopes.length := List.length_map ..
          have hn1 : t.slopes.length + 1 ≤ sizeLine := Nat.le_trans (show t.slopes.length + 1 ≤ 5000 by omega) (by decide)
          refine sq_step (ws_seq.mpr ?_)
          walk_at "bv1"
          refine ⟨_, sc, ?_⟩
          walk_at "bv1"
          rw [cdD_eq]
          walk_at "bv1"
          refine lc_all (fun kv : Key × D => D.tup [keyOf kv.1, kv.2]) (tiltP p) (by rw [cdK_len]; exact hn1) (fun kv hkv => ?_) ?_
          · obtain ⟨k, hk, rfl⟩ := List.mem_map.mp hkv
            refine ⟨_, rfl, rfl, ?_, ?_⟩
            · walk_at "bv1"
            · walk_at "bv1"
              exact ⟨_, (show mulE (.int p) (.int (t.need + (k : Int))) = some (.int (p * (t.need + (k : Int)))) from if_pos (bnd_mul ⟨by omega, by omega⟩)), _, rfl, rfl⟩
          · walk_at "bv1"
            rw [merge_tilt tw.len]
            refine ⟨_, congrArg (fun z => some (D.dct z)) (merge_cd _), ?_⟩
            refine sq_step (ws_seq.mpr ?_)
            walk_at "bv1"
            rw [cdK_keys]
            have mv : minI (valsL (tilt t p) ((tilt t p).slopes.length + 1)) = some (leastW (tilt t p)) := minI_by (by unfold valsL; rw [List.range_succ]; simp) fun m h1 h2 => vals_least tl h1 h2
            rw [tls] at mv
            refine lc_at D.int (fun z => decide ((tilt t p).first + ((tilt t p).slopes.take (z - (tilt t p).need).toNat).sum = leastW (tilt t p))) D.int (by rw [numsL_len]; exact hn1) (fun a ha => ⟨_, rfl, rfl, ?_, fun _ => ?_⟩) ?_
            · obtain ⟨k, hk, rfl⟩ := List.mem_map.mp ha
              have hk := List.mem_range.mp hk
              walk_at "bv1"
              rw [cdK_at hk, cdK_vals, o_minL, mv]
              walk_at "bv1"
              rw [show ((tilt t p).need + (k : Int) - (tilt t p).need).toNat = k by omega]
            · walk_at "bv1"
            · have el : (numsL (tilt t p) (t.slopes.length + 1)).filter (fun z => decide ((tilt t p).first + ((tilt t p).slopes.take (z - (tilt t p).need).toNat).sum = leastW (tilt t p))) = lowsL (tilt t p) ((tilt t p).slopes.length + 1) := by
                rw [tls]
                exact nums_lows
              rw [el]
              have ml : minI (lowsL (tilt t p) ((tilt t p).slopes.length + 1)) = some (lowW (tilt t p)) := minI_by (List.ne_nil_of_mem (lows_has tl)) fun m h1 h2 => lows_least tl h1 h2
              have mh := lows_most tl
              have li : t.need ≤ lowW (tilt t p) ∧ lowW (tilt t p) ≤ t.most := lowW_in tl
              have hi : t.need ≤ highW (tilt t p) 0 ∧ highW (tilt t p) 0 ≤ t.most := highW_in (b := 0) tl
              have t1 := to.1.lo
              have t2 := to.1.hi
              obtain ⟨x, rx⟩ := repr_pair (a := lowW (tilt t p)) (b := highW (tilt t p) 0) (by omega) (by omega)
              walk_at "bv1"
              refine sq_step ?_
              walk_at "bv1"
              refine ⟨_, ln, _, rx, ?_⟩
              rw [ml, mh]
              walk_at "bv1"
              refine ⟨_, rx, ?_⟩
              walk_at "bv1"
              rw [if_neg (dt trivial)]
              exact ⟨_, _, _, _, _, _, _, _, _, _, _, rfl⟩
        · rintro ρ ⟨s', c6, c7, c8, c9, c10, c11, c12, c13, c14, c15, rfl⟩
          exact ⟨_, _, _, _, _, _, _, _, _, _, _, _, _, _, _, rfl⟩
    · rintro _ ⟨s, c2, c3, c4, c5, c6, c7, c8, c9, c10, c11, c12, c13, c14, c15, rfl⟩
      refine sq_step (ws_seq.mpr ?_)
      walk_at "bv1"
      refine sq_step (ws_seq.mpr ?_)
      walk_at "bv1"
      refine ⟨_, _, ex_lc, ?_⟩
      have g1 : vof (F_bound_of [.tup [], .int 3, .tup []]) = some (.int 0) := bound_of_ok [] [] 3 3 (fun s hs => nomatch hs) (by decide) rfl (fun s hs => nomatch hs) (by decide)
      have g2 : vof (F_least_numbers [.tup [.int 1, .int 4, .int 9, .tup [.int (-2), .int 0, .int 0]], .int 0]) = some (.tup [.int 2, .int 4]) := least_numbers_ok ⟨1, 4, 9, [-2, 0, 0]⟩ 0 (by decide)
      have re : (reprE (.lst [D.int 7, .int 5, .int 2, .int 3, .int 0, .tup [.int 2, .int 4]])).isSome = true := by decide +kernel
      obtain ⟨r, er⟩ := Option.isSome_iff_exists.mp re
      obtain ⟨x, rfl⟩ := reprE_str er
      have ex := o_reprX er
      refine sq_step ?_
      walk_at "bv1"
      refine ⟨_, g1, _, g2, _, ex, _, ex, _, o_eqS, _, rfl, ?_⟩
      rw [decide_eq_true rfl]
  exact ⟨as, e⟩
end BV
set_option Elab.async false
set_option linter.all false
set_option maxRecDepth 100000
namespace K32
open PySem PySem.Spec PyProof.Rows L2 WK BV
theorem all_mk {l : PySem.W.OpenLaw} {w : World} {K : PySem.W.Frag} {h : Heap} {mg : Str → Option Value} {fa fSlotCost fLeastNumbers fPriceRises fLeastPriced fBoundOf fSo fPi fOf fLDrawSlots fLGreatSlots fLSlotCosts fLBound fLStarts fLPrice fLSomeRow fLGoing fLLeastCost fLa : Addr} (X : K.In h) (G : h.Ns mainGlobals mg) (hfa : mg "law" = some (.ref fa))
    {odSlotCost anSlotCost odLeastNumbers anLeastNumbers odPriceRises anPriceRises odLeastPriced anLeastPriced odBoundOf anBoundOf odSo anSo odPi anPi odOf anOf odLDrawSlots anLDrawSlots odLGreatSlots anLGreatSlots odLSlotCosts anLSlotCosts odLBound anLBound odLStarts anLStarts odLPrice anLPrice odLSomeRow anLSomeRow odLGoing anLGoing odLLeastCost anLLeastCost odLa anLa : Option Addr} {slSlotCost slLeastNumbers slPriceRises slLeastPriced slBoundOf slSo slPi slOf slLDrawSlots slLGreatSlots slLSlotCosts slLBound slLStarts slLPrice slLSomeRow slLGoing slLLeastCost slLa : Array (Option Value)} {ocSlotCost kVSlotCost dcSlotCost pmSlotCost cdSlotCost ctSlotCost ocLeastNumbers kVLeastNumbers dcLeastNumbers pmLeastNumbers cdLeastNumbers ctLeastNumbers ocPriceRises kVPriceRises dcPriceRises pmPriceRises cdPriceRises ctPriceRises ocLeastPriced kVLeastPriced dcLeastPriced pmLeastPriced cdLeastPriced ctLeastPriced ocBoundOf kVBoundOf dcBoundOf pmBoundOf cdBoundOf ctBoundOf ocSo kVSo dcSo pmSo cdSo ctSo ocPi kVPi dcPi pmPi cdPi ctPi ocOf kVOf dcOf pmOf cdOf ctOf ocLDrawSlots kVLDrawSlots dcLDrawSlots pmLDrawSlots cdLDrawSlots ctLDrawSlots ocLGreatSlots kVLGreatSlots dcLGreatSlots pmLGreatSlots cdLGreatSlots ctLGreatSlots ocLSlotCosts kVLSlotCosts dcLSlotCosts pmLSlotCosts cdLSlotCosts ctLSlotCosts ocLBound kVLBound dcLBound pmLBound cdLBound ctLBound ocLStarts kVLStarts dcLStarts pmLStarts cdLStarts ctLStarts ocLPrice kVLPrice dcLPrice pmLPrice cdLPrice ctLPrice ocLSomeRow kVLSomeRow dcLSomeRow pmLSomeRow cdLSomeRow ctLSomeRow ocLGoing kVLGoing dcLGoing pmLGoing cdLGoing ctLGoing ocLLeastCost kVLLeastCost dcLLeastCost pmLLeastCost cdLLeastCost ctLLeastCost ocLa kVLa dcLa pmLa cdLa ctLa : Value}
    (aSlotCost : PySem.W.nsIn K mainGlobals "slot_cost" = some (some (.ref fSlotCost))) (lSlotCost : K.lookup fSlotCost = some ⟨ocSlotCost, odSlotCost, .func (PySem.W.fnOf "slot_cost" "slot_cost" (defArgs sSlotCost) (defBody sSlotCost) (defScope sSlotCost) .none kVSlotCost dcSlotCost pmSlotCost anSlotCost cdSlotCost ctSlotCost), slSlotCost⟩)
      (cSlotCost : PySem.W.codeIn K cdSlotCost "slot_cost" = true) (kSlotCost : PySem.W.keepIn K (.ref fSlotCost) = true)
    (aLeastNumbers : PySem.W.nsIn K mainGlobals "least_numbers" = some (some (.ref fLeastNumbers))) (lLeastNumbers : K.lookup fLeastNumbers = some ⟨ocLeastNumbers, odLeastNumbers, .func (PySem.W.fnOf "least_numbers" "least_numbers" (defArgs sLeastNumbers) (defBody sLeastNumbers) (defScope sLeastNumbers) .none kVLeastNumbers dcLeastNumbers pmLeastNumbers anLeastNumbers cdLeastNumbers ctLeastNumbers), slLeastNumbers⟩)
      (cLeastNumbers : PySem.W.codeIn K cdLeastNumbers "least_numbers" = true) (kLeastNumbers : PySem.W.keepIn K (.ref fLeastNumbers) = true)
    (aPriceRises : PySem.W.nsIn K mainGlobals "price_rises" = some (some (.ref fPriceRises))) (lPriceRises : K.lookup fPriceRises = some ⟨ocPriceRises, odPriceRises, .func (PySem.W.fnOf "price_rises" "price_rises" (defArgs sPriceRises) (defBody sPriceRises) (defScope sPriceRises) .none kVPriceRises dcPriceRises pmPriceRises anPriceRises cdPriceRises ctPriceRises), slPriceRises⟩)
      (cPriceRises : PySem.W.codeIn K cdPriceRises "price_rises" = true) (kPriceRises : PySem.W.keepIn K (.ref fPriceRises) = true)
    (aLeastPriced : PySem.W.nsIn K mainGlobals "least_priced" = some (some (.ref fLeastPriced))) (lLeastPriced : K.lookup fLeastPriced = some ⟨ocLeastPriced, odLeastPriced, .func (PySem.W.fnOf "least_priced" "least_priced" (defArgs sLeastPriced) (defBody sLeastPriced) (defScope sLeastPriced) .none kVLeastPriced dcLeastPriced pmLeastPriced anLeastPriced cdLeastPriced ctLeastPriced), slLeastPriced⟩)
      (cLeastPriced : PySem.W.codeIn K cdLeastPriced "least_priced" = true) (kLeastPriced : PySem.W.keepIn K (.ref fLeastPriced) = true)
    (aBoundOf : PySem.W.nsIn K mainGlobals "bound_of" = some (some (.ref fBoundOf))) (lBoundOf : K.lookup fBoundOf = some ⟨ocBoundOf, odBoundOf, .func (PySem.W.fnOf "bound_of" "bound_of" (defArgs sBoundOf) (defBody sBoundOf) (defScope sBoundOf) .none kVBoundOf dcBoundOf pmBoundOf anBoundOf cdBoundOf ctBoundOf), slBoundOf⟩)
      (cBoundOf : PySem.W.codeIn K cdBoundOf "bound_of" = true) (kBoundOf : PySem.W.keepIn K (.ref fBoundOf) = true)
    (aSo : PySem.W.nsIn K mainGlobals "_law_source" = some (some (.ref fSo))) (lSo : K.lookup fSo = some ⟨ocSo, odSo, .func (PySem.W.fnOf "_law_source" "_law_source" (defArgs sSo) (defBody sSo) (defScope sSo) .none kVSo dcSo pmSo anSo cdSo ctSo), slSo⟩)
      (cSo : PySem.W.codeIn K cdSo "_law_source" = true) (kSo : PySem.W.keepIn K (.ref fSo) = true)
    (aPi : PySem.W.nsIn K mainGlobals "_law_pick" = some (some (.ref fPi))) (lPi : K.lookup fPi = some ⟨ocPi, odPi, .func (PySem.W.fnOf "_law_pick" "_law_pick" (defArgs sPi) (defBody sPi) (defScope sPi) .none kVPi dcPi pmPi anPi cdPi ctPi), slPi⟩)
      (cPi : PySem.W.codeIn K cdPi "_law_pick" = true) (kPi : PySem.W.keepIn K (.ref fPi) = true)
    (aOf : PySem.W.nsIn K mainGlobals "_law_of" = some (some (.ref fOf))) (lOf : K.lookup fOf = some ⟨ocOf, odOf, .func (PySem.W.fnOf "_law_of" "_law_of" (defArgs sOf) (defBody sOf) (defScope sOf) .none kVOf dcOf pmOf anOf cdOf ctOf), slOf⟩)
      (cOf : PySem.W.codeIn K cdOf "_law_of" = true) (kOf : PySem.W.keepIn K (.ref fOf) = true)
    (aLDrawSlots : PySem.W.nsIn K mainGlobals "_law_draw_slots" = some (some (.ref fLDrawSlots))) (lLDrawSlots : K.lookup fLDrawSlots = some ⟨ocLDrawSlots, odLDrawSlots, .func (PySem.W.fnOf "_law_draw_slots" "_law_draw_slots" (defArgs sLDrawSlots) (defBody sLDrawSlots) (defScope sLDrawSlots) .none kVLDrawSlots dcLDrawSlots pmLDrawSlots anLDrawSlots cdLDrawSlots ctLDrawSlots), slLDrawSlots⟩)
      (cLDrawSlots : PySem.W.codeIn K cdLDrawSlots "_law_draw_slots" = true) (kLDrawSlots : PySem.W.keepIn K (.ref fLDrawSlots) = true)
    (aLGreatSlots : PySem.W.nsIn K mainGlobals "_law_great_slots" = some (some (.ref fLGreatSlots))) (lLGreatSlots : K.lookup fLGreatSlots = some ⟨ocLGreatSlots, odLGreatSlots, .func (PySem.W.fnOf "_law_great_slots" "_law_great_slots" (defArgs sLGreatSlots) (defBody sLGreatSlots) (defScope sLGreatSlots) .none kVLGreatSlots dcLGreatSlots pmLGreatSlots anLGreatSlots cdLGreatSlots ctLGreatSlots), slLGreatSlots⟩)
      (cLGreatSlots : PySem.W.codeIn K cdLGreatSlots "_law_great_slots" = true) (kLGreatSlots : PySem.W.keepIn K (.ref fLGreatSlots) = true)
    (aLSlotCosts : PySem.W.nsIn K mainGlobals "_law_slot_costs" = some (some (.ref fLSlotCosts))) (lLSlotCosts : K.lookup fLSlotCosts = some ⟨ocLSlotCosts, odLSlotCosts, .func (PySem.W.fnOf "_law_slot_costs" "_law_slot_costs" (defArgs sLSlotCosts) (defBody sLSlotCosts) (defScope sLSlotCosts) .none kVLSlotCosts dcLSlotCosts pmLSlotCosts anLSlotCosts cdLSlotCosts ctLSlotCosts), slLSlotCosts⟩)
      (cLSlotCosts : PySem.W.codeIn K cdLSlotCosts "_law_slot_costs" = true) (kLSlotCosts : PySem.W.keepIn K (.ref fLSlotCosts) = true)
    (aLBound : PySem.W.nsIn K mainGlobals "_law_bound" = some (some (.ref fLBound))) (lLBound : K.lookup fLBound = some ⟨ocLBound, odLBound, .func (PySem.W.fnOf "_law_bound" "_law_bound" (defArgs sLBound) (defBody sLBound) (defScope sLBound) .none kVLBound dcLBound pmLBound anLBound cdLBound ctLBound), slLBound⟩)
      (cLBound : PySem.W.codeIn K cdLBound "_law_bound" = true) (kLBound : PySem.W.keepIn K (.ref fLBound) = true)
    (aLStarts : PySem.W.nsIn K mainGlobals "_law_starts" = some (some (.ref fLStarts))) (lLStarts : K.lookup fLStarts = some ⟨ocLStarts, odLStarts, .func (PySem.W.fnOf "_law_starts" "_law_starts" (defArgs sLStarts) (defBody sLStarts) (defScope sLStarts) .none kVLStarts dcLStarts pmLStarts anLStarts cdLStarts ctLStarts), slLStarts⟩)
      (cLStarts : PySem.W.codeIn K cdLStarts "_law_starts" = true) (kLStarts : PySem.W.keepIn K (.ref fLStarts) = true)
    (aLPrice : PySem.W.nsIn K mainGlobals "_law_price" = some (some (.ref fLPrice))) (lLPrice : K.lookup fLPrice = some ⟨ocLPrice, odLPrice, .func (PySem.W.fnOf "_law_price" "_law_price" (defArgs sLPrice) (defBody sLPrice) (defScope sLPrice) .none kVLPrice dcLPrice pmLPrice anLPrice cdLPrice ctLPrice), slLPrice⟩)
      (cLPrice : PySem.W.codeIn K cdLPrice "_law_price" = true) (kLPrice : PySem.W.keepIn K (.ref fLPrice) = true)
    (aLSomeRow : PySem.W.nsIn K mainGlobals "_law_some_row" = some (some (.ref fLSomeRow))) (lLSomeRow : K.lookup fLSomeRow = some ⟨ocLSomeRow, odLSomeRow, .func (PySem.W.fnOf "_law_some_row" "_law_some_row" (defArgs sLSomeRow) (defBody sLSomeRow) (defScope sLSomeRow) .none kVLSomeRow dcLSomeRow pmLSomeRow anLSomeRow cdLSomeRow ctLSomeRow), slLSomeRow⟩)
      (cLSomeRow : PySem.W.codeIn K cdLSomeRow "_law_some_row" = true) (kLSomeRow : PySem.W.keepIn K (.ref fLSomeRow) = true)
    (aLGoing : PySem.W.nsIn K mainGlobals "_law_going" = some (some (.ref fLGoing))) (lLGoing : K.lookup fLGoing = some ⟨ocLGoing, odLGoing, .func (PySem.W.fnOf "_law_going" "_law_going" (defArgs sLGoing) (defBody sLGoing) (defScope sLGoing) .none kVLGoing dcLGoing pmLGoing anLGoing cdLGoing ctLGoing), slLGoing⟩)
      (cLGoing : PySem.W.codeIn K cdLGoing "_law_going" = true) (kLGoing : PySem.W.keepIn K (.ref fLGoing) = true)
    (aLLeastCost : PySem.W.nsIn K mainGlobals "_law_least_cost" = some (some (.ref fLLeastCost))) (lLLeastCost : K.lookup fLLeastCost = some ⟨ocLLeastCost, odLLeastCost, .func (PySem.W.fnOf "_law_least_cost" "_law_least_cost" (defArgs sLLeastCost) (defBody sLLeastCost) (defScope sLLeastCost) .none kVLLeastCost dcLLeastCost pmLLeastCost anLLeastCost cdLLeastCost ctLLeastCost), slLLeastCost⟩)
      (cLLeastCost : PySem.W.codeIn K cdLLeastCost "_law_least_cost" = true) (kLLeastCost : PySem.W.keepIn K (.ref fLLeastCost) = true)
    (aLa : PySem.W.nsIn K mainGlobals "law" = some (some (.ref fLa))) (lLa : K.lookup fLa = some ⟨ocLa, odLa, .func (PySem.W.fnOf "law" "law" (defArgs sLa) (defBody sLa) (defScope sLa) .none kVLa dcLa pmLa anLa cdLa ctLa), slLa⟩)
      (cLa : PySem.W.codeIn K cdLa "law" = true) (kLa : PySem.W.keepIn K (.ref fLa) = true)
    (zint : PySem.W.nsIn K mainGlobals "int" = some none)
    (zabs : PySem.W.nsIn K mainGlobals "abs" = some none)
    (zlen : PySem.W.nsIn K mainGlobals "len" = some none)
    (zmax : PySem.W.nsIn K mainGlobals "max" = some none)
    (zmin : PySem.W.nsIn K mainGlobals "min" = some none)
    (ztuple : PySem.W.nsIn K mainGlobals "tuple" = some none)
    (zrange : PySem.W.nsIn K mainGlobals "range" = some none)
    (zzip : PySem.W.nsIn K mainGlobals "zip" = some none)
    (zenumerate : PySem.W.nsIn K mainGlobals "enumerate" = some none)
    (zrepr : PySem.W.nsIn K mainGlobals "repr" = some none)
    (zsum : PySem.W.nsIn K mainGlobals "sum" = some none)
    (zall : PySem.W.nsIn K mainGlobals "all" = some none)
    (zany : PySem.W.nsIn K mainGlobals "any" = some none)
    (zsorted : PySem.W.nsIn K mainGlobals "sorted" = some none)
    (zlist : PySem.W.nsIn K mainGlobals "list" = some none)
    (zdict : PySem.W.nsIn K mainGlobals "dict" = some none)
    (zset : PySem.W.nsIn K mainGlobals "set" = some none)
    (zisinstance : PySem.W.nsIn K mainGlobals "isinstance" = some none)
    (zreversed : PySem.W.nsIn K mainGlobals "reversed" = some none)
    : ∃ fd : FuncData, (∀ (s : Shared) (v : Value), BindsTo s fd ⟨[v], []⟩ [("script", v)]) ∧ ∀ base : Heap, K.In base → base.Ns mainGlobals mg → FnG l.prog w K mg base 5 fa fd ["script"] (spLaw K) := by
  have e := hfa.symm.trans (PySem.W.mg_of X G aLa)
  cases e
  have FSlotCost := fun_mk (st := sSlotCost) lSlotCost cSlotCost kSlotCost
  have FLeastNumbers := fun_mk (st := sLeastNumbers) lLeastNumbers cLeastNumbers kLeastNumbers
  have FPriceRises := fun_mk (st := sPriceRises) lPriceRises cPriceRises kPriceRises
  have FLeastPriced := fun_mk (st := sLeastPriced) lLeastPriced cLeastPriced kLeastPriced
  have FBoundOf := fun_mk (st := sBoundOf) lBoundOf cBoundOf kBoundOf
  have FSo := fun_mk (st := sSo) lSo cSo kSo
  have FPi := fun_mk (st := sPi) lPi cPi kPi
  have FOf := fun_mk (st := sOf) lOf cOf kOf
  have FLDrawSlots := fun_mk (st := sLDrawSlots) lLDrawSlots cLDrawSlots kLDrawSlots
  have FLGreatSlots := fun_mk (st := sLGreatSlots) lLGreatSlots cLGreatSlots kLGreatSlots
  have FLSlotCosts := fun_mk (st := sLSlotCosts) lLSlotCosts cLSlotCosts kLSlotCosts
  have FLBound := fun_mk (st := sLBound) lLBound cLBound kLBound
  have FLStarts := fun_mk (st := sLStarts) lLStarts cLStarts kLStarts
  have FLPrice := fun_mk (st := sLPrice) lLPrice cLPrice kLPrice
  have FLSomeRow := fun_mk (st := sLSomeRow) lLSomeRow cLSomeRow kLSomeRow
  have FLGoing := fun_mk (st := sLGoing) lLGoing cLGoing kLGoing
  have FLLeastCost := fun_mk (st := sLLeastCost) lLLeastCost cLLeastCost kLLeastCost
  have FLa := fun_mk (st := sLa) lLa cLa kLa
  have bSlotCost := FSlotCost.binds (ps := ["slot", "x"]) fun _ _ _ _ _ _ us hl => match us, hl with | [_, _], _ => rfl
  have gSlotCost := PySem.W.mg_of X G aSlotCost
  have bLeastNumbers := FLeastNumbers.binds (ps := ["slot", "price"]) fun _ _ _ _ _ _ us hl => match us, hl with | [_, _], _ => rfl
  have gLeastNumbers := PySem.W.mg_of X G aLeastNumbers
  have bPriceRises := FPriceRises.binds (ps := ["prices"]) fun _ _ _ _ _ _ us hl => match us, hl with | [_], _ => rfl
  have gPriceRises := PySem.W.mg_of X G aPriceRises
  have bLeastPriced := FLeastPriced.binds (ps := ["slot", "price"]) fun _ _ _ _ _ _ us hl => match us, hl with | [_, _], _ => rfl
  have gLeastPriced := PySem.W.mg_of X G aLeastPriced
  have bBoundOf := FBoundOf.binds (ps := ["slots", "b", "prices"]) fun _ _ _ _ _ _ us hl => match us, hl with | [_, _, _], _ => rfl
  have gBoundOf := PySem.W.mg_of X G aBoundOf
  have bSo := FSo.binds (ps := ["script"]) fun _ _ _ _ _ _ us hl => match us, hl with | [_], _ => rfl
  have gSo := PySem.W.mg_of X G aSo
  have bPi := FPi.binds (ps := ["source", "many"]) fun _ _ _ _ _ _ us hl => match us, hl with | [_, _], _ => rfl
  have gPi := PySem.W.mg_of X G aPi
  have bOf := FOf.binds (ps := ["source", "some"]) fun _ _ _ _ _ _ us hl => match us, hl with | [_, _], _ => rfl
  have gOf := PySem.W.mg_of X G aOf
  have bLDrawSlots := FLDrawSlots.binds (ps := ["source", "ticks", "most"]) fun _ _ _ _ _ _ us hl => match us, hl with | [_, _, _], _ => rfl
  have gLDrawSlots := PySem.W.mg_of X G aLDrawSlots
  have bLGreatSlots := FLGreatSlots.binds (ps := ["source", "ticks", "most"]) fun _ _ _ _ _ _ us hl => match us, hl with | [_, _, _], _ => rfl
  have gLGreatSlots := PySem.W.mg_of X G aLGreatSlots
  have bLSlotCosts := FLSlotCosts.binds (ps := ["slots"]) fun _ _ _ _ _ _ us hl => match us, hl with | [_], _ => rfl
  have gLSlotCosts := PySem.W.mg_of X G aLSlotCosts
  have bLBound := FLBound.binds (ps := ["slots", "prices"]) fun _ _ _ _ _ _ us hl => match us, hl with | [_, _], _ => rfl
  have gLBound := PySem.W.mg_of X G aLBound
  have bLStarts := FLStarts.binds (ps := ["row"]) fun _ _ _ _ _ _ us hl => match us, hl with | [_], _ => rfl
  have gLStarts := PySem.W.mg_of X G aLStarts
  have bLPrice := FLPrice.binds (ps := ["costs", "row", "b"]) fun _ _ _ _ _ _ us hl => match us, hl with | [_, _, _], _ => rfl
  have gLPrice := PySem.W.mg_of X G aLPrice
  have bLSomeRow := FLSomeRow.binds (ps := ["source", "slots"]) fun _ _ _ _ _ _ us hl => match us, hl with | [_, _], _ => rfl
  have gLSomeRow := PySem.W.mg_of X G aLSomeRow
  have bLGoing := FLGoing.binds (ps := ["costs", "b"]) fun _ _ _ _ _ _ us hl => match us, hl with | [_, _], _ => rfl
  have gLGoing := PySem.W.mg_of X G aLGoing
  have bLLeastCost := FLLeastCost.binds (ps := ["costs", "b"]) fun _ _ _ _ _ _ us hl => match us, hl with | [_, _], _ => rfl
  have gLLeastCost := PySem.W.mg_of X G aLLeastCost
  have B : Bl mg := { int := PySem.W.mg_none_of X G zint, abs := PySem.W.mg_none_of X G zabs, len := PySem.W.mg_none_of X G zlen, max := PySem.W.mg_none_of X G zmax, min := PySem.W.mg_none_of X G zmin, tuple := PySem.W.mg_none_of X G ztuple, range := PySem.W.mg_none_of X G zrange, zip := PySem.W.mg_none_of X G zzip, enumerate := PySem.W.mg_none_of X G zenumerate, repr := PySem.W.mg_none_of X G zrepr, sum := PySem.W.mg_none_of X G zsum, all := PySem.W.mg_none_of X G zall, any := PySem.W.mg_none_of X G zany, sorted := PySem.W.mg_none_of X G zsorted, list := PySem.W.mg_none_of X G zlist, dict := PySem.W.mg_none_of X G zdict, set := PySem.W.mg_none_of X G zset, isinstance := PySem.W.mg_none_of X G zisinstance, reversed := PySem.W.mg_none_of X G zreversed }
  have D : Dfs K mg fSlotCost fLeastNumbers fPriceRises fLeastPriced fBoundOf fSo fPi fOf fLDrawSlots fLGreatSlots fLSlotCosts fLBound fLStarts fLPrice fLSomeRow fLGoing fLLeastCost _ _ _ _ _ _ _ _ _ _ _ _ _ _ _ _ _  := { FSlotCost := FSlotCost, bSlotCost := bSlotCost, gSlotCost := gSlotCost, FLeastNumbers := FLeastNumbers, bLeastNumbers := bLeastNumbers, gLeastNumbers := gLeastNumbers, FPriceRises := FPriceRises, bPriceRises := bPriceRises, gPriceRises := gPriceRises, FLeastPriced := FLeastPriced, bLeastPriced := bLeastPriced, gLeastPriced := gLeastPriced, FBoundOf := FBoundOf, bBoundOf := bBoundOf, gBoundOf := gBoundOf, FSo := FSo, bSo := bSo, gSo := gSo, FPi := FPi, bPi := bPi, gPi := gPi, FOf := FOf, bOf := bOf, gOf := gOf, FLDrawSlots := FLDrawSlots, bLDrawSlots := bLDrawSlots, gLDrawSlots := gLDrawSlots, FLGreatSlots := FLGreatSlots, bLGreatSlots := bLGreatSlots, gLGreatSlots := gLGreatSlots, FLSlotCosts := FLSlotCosts, bLSlotCosts := bLSlotCosts, gLSlotCosts := gLSlotCosts, FLBound := FLBound, bLBound := bLBound, gLBound := gLBound, FLStarts := FLStarts, bLStarts := bLStarts, gLStarts := gLStarts, FLPrice := FLPrice, bLPrice := bLPrice, gLPrice := gLPrice, FLSomeRow := FLSomeRow, bLSomeRow := bLSomeRow, gLSomeRow := gLSomeRow, FLGoing := FLGoing, bLGoing := bLGoing, gLGoing := gLGoing, FLLeastCost := FLLeastCost, bLLeastCost := bLLeastCost, gLLeastCost := gLLeastCost }
  exact ⟨PySem.W.fnOf "law" "law" (defArgs sLa) (defBody sLa) (defScope sLa) .none kVLa dcLa pmLa anLa cdLa ctLa, fun s v => .of_eq rfl, fun base _ _ => ok_law FLa D B law_true32⟩
end K32
open PySem PySem.W PyProof.Rows
set_option maxRecDepth 100000 in
set_option maxHeartbeats 0 in
theorem PySem.Challenge.cw_wakedenough_k32_whole_bounds_of_prices_holds : PySem.Challenge.rw_wakedenough_k32_whole_bounds_of_prices.Holds := by
  w_on; o_law; k_head; (case hw => w_witness2)
  k_fill
  refine WK.walk_ofG (l := PySem.Challenge.rw_wakedenough_k32_whole_bounds_of_prices) (n := 63) (k := 5) (x := "script") (sp := fun w => K32.spLaw _) rfl (by decide) rfl ⟨rfl, by decide, by decide⟩ (fun w h Y => PySem.W.kIn_of Y) ?F (fun _ _ a ns hl _ hS => ⟨a, ns, rfl, hS, hl, fun _ => rfl⟩)
  case F =>
    intro w mg fa h KX G hmg
    refine' K32.all_mk KX G hmg ?aSlotCost ?lSlotCost ?cSlotCost ?kSlotCost ?aLeastNumbers ?lLeastNumbers ?cLeastNumbers ?kLeastNumbers ?aPriceRises ?lPriceRises ?cPriceRises ?kPriceRises ?aLeastPriced ?lLeastPriced ?cLeastPriced ?kLeastPriced ?aBoundOf ?lBoundOf ?cBoundOf ?kBoundOf ?aSo ?lSo ?cSo ?kSo ?aPi ?lPi ?cPi ?kPi ?aOf ?lOf ?cOf ?kOf ?aLDrawSlots ?lLDrawSlots ?cLDrawSlots ?kLDrawSlots ?aLGreatSlots ?lLGreatSlots ?cLGreatSlots ?kLGreatSlots ?aLSlotCosts ?lLSlotCosts ?cLSlotCosts ?kLSlotCosts ?aLBound ?lLBound ?cLBound ?kLBound ?aLStarts ?lLStarts ?cLStarts ?kLStarts ?aLPrice ?lLPrice ?cLPrice ?kLPrice ?aLSomeRow ?lLSomeRow ?cLSomeRow ?kLSomeRow ?aLGoing ?lLGoing ?cLGoing ?kLGoing ?aLLeastCost ?lLLeastCost ?cLLeastCost ?kLLeastCost ?aLa ?lLa ?cLa ?kLa ?zint ?zabs ?zlen ?zmax ?zmin ?ztuple ?zrange ?zzip ?zenumerate ?zrepr ?zsum ?zall ?zany ?zsorted ?zlist ?zdict ?zset ?zisinstance ?zreversed
    (case aSlotCost => k_is); (case lSlotCost => k_is); (case cSlotCost => k_is); (case kSlotCost => k_is); (case aLeastNumbers => k_is); (case lLeastNumbers => k_is); (case cLeastNumbers => k_is); (case kLeastNumbers => k_is); (case aPriceRises => k_is); (case lPriceRises => k_is); (case cPriceRises => k_is); (case kPriceRises => k_is); (case aLeastPriced => k_is); (case lLeastPriced => k_is); (case cLeastPriced => k_is); (case kLeastPriced => k_is); (case aBoundOf => k_is); (case lBoundOf => k_is); (case cBoundOf => k_is); (case kBoundOf => k_is); (case aSo => k_is); (case lSo => k_is); (case cSo => k_is); (case kSo => k_is); (case aPi => k_is); (case lPi => k_is); (case cPi => k_is); (case kPi => k_is); (case aOf => k_is); (case lOf => k_is); (case cOf => k_is); (case kOf => k_is); (case aLDrawSlots => k_is); (case lLDrawSlots => k_is); (case cLDrawSlots => k_is); (case kLDrawSlots => k_is); (case aLGreatSlots => k_is); (case lLGreatSlots => k_is); (case cLGreatSlots => k_is); (case kLGreatSlots => k_is); (case aLSlotCosts => k_is); (case lLSlotCosts => k_is); (case cLSlotCosts => k_is); (case kLSlotCosts => k_is); (case aLBound => k_is); (case lLBound => k_is); (case cLBound => k_is); (case kLBound => k_is); (case aLStarts => k_is); (case lLStarts => k_is); (case cLStarts => k_is); (case kLStarts => k_is); (case aLPrice => k_is); (case lLPrice => k_is); (case cLPrice => k_is); (case kLPrice => k_is); (case aLSomeRow => k_is); (case lLSomeRow => k_is); (case cLSomeRow => k_is); (case kLSomeRow => k_is); (case aLGoing => k_is); (case lLGoing => k_is); (case cLGoing => k_is); (case kLGoing => k_is); (case aLLeastCost => k_is); (case lLLeastCost => k_is); (case cLLeastCost => k_is); (case kLLeastCost => k_is); (case aLa => k_is); (case lLa => k_is); (case cLa => k_is); (case kLa => k_is); (case zint => k_is); (case zabs => k_is); (case zlen => k_is); (case zmax => k_is); (case zmin => k_is); (case ztuple => k_is); (case zrange => k_is); (case zzip => k_is); (case zenumerate => k_is); (case zrepr => k_is); (case zsum => k_is); (case zall => k_is); (case zany => k_is); (case zsorted => k_is); (case zlist => k_is); (case zdict => k_is); (case zset => k_is); (case zisinstance => k_is); (case zreversed => k_is)
