import PyProof.Rows.All
import Wide.All
import OpenK.AllK
import Wide.FinOn
import HandS.ForMost
import HandS.Evl
import HandS.IsInst
import HandS.TupLe
import HandS.Conv
import HandS.SetFor
import HandS.Zip
import HandS.Defaults
import KE.KEqSeq
import PyProof.ReprRoads
import HandS.Star
import HandS.More
import KE.KSuper
import HandS.Zip0
import KE.KDictZip
import HandS.SortInts
import HandS.TupAny
import HandS.Iter
import KE.GoesEnum
import HandS.Walk
import HandS.DictComp
import HandS.Exc
import HandS.Lambda
import HandS.TryOnly
import HandS.Call
import KE.KExcIs
import HandS.ForSpec
import HandS.ExcOwn
import HandS.EndTab
import HandS.SortKw
import KE.KMinKey
import KE.DatumOrd
import HandS.Strs
import HandS.Text
import HandS.StrMore
import HandS.OwnEq
import PyProof.InstNe
import PyProof.DefStmt
import PyProof.StrOps2
import PyProof.FitsStr
import PyProof.SliceStr2
import HandS.Style
import HandS.TupMul
import PyProof.Rows.SortShellAny
import PyProof.NeKinds
import KE.KDictPairs
import HandS.Dict
import KE.OsSort
import PyProof.Rows.StrJoinMade
import KE.GoesEnumKw
import KE.KItemsList
import HandS.ListItems
import KE.KCallOwn
import HandS.ExcField
import HandS.ExcIs
import PySem.Challenge.RW_threelanes_k41_trees_of_bags_made_and_re
set_option Elab.async false
set_option linter.all false
set_option maxRecDepth 100000
section S_Ru
namespace Tl
open PySem PySem.Spec PyProof.Rows L2
/-! ### len(set(x)) of a list or a tuple of ints, unlike or not -/
theorem met_len (ns : List Int) : ∀ i, i ≤ ns.length → ((firstMet (fun i => ns.getD i 0) i).length = i ↔ (ns.take i).Nodup) ∧ ∀ k, k ∈ firstMet (fun i => ns.getD i 0) i ↔ k ∈ ns.take i
  | 0, _ => by
    rw [firstMet_zero]
    simp
  | i + 1, h => by
    have hi : i < ns.length := h
    obtain ⟨a1, a2⟩ := met_len ns i (Nat.le_of_lt hi)
    have ex : ns.getD i 0 = ns[i] := by simp [List.getD_eq_getElem?_getD, hi]
    have et : ns.take (i + 1) = ns.take i ++ [ns[i]] := by rw [List.take_add_one, List.getElem?_eq_getElem hi] <;> rfl
    have eb : (firstMet (fun i => ns.getD i 0) i).any (· == ns[i]) = true ↔ ns[i] ∈ ns.take i := by
      rw [List.any_eq_true]
      constructor
      · intro ⟨x, hx, he⟩
        rw [← beq_iff_eq.mp he]
        exact (a2 x).mp hx
      · intro hx
        exact ⟨_, (a2 _).mpr hx, beq_self_eq_true _⟩
    have le := firstMet_length_le (fun i => ns.getD i 0) i
    rw [firstMet_succ, et]
    show ((step_dedup _ (ns.getD i 0)).length = i + 1 ↔ _) ∧ _
    rw [ex]
    unfold step_dedup
    have nd : (ns.take i ++ [ns[i]]).Nodup ↔ (ns.take i).Nodup ∧ ns[i] ∉ ns.take i := by
      rw [List.nodup_append]
      simp
      exact fun _ => ⟨fun y z => y _ z rfl, fun y a ha e => y (e ▸ ha)⟩
    by_cases hm : ns[i] ∈ ns.take i
    · rw [if_pos (eb.mpr hm)]
      refine ⟨⟨fun e => by omega, fun e => absurd hm (nd.mp e).2⟩, fun k => ?_⟩
      rw [a2 k, List.mem_append, List.mem_singleton]
      exact ⟨.inl, fun z => z.elim id fun e => e ▸ hm⟩
    · rw [if_neg (fun z => hm (eb.mp z))]
      refine ⟨?_, fun k => ?_⟩
      · rw [List.length_append, List.length_singleton, nd]
        exact ⟨fun e => ⟨a1.mp (by omega), hm⟩, fun e => by rw [a1.mpr e.1]⟩
      · rw [List.mem_append, List.mem_append, a2 k]
def tLenSetN (K : PySem.W.Frag) (ta : TE) : TE := fun σ H Q => ta σ H fun x H1 => ∃ (l : Addr) (ns : List Int), x = .ref l ∧ SqL K H1 l (ns.map V.int) ∧ ns.length ≤ 4000 ∧ ∀ c : Nat, (c = ns.length ↔ ns.Nodup) → Q (.int (c : Int)) H1
theorem pe_lenSetN {X : Cx} {a : Expr} {ta : TE} {p p2 q pos : Pos} (hg : Gl X "len") (hm : X.mg "len" = none) (hg2 : Gl X "set") (hm2 : X.mg "set" = none) (ha : PE X a ta) (hc : X.calm = true := by rfl)
    (na : starEach [a] X.env = (false, eval a X.env) :: starEach [] X.env := by rfl) : PE X (.Call (.Name "len" p) [.Call (.Name "set" p2) [a] [] q] [] pos) (tLenSetN X.K ta) := by
  constructor
  intro pins s σ H Q I h
  refine Call_ (ld_blt I hg hm boot_len (callWith_builtin1 (args_cons (Call_ (ld_blt I hg2 hm2 boot_set (callWith_type1 (args_cons (thn (ha.run pins s σ H _ I h) fun v s1 hv => args_nil ?_) na) na rfl))) rfl) rfl rfl))
  obtain ⟨x, H1, I1, r1, l, ns, rfl, hq, hl, q1⟩ := hv
  cases r1
  obtain ⟨its, r, pl, hz⟩ := I1.list hq
  have hn : its.toArray.size = ns.length := by rw [List.size_toArray, ← r.length, List.length_map]
  refine call_set_list (I1.ok.hd hc) pl.isList (by simpa using RZ.intsAre_vals r) (by rw [hn]; unfold scanBound; omega) fun h' tk hS hk => args_nil ?_
  obtain ⟨o, es, ep, t, ho, hex, hd, _, _, hb, hf, hsz⟩ := hS
  have I2 : Inv X pins σ H1 { s1 with heap := h', toks := tk } := I1.kept fun b o e => hk b o (Heap.lt_size e) e
  refine call_len_set ho hex hd hf (by unfold scanBound at hb; omega) ⟨.int es.size, H1, I2.tok _, ⟨_, rfl⟩, q1 es.size ?_⟩
  rw [hsz, hn]
  have e := (met_len ns ns.length (Nat.le_refl _)).1
  rwa [List.take_length] at e
/-- the same of a tuple -/
def tLenSetU (K : PySem.W.Frag) (ta : TE) : TE := fun σ H Q => ta σ H fun x H1 => ∃ (l : Addr) (ns : List Int), x = .ref l ∧ SqT K H1 l (ns.map V.int) ∧ ns.length ≤ 4000 ∧ ∀ c : Nat, (c = ns.length ↔ ns.Nodup) → Q (.int (c : Int)) H1
theorem nodup_same {as bs : List Int} (ha : as.Nodup) (hm : ∀ k, k ∈ bs ↔ k ∈ as) : as.length = bs.length ↔ bs.Nodup := by
  have sub : ∀ (as bs : List Int), as.Nodup → (∀ k, k ∈ as → k ∈ bs) → as.length ≤ bs.length := by
    intro as
    induction as with
    | nil => intro bs _ _; exact Nat.zero_le _
    | cons a r ih =>
      intro bs hn hs
      rw [List.nodup_cons] at hn
      have h1 : a ∈ bs := hs a List.mem_cons_self
      have h2 := ih (bs.erase a) hn.2 fun k hk => by
        have hne : k ≠ a := fun e => hn.1 (e ▸ hk)
        exact (List.mem_erase_of_ne hne).mpr (hs k (List.mem_cons_of_mem _ hk))
      rw [List.length_erase_of_mem h1] at h2
      have h3 : 0 < bs.length := List.length_pos_of_mem h1
      rw [List.length_cons]
      omega
  have strict : ∀ (bs as : List Int), as.Nodup → (∀ k, k ∈ as → k ∈ bs) → ¬ bs.Nodup → as.length < bs.length := by
    intro bs
    induction bs with
    | nil => intro as _ _ h; exact absurd List.nodup_nil h
    | cons b r ih =>
      intro as hn hs hb
      rw [List.length_cons]
      by_cases hbr : b ∈ r
      · have := sub as r hn fun k hk => by
          rcases List.mem_cons.mp (hs k hk) with e | e
          · rw [e]; exact hbr
          · exact e
        omega
      · have hr : ¬ r.Nodup := fun z => hb (List.nodup_cons.mpr ⟨hbr, z⟩)
        have h1 := ih (as.erase b) (hn.erase b) (fun k hk => by
          have h2 := hn.mem_erase_iff.mp hk
          rcases List.mem_cons.mp (hs k h2.2) with e | e
          · exact absurd e h2.1
          · exact e) hr
        by_cases ha : b ∈ as
        · rw [List.length_erase_of_mem ha] at h1
          omega
        · rw [List.erase_of_not_mem ha] at h1
          omega
  constructor
  · intro e
    apply Classical.byContradiction
    intro h
    have := strict bs as ha (fun k hk => (hm k).mpr hk) h
    omega
  · intro hb
    have h1 := sub as bs ha fun k hk => (hm k).mpr hk
    have h2 := sub bs as hb fun k hk => (hm k).mp hk
    omega
theorem pe_lenSetU {X : Cx} {a : Expr} {ta : TE} {p p2 q pos : Pos} (hg : Gl X "len") (hm : X.mg "len" = none) (hg2 : Gl X "set") (hm2 : X.mg "set" = none) (ha : PE X a ta) (hc : X.calm = true := by rfl)
    (na : starEach [a] X.env = (false, eval a X.env) :: starEach [] X.env := by rfl) : PE X (.Call (.Name "len" p) [.Call (.Name "set" p2) [a] [] q] [] pos) (tLenSetU X.K ta) := by
  constructor
  intro pins s σ H Q I h
  refine Call_ (ld_blt I hg hm boot_len (callWith_builtin1 (args_cons (Call_ (ld_blt I hg2 hm2 boot_set (callWith_type1 (args_cons (thn (ha.run pins s σ H _ I h) fun v s1 hv => args_nil ?_) na) na rfl))) rfl) rfl rfl))
  obtain ⟨x, H1, I1, r1, l, ns, rfl, hq, hl, q1⟩ := hv
  cases r1
  obtain ⟨its, r, pl, hz⟩ := I1.tuple hq
  refine call_set_tupI ns (I1.ok.hd hc) pl (by simpa using RZ.intsAre_vals r) (by unfold scanBound; omega) fun h' tk c hS hcl hk => args_nil ?_
  obtain ⟨o, es, ep, t, ho, hex, hd, _, hnd, hS2, hb, hf, hsz, _⟩ := hS
  have I2 : Inv X pins σ H1 { s1 with heap := h', toks := tk } := I1.kept hk
  refine call_len_set ho hex hd hf (by unfold scanBound at hb; omega) ⟨.int es.size, H1, I2.tok _, ⟨_, rfl⟩, q1 es.size ?_⟩
  have e := nodup_same (bs := ns) hnd fun k => by
    rw [← hS2 k]
    simp
  rwa [List.length_map, Array.length_toList] at e
/-! ### repr of data, where no repr is under way -/
def rRepr (K : PySem.W.Frag) : List V → Hp → VK → Prop := fun xs H Q => ∃ (a : Addr) (d : PyData), xs = [.ref a] ∧ Dp K H (.ref a) d ∧ d.showable = true ∧ d.hasDict = false ∧ d.depth ≤ 20 ∧ d.shown.length ≤ sizeLine ∧ Q (.str d.shown) H
theorem call_reprD {X : Cx} (hg : X.A.guards = some []) (hu : X.A.units + 64 < cLine) : CallR X (.builtin "repr") (rRepr X.K) := by
  intro pins s σ H xs us Q I r h
  obtain ⟨a, d, rfl, hd, hs, hn, hp, hz, q⟩ := h
  obtain ⟨u, rfl, ru⟩ := vals1 r
  cases ru
  obtain ⟨as, rd⟩ := Dp.reads I d _ _ hd rfl
  exact repr_of_reads' rd hs (PyData.noDict_hsm hn) hg (by omega) (fun _ _ e => e) (fun h' u tk hk => ⟨.str d.shown, H, I.kept hk, ⟨_, rfl⟩, q⟩) hz
/-! ### a call by keywords alone -/
theorem kbn_of {K : PySem.W.Frag} {x qual : Str} {st : Stmt} {f : Addr} {fd : FuncData} {ps : List Str} (F : Fun K x qual st f fd) (n : Nat) (ks : List Str) (g : {α : Type} → List α → List α → List α)
    (rel : ∀ {vs zs : List V} {us ws : List Value}, Vals vs us → Vals zs ws → Vals (g vs zs) (g us ws))
    (h : ∀ (kV doc pm : Value) (an : Option Addr) (cdv ct : Value) (us ws : List Value), us.length = n → ws.length = ks.length → bindArgs (PySem.W.fnOf x qual (defArgs st) (defBody st) (defScope st) .none kV doc pm an cdv ct) ⟨us, ks.zip ws⟩ = pure (ps.zip (g us ws))) :
    KBn K fd ps n ks (fun us ws => g us ws) (fun vs zs => g vs zs) := by
  obtain ⟨_, _, kV, doc, pm, an, cdv, ct, _, rfl, _, _⟩ := F.ex
  exact ⟨fun s us ws _ l1 l2 => .of_eq (h kV doc pm an cdv ct us ws l1 l2), rel⟩
theorem pe_callN0 {X : Cx} {CX : CXT} {k : Nat} {f : Addr} {fd : FuncData} {ps ks : List Str} {sp : Sp} {E : XK} {x : Str} {p pos : Pos} {kws : List Keyword} {tk : TA} {g : List Value → List Value → List Value} {gV : List V → List V → List V}
    (F : FnOk X.prog X.w X.K X.mg X.base CX k f fd ps sp) (hr : Room k X.A) (hg : Gl X x) (hm : X.mg x = some (.ref f)) (hk : PySem.W.keepIn X.K (.ref f) = true) (hb : KBn X.K fd ps 0 ks g gV) (hx : Passes CX X E)
    (hkw : PK X kws tk) (hall : (backToKw pos (keywordEach kws X.env)).all (·.1.isSome) = true := by rfl) (hks : (backToKw pos (keywordEach kws X.env)).filterMap (·.1) = ks := by rfl) (hdb : (x == ("__debug__" : Str)) = false := by decide)
    (hpl : ((backTo pos (starEach [] X.env)).any (·.1) || (backToKw pos (keywordEach kws X.env)).any (·.1.isNone)) = false := by rfl) :
    PE X (.Call (.Name x p) [] kws pos) (tCallN 0 ks.length sp gV E tNil tk) := by
  constructor
  intro pins s σ H Q I h
  refine wpAny_Call_Name_kw (ld_glob I hg hm (PySem.W.callWith_KW0 (h₀ := X.base) I.ok.mod.kin hk hall (thn (hkw.run pos pins s σ H _ I h) fun ws s2 hv => ?_) hpl) hdb)
  obtain ⟨zs, H2, I2, rz, l1, l2, q2⟩ := hv
  refine ⟨I2.kIn, ?_⟩
  rw [hks]
  exact run_fnN (us := []) (vs := []) F hr hb hx I2 .nil rz rfl l2 q2
/-! ### defs that are called where no repr is under way -/
structure FnG (P : Program) (w : World) (K : PySem.W.Frag) (mg : Str → Option Value) (base : Heap) (k : Nat) (f : Addr) (fd : FuncData) (ps : List Str) (sp : Sp) : Prop where
  len : ∀ {vs H Q E}, sp vs H Q E → vs.length = ps.length
  go : ∀ {A : Around} {outer : List Env} {s : Shared} {H : Hp} {args : Args} {us : List Value} {vs : List V} {Q : VK} {E : XK}, A.guards = some [] → Room k A → Env0 P w K mg base A outer s H → BindsTo s fd args (ps.zip us) → Vals vs us →
    sp vs H Q E → codeAny (model P w) A (.call (.ref f) args) (CR CX0 outer P w H s Q E) s
theorem fn_g {P : Program} {w : World} {K : PySem.W.Frag} {mg : Str → Option Value} {base : Heap} {x qual : Str} {st : Stmt} {f : Addr} {fd : FuncData} {N ps : List Str} {k : Nat} {sp : Sp} (F : Fun K x qual st f fd) (S : FnScope N ps (defScope st))
    (len : ∀ {vs H Q E}, sp vs H Q E → vs.length = ps.length)
    (hbody : ∀ (cdv : Value) (A : Around) (outer : List Env) (s : Shared) (H : Hp) (vs : List V) (Q : VK) (E : XK), A.guards = some [] → Room k (A.deeper (envOfC qual (defScope st) s.heap.objs.size f cdv)) → sp vs H Q E →
      ∃ t, PSs (cxOf CX0 P w K mg base N qual (defScope st) f cdv A outer s H E).nox (defBody st) t ∧ t { nx := fun _ H' => Q .non H', rt := Q } (start N vs) H) : FnG P w K mg base (k + 1) f fd ps sp := by
  obtain ⟨oc, od, kV, doc, pm, an, cdv, ct, osl, rfl, lk, hcd⟩ := F.ex
  refine ⟨len, fun {A outer s H args us vs Q E} hgd hr e0 hb r hsp => ?_⟩
  have kin : K.In s.heap := e0.mod.kin.keeps fun b o e => (e0.bs b o e).1
  have nl : s.heap.NoLimit := e0.mod.nolimit.keeps fun b o e => (e0.bs b o e).1
  refine codeAny_call_function hr.depth (kin _ _ lk) rfl S.co S.gen rfl (PySem.W.codeRec_of kin hcd) (hb _ _ _ _ (wpAny_newFunctionEnv_cells S.kind ?_ fun env he s1 x => ?_))
  · intro y hy
    have hp : y.1 ∈ ps := (List.of_mem_zip (a := y.1) (b := y.2) hy).1
    exact (S.par y.1 hp).imp id fun q => ⟨q, PySem.W.cellsFrom_some _ _ _ (.inl q)⟩
  · cases he
    obtain ⟨t, ht, hq⟩ := hbody cdv A outer s H vs Q E hgd (hr.deeper _) hsp
    have I := inv_start (CX := CX0) (P := P) (w := w) (base := base) (E := E) (qual := qual) (f := f) (cd := cdv) S hr.hd e0 (len hsp) r x
    refine ⟨nl.keeps x.toInCall.keep, codeAny_func (wpAny_mono (ht.nox.run [] s1 (start N vs) H _ I hq) (fun fl s' hs => ?_) fun _ _ hs => hs)⟩
    cases fl with
    | ret u =>
      obtain ⟨v, σ', H', J, rv, q⟩ := hs
      exact ⟨v, H', J.os, J.bare, J.base, J.hok, rv, q⟩
    | next =>
      obtain ⟨σ', H', J, q⟩ := hs
      exact ⟨.non, H', J.os, J.bare, J.base, J.hok, rfl, q⟩
    | brk => exact hs.elim fun _ h => h.elim fun _ h => h.2.elim
    | cont => exact hs.elim fun _ h => h.elim fun _ h => h.2.elim
/-- the call of the law itself: at its own room no repr is under way -/
theorem law_g {P : Program} {w : World} {K : PySem.W.Frag} {mg mb : Str → Option Value} {k : Nat} {fa a : Addr} {fd : FuncData} {x : Str} {sp : Sp} {s₁ : Shared} {vs : List Value} {ns : List Int}
    (kin : K.In s₁.heap) (hns : s₁.heap.Ns mainGlobals mg) (hb : s₁.heap.Ns builtinsNs mb) (hbb : ∀ x : Str, x ≠ "__name__" → mb x = bootBuiltins x) (hlim : s₁.heap.NoLimit) (hg : s₁.gens = #[])
    (ha : s₁.heap.get? a = some { cls := .type "list", data := .seq vs.toArray }) (hi : IntsAre vs ns) (hl : ns.length ≤ sizeLine) (hr : Room k callerA)
    (F : ∀ base : Heap, K.In base → base.Ns mainGlobals mg → FnG P w K mg base k fa fd [x] sp) (hbind : ∀ (s : Shared) (u : Value), BindsTo s fd ⟨[u], []⟩ [(x, u)])
    (hsp : ∀ H : Hp, Only H → SqL K H a (ns.map V.int) → sp [.ref a] H (fun v _ => v = .bl true) fun _ _ _ => False) :
    codeAny (model P w) callerA (.call (.ref fa) ⟨[.ref a], []⟩) (fun r s' => r = .ok (.ret (.bool true)) ∧ OldK s₁.heap s'.heap ∧ s'.os = s₁.os ∧ AllBare s'.gens) s₁ := by
  have rv := vals_ints hi
  have run : ∀ H : Hp, Only H → SqL K H a (ns.map V.int) → HOk P w H s₁.heap → (∀ b u, H b = some u → b = a ∧ K.lookup a = none) →
      codeAny (model P w) callerA (.call (.ref fa) ⟨[.ref a], []⟩) (fun r s' => r = .ok (.ret (.bool true)) ∧ OldK s₁.heap s'.heap ∧ s'.os = s₁.os ∧ AllBare s'.gens) s₁ := by
    intro H hO hS hok hA
    have none_of : ∀ b : Addr, (b = a → K.lookup a ≠ none) → H b = none := fun b hb => by
      cases q : H b with
      | none => rfl
      | some u =>
        obtain ⟨e1, e2⟩ := hA b u q
        exact absurd e2 (hb e1)
    have ns_of : ∀ {b : Addr} {m : Str → Option Value}, s₁.heap.Ns b m → (hidT s₁.heap H).Ns b m := fun {b m} hm => by
      obtain ⟨o, es, ep, e, d, r⟩ := hm
      refine ⟨o, es, ep, hidT_get e ?_, d, r⟩
      cases q : H b with
      | none => rfl
      | some u =>
        obtain ⟨e1, _⟩ := hA b u q
        rw [e1, ha] at e
        cases e
        exact absurd d (by intro z; cases z)
    have kb : K.In (hidT s₁.heap H) := fun b o e => hidT_get (kin b o e) (none_of b fun e1 z => by
      rw [e1, z] at e
      cases e)
    have hM : Mod K mg (hidT s₁.heap H) := ⟨kb, ns_of hns, ⟨mb, ns_of hb, hbb⟩, hlim.elim fun mc h => ⟨mc, ns_of h.1, h.2⟩⟩
    have e0 : Env0 P w K mg (hidT s₁.heap H) callerA [] s₁ H := ⟨rfl, hM, fun _ _ e => of_hidT e, by rw [hidT_size] <;> exact Nat.le_refl _, trivial, fun _ hb => (nomatch hb), hok, .of_eq hg⟩
    refine codeAny_mono ((F _ kb (ns_of hns)).go rfl hr e0 (us := [.ref a]) (hbind s₁ (.ref a)) (vs := [.ref a]) (.cons rfl .nil) (hsp H hO hS)) fun r s' h => ?_
    match r, h with
    | .ok (.ret u), h =>
      obtain ⟨v, H', os, bare, un, hok', r', q⟩ := h
      cases (show v = .bl true from q)
      cases (show u = Value.bool true from r')
      refine ⟨rfl, OldK.of_keep fun b o e => ?_, os, bare⟩
      rcases hO b with z | ⟨ob, xs, z⟩
      · exact un.keep b o e z (fun y => (nomatch y)) (fun y => (nomatch y))
      · obtain ⟨e1, _⟩ := hok b _ z
        obtain ⟨e2, _⟩ := hok' b _ (un.frzs b ob _ z)
        rw [e] at e1
        cases e1
        exact e2
    | .error e, h => exact False.elim h
    | .ok .next, h => exact False.elim h
    | .ok .brk, h => exact False.elim h
    | .ok .cont, h => exact False.elim h
  cases hk : K.lookup a with
  | some o =>
    have e := kin a o hk
    rw [ha] at e
    cases e
    refine run (fun _ => none) (fun _ => .inl rfl) (.inr ⟨_, vs.toArray, _, hk, rfl, rfl, rfl, ?_, by simpa using rv⟩) (fun b u z => (nomatch z)) (fun b u z => (nomatch z))
    rw [List.size_toArray, hi.length]
    exact hl
  | none =>
    have at_a : ∀ b u, (if b = a then some (HO.frz { cls := .type "list", data := .seq vs.toArray } (.lst (ns.map V.int))) else none) = some u → b = a ∧ u = HO.frz { cls := .type "list", data := .seq vs.toArray } (.lst (ns.map V.int)) := fun b u z => by
      by_cases hb : b = a
      · rw [if_pos hb] at z
        exact ⟨hb, (Option.some.inj z).symm⟩
      · rw [if_neg hb] at z
        cases z
    refine run (fun b => if b = a then some (.frz { cls := .type "list", data := .seq vs.toArray } (.lst (ns.map V.int))) else none) (fun b => ?_) (.inl (.inr ⟨_, if_pos rfl⟩)) (fun b u z => ?_) fun b u z => ⟨(at_a b u z).1, hk⟩
    · by_cases hb : b = a
      · exact .inr ⟨_, _, if_pos hb⟩
      · exact .inl (if_neg hb)
    · obtain ⟨e1, e2⟩ := at_a b u z
      subst e1
      subst e2
      exact ⟨ha, by rw [List.length_map]; exact hl, vs, _, rv, ha⟩
theorem walk_g {l : PySem.W.OpenLaw} {n k : Nat} {q : Program} {loose : List Str} {XP : (Str → Option Value) → Heap → Prop} {YP : World → Heap → Prop} {d : DefRec} {K : Params → PySem.W.Frag} {sp : World → Sp} {x : Str}
    (hn : l.most = some n) (hn2 : n ≤ sizeLine) (hdf : d.params.defaults = []) (hr : Room k callerA) (hY : ∀ (w : World) (h : Heap), YP w h → (K w.params).In h)
    (F : ∀ (w : World) (mg : Str → Option Value) (fa : Addr) (h : Heap), (K w.params).In h → h.Ns mainGlobals mg → mg d.name = some (.ref fa) →
      ∃ fd : FuncData, (∀ (s : Shared) (u : Value), BindsTo s fd ⟨[u], []⟩ [(x, u)]) ∧ ∀ base : Heap, (K w.params).In base → base.Ns mainGlobals mg → FnG l.prog w (K w.params) mg base k fa fd [x] (sp w))
    (hsp : ∀ (w : World) (H : Hp) (a : Addr) (ns : List Int), ns.length ≤ n → Only H → SqL (K w.params) H a (ns.map V.int) → sp w [.ref a] H (fun v _ => v = .bl true) fun _ _ _ => False) :
    PySem.W.WalkO q loose XP YP l.row.toRowW d [] (fun f vs => PySem.call f vs) := by
  refine Att.attach_call hn hdf fun w s₀ s₁ mg mb fa o pm cd doc a vs ns G Y ho hd hcd hmg hobj hints hlen hg => ?_
  obtain ⟨fd, h1, h2⟩ := F w mg fa _ (hY w _ Y) G.T.g hmg
  exact law_g (hY w _ Y) G.T.g G.T.b G.T.builtins G.T.nolimit hg hobj hints (Nat.le_trans hlen hn2) hr h2 h1 fun H hO hS => hsp w H a ns hlen hO hS
end Tl
end S_Ru
section S_Su
namespace Tl
open PySem PySem.Spec PyProof.Rows L2
/-! ### a method of a class that begins with super().__init__(..) -/
/-- names of such a def: locals first, no cell, the class's own cell free -/
structure SuScope (N P : List Str) (sc : Scope) : Prop where
  kind : sc.kind = .function
  co : sc.isCoroutine = false
  gen : sc.isGenerator = false
  nd : N.Nodup
  pre : N.take P.length = P
  par : ∀ x ∈ P, sc.names.lookup x = some .local
  nocell : ∀ y ∈ sc.names, y.2 ≠ .cell
  free : ∀ y ∈ sc.names, y.2 = .free → y.1 = "__class__"
  cls : sc.names.lookup ("__class__" : Str) = some .free
  sup : sc.names.lookup ("super" : Str) = some .globalImplicit
/-- the context of such a def's body -/
def suCx (P : Program) (w : World) (K : PySem.W.Frag) (mg : Str → Option Value) (base : Heap) (N : List Str) (qual : Str) (scope : Scope) (f : Addr) (cd : Value) (cc : Addr) (A : Around) (outer : List Env) (s : Shared) (H : Hp) (E : XK) : Cx where
  prog := P
  w := w
  K := K
  mg := mg
  base := base
  A := A.deeper (PySem.W.ksEnv qual scope s.heap.objs.size f cd cc)
  N := N
  s_0 := s
  H_0 := H
  env := PySem.W.ksEnv qual scope s.heap.objs.size f cd cc
  outer := outer
  stack := PySem.W.ksEnv qual scope s.heap.objs.size f cd cc :: outer
  ex := []
  calm := true
  fn := fun _ => false
  pn := []
  xe := fun _ _ => False
theorem lookup_rev {ps : List Str} {us : List Value} (nd : ps.Nodup) {i : Nat} {y : Str} {u : Value} (h1 : ps[i]? = some y) (h2 : us[i]? = some u) : (ps.zip us).reverse.lookup y = some u := by
  have hm : (y, u) ∈ (ps.zip us).reverse := by
    rw [List.mem_reverse]
    refine List.mem_of_getElem? (i := i) ?_
    rw [List.getElem?_zip_eq_some]
    exact ⟨h1, h2⟩
  have key : ∀ (l : List (Str × Value)), (l.map (·.1)).Nodup → (y, u) ∈ l → l.lookup y = some u := by
    intro l
    induction l with
    | nil => intro _ h; cases h
    | cons p r ih =>
      intro hn h
      rw [List.map_cons, List.nodup_cons] at hn
      rcases List.mem_cons.mp h with e | e
      · rw [← e, List.lookup_cons, beq_self_eq_true]
      · have hne : y ≠ p.1 := fun z => hn.1 (z ▸ List.mem_map_of_mem (f := (·.1)) e)
        rw [List.lookup_cons, beq_eq_false_iff_ne.mpr hne]
        exact ih hn.2 e
  refine key _ ?_ hm
  rw [List.map_reverse]
  refine List.pairwise_reverse.mpr (List.Pairwise.imp (fun h => Ne.symm h) ?_)
  refine (nd.sublist ?_)
  clear hm key h1 h2 nd
  induction ps generalizing us with
  | nil => exact List.Sublist.refl _
  | cons p r ih =>
    cases us with
    | nil => exact List.nil_sublist _
    | cons v t => exact (ih (us := t)).cons₂ p
theorem su_start {P : Program} {w : World} {K : PySem.W.Frag} {mg : Str → Option Value} {base : Heap} {N ps : List Str} {qual : Str} {scope : Scope} {f cc D : Addr} {cd cl : Value} {cld : Option Addr} {csl : Array (Option Value)} {A : Around} {outer : List Env} {s : Shared} {h₁ : Heap} {tk : Nat} {H : Hp} {E : XK} {us : List Value} {vs : List V}
    (S : SuScope N ps scope) (hcell : K.lookup cc = some ⟨cl, cld, .cell (some (.ref D)), csl⟩) (hd : A.handled = none) (e0 : Env0 P w K mg base A outer s H) (hl : vs.length = ps.length) (r : Vals vs us)
    (hns : h₁.Ns s.heap.objs.size fun x => (ps.zip us).reverse.lookup x) (kp : ∀ b o, s.heap.get? b = some o → h₁.get? b = some o) :
    Inv (suCx P w K mg base N qual scope f cd cc A outer s H E) [] (L2.start N vs) H { s with heap := h₁, toks := tk } := by
  have hpl : ps.length ≤ N.length := by
    have := congrArg List.length S.pre
    rw [List.length_take] at this
    omega
  have hcc : base.get? cc = some ⟨cl, cld, .cell (some (.ref D)), csl⟩ := e0.mod.kin _ _ hcell
  have one : ∀ {y : Str} {c : Addr}, ([("__class__", cc)] : List (Str × Addr)).lookup y = some c → y = "__class__" ∧ c = cc := fun {y c} h => by
    rw [List.lookup_cons] at h
    split at h
    · rename_i e
      exact ⟨beq_iff_eq.mp e, (Option.some.inj h).symm⟩
    · cases h
  have noA : ∀ b : Addr, b ∉ (suCx P w K mg base N qual scope f cd cc A outer s H E).ex := fun b z => (nomatch (show b ∈ ([] : List Addr) from z))
  refine ⟨⟨e0.mod, S.kind, rfl, rfl, Nat.le_refl _, fun y z c h1 h2 => ?_, fun y hy => ?_, fun y c h => ?_, fun _ => hd, Around.frames_deeper e0.frames, .inr ⟨rfl, rfl⟩, fun b z => absurd z (noA b), e0.bs, e0.bsz, fun b _ _ => noA b, fun b z => absurd z (noA b), e0.funs, e0.frf⟩,
    rfl, e0.bare, Un.kept kp, ⟨_, hns, fun i y v h1 h2 h3 => ?_⟩, fun y c h => ?_, e0.hok.fresh (Nat.le_refl _), fun y c h => ?_, fun p hp => (nomatch (show p ∈ ([] : List (Addr × Obj)) from hp)), e0.hok.kept kp, ?_⟩
  · exact (one h1).1.trans (one h2).1.symm
  · have hy : scope.names.lookup y = some .cell ∨ scope.names.lookup y = some .free := hy
    rcases hy with hy | hy
    · exact absurd rfl (S.nocell _ (PySem.mem_of_lookup hy))
    · have e := S.free _ (PySem.mem_of_lookup hy) rfl
      have e : y = "__class__" := e
      subst e
      exact ⟨cc, rfl⟩
  · cases (show false = true from h)
  · have hi : i < vs.length := by
      apply Classical.byContradiction
      intro hi
      unfold L2.start at h2
      rw [List.getElem?_append_right (by simpa using hi), List.getElem?_replicate] at h2
      split at h2 <;> cases h2
    have ha : vs[i]? = some v := by
      unfold L2.start at h2
      rw [List.getElem?_append_left (by simpa using hi), List.getElem?_map] at h2
      cases e : vs[i]? with
      | none => rw [e] at h2; cases h2
      | some a => rw [e] at h2; cases h2; rfl
    obtain ⟨u, hu, rv⟩ := r.get ha
    have hp : ps[i]? = some y := by
      rw [← S.pre, List.getElem?_take_of_lt (by omega)]
      exact h1
    have ndP : ps.Nodup := by
      rw [← S.pre]
      exact S.nd.sublist (List.take_sublist _ _)
    exact ⟨u, rv, .inl ⟨S.par y (List.mem_of_getElem? hp), lookup_rev ndP hp hu⟩⟩
  · obtain ⟨_, e2⟩ := one h
    subst e2
    exact ⟨_, _, kp _ _ (e0.bs _ _ hcc).1, rfl⟩
  · obtain ⟨_, e2⟩ := one h
    subst e2
    exact (e0.bs _ _ hcc).2
  · unfold L2.start
    show _ = N.length
    rw [List.length_append, List.length_map, List.length_replicate]
    omega
/-- what is told of the class D's def: its own cell, its code's file, the class and the next def above it -/
structure SuFacts (P : Program) (K : PySem.W.Frag) (f f2 D C cc cda : Addr) (fd : FuncData) (self : Str) : Prop where
  look : ∃ (oc : Value) (od : Option Addr) (osl : Array (Option Value)), K.lookup f = some ⟨oc, od, .func fd, osl⟩
  head : ∃ ar, (fd.params.posonlyargs ++ fd.params.args).head? = some ar ∧ ar.arg = self
  code : ∃ (ccl : Value) (cdd : Option Addr) (vs : Array Value) (ccs : Array (Option Value)) (file : Str) (tf : Tok), K.lookup cda = some ⟨ccl, cdd, .fields vs, ccs⟩ ∧ vs[2]? = some (.str file tf) ∧ ((P.main.file : Str) == file) = true
  cell : ∃ (cl : Value) (cld : Option Addr) (csl : Array (Option Value)), K.lookup cc = some ⟨cl, cld, .cell (some (.ref D)), csl⟩
  clsD : ∃ cd, PySem.W.clsIn K D = some cd
  sub : PySem.W.mroIn K C (.ref D) = some true
  opq : PySem.W.nsIn K cStatics "thirdparty.any" = some none
  above : PySem.W.ks_superIn K C D "__init__" = some (some (.ref f2))
  ty : PySem.W.typeIn K (.ref f2) = some (.type "function")
  fi : PySem.W.fnIn K f2 = true
  top : (P.main.scope.names.lookup ("super" : Str)).isSome = false
  notC : PySem.W.clsIn K C ≠ none
section
variable {P : Program} {w : World} {K : PySem.W.Frag} {mg : Str → Option Value} {base : Heap}
/-- its promise: first what stands in the arguments, then the def above, then the rest of the body -/
theorem fn_super {f f2 D C cc cda : Addr} {name qual : Str} {params : Arguments} {scope : Scope} {dV kV doc pm ct : Value} {an : Option Addr} {N ps : List Str} {self : Str} {k : Nat} {sp sp2 : Sp} {e1 : Expr} {es : List Expr} {rest : List Stmt} {p0 p1 apos pos spos : Pos}
    (B : SuFacts P K f f2 D C cc cda (PySem.W.ksFn name qual params (.Expr (.Call (.Attribute (.Call (.Name "super" p0) [] [] p1) "__init__" apos) (e1 :: es) [] pos) spos :: rest) scope dV kV doc pm an (.ref cda) ct cc) self)
    (hcd : PySem.W.codeIn K (.ref cda) qual = true) (S : SuScope N ps scope) (h0 : ps[0]? = some self) (ms : mg "super" = none)
    (F2 : FnR P w K mg base CX0 k f2 sp2) (len : ∀ {vs H Q E}, sp vs H Q E → vs.length = ps.length)
    (hbody : ∀ (A : Around) (outer : List Env) (s : Shared) (H : Hp) (vs : List V) (Q : VK) (E : XK), Room k (A.deeper (PySem.W.ksEnv qual scope s.heap.objs.size f (.ref cda) cc)) → sp vs H Q E →
      ∃ ta t x dx fs, PA (suCx P w K mg base N qual scope f (.ref cda) cc A outer s H E) (e1 :: es) ta ∧ PSs (suCx P w K mg base N qual scope f (.ref cda) cc A outer s H E) rest t ∧ vs[0]? = some (.ref x) ∧ H x = some (.ins C dx fs) ∧
        ∀ q, H q = none → ta (L2.start N vs) (upd H q (.met f2 x)) fun us H1 => H1 q = some (.met f2 x) ∧ sp2 (.ref x :: us) H1 (fun _ H2 => t { nx := fun _ H' => Q .non H', rt := Q } (L2.start N vs) H2) E0)
    {pl : Sem Bool} (hev : ∀ env : Env, eval (.Call (.Attribute (.Call (.Name "super" p0) [] [] p1) "__init__" apos) (e1 :: es) [] pos) env = (do
      let ov ← attributeBase (.Call (.Name "super" p0) [] [] p1) "__init__" env (eval (.Call (.Name "super" p0) [] [] p1) env)
      standAt apos.atName
      let (f, first) ← holding [ov] (getMethod ov "__init__" pl)
      callWith pos f first (backTo pos (starEach (e1 :: es) env)) []))
    (hsw : ∀ env : Env, swapsWith (.Call (.Attribute (.Call (.Name "super" p0) [] [] p1) "__init__" apos) (e1 :: es) [] pos) none spos.line env = pure false)
    (hst : ∀ env : Env, starEach (e1 :: es) env = (false, eval e1 env) :: starEach es env) (hpl : ∀ env : Env, ((backTo pos (starEach (e1 :: es) env)).any (·.1) || (backToKw pos (keywordEach [] env)).any (·.1.isNone)) = false) :
    FnOk P w K mg base CX0 (k + 1) f (PySem.W.ksFn name qual params (.Expr (.Call (.Attribute (.Call (.Name "super" p0) [] [] p1) "__init__" apos) (e1 :: es) [] pos) spos :: rest) scope dV kV doc pm an (.ref cda) ct cc) ps sp := by
  obtain ⟨⟨oc, od, osl, lk⟩, ⟨ar, har, hself⟩, ⟨ccl, cdd, cvs, ccs, file, tf, lkc, hvs, hfile⟩, ⟨cl, cld, csl, lkcell⟩, ⟨cdD, hclsD⟩, hsub, hopq, habove, hty, hfi, htop, hnotC⟩ := B
  refine ⟨fun _ _ _ _ h => len h, fun A outer s H args us vs Q E hr e0 hb r hsp => ?_⟩
  have kin : K.In s.heap := e0.mod.kin.keeps fun b o e => (e0.bs b o e).1
  have nl : s.heap.NoLimit := e0.mod.nolimit.keeps fun b o e => (e0.bs b o e).1
  have hl := len hsp
  refine ks_codeAny_call_defAt (fd := PySem.W.ksFn name qual params _ scope dV kV doc pm an (.ref cda) ct cc) (binds := ps.zip us) hr.depth (kin _ _ lk) rfl nl (PySem.W.codeRec_of kin hcd) rfl hb (fun y hy => S.nocell y hy) (fun y hy => S.par y.1 (List.of_mem_zip (a := y.1) (b := y.2) hy).1) (fun h₁ hns kp => ?_) S.co S.gen S.kind
  obtain ⟨ta, t, x, dx, fs, ha, ht, hx0, hx, hq⟩ := hbody A outer s H vs Q E (hr.deeper _) hsp
  have I : Inv (suCx P w K mg base N qual scope f (.ref cda) cc A outer s H E) [] (L2.start N vs) H { s with heap := h₁, toks := s.toks + (ps.zip us).length } := su_start S lkcell hr.hd e0 hl r hns kp
  have kin1 : K.In h₁ := I.kIn
  obtain ⟨oD, hD1, hD2⟩ : ∃ oD, h₁.get? D = some oD ∧ oD.data = .cls cdD := by
    unfold PySem.W.clsIn at hclsD
    split at hclsD
    · rename_i ho
      cases hclsD
      exact ⟨_, kin1 _ _ ho, rfl⟩
    · cases hclsD
  obtain ⟨mA, O, _⟩ := ins_get I.hok hx
  obtain ⟨u0, hu0, ru0⟩ := r.get hx0
  cases (show u0 = Value.ref x from ru0)
  have hsv : (ps.zip us).reverse.lookup ar.arg = some (.ref x) := by
    rw [hself]
    refine lookup_rev ?_ h0 hu0
    rw [← S.pre]
    exact S.nd.sublist (List.take_sublist _ _)
  have hsl : scope.names.lookup ar.arg = some .local := by
    rw [hself]
    exact S.par _ (List.mem_of_getElem? h0)
  have hxC : x ≠ C := by
    intro e
    cases hcl : PySem.W.clsIn K C with
    | none => exact hnotC hcl
    | some cdC =>
      unfold PySem.W.clsIn at hcl
      split at hcl
      · rename_i ho
        have e2 := kin1 _ _ ho
        rw [← e, O.obj] at e2
        cases e2
      · cases hcl
  obtain ⟨mb, hnb, hbb⟩ := I.ok.mod.blt
  refine ks_wpAt_execs_cons (ks_wpAt_Expr_any (ks_wpAt_MethodCall (pl := pl) (ks_wpAt_super_base (env := PySem.W.ksEnv qual scope s.heap.objs.size f (.ref cda) cc) S.sup S.cls (by decide) rfl (kin1 _ _ lk) rfl har rfl (kin1 _ _ lkc) rfl hvs hfile htop ?_) (hev _)) I.quiet (hsw _))
  refine PySem.W.ks_loadName_global S.kind S.sup (PySem.Calls.loadGlobal_builtin (env := PySem.W.ksEnv qual scope s.heap.objs.size f (.ref cda) cc) (I.ok.mod.glob.keeps I.bk) ms (hnb.keeps I.bk) ((hbb _ (by decide +kernel)).trans (by decide +kernel)) ⟨rfl, ?_⟩)
  refine wpAny_loadName_free S.kind S.cls rfl ⟨_, kin1 _ _ lkcell, rfl⟩ ?_
  refine wpAny_loadName_local S.kind hsl hns hsv ?_
  refine ks_wpAny_isType_cls hD1 hD2 ⟨rfl, ?_⟩
  refine ks_wpAny_call_super hD1 hD2 O.obj rfl (fun c e => by cases e) (PySem.W.looks_mroIn kin1 hsub) (fun h2 e2 k2 => ?_)
  have I2 := I.kept (t' := s.toks + (ps.zip us).length) k2
  have kin2 : K.In h2 := I2.kIn
  obtain ⟨of, hof, hofc⟩ : ∃ of, h2.get? f2 = some of ∧ of.cls = .type "function" := by
    have ht' : (K.lookup f2).map (·.cls) = some (.type "function") := hty
    cases z : K.lookup f2 with
    | none => rw [z] at ht'; cases ht'
    | some of => rw [z] at ht'; exact ⟨of, kin2 _ _ z, Option.some.inj ht'⟩
  cases hcl : PySem.W.clsIn K C with
  | none => exact absurd hcl hnotC
  | some cdC =>
    unfold PySem.W.ks_superIn at habove
    rw [hcl] at habove
    refine ks_wpAny_getMethod_super e2 (PySem.W.looks_opaque kin2 hopq) (l₀ := cdC.mro) (fun A Q E s k q => wpAny_bind ((PySem.W.looks_clsIn kin2 hcl) A _ E s k (wpAny_pure q))) rfl kin2 habove hof hofc hxC (by decide) ?_
    have hfree : H h2.objs.size = none := I2.hok.fresh (Nat.le_refl _)
    have I3 := I2.laid (a := h2.objs.size) (o := .met f2 x) (h' := h2.push { cls := .type "method", data := .fields #[.ref f2, .ref x] }) (t' := s.toks + (ps.zip us).length + 1) (fun b u e => Heap.get?_push_of_some _ e) (Nat.le_refl _) (Heap.get?_push_size _ rfl)
    have hx3 := hq _ hfree
    refine callwith_met (X := suCx P w K mg base N qual scope f (.ref cda) cc A outer s H E) (a := x) (hpl _) hfi ?_
    rw [hst]
    refine Calls.evalArgs_plain ?_
    have hrun := ha.run pos [] _ (L2.start N vs) _ _ I3 hx3
    rw [hst] at hrun
    refine wpAny_mono hrun (fun us4 s4 h4 => ?_) fun _ _ z => z.elim
    obtain ⟨vs4, H4, I4, rv4, hm4, hsp4⟩ := h4
    have hr4 : Room k (suCx P w K mg base N qual scope f (.ref cda) cc A outer s H E).A := hr.deeper _
    refine ⟨met_P I4 hm4, wpAny_call (PySem.W.method_call (met_P I4 hm4).1 (codeAny_mono (run_fnR (X := suCx P w K mg base N qual scope f (.ref cda) cc A outer s H E) (vs := V.ref x :: vs4) (us := Value.ref x :: us4) F2 hr4 pass0 I4 (.cons rfl rv4) hsp4) fun r5 s5 h5 => ?_))⟩
    match r5, h5 with
    | .ok (.ret u), h5 =>
      obtain ⟨v5, H5, I5, _, q5⟩ := h5
      refine wpAt_of_wpAny (wpAny_mono (ht.run [] s5 _ H5 _ I5 q5) (fun fl s' hs => ?_) fun _ _ z => z.elim)
      cases fl with
      | ret u =>
        obtain ⟨v, σ', H', J, rv, q⟩ := hs
        exact ⟨v, H', J.os, J.bare, J.base, J.hok, rv, q⟩
      | next =>
        obtain ⟨σ', H', J, q⟩ := hs
        exact ⟨.non, H', J.os, J.bare, J.base, J.hok, rfl, q⟩
      | brk => exact hs.elim fun _ h => h.elim fun _ h => h.2.elim
      | cont => exact hs.elim fun _ h => h.elim fun _ h => h.2.elim
    | .error e, h5 => exact False.elim h5
    | .ok .next, h5 => exact False.elim h5
    | .ok .brk, h5 => exact False.elim h5
    | .ok .cont, h5 => exact False.elim h5
end
end Tl
end S_Su
section S_Bo
namespace Tl
open PySem PySem.Spec PyProof.Rows L2
theorem plain_bool_new : plainId "bool.__new__" = true := by decide +kernel
section
variable {P : Program} {w : World} {A : Around} {E : Value → Shared → Prop} {s : Shared}
theorem code_bool_new {v : Value} {Q₁ : Value → Shared → Prop} (h : wpAny (model P w) A.in1 (truthy v) (fun b s' => Q₁ (.bool b) s') E s) :
    codeAny (model P w) A (.call (.builtin "bool.__new__") ⟨[.type "bool", v], []⟩) (wants Q₁ E) s := by
  refine codeAny_of_tree ?_
  show wpAny _ A.in1 (do checkBuiltinCall "bool.__new__" ⟨[.type "bool", v], []⟩; again (.builtin "bool.__new__" ⟨[.type "bool", v], []⟩)) _ _ s
  refine wpAny_bind (wpAny_of_eq (F.newCall_bool_1 v) (wpAny_pure ⟨plainId_quiet plain_bool_new _, codeAny_builtin F.entry_bool_new ?_⟩))
  rw [Around.under_plainId plain_bool_new _]
  unfold Builtin.«bool.__new__»
  have f1 := F.conv_sub_bool
  obtain ⟨hp, g, d, tk, os⟩ := s
  wp_walk
  show wpAny (model P w) A.in1 (truthy v) _ _ _
  exact wpAny_mono h (fun b s' hb => wpAny_pure hb) fun _ _ e => e
/-- bool(v), by what truth gives -/
theorem call_bool_by {v : Value} {Q : Value → Shared → Prop} (h : wpAny (model P w) A.in1.in1 (truthy v) (fun b s' => Q (.bool b) s') E s) : wpAny (model P w) A (call (.type "bool") [v]) Q E s := by
  refine callType_codes (Q₁ := fun obj s₁ => (∃ b, obj = .bool b) ∧ Q obj s₁) F.called_bool (F.typeCall_bool_1 v) F.entry_object_init (code_bool_new (wpAny_mono h (fun b s' hb => ⟨⟨b, rfl⟩, hb⟩) fun _ _ e => e)) fun obj s₁ hq => ?_
  obtain ⟨⟨b, rfl⟩, hq⟩ := hq
  exact ⟨PySem.typeIs_bool _ _, F.args_object_init_2 _ v, object_init_meets F.called_bool.init.lookup F.called_bool.made F.newNe_bool P w A.in1 _ s₁ ⟨PySem.typeIs_bool _ _, rfl, hq⟩⟩
end
/-- bool(o) of an instance whose class has its own __bool__ at f -/
theorem call_boolO {X : Cx} {CX : CXT} {k : Nat} {C f : Addr} {fd : FuncData} {ps : List Str} {sp : Sp} {E : XK} (F : FnOk X.prog X.w X.K X.mg X.base CX k f fd ps sp) (hr : Room (k + 2) X.A) (hb : Binds X.K fd ps []) (hx : Passes CX X E)
    (hs : PySem.W.findIn X.K (.ref C) "__bool__" = some (some (.ref f))) (hf : PySem.W.isFn X.K (.ref f) = true) :
    CallR X (.type "bool") (fun xs H Q => ∃ a dx fs, xs = [.ref a] ∧ H a = some (.ins C dx fs) ∧ sp [.ref a] H (fun v H1 => ∃ b, v = .bl b ∧ Q (.bl b) H1) E) := by
  intro pins s σ H xs us Q I r h
  obtain ⟨a, dx, fs, rfl, ha, hsp⟩ := h
  obtain rfl := Vals.ref1 r
  obtain ⟨mA, O, _⟩ := ins_get I.hok ha
  obtain ⟨od, J, _⟩ := O.look
  obtain ⟨m, hF⟩ := I.fr
  refine call_bool_by (PySem.W.truthy_K hF I.ok.mod.kin J hs hf ?_)
  have hl := F.len _ _ _ _ hsp
  have r2 : Vals [V.ref a] [Value.ref a] := .cons rfl .nil
  refine wpAny_call (codeAny_mono (F.run X.A.in1.in1 X.stack s H ⟨[.ref a], []⟩ [.ref a] [.ref a] _ E hr.in1.in1 I.env0.in1.in1 (by
    have := hb s [.ref a] I.kIn (by simpa using hl)
    simpa using this) r2 hsp) fun r s' hq => ?_)
  match r, hq with
  | .error e, hq => exact hx pins σ H s e s' I hq
  | .ok (.ret u), hq =>
    obtain ⟨z, H', I', rz, b, ez, q⟩ := I.after hq
    subst ez
    cases rz
    exact ⟨.bl b, H', I', rfl, q⟩
  | .ok .next, hq => exact False.elim hq
  | .ok .brk, hq => exact False.elim hq
  | .ok .cont, hq => exact False.elim hq
end Tl
end S_Bo
section S_Zp
namespace Tl
open PySem PySem.Spec PyProof.Rows L2
/-! ### dict(zip(t, u)) of two tuples -/
/-- what one asks of an iterator at i: it gives v, from S to S'; it ends in S -/
abbrev Gives1 (P : Program) (w : World) (i : Addr) (v : Value) (S S' : Heap → Prop) : Prop := ∀ (A : Around) (E : Value → Shared → Prop) (s : Shared) (Q : Value → Shared → Prop), S s.heap →
  (∀ h', S' h' → Heap.SameBut i s.heap h' → Q v { s with heap := h' }) → wpAny (model P w) A (Builtin.SmallTypes.nextOf (.ref i)) Q E s
abbrev Ends1 (P : Program) (w : World) (i : Addr) (S : Heap → Prop) : Prop := ∀ (A : Around) (E : Value → Shared → Prop) (s : Shared) (Q : Value → Shared → Prop), A.handled = none → S s.heap →
  (∀ h' e, Heap.ExtBut i s.heap h' → (∃ o, h'.get? e = some o ∧ o.cls = .type "StopIteration") → E (.ref e) { s with heap := h' }) → wpAny (model P w) A (Builtin.SmallTypes.nextOf (.ref i)) Q E s
/-- it stays where one object alone changes -/
abbrev Off (b : Addr) (S : Heap → Prop) : Prop := ∀ h h', Heap.SameBut b h h' → S h → S h'
section
variable {P : Program} {w : World} {A : Around} {E : Value → Shared → Prop} {s : Shared}
theorem held_item {z TI TO T i1 i2 : Addr} {f : Bool} {oT : Obj} {x y : Value} {S1 S1' S2 S2' : Heap → Prop} {Q : Value → Shared → Prop} (hz : IsZipHeld s.heap z TI TO T f) (hT : s.heap.get? T = some oT) (hTI : IsPair s.heap TI (.ref i1) (.ref i2)) (z1 : i1 ≠ z) (z2 : i2 ≠ z)
    (n1 : Gives1 P w i1 x S1 S1') (n2 : Gives1 P w i2 y S2 S2') (s1 : S1 s.heap) (s2 : S2 s.heap) (o1 : Off z S1) (o2 : Off z S2) (o21 : Off i1 S2) (o12 : Off i2 S1')
    (hQ : ∀ h', IsZipHeld h' z TI TO T true → S1' h' → S2' h' → h'.objs.size = s.heap.objs.size → (∀ c o, c ≠ z → c ≠ i1 → c ≠ i2 → s.heap.get? c = some o → h'.get? c = some o) →
      Q (.ref h'.objs.size) { s with heap := h'.push { cls := .type "tuple", data := .seq #[x, y] } }) :
    wpAny (model P w) A (Builtin.«zip.__next__» ⟨[.ref z], []⟩) (fun fin s' => ∃ v, fin = .done (.ret v) ∧ Q v s') E s := by
  show wpAny _ _ (field (.ref z) 2 >>= _) _ _ _
  refine wpAny_bind (wpAny_field hz rfl (x := .bool false) rfl (show wpAny _ _ (field (.ref z) 3 >>= _) _ _ _ from wpAny_bind (wpAny_field hz rfl (x := .ref TI) rfl (wpAny_bind (wpAny_seqItems hTI rfl ?_)))))
  show wpAny _ _ (Builtin.SmallTypes.ownedTupleIsFree (.ref z) >>= _) _ _ _
  refine wpAny_bind (wpAny_tupleHeld_zip hz hT fun ha hza sa => ?_)
  simp only [Bool.false_eq_true, if_false]
  refine wpAny_bind ?_
  rw [← Array.forIn_toList]
  simp only [List.forIn_cons, List.forIn_nil]
  refine wpAny_bind (wpAny_bind (wpAny_holding (show wpAny _ _ (Builtin.SmallTypes.nextOf (.ref i1) >>= _) _ _ _ from wpAny_bind (n1 _ _ { s with heap := ha } _ (o1 _ _ sa s1) fun hb sb1 sb => wpAny_pure (wpAny_pure ?_)))))
  refine wpAny_bind (wpAny_bind (wpAny_holding (show wpAny _ _ (Builtin.SmallTypes.nextOf (.ref i2) >>= _) _ _ _ from wpAny_bind (n2 _ _ { s with heap := hb } _ (o21 _ _ sb (o2 _ _ sa s2)) fun hc sc2 sc => wpAny_pure (wpAny_pure (wpAny_pure ?_))))))
  refine (show wpAny _ _ (newTuple [x, y] >>= _) _ _ _ from wpAny_bind (wpAny_newTuple (wpAny_pure ⟨_, rfl, ?_⟩)))
  exact hQ hc (sc.extBut _ _ z2.symm (sb.extBut _ _ z1.symm hza)) (o12 _ _ sc sb1) sc2 (by rw [sc.1, sb.1, sa.1]) fun c o c1 c2 c3 e => sc.extBut _ _ c3 (sb.extBut _ _ c2 (sa.extBut _ _ c1 e))
/-- the first one ends -/
theorem held_end {z TI TO T i1 i2 : Addr} {f : Bool} {oT : Obj} {S1 : Heap → Prop} {Q : Fin → Shared → Prop} (hh : A.handled = none) (hz : IsZipHeld s.heap z TI TO T f) (hT : s.heap.get? T = some oT) (hTI : IsPair s.heap TI (.ref i1) (.ref i2))
    (n1 : Ends1 P w i1 S1) (s1 : S1 s.heap) (o1 : Off z S1) (hE : ∀ h' e, (∀ c o, c ≠ z → c ≠ i1 → s.heap.get? c = some o → h'.get? c = some o) → (∃ o, h'.get? e = some o ∧ o.cls = .type "StopIteration") → E (.ref e) { s with heap := h' }) :
    wpAny (model P w) A (Builtin.«zip.__next__» ⟨[.ref z], []⟩) Q E s := by
  show wpAny _ _ (field (.ref z) 2 >>= _) _ _ _
  refine wpAny_bind (wpAny_field hz rfl (x := .bool false) rfl (show wpAny _ _ (field (.ref z) 3 >>= _) _ _ _ from wpAny_bind (wpAny_field hz rfl (x := .ref TI) rfl (wpAny_bind (wpAny_seqItems hTI rfl ?_)))))
  show wpAny _ _ (Builtin.SmallTypes.ownedTupleIsFree (.ref z) >>= _) _ _ _
  refine wpAny_bind (wpAny_tupleHeld_zip hz hT fun ha hza sa => ?_)
  simp only [Bool.false_eq_true, if_false]
  refine wpAny_bind ?_
  rw [← Array.forIn_toList]
  simp only [List.forIn_cons, List.forIn_nil]
  refine wpAny_bind (wpAny_bind (wpAny_holding (show wpAny _ _ (Builtin.SmallTypes.nextOf (.ref i1) >>= _) _ _ _ from wpAny_bind (n1 _ _ { s with heap := ha } _ hh (o1 _ _ sa s1) fun hb e sb he => ?_))))
  exact hE hb e (fun c o c1 c2 q => sb _ _ c2 (sa.extBut _ _ c1 q)) he
theorem next_by {z : Addr} {Q : Option Value → Shared → Prop} (hTy : s.TypeIs (.ref z) "zip") (h : wpAny (model P w) A.in1 (Builtin.«zip.__next__» ⟨[.ref z], []⟩) (fun fin s' => ∃ v, fin = .done (.ret v) ∧ Q (some v) s') (fun e s' => (∃ a o, e = .ref a ∧ s'.heap.get? a = some o ∧ o.cls = .type "StopIteration") ∧ Q none s') s) :
    wpAny (model P w) A (pyNext (.ref z)) Q E s := by
  unfold pyNext
  refine wpAny_bind (wpAny_attempt (wpAny_callSpecial?_slot (name := Str.ofString "__next__") hTy F.slot_zip_next (wpAny_call_entry F.slot_zip_next hTy F.entry_zip_next (wpAny_mono h (fun fin s' hf => ?_) fun e s' he => ?_) (F.args_zip_next_1 _))))
  · obtain ⟨v, rfl, hq⟩ := hf
    exact ⟨v, rfl, wpAny_pure hq⟩
  · obtain ⟨⟨a, o, rfl, ho, hc⟩, hq⟩ := he
    exact wpAny_bind (wpAny_isInstance (T := "StopIteration") (b := true) ⟨o, ho, hc⟩ isSubtype_stop (wpAny_pure hq))
end
/-- such an iterator of a tuple -/
abbrev TI1 (i l : Addr) (xs : Array Value) (k : Nat) (h : Heap) : Prop := h.IsTupleIter i l k ∧ h.IsTuple l xs
theorem ti_gives {P : Program} {w : World} {i l : Addr} {xs : Array Value} {k : Nat} {v : Value} (hne : l ≠ i) (hv : xs[k]? = some v) : Gives1 P w i v (TI1 i l xs k) (TI1 i l xs (k + 1)) := fun A E s Q hs hq =>
  RZ.nextOf_tuple_item hs.1 hs.2 hv fun h' a b => hq h' ⟨a, hs.2.extBut b.extBut hne⟩ b
theorem ti_ends {P : Program} {w : World} {i l : Addr} {xs : Array Value} {k : Nat} (hv : xs[k]? = none) : Ends1 P w i (TI1 i l xs k) := fun A E s Q hh hs hq => RZ.nextOf_tuple_end hh hs.1 hs.2 hv hq
theorem ti_off {b i l : Addr} {xs : Array Value} {k : Nat} (h1 : i ≠ b) (h2 : l ≠ b) : Off b (TI1 i l xs k) := fun h h' sb hs => ⟨hs.1.extBut sb.extBut h1, hs.2.extBut sb.extBut h2⟩
theorem ti_at {i l : Addr} {xs : Array Value} {k : Nat} {h h' : Heap} (hs : TI1 i l xs k h) (h1 : ∀ o, h.get? i = some o → h'.get? i = some o) (h2 : ∀ o, h.get? l = some o → h'.get? l = some o) : TI1 i l xs k h' := ⟨hs.1.at h1, hs.2.at h2⟩
/-- what stands where the zip of two tuples was made -/
def ZOk (z TI TO i1 i2 l1 l2 : Addr) (xs ys : Array Value) (h : Heap) : Prop := IsZip h z TI TO .none ∧ IsPair h TI (.ref i1) (.ref i2) ∧ (∃ a b, IsPair h TO a b) ∧ TI1 i1 l1 xs 0 h ∧ TI1 i2 l2 ys 0 h
/-- what stands at turn k, while a dict is filled at d -/
def ZSt (z TI TO i1 i2 l1 l2 : Addr) (xs ys : Array Value) (d : Addr) (k : Nat) (h : Heap) : Prop := IsPair h TI (.ref i1) (.ref i2) ∧ TI1 i1 l1 xs k h ∧ TI1 i2 l2 ys k h ∧
  ((IsZip h z TI TO .none ∧ ∃ a b, IsPair h TO a b) ∨ ∃ T f oT, IsZipHeld h z TI TO T f ∧ h.get? T = some oT ∧ T ≠ z ∧ T ≠ i1 ∧ T ≠ i2 ∧ T ≠ d)
theorem pair_arg_zip {P : Program} {w : World} {z TI TO i1 i2 l1 l2 : Addr} (D : ZipApart z TI TO i1 i2 l1 l2) {xs ys : Array Value} (hsz : ys.size = xs.size) :
    PairArg P w "zip" z [z, TI, TO, i1, i2, l1, l2] [z, TO, i1, i2] xs.size (fun i k v => xs[i]? = some k ∧ ys[i]? = some v) (ZOk z TI TO i1 i2 l1 l2 xs ys) := by
  refine { type := fun s ok => ⟨_, ok.1, rfl⟩, notDict := by decide, keep := fun h h' ok hk => ?_, there := fun h ok b hb => ?_, sub := fun b hb => ?_, noKeys := fun A s Q E hA ok h => getAttrOr_miss_zip ok.1 rfl rfl rfl zip_no_keys (by decide +kernel) hA h, iter := fun A s d Q E hA ok hd hdf h => ?_ }
  · obtain ⟨a1, a2, ⟨x, y, a3⟩, a4, a5⟩ := ok
    exact ⟨hk _ _ a1, hk _ _ a2, ⟨x, y, hk _ _ a3⟩, ti_at a4 (fun o => hk _ o) (fun o => hk _ o), ti_at a5 (fun o => hk _ o) fun o => hk _ o⟩
  · obtain ⟨a1, a2, ⟨x, y, a3⟩, ⟨⟨o1, b1, _⟩, ⟨o2, b2, _⟩⟩, ⟨⟨o3, b3, _⟩, ⟨o4, b4, _⟩⟩⟩ := ok
    simp only [List.mem_cons, List.not_mem_nil, or_false] at hb
    rcases hb with e | e | e | e | e | e | e <;> subst e <;> first | exact ⟨_, a1⟩ | exact ⟨_, a2⟩ | exact ⟨_, a3⟩ | exact ⟨_, b1⟩ | exact ⟨_, b2⟩ | exact ⟨_, b3⟩ | exact ⟨_, b4⟩
  · simp only [List.mem_cons, List.not_mem_nil, or_false] at hb ⊢
    rcases hb with e | e | e | e <;> simp [e]
  · obtain ⟨a1, a2, a3, a4, a5⟩ := ok
    simp only [List.mem_cons, List.not_mem_nil, or_false, not_or] at hdf
    obtain ⟨dz, dTI, dTO, di1, di2, dl1, dl2⟩ := hdf
    refine wpAny_pyIter_zip a1 (h z [z, TO, i1, i2] (ZSt z TI TO i1 i2 l1 l2 xs ys d) s.heap s.toks ?_ ⟨a2, a4, a5, .inl ⟨a1, a3⟩⟩ (fun _ _ e => e) fun b hb => .inl hb)
    refine { off := fun hm => ?_, frame := fun i g g' st hk => ?_, item := fun i s1 Q1 E1 hi st hds hQ => ?_, done := fun s1 Q1 E1 st hQ => ?_ }
    · simp only [List.mem_cons, List.not_mem_nil, or_false] at hm
      rcases hm with e | e | e | e
      · exact dz e
      · exact dTO e
      · exact di1 e
      · exact di2 e
    · obtain ⟨b1, b2, b3, b4⟩ := st
      refine ⟨hk _ _ (Ne.symm dTI) b1, ti_at b2 (fun o => hk _ o (Ne.symm di1)) (fun o => hk _ o (Ne.symm dl1)), ti_at b3 (fun o => hk _ o (Ne.symm di2)) (fun o => hk _ o (Ne.symm dl2)), ?_⟩
      rcases b4 with ⟨c1, x, y, c2⟩ | ⟨T, f, oT, c1, c2, c3, c4, c5, c6⟩
      · exact .inl ⟨hk _ _ (Ne.symm dz) c1, x, y, hk _ _ (Ne.symm dTO) c2⟩
      · exact .inr ⟨T, f, oT, hk _ _ (Ne.symm dz) c1, hk _ _ c6 c2, c3, c4, c5, c6⟩
    · obtain ⟨b1, b2, b3, b4⟩ := st
      have ex := Array.getElem?_eq_getElem (xs := xs) hi
      have ey := Array.getElem?_eq_getElem (xs := ys) (i := i) (by omega)
      have lt : ∀ {c : Addr} {o : Obj}, s1.heap.get? c = some o → s1.heap.objs.size ≠ c := fun e => Nat.ne_of_gt (Heap.lt_size e)
      have m1 : s1.heap.objs.size ≠ i1 := b2.1.elim fun _ e => lt e.1
      have m2 : s1.heap.objs.size ≠ i2 := b3.1.elim fun _ e => lt e.1
      rcases b4 with ⟨c1, x, y, c2⟩ | ⟨T, f, oT, c1, c2, c3, c4, c5, c6⟩
      · refine RZ.pyNext_zipT_item D c1 b1 c2 b2.1 b3.1 b2.2 b3.2 ex ey fun g' e1 e2 e3 e4 e5 _ hk => ?_
        refine hQ s1.heap.objs.size _ _ g' s1.toks ⟨ex, ey⟩ (.inl ⟨_, e5, rfl, _, rfl⟩) ⟨hk _ _ D.TIz D.TITO D.TIi1 D.TIi2 b1, ⟨e3, b2.2.at fun o => hk _ o D.l1z D.l1TO D.l1i1 D.l1i2⟩, ⟨e4, b3.2.at fun o => hk _ o D.l2z D.l2TO D.l2i1 D.l2i2⟩, .inr ⟨s1.heap.objs.size, false, _, e1, e5, lt c1, m1, m2, Nat.ne_of_gt hds⟩⟩ fun c o hc e => ?_
        simp only [List.mem_cons, List.not_mem_nil, or_false, not_or] at hc
        exact hk c o hc.1 hc.2.1 hc.2.2.1 hc.2.2.2 e
      · refine next_by ⟨_, c1, rfl⟩ (wpAny_mono (held_item c1 c2 b1 D.i1z D.i2z (ti_gives D.l1i1 ex) (ti_gives D.l2i2 ey) b2 b3 (ti_off D.i1z D.l1z) (ti_off D.i2z D.l2z) (ti_off D.i12.symm D.l2i1) (ti_off D.i12 D.l1i2) fun g' e1 e2 e3 e4 hk => ?_) (fun _ _ q => q) fun _ _ q => q)
        have up : ∀ (c : Addr) (o : Obj), g'.get? c = some o → (g'.push { cls := .type "tuple", data := .seq #[xs[i], ys[i]] }).get? c = some o := fun c o e => Heap.get?_push_of_some _ e
        refine hQ g'.objs.size _ _ _ s1.toks ⟨ex, ey⟩ (.inl ⟨_, Heap.get?_push_size _ rfl, rfl, _, rfl⟩) ⟨up _ _ (hk _ _ D.TIz D.TIi1 D.TIi2 b1), ti_at e2 (up _) (up _), ti_at e3 (up _) (up _), .inr ⟨T, true, oT, up _ _ e1, up _ _ (hk _ _ c3 c4 c5 c2), c3, c4, c5, c6⟩⟩ fun c o hc e => ?_
        simp only [List.mem_cons, List.not_mem_nil, or_false, not_or] at hc
        exact up _ _ (hk c o hc.1 hc.2.2.1 hc.2.2.2 e)
    · obtain ⟨b1, b2, b3, b4⟩ := st
      have ex : xs[xs.size]? = none := Array.getElem?_eq_none (Nat.le_refl _)
      rcases b4 with ⟨c1, x, y, c2⟩ | ⟨T, f, oT, c1, c2, c3, c4, c5, c6⟩
      · refine RZ.pyNext_zipT_end hA D c1 b1 c2 b2.1 b3.1 b2.2 b3.2 (.inl ex) fun g' hk => hQ g' s1.toks fun c o hc e => ?_
        simp only [List.mem_cons, List.not_mem_nil, or_false, not_or] at hc
        exact hk c o hc.1 hc.2.1 hc.2.2.1 hc.2.2.2 e
      · refine next_by ⟨_, c1, rfl⟩ (wpAny_mono (held_end (S1 := TI1 i1 l1 xs xs.size) (Q := fun _ _ => False) hA c1 c2 b1 (ti_ends ex) b2 (ti_off D.i1z D.l1z) fun g' e hk he => ?_) (fun _ _ q => q.elim) fun _ _ q => q)
        obtain ⟨o, ho, hc⟩ := he
        refine ⟨⟨e, o, rfl, ho, hc⟩, hQ g' s1.toks fun c o hc e => ?_⟩
        simp only [List.mem_cons, List.not_mem_nil, or_false, not_or] at hc
        exact hk c o hc.1 hc.2.2.1 e
end Tl
end S_Zp
section S_Ya
namespace Tl
open PySem PySem.Spec PyProof.Rows L2
/-! ### sorted(t) of a tuple of ints -/
section
variable {prog : Program} {w : World} {A : Around} {E : Value → Shared → Prop} {s : Shared}
abbrev heapL (h : Heap) (zs : List Value) : Heap := (h.push (seqObj "list" #[] 0)).update h.objs.size (Obj.mapSeq (· ++ zs.toArray))
theorem collect_tup {l : Addr} {zs : List Value} {Q : List Value → Shared → Prop} (hl : s.heap.IsTuple l zs.toArray) (hz : zs.length ≤ sizeLine)
    (h : Q zs { s with heap := heapL s.heap zs }) : wpAny (model prog w) A (collect (.ref l)) Q E s := by
  obtain ⟨ob, hob, hcl, m, hdt⟩ := id hl
  unfold collect
  refine wpAny_bind (wpAny_runValue (codeAny_builtin entry_proto_collect' ?_))
  show wpAny _ _ (do again (.builtin "list.__iadd__" ⟨[← newList [], .ref l], []⟩)) _ _ s
  refine wpAny_bind (wpAny_newList (wpAny_pure ⟨Code.quiet_builtin _ (by decide +kernel), codeAny_builtin entry_list_iadd' ?_⟩))
  show wpAny _ _ (Builtin.List.listExtendWith (.ref s.heap.objs.size) (.ref l) (.ref s.heap.objs.size)) _ _ { s with heap := s.heap.push (seqObj "list" #[] 0) }
  unfold Builtin.List.listExtendWith
  have hob' : (s.heap.push (seqObj "list" #[] 0)).get? l = some ob := Heap.get?_push_of_some _ hob
  refine wpAny_bind (wpAny_typeOf (T := "tuple") ⟨ob, hob', hcl⟩ ?_)
  have h1 : (Value.type "tuple" == Value.type "list") = false := by rfl
  have h2 : (Value.type "tuple" == Value.type "tuple") = true := by rfl
  rw [if_pos (by rw [h1, h2]; simp)]
  refine wpAny_bind (listItems_at hob' hdt ?_)
  refine wpAny_bind (listItems_at (xs := #[]) (n := 0) (Heap.get?_push_size _ rfl) rfl ?_)
  rw [if_neg (by simp)]
  refine wpAny_bind (listUpdate_at (xs := #[]) (n := 0) (Heap.get?_push_size _ rfl) rfl ?_ (Nat.zero_le _) (by
    show (#[] ++ zs.toArray).size ≤ sizeLine + 1
    simp only [Array.size_append, List.size_toArray, List.length_nil]
    omega))
  refine wpAny_pure ?_
  refine (show wpAny (model prog w) A (load s.heap.objs.size >>= _) Q E { s with heap := heapL s.heap zs } from wpAny_bind (wpAny_load (get?_update_seq (Heap.get?_push_size _ rfl) _) ?_))
  show wpAny _ _ (pure ((#[] : Array Value) ++ zs.toArray).toList) Q E _
  have e : ((#[] : Array Value) ++ zs.toArray).toList = zs := by simp
  rw [e]
  exact wpAny_pure h
theorem sorted_tup {l : Addr} {zs : List Value} {lt : Value → Value → Bool} {Q : Value → Shared → Prop} (O : SrtO.Swo lt) (hl : s.heap.IsTuple l zs.toArray) (hz : zs.length ≤ sizeLine)
    (hS : 2 ≤ zs.length → ∀ (g : Heap) (a : Addr), g.get? a = some (seqObj "list" zs.toArray 0) → (∀ b o, s.heap.get? b = some o → b ≠ a ∧ g.get? b = some o) → SrtO.SortableO prog w A.in1.in1 { s with heap := g } a zs lt)
    (h : ∀ out : List Value, SrtO.Srtd lt out → SrtO.Stb lt out zs → Q (.ref (s.heap.objs.size + 1)) { s with heap := sortedAll s.heap zs out.toArray }) :
    wpAny (model prog w) A (call (.builtin "sorted") [.ref l]) Q E s := by
  refine Calls.call_function_entry kind_sorted plain_sorted entry_sorted (args_sorted1 _) ?_
  unfold Builtin.«sorted»
  refine wpAny_bind (m := checkCount "sorted" 1 1 _) (wpAny_pure (wpAny_bind (collect_tup hl hz (wpAny_bind (wpAny_newList ?_ hz)))))
  have sz : (heapL s.heap zs).objs.size = s.heap.objs.size + 1 := by
    show ((s.heap.push (seqObj "list" #[] 0)).update s.heap.objs.size (Obj.mapSeq (· ++ zs.toArray))).objs.size = _
    rw [Heap.size_update, size_push']
  have at1 : ((heapL s.heap zs).push (seqObj "list" zs.toArray 0)).get? (s.heap.objs.size + 1) = some (seqObj "list" zs.toArray 0) := by
    rw [← sz]
    exact Heap.get?_push_size _ rfl
  have up : ∀ b o, s.heap.get? b = some o → b ≠ s.heap.objs.size + 1 ∧ ((heapL s.heap zs).push (seqObj "list" zs.toArray 0)).get? b = some o := fun b o q => by
    have lt : b < s.heap.objs.size := Heap.lt_size q
    refine ⟨Nat.ne_of_lt (Nat.lt_succ_of_lt lt), Heap.get?_push_of_some _ ?_⟩
    show ((s.heap.push (seqObj "list" #[] 0)).update s.heap.objs.size (Obj.mapSeq (· ++ zs.toArray))).get? b = some o
    rw [Heap.get?_update_ne _ _ _ _ (Nat.ne_of_lt lt)]
    exact Heap.get?_push_of_some _ q
  show wpAny _ _ _ _ _ { s with heap := (heapL s.heap zs).push (seqObj "list" zs.toArray 0) }
  rw [sz]
  refine wpAny_bind (wpAny_holding (wpAny_call_entry slot_list_sort ⟨_, at1, rfl⟩ entry_list_sort (SrtO.list_sort_ord O at1 hz (fun h2 => hS h2 _ _ at1 up) fun out a b => ⟨_, rfl, ?_⟩) (args_list_sort _)))
  exact wpAny_pure ⟨_, rfl, h out a b⟩
end
def rSortedU (K : PySem.W.Frag) : List V → Hp → VK → Prop := fun vs H Q => ∃ (a : Addr) (ns : List Int), vs = [V.ref a] ∧ (SqL K H a (ns.map V.int) ∨ SqT K H a (ns.map V.int)) ∧
  ∀ (ms : List Int) (p : Addr), ms.Perm ns → ms.Pairwise (· ≤ ·) → H p = none → Q (.ref p) (upd H p (.lst (ms.map V.int)))
/-- sorted(xs) of a list or a tuple of ints -/
theorem cr_sortedU {X : Cx} : CallR X (.builtin "sorted") (rSortedU X.K) := by
  intro pins s σ H vs us Q I r h
  obtain ⟨a, ns, rfl, hs | hs, q⟩ := h
  · exact cr_sortedI pins s σ H _ us Q I r ⟨a, ns, rfl, hs, q⟩
  · obtain ⟨its, rv, hl, hz⟩ := I.tuple hs
    rw [Vals.ref1 r]
    have hi := rv.ints
    refine sorted_tup SrtO.swo_int hl (by rw [← rv.length]; exact hz) (fun h2 g b _ _ => SrtO.ints_sortable hi h2) fun out h1 h2 => ?_
    obtain ⟨k1, k2, k3⟩ := SrtO.ints_out hi h1 h2
    obtain ⟨ep, hep⟩ := PyProof.Rows.sortedAll_at s.heap its out.toArray
    have hn : ((out.map SrtO.iv).map V.int).length ≤ sizeLine := by
      rw [List.length_map] at hz ⊢
      rw [k2.length_eq]
      exact hz
    exact ⟨.ref _, upd H (s.heap.objs.size + 1) (.lst ((out.map SrtO.iv).map V.int)), I.laid (t' := s.toks) (fun _ _ => PyProof.Rows.sortedAll_old) (Nat.le_succ _) ⟨hn, out, ep, vals_of_ints k1, hep⟩, rfl, q _ _ k2 k3 (I.hok.fresh (Nat.le_succ _))⟩
/-! ### enumerate(t) of a tuple -/
set_option maxHeartbeats 1000000 in
theorem enum_new1 {v : Value} {o : Obj} {G : Heap → Prop} (B : Begins v o G) :
    Meets (Builtin.«enumerate.__new__» ⟨[.type "enumerate", v], []⟩) (fun _ R z => G z.heap ∧
      R (.ok (.ret (.ref (z.heap.push o).objs.size))) { z with heap := (z.heap.push o).push { cls := .type "enumerate", data := .fields #[.none, .bool false, .ref z.heap.objs.size, rawInt 0, .none, .none] } }) :=
  .of_wp fun pr wo Ar R z h => by
    obtain ⟨hh, ge, dd, tt, oo⟩ := z
    obtain ⟨g1, h⟩ := h
    have sb := sub_enumerate
    have it1 : ∀ {A' : Around} {E : Value → Shared → Prop} {Q : Value → Shared → Prop}, Q (.ref hh.objs.size) ⟨hh.push o, ge, dd, tt, oo⟩ → wpAny (model pr wo) A' (pyIter v) Q E ⟨hh, ge, dd, tt, oo⟩ :=
      fun q => B.iter pr wo _ _ ⟨hh, ge, dd, tt, oo⟩ _ g1 q
    wp_walk using it1
    refine wpAny_stack_any fun st => wpAny_pure ?_
    split
    · rename_i c _ _ _ _ _
      cases (c == Value.type "enumerate") <;> (wp_walk using it1; exact ⟨_, rfl, h⟩)
    · wp_walk using it1
      exact ⟨_, rfl, h⟩
section
variable {prog : Program} {w : World} {A : Around} {E : Value → Shared → Prop} {s : Shared}
theorem enum_of {v : Value} {o : Obj} {G : Heap → Prop} {Q : Value → Shared → Prop} (B : Begins v o G) (g1 : G s.heap)
    (h : ∀ g, IsEnum g (s.heap.objs.size + 1) s.heap.objs.size 0 .none → g.get? s.heap.objs.size = some o → g.objs.size = s.heap.objs.size + 2 →
      (∀ b u, s.heap.get? b = some u → g.get? b = some u) → Q (.ref (s.heap.objs.size + 1)) { s with heap := g }) :
    wpAny (model prog w) A (call (.type "enumerate") [v]) Q E s := by
  refine callType_new F.called_enumerate (by decide) (F.typeCall_enumerate_1 _) (F.newCall_enumerate_1 _) (fun obj => F.args_object_init_2 obj _) F.entry_enumerate_new (enum_new1 B) ⟨g1, ?_⟩
  have z1 : (s.heap.push o).objs.size = s.heap.objs.size + 1 := Heap.size_push ..
  show _ ∧ _
  rw [z1]
  have he : IsEnum ((s.heap.push o).push { cls := .type "enumerate", data := .fields #[.none, .bool false, .ref s.heap.objs.size, rawInt 0, .none, .none] }) (s.heap.objs.size + 1) s.heap.objs.size 0 .none := z1 ▸ Heap.get?_push_size _ rfl
  exact ⟨⟨_, he, rfl⟩, h _ he (Heap.get?_push_of_some _ (Heap.get?_push_size _ B.free)) (by rw [Heap.size_push, z1]) fun b u x => Heap.get?_push_of_some _ (Heap.get?_push_of_some _ x)⟩
end
/-- the tuple at a as it stands at each turn, each item in a new pair -/
def IteT (K : PySem.W.Frag) (a : Addr) : It :=
  ⟨fun i H => ∃ (xs : List V) (x : V), SqT K H a xs ∧ xs[i]? = some x, fun i H v H' => ∃ T x, v = .ref T ∧ H T = none ∧ H' = upd H T (.tup [.int (i : Nat), x]) ∧ ∀ xs, SqT K H a xs → xs[i]? = some x, fun i H => ∃ xs : List V, SqT K H a xs ∧ xs.length ≤ i⟩
theorem tup_ne {h : Heap} {a b l : Addr} {k : Nat} {xs : Array Value} (p : h.IsTuple a xs) (q : h.IsTupleIter b l k) : a ≠ b := fun z => by
  obtain ⟨o, ho, hc, _⟩ := p
  obtain ⟨u, hu, hd, _⟩ := q
  rw [z, hu] at ho
  cases ho
  rw [hd] at hc
  exact absurd (Value.type.inj hc) (by decide)
theorem tup_ne2 {h : Heap} {a e it : Addr} {i : Int} {old : Value} {xs : Array Value} (p : h.IsTuple a xs) (q : IsEnum h e it i old) : a ≠ e := fun z => by
  obtain ⟨o, ho, hc, _⟩ := p
  rw [z, q] at ho
  cases ho
  exact absurd (Value.type.inj hc) (by decide)
abbrev EnT (a e it : Addr) (i : Nat) (h : Heap) : Prop := (∃ old, IsEnum h e it ((i : Nat) : Int) old) ∧ h.IsTupleIter it a i ∧ e ≠ it
theorem turn_enumT {P : Program} {w : World} {K : PySem.W.Frag} {elts : List Expr} {kk : Nat} {tpos : Pos} (a e it : Addr) : Turn P w K (.Tuple elts kk tpos) (IteT K a) [e, it] e (EnT a e it) where
  mem := List.mem_cons_self
  obj := fun i h st b hb => by
    obtain ⟨⟨old, he⟩, ⟨o, ho, hc, hd⟩, _⟩ := st
    rcases List.mem_cons.mp hb with z | z
    · rw [z]; exact ⟨_, he, fun v q => nomatch q⟩
    · rw [List.mem_singleton.mp z]; exact ⟨o, ho, fun v q => by rw [hd] at q; cases q⟩
  keep := fun i h h' st k => ⟨st.1.imp fun old he => k e (by simp) _ he, st.2.1.at fun o q => k it (by simp) o q, st.2.2⟩
  item := by
    intro X hP hw hK hc i pins s σ H E I hf st hg
    subst hP hw hK
    obtain ⟨⟨old, he⟩, hit, hne⟩ := st
    obtain ⟨xs, x, hq, hx⟩ := hg
    obtain ⟨its, rv, p, hz⟩ := I.tuple hq
    obtain ⟨u, hu, ru⟩ := rv.get hx
    have hai : a ≠ it := tup_ne p hit
    have hae : a ≠ e := tup_ne2 p he
    have le : e < s.heap.objs.size := Heap.lt_size he
    have li : it < s.heap.objs.size := by obtain ⟨_, q, _⟩ := hit; exact Heap.lt_size q
    have isz : i < its.toArray.size := by simpa using (List.getElem?_eq_some_iff.mp hu).1
    refine wpAny_pyNext_enum_itemC (Draws.tuple (show X.A.in1.handled = none from I.ok.hd hc) it a hai its.toArray) he ⟨hit, p⟩ isz hne (by simp [hne, Ne.symm hae]) fun y g tk hy ho hst hT hsz hk => ?_
    have ey : y = u := by
      rw [show its.toArray[i]? = its[i]? by simp, hu] at hy
      exact (Option.some.inj hy).symm
    subst ey
    refine ⟨_, rfl, wpAny_letOwnedTupleGo_enum (s := { s with heap := g, toks := tk + 1 }) ho fun g2 he' sb => ?_⟩
    have at2 : g2.get? s.heap.objs.size = some { cls := .type "tuple", data := .seq #[.int i tk, y] } := (sb.2 _ (Nat.ne_of_gt le)).trans hT
    have new : ObjOk X.prog X.w (upd H s.heap.objs.size (.tup [.int (i : Nat), x])) g2 s.heap.objs.size (.tup [.int (i : Nat), x]) :=
      ⟨by show 2 ≤ sizeLine; decide, [.int i tk, y], .cons ⟨_, rfl⟩ (.cons ru .nil), ⟨_, at2, rfl, _, rfl⟩⟩
    have old2 : ∀ b ob, b ∉ [e, it] → s.heap.get? b = some ob → g2.get? b = some ob := fun b ob hb q =>
      (sb.2 b fun z => hb (by simp [z])).trans (hk b ob (fun z => hb (by simp [z])) (fun z => hb (by simp [z])) q)
    have I1 : Inv X pins σ (upd H s.heap.objs.size (.tup [.int (i : Nat), x])) { s with heap := g2, toks := tk + 1 } := I.turnedNew (ch := [e, it]) old2 hf (Nat.le_refl _) new
    refine ⟨.ref s.heap.objs.size, _, I1, rfl, ⟨_, x, rfl, I.hok.fresh (Nat.le_refl _), rfl, fun ys hy => by rw [I.tuple_inj hy hq]; exact hx⟩, ⟨⟨y, ?_⟩, hst.1.at fun o q => (sb.2 it (Ne.symm hne)).trans q, hne⟩, fun b hb => ?_⟩
    · show IsEnum g2 e it ((i + 1 : Nat) : Int) y
      rw [show ((i + 1 : Nat) : Int) = (i : Int) + 1 by omega]
      exact he'
    · have lb : b < s.heap.objs.size := by
        rcases List.mem_cons.mp hb with z | z
        · rw [z]; exact le
        · rw [List.mem_singleton.mp z]; exact li
      rw [upd_ne (Nat.ne_of_lt lb)]
      exact (hf b hb).1
  done := by
    intro X hP hw hK hc i pins s σ H E I hf st hg
    subst hP hw hK
    obtain ⟨⟨old, he⟩, hit, hne⟩ := st
    obtain ⟨xs, hq, hx⟩ := hg
    obtain ⟨its, rv, p, hz⟩ := I.tuple hq
    obtain ⟨f0, f1, f2, f3, f4, f5⟩ := hf it (by simp)
    have hn := rv.length
    have hai : a ≠ it := tup_ne p hit
    have D : Draws X.prog X.w X.A.in1 it [it, a] i (fun _ _ => False) (fun j h => h.IsTupleIter it a j ∧ h.IsTuple a its.toArray ∧ j = i) :=
      { live := fun _ _ st => let ⟨o, ho, _⟩ := st.1; ⟨o, ho⟩
        frame := fun _ _ _ st hk => ⟨st.1.at fun o e => hk it (by simp) o e, st.2.1.at fun o e => hk a (by simp) o e, st.2.2⟩
        item := fun j s Q E hj st _ => absurd st.2.2 (Nat.ne_of_lt hj)
        done := fun s Q E st hE => RZ.nextOf_tuple_end (show X.A.in1.handled = none from I.ok.hd hc) st.1 st.2.1 (by simp; omega) hE }
    exact wpAny_pyNext_enum_endD D he ⟨hit, p, rfl⟩ fun g eb => ⟨rfl, I.turned (t' := s.toks) (fun b o hb q => eb b o hb q) f0 f1 f3 f4 f5⟩
  self := fun A i s Q E st h => let ⟨⟨_, he⟩, _⟩ := st; wpAny_pyIter_enum he h
def iEnumT (K : PySem.W.Frag) (ta : TA) : TI := fun σ H R => ta σ H fun vs H1 => ∃ a xs, vs = [.ref a] ∧ SqT K H1 a xs ∧ R (IteT K a) H1
theorem pi_enumT {X : Cx} {e : Expr} {ta : TA} {p pos tpos : Pos} {elts : List Expr} {kk : Nat} (hg : Gl X "enumerate") (hm : X.mg "enumerate" = none) (ha : PA X [e] ta) (hs : starEach [e] X.env = [(false, eval e X.env)] := by rfl) :
    PI X (.Tuple elts kk tpos) (.Call (.Name "enumerate" p) [e] [] pos) (iEnumT X.K ta) := by
  refine ⟨fun pins s σ H R I h => ?_⟩
  refine Call_ (ld_blt I hg hm boot_enumerate (PyProof.Rows.callWith_type1 (thn (ha.run pos pins s σ H _ I h) fun us s1 hv => ?_) hs rfl))
  obtain ⟨vs, H1, I1, r1, a, xs, rfl, hq, q⟩ := hv
  obtain rfl := Vals.ref1 r1
  obtain ⟨its, rv, p', hz⟩ := I1.tuple hq
  refine enum_of (begins_tuple a its.toArray) p' fun g he hit hsz hk => wpAny_pyIter_enum he ?_
  refine ⟨s1.heap.objs.size + 1, [s1.heap.objs.size + 1, s1.heap.objs.size], _, _, H1, rfl, I1.kept (t' := s1.toks) hk, turn_enumT a (s1.heap.objs.size + 1) s1.heap.objs.size, ⟨⟨.none, he⟩, ⟨_, hit, rfl, rfl⟩, Nat.succ_ne_self _⟩, fun b hb => ?_, q⟩
  have le : s1.heap.objs.size ≤ b := by
    rcases List.mem_cons.mp hb with z | z
    · rw [z]; exact Nat.le_add_right _ _
    · rw [List.mem_singleton.mp z]; exact Nat.le_refl _
  exact I1.fpOk le (I1.hok.fresh le)
end Tl
end S_Ya
section S_Yw
namespace Tl
open PySem PySem.Spec PyProof.Rows L2
open Evl
/-! ### walks that only lay new objects -/
/-- C holds what came between A and B -/
abbrev Since (A B C : Hp) : Prop := ∀ a o, A a = none → B a = some o → C a = some o
/-- what a for walks: n turns, told by Y, as long as what stood at H stays, and what is new -/
def EvI (wi : TI) (σ : L2.St) (H : Hp) (n : Nat) (Y : Nat → Hp → V → Hp → Prop) : Prop := ∀ H1, Ex H H1 → ∀ R : It → Hp → Prop,
  (∀ (J : It) (G : Hp → Prop) H2, Ex H1 H2 → Walk J n G Y → (∀ A, Ex H A → Since H1 H2 A → G A) → R J H2) → wi σ H1 R
/-- a value of which R holds, in each heap that has what stood at H and what is new -/
def EvN (te : TE) (σ : L2.St) (H : Hp) (R : V → Hp → Prop) : Prop := ∀ H1, Ex H H1 → ∀ Q : VK, (∀ v H2, Ex H1 H2 → (∀ H3, Ex H H3 → Since H1 H2 H3 → R v H3) → Q v H2) → te σ H1 Q
/-- a new list: what it holds is told by L -/
def EvNL (te : TE) (σ : L2.St) (H : Hp) (L : List V → Hp → Prop) : Prop := ∀ H1, Ex H H1 → ∀ Q : VK,
  (∀ p xs H2, H1 p = none → Ex H1 H2 → H2 p = some (.lst xs) → (∀ H3, Ex H H3 → (∀ a o, a ≠ p → H1 a = none → H2 a = some o → H3 a = some o) → L xs H3) → Q (.ref p) H2) → te σ H1 Q
/-- the target's stores -/
def Aims (g : TG) (n : Nat) (Y : Nat → Hp → V → Hp → Prop) (s : Nat → L2.St → L2.St) : Prop := ∀ i σ H x H', i < n → Y i H x H' → Ex H H' ∧ ∀ Q : L2.St → Hp → Prop, Q (s i σ) H' → g x σ H' Q
theorem aims_at {xs : List V} {j : Nat} : Aims (gName j) xs.length (YAt xs) (fun i σ => σ.set j (some (xs.getD i .non))) := fun i σ H x H' hi y => by
  obtain ⟨rfl, hx⟩ := y
  obtain rfl : xs.getD i .non = x := by rw [List.getD_eq_getElem?_getD, hx]; rfl
  exact ⟨Ex.refl _, fun Q q => q⟩
theorem aims_fn {f : Nat → V} {n j : Nat} : Aims (gName j) n (YFn f) (fun i σ => σ.set j (some (f i))) := fun i σ H x H' hi y => by
  obtain ⟨rfl, rfl⟩ := y
  exact ⟨Ex.refl _, fun Q q => q⟩
/-- a pair of the turn's number and the item -/
theorem aims_enum {K : PySem.W.Frag} {xs : List V} {j1 j2 : Nat} : Aims (gTup K 2 (gCons (gName j1) (gCons (gName j2) gNil))) xs.length (YPair (fun i => some (.int (i : Nat))) (fun i => xs[i]?))
    (fun i σ => (σ.set j1 (some (.int (i : Nat)))).set j2 (some (xs.getD i .non))) := fun i σ H v H' hi y => by
  obtain ⟨T, x, y, rfl, hT, rfl, h1, h2⟩ := y
  cases h1
  have h3 : xs[i]? = some y := h2
  obtain rfl : xs.getD i .non = y := by rw [List.getD_eq_getElem?_getD, h3]; rfl
  exact ⟨Ex.new hT, fun Q q => ⟨T, _, rfl, st_of upd_same, rfl, _, _, rfl, _, _, rfl, rfl, q⟩⟩
section
variable {K : PySem.W.Frag} {σ : L2.St} {H : Hp}
theorem ei_list {a : Addr} {xs : List V} {tl : TE} (h : Ev tl σ H (.ref a)) (hx : SqL K H a xs) : EvI (iList K tl) σ H xs.length (YAt xs) := fun H1 e R k =>
  h H1 e _ fun H2 e2 => ⟨a, rfl, ⟨xs, ex_l (e.trans e2) hx⟩, k _ _ H2 e2 walk_list fun A ab _ => ex_l ab hx⟩
theorem ei_listN {xs : List V} {tl : TE} (h : EvL tl σ H xs) : EvI (iList K tl) σ H xs.length (YAt xs) := fun H1 e R k =>
  h H1 e _ fun a H2 ha e2 hx => ⟨a, rfl, ⟨xs, sq_of hx⟩, k _ _ H2 e2 walk_list fun A _ ab => sq_of (ab _ _ ha hx)⟩
theorem ei_tup {a : Addr} {xs : List V} {tl : TE} (h : Ev tl σ H (.ref a)) (hx : SqT K H a xs) : EvI (iTup K tl) σ H xs.length (YAt xs) := fun H1 e R k =>
  h H1 e _ fun H2 e2 => ⟨a, rfl, ⟨xs, ex_t (e.trans e2) hx⟩, k _ _ H2 e2 walk_tup fun A ab _ => ex_t ab hx⟩
theorem walk_enumT {a : Addr} {xs : List V} : Walk (IteT K a) xs.length (fun H => SqT K H a xs) (YPair (fun i => some (.int (i : Nat))) (fun i => xs[i]?)) := by
  refine ⟨fun i _ hi q => ⟨xs, xs[i], q, by simp [hi]⟩, fun _ q => ⟨xs, q, Nat.le_refl _⟩, fun i H v H' _ q y => ?_⟩
  obtain ⟨T, x, h1, h2, h3, h4⟩ := y
  exact ⟨T, .int (i : Nat), x, h1, h2, h3, rfl, h4 xs q⟩
theorem ei_enum {a : Addr} {xs : List V} {ta : TA} (h : EvA ta σ H [.ref a]) (hx : SqL K H a xs) : EvI (iEnum K ta) σ H xs.length (YPair (fun i => some (.int (i : Nat))) (fun i => xs[i]?)) := fun H1 e R k =>
  h H1 e _ fun H2 e2 => ⟨a, xs, rfl, ex_l (e.trans e2) hx, k _ _ H2 e2 walk_enum fun A ab _ => ex_l ab hx⟩
theorem ei_enumT {a : Addr} {xs : List V} {ta : TA} (h : EvA ta σ H [.ref a]) (hx : SqT K H a xs) : EvI (iEnumT K ta) σ H xs.length (YPair (fun i => some (.int (i : Nat))) (fun i => xs[i]?)) := fun H1 e R k =>
  h H1 e _ fun H2 e2 => ⟨a, xs, rfl, ex_t (e.trans e2) hx, k _ _ H2 e2 walk_enumT fun A ab _ => ex_t ab hx⟩
theorem ei_rng1 {ta : TA} {j : Int} (h : EvA ta σ H [.int j]) (h0 : 0 ≤ j) (h1 : j ≤ 100000) : EvI (iRng1 ta) σ H j.toNat (YFn fun i => .int (0 + i)) := fun H1 e R k =>
  h H1 e _ fun H2 e2 => ⟨j, rfl, by omega, by omega, k _ _ H2 e2 walk_range fun _ _ _ => trivial⟩
theorem ei_rng2 {ta : TA} {i j : Int} (h : EvA ta σ H [.int i, .int j]) (h0 : -100000 ≤ i ∧ i ≤ 100000) (h1 : -100000 ≤ j ∧ j ≤ 100000) : EvI (iRng2 ta) σ H (j - i).toNat (YFn fun k => .int (i + k)) := fun H1 e R k =>
  h H1 e _ fun H2 e2 => ⟨i, j, rfl, ⟨by omega, by omega, by omega, by omega⟩, k _ _ H2 e2 walk_range fun _ _ _ => trivial⟩
theorem en_v {te : TE} {v : V} (h : Ev te σ H v) : EvN te σ H (fun u _ => u = v) := fun H1 e Q q => h H1 e Q fun H2 e2 => q v H2 e2 fun _ _ _ => rfl
theorem en_l {te : TE} {xs : List V} (h : EvL te σ H xs) : EvN te σ H (fun u H' => ∃ a, u = .ref a ∧ H' a = some (.lst xs)) := fun H1 e Q q => h H1 e Q fun p H2 hp e2 h2 => q _ H2 e2 fun H3 _ s => ⟨p, rfl, s _ _ hp h2⟩
theorem en_u {te : TE} {xs : List V} (h : ∀ H1, Ex H H1 → ∀ Q : VK, (∀ p H2, H1 p = none → Ex H1 H2 → H2 p = some (.tup xs) → Q (.ref p) H2) → te σ H1 Q) : EvN te σ H (fun u H' => ∃ a, u = .ref a ∧ H' a = some (.tup xs)) := fun H1 e Q q => h H1 e Q fun p H2 hp e2 h2 => q _ H2 e2 fun H3 _ s => ⟨p, rfl, s _ _ hp h2⟩
theorem en_nl {te : TE} {L : List V → Hp → Prop} (h : EvNL te σ H L) : EvN te σ H (fun u H' => ∃ a xs, u = .ref a ∧ H' a = some (.lst xs) ∧ L xs H') := fun H1 e Q q => h H1 e Q fun p xs H2 hp e2 h2 hL => q _ H2 e2 fun H3 e3 s => ⟨p, xs, rfl, s _ _ hp h2, hL H3 e3 fun a o _ ha hb => s a o ha hb⟩
/-- what the comprehension's list holds: what R tells, turn by turn -/
def Holds (R : Nat → V → Hp → Prop) (n : Nat) (xs : List V) (H : Hp) : Prop := xs.length = n ∧ ∀ i v, xs[i]? = some v → R i v H
theorem snoc_at {xs : List V} {v u : V} {i : Nat} (h : (xs ++ [v])[i]? = some u) : (i < xs.length ∧ xs[i]? = some u) ∨ (i = xs.length ∧ v = u) := by
  rcases Nat.lt_or_ge i xs.length with hi | hi
  · rw [List.getElem?_append_left hi] at h
    exact .inl ⟨hi, h⟩
  · rw [List.getElem?_append_right hi] at h
    have e : i - xs.length = 0 := by
      have := (List.getElem?_eq_some_iff.mp h).1
      simp at this
      omega
    rw [e] at h
    cases h
    exact .inr ⟨by omega, rfl⟩
theorem en_lc {wi : TI} {g : TG} {te : TE} {vs : List Nat} {n : Nat} {Y : Nat → Hp → V → Hp → Prop} {s : Nat → L2.St → L2.St} (hw : EvI wi σ H n Y) (aim : Aims g n Y s) (hs : ∀ i, wipe (s i (wipe σ vs)) vs = wipe σ vs) (hn : n ≤ 90000)
    (R : Nat → V → Hp → Prop) (he : ∀ i, i < n → EvN te (s i (wipe σ vs)) H (R i)) : EvNL (tLc wi g tYes te vs) σ H (Holds R n) := fun H1 e Q q =>
  hw H1 e _ fun J G H2 e2 w sG D hD => lc_it w (fun i H' => Ex H2 H' ∧ ∃ acc, H' D = some (.lst acc) ∧ acc.length = i ∧ ∀ k v, acc[k]? = some v → ∀ H3, Ex H H3 → (∀ a o, a ≠ D → H1 a = none → H' a = some o → H3 a = some o) → R k v H3)
    ⟨Ex.new hD, [], upd_same, rfl, fun i v h => by simp at h⟩ (fun i H' _ p => sG H' ((e.trans e2).trans p.1) fun a o _ ha => p.1 _ _ ha)
    (fun i x A B hi p y => by
      obtain ⟨p1, acc, p3, p4, p5⟩ := p
      obtain ⟨ab, k⟩ := aim i (wipe σ vs) A x B hi y
      refine k _ ⟨hs i, ?_⟩
      show te (s i (wipe σ vs)) B _
      have hHB : Ex H B := ((e.trans e2).trans p1).trans ab
      refine he i hi B hHB _ fun v C eC hv => ⟨acc, eC _ _ (ab _ _ p3), sz_lt (by omega), ?_, acc ++ [v], upd_same, by rw [List.length_append, p4] <;> rfl, fun k u hk H3 h3 keep => ?_⟩
      · exact ((p1.trans ab).trans eC).mut hD
      · have at4 : ∀ a o, a ≠ D → H1 a = none → C a = some o → H3 a = some o := fun a o hne hn hc => keep a o hne hn (by rw [upd_ne hne]; exact hc)
        rcases snoc_at hk with ⟨hlt, hk⟩ | ⟨rfl, rfl⟩
        · exact p5 k u hk H3 h3 fun a o hne hn ha => at4 a o hne hn (eC _ _ (ab _ _ ha))
        · rw [p4]
          refine hv H3 h3 fun a o hb hc => at4 a o (fun z => ?_) (fresh_back ((e2.trans p1).trans ab) hb) hc
          rw [z, ab _ _ p3] at hb
          cases hb)
    (fun H' p => by
      obtain ⟨p1, acc, p3, p4, p5⟩ := p
      exact q D acc H' (fresh_back e2 hD) (e2.trans p1) p3 fun H3 h3 keep => ⟨p4, fun i v hv => p5 i v hv H3 h3 keep⟩)
/-- two walks, one in another: what the list holds is told by the row of b's -/
def Row2 {β : Type} (Rb : β → V → Hp → Prop) (bs : List β) (xs : List V) (H : Hp) : Prop := xs.length = bs.length ∧ ∀ (k : Nat) (b : β) (v : V), bs[k]? = some b → xs[k]? = some v → Rb b v H
def els {β : Type} (m : Nat → Nat) (f : Nat → Nat → Bool) (b : Nat → Nat → β) (i : Nat) : List β := ((List.range (m i)).filter (f i)).map (b i)
def rows {β : Type} (m : Nat → Nat) (f : Nat → Nat → Bool) (b : Nat → Nat → β) (n : Nat) : List β := (List.range n).flatMap (els m f b)
theorem rows_succ {β : Type} {m : Nat → Nat} {f : Nat → Nat → Bool} {b : Nat → Nat → β} {n : Nat} : rows m f b (n + 1) = rows m f b n ++ els m f b n := by
  unfold rows
  rw [List.range_succ, List.flatMap_append]
  simp
def part {β : Type} (f : Nat → Bool) (b : Nat → β) (j : Nat) : List β := ((List.range j).filter f).map b
theorem part_succ {β : Type} {f : Nat → Bool} {b : Nat → β} {j : Nat} : part f b (j + 1) = part f b j ++ (if f j = true then [b j] else []) := by
  unfold part
  rw [List.range_succ, List.filter_append, List.map_append]
  congr 1
  cases h : f j <;> simp [h]
theorem part_le {β : Type} {f : Nat → Bool} {b : Nat → β} {j k : Nat} (h : j ≤ k) : (part f b j).length ≤ (part f b k).length := by
  induction k with
  | zero => rw [Nat.le_zero.mp h] <;> exact Nat.le_refl _
  | succ k ih =>
    rcases Nat.lt_or_ge k j with h2 | h2
    · rw [show j = k + 1 by omega] <;> exact Nat.le_refl _
    · rw [part_succ, List.length_append]
      exact Nat.le_trans (ih h2) (Nat.le_add_right _ _)
theorem rows_le {β : Type} {m : Nat → Nat} {f : Nat → Nat → Bool} {b : Nat → Nat → β} {j k : Nat} (h : j ≤ k) : (rows m f b j).length ≤ (rows m f b k).length := by
  induction k with
  | zero => rw [Nat.le_zero.mp h] <;> exact Nat.le_refl _
  | succ k ih =>
    rcases Nat.lt_or_ge k j with h2 | h2
    · rw [show j = k + 1 by omega] <;> exact Nat.le_refl _
    · rw [rows_succ, List.length_append]
      exact Nat.le_trans (ih h2) (Nat.le_add_right _ _)
theorem en_lc2 {β : Type} {wi wi1 : TI} {g g1 : TG} {tt1 : TT} {te : TE} {vs vs1 : List Nat} {n : Nat} {m : Nat → Nat} {Y : Nat → Hp → V → Hp → Prop} {Y1 : Nat → Nat → Hp → V → Hp → Prop} {s : Nat → L2.St → L2.St} {s1 : Nat → Nat → L2.St → L2.St}
    (hw : EvI wi σ H n Y) (aim : Aims g n Y s) (hs : ∀ i, wipe (s i (wipe σ vs)) vs = wipe σ vs)
    (hw1 : ∀ i, i < n → EvI wi1 (s i (wipe σ vs)) H (m i) (Y1 i)) (aim1 : ∀ i, Aims g1 (m i) (Y1 i) (s1 i)) (hs1 : ∀ i j, wipe (s1 i j (wipe (s i (wipe σ vs)) vs1)) vs1 = wipe (s i (wipe σ vs)) vs1)
    (f : Nat → Nat → Bool) (b : Nat → Nat → β) (Rb : β → V → Hp → Prop) (ht : ∀ i j, i < n → j < m i → EvT tt1 (s1 i j (wipe (s i (wipe σ vs)) vs1)) H (f i j))
    (he : ∀ i j, i < n → j < m i → f i j = true → EvN te (s1 i j (wipe (s i (wipe σ vs)) vs1)) H (Rb (b i j))) (hz : (rows m f b n).length ≤ 90000) :
    EvNL (tLc2 wi g tYes wi1 g1 tt1 te vs vs1) σ H (Row2 Rb (rows m f b n)) := fun H1 e Q q => by
  refine hw H1 e _ fun J G H2 e2 w sG D hD => ?_
  -- what stands while ds are made
  let St : List β → Hp → Prop := fun ds H' => Ex H2 H' ∧ ∃ acc, H' D = some (.lst acc) ∧ acc.length = ds.length ∧ ∀ (k : Nat) (d : β) (v : V), ds[k]? = some d → acc[k]? = some v → ∀ H3, Ex H H3 → (∀ a o, a ≠ D → H1 a = none → H' a = some o → H3 a = some o) → Rb d v H3
  have grow : ∀ {ds : List β} {A B : Hp}, St ds A → Ex A B → St ds B := fun {ds A B} p ab => by
    obtain ⟨p1, acc, p3, p4, p5⟩ := p
    exact ⟨p1.trans ab, acc, ab _ _ p3, p4, fun k d v h1 h2 H3 h3 keep => p5 k d v h1 h2 H3 h3 fun a o hne hn ha => keep a o hne hn (ab _ _ ha)⟩
  refine ⟨fun i k H' => k = n - i ∧ i ≤ n ∧ St (rows m f b i) H', ⟨n, by simp, Nat.zero_le _, Ex.new hD, [], upd_same, rfl, fun k d v h => by simp [rows] at h⟩, ?_⟩
  rintro i k A ⟨rfl, hin, p⟩
  have gA : G A := sG A ((e.trans e2).trans p.1) fun a o _ ha => p.1 _ _ ha
  by_cases hi : i < n
  · refine .inr ⟨w.goes i A hi gA, St (rows m f b (i + 1)), fun H' p' => ⟨n - (i + 1), by omega, rfl, hi, p'⟩, fun x B yl => ?_⟩
    have y := w.yields i A x B hi gA yl
    obtain ⟨ab, k⟩ := aim i (wipe σ vs) A x B hi y
    refine k _ ⟨hs i, ?_⟩
    have pB := grow p ab
    refine hw1 i hi B (((e.trans e2).trans p.1).trans ab) _ fun J1 G1 C bC w1 sG1 => ?_
    refine ⟨fun j k H' => k = m i - j ∧ j ≤ m i ∧ St (rows m f b i ++ part (f i) (b i) j) H' ∧ Since B C H', ⟨m i, by simp, Nat.zero_le _, ?_, fun _ _ _ h => h⟩, ?_⟩
    · simpa [part] using grow pB bC
    · rintro j k H' ⟨rfl, hj, pj, sj⟩
      have gj : G1 H' := sG1 H' ((e.trans e2).trans pj.1) sj
      by_cases hlt : j < m i
      · refine .inr ⟨w1.goes j H' hlt gj, fun H4 => St (rows m f b i ++ part (f i) (b i) (j + 1)) H4 ∧ Since B C H4, fun H4 p4 => ⟨m i - (j + 1), by omega, rfl, hlt, p4⟩, fun x1 B1 y1 => ?_⟩
        obtain ⟨ab1, k1⟩ := aim1 i j (wipe (s i (wipe σ vs)) vs1) H' x1 B1 hlt (w1.yields j H' x1 B1 hlt gj y1)
        refine k1 _ ⟨hs1 i j, ?_⟩
        have pB1 := grow pj ab1
        refine ht i j hi hlt B1 ((e.trans e2).trans pB1.1) _ fun H6 e6 => ?_
        have p6 := grow pB1 e6
        have s6 : Since B C H6 := fun a o ha hc => e6 _ _ (ab1 _ _ (sj a o ha hc))
        rw [part_succ]
        cases hf : f i j with
        | false =>
          show St _ H6 ∧ Since B C H6
          rw [if_neg (by decide), List.append_nil]
          exact ⟨p6, s6⟩
        | true =>
          refine he i j hi hlt hf H6 ((e.trans e2).trans p6.1) _ fun v C6 eC hv => ?_
          obtain ⟨q1, acc, q3, q4, q5⟩ := p6
          have small : acc.length < 90000 := by
            rw [q4, List.length_append]
            have a1 : (rows m f b (i + 1)).length ≤ 90000 := Nat.le_trans (rows_le hi) hz
            rw [rows_succ, List.length_append] at a1
            have a2 : (part (f i) (b i) (j + 1)).length ≤ (els m f b i).length := part_le (f := f i) (b := b i) (show j + 1 ≤ m i from hlt)
            rw [part_succ, hf, List.length_append] at a2
            simp at a2
            omega
          refine ⟨acc, eC _ _ q3, sz_lt (by omega), ⟨(q1.trans eC).mut hD, acc ++ [v], upd_same, ?_, ?_⟩, ?_⟩
          · rw [if_pos rfl, ← List.append_assoc, List.length_append, List.length_append, q4, List.length_append]
            rfl
          · intro k d u hd hu H3 h3 keep
            have at4 : ∀ a o, a ≠ D → H1 a = none → C6 a = some o → H3 a = some o := fun a o hne hn hc => keep a o hne hn (by rw [upd_ne hne]; exact hc)
            rw [if_pos rfl, ← List.append_assoc] at hd
            rcases snoc_at hu with ⟨hlt2, hu2⟩ | ⟨rfl, rfl⟩
            · rw [q4] at hlt2
              rw [List.getElem?_append_left hlt2] at hd
              exact q5 k d u hd hu2 H3 h3 fun a o hne hn ha => at4 a o hne hn (eC _ _ ha)
            · rw [q4, List.getElem?_append_right (Nat.le_refl _), Nat.sub_self] at hd
              cases hd
              refine hv H3 h3 fun a o hb hc => at4 a o (fun z => ?_) (fresh_back (e2.trans q1) hb) hc
              rw [z, q3] at hb
              cases hb
          · intro a o ha hc
            rw [upd_ne (fun z => ?_)]
            · exact eC _ _ (s6 a o ha hc)
            · obtain ⟨acc0, r3, _⟩ := pB.2
              rw [z, r3] at ha
              cases ha
      · have ej : j = m i := by omega
        subst ej
        refine .inl ⟨w1.stops H' gj, ?_⟩
        show St (rows m f b (i + 1)) H'
        rw [rows_succ]
        exact pj
  · have ei : i = n := by omega
    subst ei
    refine .inl ⟨w.stops A gA, ?_⟩
    obtain ⟨p1, acc, p3, p4, p5⟩ := p
    exact q D acc A (fresh_back e2 hD) (e2.trans p1) p3 fun H3 h3 keep => ⟨p4, fun k d v h1 h2 => p5 k d v h1 h2 H3 h3 keep⟩
/-- the dict of the first keys, each with True -/
def dOf (kf : Nat → Int) : Nat → List (L2.Key × V)
  | 0 => []
  | i + 1 => putK (dOf kf i) (.inl (kf i)) (.bl true)
theorem dOf_len (kf : Nat → Int) : ∀ n, (dOf kf n).length ≤ n
  | 0 => Nat.le_refl _
  | n + 1 => Nat.le_trans (length_putK _ _ _) (Nat.succ_le_succ (dOf_len kf n))
theorem dOf_at (kf : Nat → Int) (x : Int) : ∀ n, (valV (dOf kf n) (.inl x)).isSome = true ↔ ∃ i, i < n ∧ kf i = x
  | 0 => ⟨fun h => (by cases h), fun ⟨i, h, _⟩ => absurd h (Nat.not_lt_zero i)⟩
  | n + 1 => by
    show (valV (putK (dOf kf n) (.inl (kf n)) (.bl true)) (.inl x)).isSome = true ↔ _
    rw [valV_put]
    by_cases e : (Sum.inl x : L2.Key) = .inl (kf n)
    · rw [if_pos e]
      exact ⟨fun _ => ⟨n, Nat.lt_succ_self n, (Sum.inl.inj e).symm⟩, fun _ => rfl⟩
    · rw [if_neg e, dOf_at kf x n]
      constructor
      · rintro ⟨i, h1, h2⟩
        exact ⟨i, Nat.lt_succ_of_lt h1, h2⟩
      · rintro ⟨i, h1, h2⟩
        refine ⟨i, Nat.lt_of_le_of_ne (Nat.le_of_lt_succ h1) fun z => ?_, h2⟩
        rw [z] at h2
        exact e (by rw [h2])
theorem en_dc {wi : TI} {g : TG} {tk tv : TE} {vs : List Nat} {n : Nat} {Y : Nat → Hp → V → Hp → Prop} {s : Nat → L2.St → L2.St} {kf : Nat → Int} (hw : EvI wi σ H n Y) (aim : Aims g n Y s) (hs : ∀ i, wipe (s i (wipe σ vs)) vs = wipe σ vs) (hn : n ≤ 90000)
    (hk : ∀ i, i < n → Ev tk (s i (wipe σ vs)) H (.int (kf i))) (hv : ∀ i, i < n → Ev tv (s i (wipe σ vs)) H (.bl true)) : EvN (tDc wi g tYes tk tv vs) σ H (fun u H' => ∃ d, u = .ref d ∧ H' d = some (.dK (dOf kf n))) := fun H1 e Q q =>
  hw H1 e _ fun J G H2 e2 w sG D hD => by
    refine ⟨fun i m H' => m = n - i ∧ i ≤ n ∧ Ex H2 H' ∧ H' D = some (.dK (dOf kf i)), ⟨n, by simp, Nat.zero_le _, Ex.new hD, upd_same⟩, ?_⟩
    rintro i m A ⟨rfl, hin, p1, p2⟩
    have gA : G A := sG A ((e.trans e2).trans p1) fun a o _ ha => p1 _ _ ha
    by_cases hi : i < n
    · refine .inr ⟨w.goes i A hi gA, fun H' => Ex H2 H' ∧ H' D = some (.dK (dOf kf (i + 1))), fun H' p' => ⟨n - (i + 1), by omega, rfl, hi, p'⟩, fun x B yl => ?_⟩
      obtain ⟨ab, k⟩ := aim i (wipe σ vs) A x B hi (w.yields i A x B hi gA yl)
      refine k _ ⟨hs i, ?_⟩
      refine hk i hi B (((e.trans e2).trans p1).trans ab) _ fun C eC => ?_
      refine hv i hi C ((((e.trans e2).trans p1).trans ab).trans eC) _ fun C2 eC2 => ?_
      have := dOf_len kf i
      exact ⟨dOf kf i, .inl (kf i), rfl, eC2 _ _ (eC _ _ (ab _ _ p2)), sz_lt (by omega), (((p1.trans ab).trans eC).trans eC2).mut hD, upd_same⟩
    · have ei : i = n := by omega
      subst ei
      refine .inl ⟨w.stops A gA, q _ A (e2.trans p1) fun H3 h3 keep => ⟨D, rfl, keep _ _ (fresh_back e2 hD) p2⟩⟩
theorem ev_din {ty td : TE} {d : Addr} {kvs : List (L2.Key × V)} {x : Int} (h1 : Ev ty σ H (.int x)) (h2 : Ev td σ H (.ref d)) (hd : H d = some (.dK kvs)) : Ev (tDIn ty td) σ H (.bl (valV kvs (.inl x)).isSome) := fun H1 e Q q =>
  h1 H1 e _ fun H2 e2 => h2 H2 (e.trans e2) _ fun H3 e3 => ⟨d, _, rfl, DGet.k (k := Sum.inl x) (((e.trans e2).trans e3) _ _ hd), q H3 (e2.trans e3)⟩
end
end Tl
end S_Yw
section S_Wa
namespace Hk
open PySem PySem.Spec PyProof.Rows L2
/-! ### a caught error that is kept behind its try -/
/-- at a stands an error of the class cls, whose own dict is d -/
def ErrAt (cls : Value) (d : Option Addr) (a : Addr) : HO := .ext fun h => ∃ (oe : Obj) (vs : Array Value), h.get? a = some oe ∧ Zc cls d oe ∧ oe.data = .fields vs
section
variable {X : Cx} {pins : List (Addr × Obj)} {σ : L2.St} {H : Hp} {s : Shared}
/-- what stands at a, new since the entry, is told of from now on -/
theorem told_at {a : Addr} {oe : Obj} {vs : Array Value} {cls : Value} {d : Option Addr} (I : Inv X pins σ H s) (at_ : s.heap.get? a = some oe) (z : Zc cls d oe) (hd : oe.data = .fields vs) (na : H a = none) (n0 : X.s_0.heap.get? a = none) (nL : a ≠ X.env.locals)
    (np : ∀ p ∈ X.pn ++ pins, p.1 ≠ a) : Inv X pins σ (upd H a (ErrAt cls d a)) s where
  ok := I.ok
  os := I.os
  bare := I.bare
  base :=
    { keep := I.base.keep, slot := I.base.slot, there := I.base.there
      free := fun b o e n x => by
        have hb : b ≠ a := fun q => by rw [q, n0] at e; cases e
        rw [upd_ne hb]; exact I.base.free b o e n x
      tups := fun b xs e => by
        have q := I.base.tups b xs e
        rw [upd_ne (ne_of_none q na)]; exact q
      frzs := fun b o xs e => by
        have q := I.base.frzs b o xs e
        rw [upd_ne (ne_of_none q na)]; exact q
      tbls := fun b ps e => by
        obtain ⟨m, q⟩ := I.base.tbls b ps e
        exact ⟨m, by rw [upd_ne (ne_of_none q na)]; exact q⟩ }
  loc := I.loc
  cell := I.cell
  free := by rw [upd_ne (Ne.symm nL)]; exact I.free
  freeC := fun x c e => by
    have hb : c ≠ a := fun q => by
      obtain ⟨v, o, ho, hc⟩ := I.cell x c e
      rw [q, at_] at ho
      cases ho
      rw [hd] at hc
      cases hc
    rw [upd_ne hb]; exact I.freeC x c e
  pin := fun p hp => by
    obtain ⟨h1, h2, h3⟩ := I.pin p hp
    exact ⟨h1, by rw [upd_ne (np p hp)]; exact h2, h3⟩
  hok := fun b u e => by
    by_cases hb : b = a
    · subst hb
      rw [upd_same] at e
      cases e
      exact ⟨⟨oe, vs, at_, z, hd⟩, ⟨oe, at_⟩, fun _ _ ⟨o, v, q, r⟩ k => ⟨o, v, k o q, r⟩⟩
    · rw [upd_ne hb] at e
      exact (I.hok b u e).stay (fun _ _ _ q => q) (fun c q => by rw [upd_ne (ne_of_none q na)]; exact q) fun c xs q => by rw [upd_ne (ne_of_none q na)]; exact q
  len := I.len
/-- the wish of the body of such a try: the clause takes every error of the body; the slot i is the clause's name's -/
def wKeep (K : PySem.W.Frag) (c : Value) (i : Nat) (ts : Addr → Value → Option Addr → TS) (D : Ends) : WX := fun cls d σ H =>
  PySem.W.exmOne K cls c = some true ∧ ∀ a, H a = none → ts a cls d { nx := fun σ' H' => H' a = none → D.nx (σ'.set i none) (upd H' a (ErrAt cls d a)), rt := fun _ _ => False, bk := fun _ _ => False, ct := fun _ _ => False } (σ.set i (some (.ref a))) H
theorem ps_keep {x n : Str} {c : Value} {i : Nat} {body suite : List Stmt} {b₀ : Stmt} {np pos pos' : Pos} {tb : WX → TS} {ts : Addr → Value → Option Addr → TS}
    (hst : X.stack = X.env :: X.outer) (hf : X.env.frame = some X.env.locals) (hex : X.ex = []) (nd : X.N.Nodup) (hi : X.N[i]? = some n) (kn : X.env.kindOf n = some .local) (hc : Names X x c)
    (hb : ∀ (W : WX) (pn : List (Addr × Obj)) (xe : Value → Shared → Prop), Takes (X.tr pn xe) W → PassesOwn (model X.prog X.w) X.A X.env xe → PSs (X.tr pn xe) body (tb W))
    (hsu : ∀ (a : Addr) (oe : Obj) (cls : Value) (d : Option Addr) (pn : List (Addr × Obj)), Zc cls d oe → (∃ vs, oe.data = .fields vs) → PSs (X.suite a ((a, oe) :: pn)) (b₀ :: suite) (ts a cls d)) :
    PS X (.Try body [.ExceptHandler (some (.Name x np)) (some n) (b₀ :: suite) pos'] [] [] pos) (fun D σ H => tb (wKeep X.K c i ts D) D σ H) := by
  constructor
  intro pins s σ H D I h
  have frs_ : X.A.frames = some (X.env :: X.outer) := by rw [I.ok.frames, hst]
  have ok := I.ok
  refine wpAny_Try_except (wpAny_mono ((hb (wKeep X.K c i ts D) (X.pn ++ pins) (fun e s₁ => wpAny (model X.prog X.w) X.A (noteFrame e X.env) (fun _ s₂ => wpAny (model X.prog X.w) X.A (setFlight e none) (fun _ s₃ =>
    wpAny (model X.prog X.w) X.A (handleBy e X.env [.ExceptHandler (some (.Name x np)) (some n) (b₀ :: suite) pos']) (SP X pins D) X.xe s₃) X.xe s₂) X.xe s₁) (fun u s' air => ?_) PassesOwn.looking).run [] s σ H D (I.toTry _) h) (fun f s1 hsp => ?_) fun _ _ z => z)
  · obtain ⟨a, B, sI, pins', σ', H', cls, d, rfl, J0, nb, up, sky, na, os, ag, hexm, hts⟩ := air
    have J : Inv X pins σ' H' sI := J0.ofTry ok
    have Ba : B.get? a = none := by
      rcases sky with q | q | q
      · exact q.2.1
      · exact q.2.1
      · exact q.2.1
    rw [hst] at sky
    show wpAny (model X.prog X.w) X.A (noteFrame (.ref a) X.env) _ _ _
    refine Sky.land Zc.steady frs_ hf sky fun h3 fl3 up3 => ?_
    have J3 : Inv X pins σ' H' { s' with heap := h3 } := J.landed nb fl3.1 (up.trans up3) os ag
    obtain ⟨o3, v3, at3, z3, d3⟩ := fl3.there
    have off : ∀ {hh : Heap} {o : Obj} {vs : Array Value}, hh.FunFrames B (X.env :: X.outer) → hh.get? a = some o → o.data = .fields vs → a ∉ frs (X.env :: X.outer) := by
      intro hh o vs ff e dd hm
      obtain ⟨_, o', e', q⟩ := ff.mem hm
      rw [e] at e'
      cases e'
      exact q _ dd
    have offa := off fl3.2.2.1 at3 d3
    have nL : a ≠ X.env.locals := fun q => offa (List.mem_filterMap.mpr ⟨X.env, List.mem_cons_self, by rw [hf, q]⟩)
    have nF : a ∉ X.fs := fun hm => by
      obtain ⟨e, he, q⟩ := List.mem_filterMap.mp hm
      exact offa (List.mem_filterMap.mpr ⟨e, List.mem_cons_of_mem _ he, q⟩)
    -- a is new: nothing of the state without it stands there
    have nI : sI.heap.get? a = none := by
      cases q : sI.heap.get? a with
      | none => rfl
      | some o =>
        have z := nb a o q (by rw [hst]; exact offa)
        rw [Ba] at z
        cases z
    have n0 : a ∉ X.ex → X.s_0.heap.get? a = none := fun nx => by
      cases q : X.s_0.heap.get? a with
      | none => rfl
      | some o =>
        obtain ⟨o', z⟩ := J.base.there a o q nx
        rw [nI] at z
        cases z
    have npin : ∀ p ∈ X.pn ++ pins, p.1 ≠ a := fun p hp q => by
      have z := (J.pin p hp).1
      rw [q, nI] at z
      cases z
    have S3 := J3.suite at3 d3 na nL nF
    refine wpAny_handleBy_cons (codeAny_handlers_test ?_) (fun q => nomatch q)
    have LT : PySem.W.Looks (model X.prog X.w) h3 (typeOf (.ref a)) cls := fun A Q E s k q => wpAny_typeOf_ref (k _ _ at3) (by rw [z3.1]; exact q)
    have LM := PySem.W.exm_one (M := model X.prog X.w) (J3.kIn) LT hexm
    have look : ∀ {Q : Value → Shared → Prop} {E : Value → Shared → Prop}, Q c { s' with heap := h3 } → wpAny (model X.prog X.w) (X.A.mark (some (.ref a))) (eval (.Name x np) X.env) Q E { s' with heap := h3 } := by
      intro Q E q
      rcases hc with ⟨hg, hdb, hm | ⟨hm, hv, hnn⟩⟩
      · exact ld_glob (X := X.suite a ((a, o3) :: (X.pn ++ pins))) S3 hg hm q hdb
      · exact ld_blt (X := X.suite a ((a, o3) :: (X.pn ++ pins))) S3 hg hm hv q hnn hdb
    refine look (LM.here (codeAny_handlers_suite_as (HandSPX.lands_againZ fl3 fun h4 fl4 up4 => ?_)))
    have J4 : Inv X pins σ' H' { s' with heap := h4 } := J.landed nb fl4.1 ((up.trans up3).trans up4) os ag
    obtain ⟨o4, v4, at4, z4, d4⟩ := fl4.there
    refine store_ok (X := X.suite a ((a, o4) :: (X.pn ++ pins))) (v := .ref a) (J4.suite at4 d4 na nL nF) nd hi (.inl kn) rfl (fun s5 S5 => ?_) (.inr kn)
    refine wpAny_mono ((hsu a o4 cls d (X.pn ++ pins) z4 ⟨_, d4⟩).run [] s5 _ H' _ S5 (hts a na)) (fun f s6 hsp => ?_) (fun _ _ z => False.elim z)
    cases f with
    | next =>
      obtain ⟨σ6, H6, S6, q6⟩ := hsp
      obtain ⟨at6, na6, _⟩ := S6.pin (a, o4) (List.mem_append_left _ List.mem_cons_self)
      have T6 := told_at (S6.unsuite ok) at6 z4 d4 na6 (n0 (by rw [hex]; exact fun z => nomatch z)) nL npin
      exact gone_ok T6 nd hi kn fun s7 J7 => ⟨_, _, J7, q6 na6⟩
    | brk => exact hsp.elim fun _ q => q.elim fun _ q => q.2.elim
    | cont => exact hsp.elim fun _ q => q.elim fun _ q => q.2.elim
    | ret u =>
      obtain ⟨_, _, _, _, _, q⟩ := hsp
      exact q.elim
  · cases f with
    | next =>
      obtain ⟨σ', H', J', q⟩ := hsp
      exact wpAny_execs_nil ⟨σ', H', J'.ofTry ok, q⟩
    | ret u =>
      obtain ⟨v, σ', H', J', r, q⟩ := hsp
      exact ⟨v, σ', H', J'.ofTry ok, r, q⟩
    | brk =>
      obtain ⟨σ', H', J', q⟩ := hsp
      exact ⟨σ', H', J'.ofTry ok, q⟩
    | cont =>
      obtain ⟨σ', H', J', q⟩ := hsp
      exact ⟨σ', H', J'.ofTry ok, q⟩
end
end Hk
end S_Wa
section S_Wb
namespace Hk
open PySem PySem.Spec PyProof.Rows L2
/-- what the written part must say of an own error's class at D, whose errors are asked about -/
structure ErrC (K : PySem.W.Frag) (D : Addr) : Prop where
  ga : PySem.W.findIn K (.ref D) "__getattribute__" = some (some (.builtin "BaseException.__getattribute__"))
  gg : PySem.W.findIn K (.ref D) "__getattr__" = some none
  ex : PySem.W.subIn K (.ref D) (.type "BaseException") = some true
  hd : PySem.W.hasDictIn K D = true
  ci : PySem.W.isClsIn K D = true
  ha : PySem.W.findIn K (.ref D) "__class__" = some (some (.builtin "object.__class__"))
  hn : PySem.W.specialIn K (.builtin "object.__class__") "__get__" = some (some (.builtin "getset_descriptor.__get__"))
  ht : PySem.W.takesIn K (.builtin "object.__class__") = some true
  hm : PySem.W.mroIn K D (.type "object") = some true
/-- the error's own dict, if it has one, is told of -/
def DictAt (H : Hp) (d : Option Addr) (fs : List (Str × V)) : Prop := ∃ dd, d = some dd ∧ H dd = some (.xd fs)
/-- isinstance(e, c) of a kept error -/
def rIsK (K : PySem.W.Frag) : List V → Hp → VK → Prop := fun xs H Q => ∃ (a D : Addr) (d : Option Addr) (fs : List (Str × V)) (c : V) (u : Value) (b : Bool), xs = [.ref a, c] ∧ H a = some (ErrAt (.ref D) d a) ∧ DictAt H d fs ∧ ErrC K D ∧ ClsV c u ∧ PySem.W.kitOne K (.ref D) u = some b ∧ Q (.bl b) H
section
variable {X : Cx} {pins : List (Addr × Obj)} {σ : L2.St} {H : Hp} {s : Shared}
theorem at_inst {a D : Addr} {d : Option Addr} {fs : List (Str × V)} (I : Inv X pins σ H s) (ha : H a = some (ErrAt (.ref D) d a)) (hd : DictAt H d fs) :
    ∃ (oe od : Obj) (mA : Str → Option Value), PySem.W.InstAt s.heap a oe D (some od) ∧ (∀ name, PySem.W.lookIn name od = some (mA name)) ∧ ∀ f, RelO (fs.lookup f) (mA f) := by
  obtain ⟨⟨oe, vs, he, hz, hv⟩, _, _⟩ := (show ObjOk X.prog X.w H s.heap a (ErrAt (.ref D) d a) from I.hok a _ ha)
  obtain ⟨dd, rfl, hdd⟩ := hd
  obtain ⟨mA, hns, hr⟩ := (show ObjOk X.prog X.w H s.heap dd (.xd fs) from I.hok dd _ hdd)
  obtain ⟨od, ho, hl⟩ := lookIn_ns hns
  exact ⟨oe, od, mA, ⟨he, hz.1, by unfold PySem.W.notCls; rw [hv] <;> rfl, by rw [hz.2]; exact ho⟩, hl, hr⟩
theorem call_isKept : CallR X (.builtin "isinstance") (rIsK X.K) := by
  intro pins s σ H xs us Q I r h
  obtain ⟨a, D, d, fs, c, u, b, rfl, ha, hd, C, hc, e, q⟩ := h
  cases r with
  | cons rx rr =>
    cases rr with
    | cons rt rr =>
      cases rr
      cases rx
      have ec := hc.eq rt
      subst ec
      obtain ⟨oe, od, mA, J, _, _⟩ := at_inst I ha hd
      exact PySem.W.kia_one (PySem.W.kitx_exc C.ci C.ga C.gg C.ex C.ha C.hn C.ht C.hm) I.kIn J e (fun z => nomatch z) fun tk => ⟨.bl b, H, I.kept (t' := tk) fun _ _ z => z, rfl, q⟩
/-- of either -/
theorem call_isAny : CallR X (.builtin "isinstance") (fun xs H Q => rIsi X.K xs H Q ∨ rIsK X.K xs H Q) := by
  intro pins s σ H xs us Q I r h
  rcases h with h | h
  · exact call_isi _ _ _ _ _ _ _ I r h
  · exact call_isKept _ _ _ _ _ _ _ I r h
/-- e.f, e a kept error -/
def tKeptF (K : PySem.W.Frag) (f : Str) (te : TE) : TE := fun σ H Q => te σ H fun x H1 => ∃ (a D : Addr) (d : Option Addr) (fs : List (Str × V)) (v : V), x = .ref a ∧ H1 a = some (ErrAt (.ref D) d a) ∧ DictAt H1 d fs ∧ ErrC K D ∧ PySem.W.findIn K (.ref D) f = some none ∧ fs.lookup f = some v ∧ Q v H1
theorem pe_keptF {e : Expr} {te : TE} {pos : Pos} {f : Str} (he : PE X e te) (hb : attributeBase e f X.env (eval e X.env) = eval e X.env := by rfl) : PE X (.Attribute e f pos) (tKeptF X.K f te) := by
  refine ⟨fun pins s σ H Q I h => attr_of hb (thn (he.run pins s σ H _ I h) fun u s1 hh => ?_)⟩
  obtain ⟨x, H1, I1, rx, a, D, d, fs, v, rfl, ha, hd, C, hno, hl, q⟩ := hh
  obtain rfl : u = Value.ref a := rx
  obtain ⟨oe, od, mA, J, look, rel⟩ := at_inst I1 ha hd
  obtain ⟨w, hw, rw_⟩ := RelO.some_of (v := v) (o := mA f) (by rw [← hl]; exact rel f)
  exact HandSPX.exc_get I1.kIn J C.ga C.gg C.ex (PySem.W.findObj_own C.hd hno rfl (by rw [look, hw])) (handed_of rw_) ⟨v, H1, I1.tok _, rw_, q⟩
end
end Hk
end S_Wb
section S_Wc
set_option maxHeartbeats 2000000
namespace PySem
namespace PartX
open PySem.W PySem.Calls PyProof.Rows PySem.HandSPX
/-! ### the text of __init__ -/
def iA (p1 p2 : Pos) : Arguments := { posonlyargs := [], args := [{ arg := "self", annotation := none, pos := p1 }, { arg := "part", annotation := none, pos := p2 }], vararg := none, kwonlyargs := [], kw_defaults := [], kwarg := none, defaults := [] }
def iB (q1 q2 q3 q4 : Pos) : List Stmt := [.Assign [.Attribute (.Name "self" q1) "part" q2] (.Name "part" q3) q4]
def iS : Scope := { kind := .function, names := [(PySem.Str.ofString "self", .local), (PySem.Str.ofString "part", .local)], isGenerator := false, isCoroutine := false, more := [] }
/-- what the written part says of Low, at C, and of its __init__, at fI -/
structure PartTxt (K : Frag) (mg : Str → Option Value) (nmE qI : Str) (C fI : Addr) : Prop where
  gC : mg nmE = some (.ref C)
  cls : ∃ nm q N bs bm sn sub ab col dd k0 k1 k2 k3 k5, K.lookup C = some (excClassObj nm q C N bs bm true sn sub ab col dd k0 k1 k2 k3 k5 "ValueError.__new__") ∧ refsVE bm = true
  sa : findIn K (.ref C) "__setattr__" = some (some (.builtin "object.__setattr__"))
  ga : findIn K (.ref C) "__getattribute__" = some (some (.builtin "BaseException.__getattribute__"))
  gg : findIn K (.ref C) "__getattr__" = some none
  noN : findIn K (.ref C) "part" = some none
  iC : findIn K (.ref C) "__init__" = some (some (.ref fI))
  tC : typeIn K (.ref fI) = some (.type "function")
  kC : keepIn K (.ref C) = true
  exC : subIn K (.ref C) (.type "BaseException") = some true
  tyC : typeIn K (.ref C) = some (.type "type")
  hdC : hasDictIn K C = true
  fn : ∃ (oc : Value) (od : Option Addr) (doc pm : Value) (an : Option Addr) (cdv ct : Value) (osl : Array (Option Value)) (p1 p2 q1 q2 q3 q4 : Pos),
    K.lookup fI = some ⟨oc, od, .func (fnOf "__init__" qI (iA p1 p2) (iB q1 q2 q3 q4) iS .none .none doc pm an cdv ct), osl⟩ ∧ codeIn K cdv qI = true
theorem one_size (v : Value) : [v].length ≤ sizeLine := by
  rw [sizeLine_eq]
  exact (by decide : 1 ≤ 16777216)
theorem kept_but {K : Frag} {h h' : Heap} {x : Addr} (X : K.In h) (hx : K.lookup x = none) (k : ∀ b o, b ≠ x → h.get? b = some o → h'.get? b = some o) : K.In h' := fun a o e =>
  k a o (fun z => by rw [z, hx] at e; cases e) (X a o e)
theorem ldC {M : Model} {s : Shared} {name : Str} {scope : Scope} {L a : Addr} {cd : Value} {m : Str → Option Value} {x : Str} {pos : Pos} {v : Value} {Q : Value → Shared → Prop} {A : Around} {E : Value → Shared → Prop} (hn : s.heap.Ns L m) (hv : m x = some v) (h : Q v s)
    (hk : scope.kind = .function := by rfl) (hl : (envOfC name scope L a cd).kindOf x = some .local := by rfl) (hd : (x == ("__debug__" : Str)) = false := by decide) :
    wpAny M A (eval (.Name x pos) (envOfC name scope L a cd)) Q E s := wpAny_Name (wpAny_loadName_local hk hl hn hv h) hd
/-- what __init__ leaves of a fresh exception at x -/
structure InitEnd (h h' : Heap) (x C dx t1 : Addr) (v : Value) : Prop where
  keep : ∀ b o, b ≠ x → h.get? b = some o → h'.get? b = some o
  obj : h'.get? x = some { cls := .ref C, dict := some dx, data := .fields #[.ref t1, .none, .none, .none, .bool false, .none] }
  dbig : h.objs.size ≤ dx
  dne : dx ≠ x
  ns : h'.Ns1 dx (fun y => if y = "part" then some v else none)
/-- a made Low -/
structure OwnMade (h h' : Heap) (e C d : Addr) (v : Value) : Prop where
  keep : ∀ b o, h.get? b = some o → h'.get? b = some o
  new : h.objs.size ≤ e
  obj : ∃ oe vs, h'.get? e = some oe ∧ oe.cls = .ref C ∧ oe.dict = some d ∧ oe.data = .fields vs ∧ vs[1]? = some .none
  dbig : h.objs.size ≤ d
  dne : d ≠ e
  ns : h'.Ns1 d (fun y => if y = "part" then some v else none)
section
variable {prog : Program} {w : World} {A : Around} {E : Value → Shared → Prop} {R : Result → Shared → Prop} {s : Shared} {K : Frag} {mg : Str → Option Value} {nmE qI : Str} {C fI : Addr}
theorem part_init (T : PartTxt K mg nmE qI C fI) {x t0 : Addr} {v : Value} (X : K.In s.heap) (hlim : s.heap.NoLimit) (hx : s.heap.get? x = some (excO C t0)) (hnx : K.lookup x = none) (hroom : A.depth < recursionLimit)
    (hq : ∀ h' tk dx, InitEnd s.heap h' x C dx t0 v → R (.ok (.ret .none)) { s with heap := h', toks := tk }) :
    codeAny (model prog w) A (.call (.ref fI) ⟨[.ref x, v], []⟩) R s := by
  obtain ⟨oc, od, doc, pm, an, cdv, ct, osl, p1, p2, q1, q2, q3, q4, ho, hcd⟩ := T.fn
  obtain ⟨nm, q, N, bs, bm, sn, sub, ab, col, dd, k0, k1, k2, k3, k5, hC, hbm⟩ := T.cls
  have hcl : clsIn K C = some { name := nm, bases := bs, mro := .ref C :: bm, ns := N, qualname := q, hasDict := true, slotNames := sn, subclasses := sub, abstract := ab, collection := col, hasDel := false } := by unfold clsIn; rw [hC] <;> rfl
  refine Att.call_fn (binds := [("self", .ref x), ("part", v)]) X hlim ho hcd hroom (BindsTo.of_eq (by first | rfl | with_unfolding_all rfl)) (by first | rfl | decide | with_unfolding_all rfl) (fun s₁ IC => ?_) rfl rfl rfl
  obtain ⟨h₁, tk₁, rfl⟩ := IC.toInCall.same
  have k : ∀ b o, s.heap.get? b = some o → h₁.get? b = some o := IC.toInCall.keep
  have hn := IC.toInCall.ns
  have hxL : s.heap.objs.size ≠ x := Nat.ne_of_gt (Heap.lt_size hx)
  have X₁ : K.In h₁ := X.keeps k
  have hx₁ := k _ _ hx
  -- self.by = by
  show wpAny _ _ (execs _ _) _ _ _
  refine wpAny_execs_cons (plainObj_wpAny_Assign_Attribute ?_)
  refine ldC (v := v) hn (by first | rfl | with_unfolding_all rfl | kernel_rfl) (ldC (v := .ref x) hn (by first | rfl | with_unfolding_all rfl | kernel_rfl) ?_)
  refine set_plain X₁ (ox := excO C t0) (od := none) ⟨hx₁, rfl, rfl, trivial⟩ T.sa ?_
  refine exc_osa X₁ hx₁ hcl (show refsVE (.ref C :: bm) = true from hbm) rfl T.noN (fun h₃ tk₃ dx k₃ dn dne hx₃ hn₃ => ?_)
  show wpAny _ _ (execs _ _) _ _ _
  have z : s.heap.objs.size < h₁.objs.size := hn.lt
  exact wpAny_execs_nil (hq h₃ tk₃ dx ⟨fun b o hb e => k₃ b o hb (k b o e), hx₃, Nat.le_of_lt (Nat.lt_of_lt_of_le z dn), dne, hn₃⟩)
theorem part_made (T : PartTxt K mg nmE qI C fI) {v : Value} (X : K.In s.heap) (hlim : s.heap.NoLimit) (hroom : A.depth + 1 < recursionLimit)
    (hq : ∀ h' tk e d, OwnMade s.heap h' e C d v → R (.ok (.ret (.ref e))) { s with heap := h', toks := tk }) :
    codeAny (model prog w) A (.call (.ref C) ⟨[v], []⟩) R s := by
  obtain ⟨nm, q, N, bs, bm, sn, sub, ab, col, dd, k0, k1, k2, k3, k5, hC, hbm⟩ := T.cls
  obtain ⟨hp, g, dr, tk, os⟩ := s
  have k : ∀ b o, hp.get? b = some o → ((hp.push (kdv_tup [v])).push (excO C hp.objs.size)).get? b = some o := fun b o e => Heap.get?_push_of_some _ (Heap.get?_push_of_some _ e)
  have hget : ((hp.push (kdv_tup [v])).push (excO C hp.objs.size)).get? (hp.objs.size + 1) = some (excO C hp.objs.size) := by heap_get
  have hnx : K.lookup (hp.objs.size + 1) = none := by
    cases e : K.lookup (hp.objs.size + 1) with
    | none => rfl
    | some o =>
      have z : hp.get? (hp.objs.size + 1) = some o := X _ _ e
      exact absurd (Nat.lt_of_succ_lt (Heap.lt_size z)) (Nat.lt_irrefl _)
  refine call_own F.excBase_ValueError (fun X => refsVE_contains X bm hbm) (X _ _ hC) (looks_findIn X T.iC) (fun self => bind_fn X self T.tC) (one_size v) ?_
  refine part_init (s := ⟨(hp.push (kdv_tup [v])).push (excO C hp.objs.size), g, dr, tk, os⟩) T (X.keeps k) (hlim.keeps k) hget hnx ?_ fun h' tk' dx ⟨k', hx, dn, dne, hns⟩ => ?_
  · show A.depth + 1 < recursionLimit
    exact hroom
  · have old : ∀ b o, hp.get? b = some o → h'.get? b = some o := fun b o e => k' b o (Nat.ne_of_lt (Nat.lt_succ_of_lt (Heap.lt_size e))) (k b o e)
    have z : hp.objs.size + 1 + 1 ≤ dx := by
      first
        | (simpa only [Heap.size_push] using dn)
        | exact dn
        | (have q := dn; rw [Heap.size_push, Heap.size_push] at q; exact q)
    exact ⟨rfl, hq h' tk' (hp.objs.size + 1) dx ⟨old, Nat.le_succ _, ⟨_, _, hx, rfl, rfl, rfl, rfl⟩, Nat.le_trans (Nat.le_trans (Nat.le_succ _) (Nat.le_succ _)) z, dne, hns⟩⟩
end
end PartX
end PySem
namespace L2
open PySem PySem.Spec PyProof.Rows
theorem relO_part {v : V} {v' : Value} (r : RelV v v') (f : Str) : RelO (List.lookup f [(("part" : Str), v)]) (if f = "part" then some v' else none) := by
  by_cases hw : f = "part"
  · subst hw
    rw [if_pos rfl]
    have q : List.lookup ("part" : Str) [(("part" : Str), v)] = some v := by simp [List.lookup]
    rw [q]
    exact r
  · rw [if_neg hw]
    have qw : (f == ("part" : Str)) = false := by simpa using hw
    have q2 : List.lookup f [(("part" : Str), v)] = none := by simp [List.lookup, qw]
    rw [q2]
    trivial
section
variable {X : Cx} {nmE qI : Str} {C fI : Addr}
/-- Low(e) -/
def tMkPart (C : Addr) (ta : TA) : St → Hp → XK → Prop := fun σ H Q => ta σ H fun vs H1 => ∃ v, vs = [v] ∧ ∀ d, H1 d = none → Q (.ref C) (some d) (upd H1 d (.xd [(("part" : Str), v)]))
theorem pmk_part {a : Expr} {ta : TA} {p pos : Pos} {k : Nat} (T : PySem.PartX.PartTxt X.K X.mg nmE qI C fI) (hr : Room k X.A) (ha : PA X [a] ta) (hg : Gl X nmE) (hdb : (nmE == ("__debug__" : Str)) = false := by decide)
    (he : starEach (a :: []) X.env = (false, eval a X.env) :: starEach [] X.env := by rfl) (hpl : (backTo pos (starEach [] X.env)).any (·.1) = false := by rfl) :
    PMk X (.Call (.Name nmE p) [a] [] pos) (tMkPart C ta) := by
  intro pins s σ H Q I h
  refine wpAny_Call_Name_kw (ld_glob I hg T.gC ?_ hdb)
  refine PySem.W.callWith_K (h₀ := X.base) I.ok.mod.kin T.kC (thn (ha.run pos pins s σ H _ I h) fun us s1 hh => ?_) he hpl
  obtain ⟨vs, H1, I1, r1, v, ev, q1⟩ := hh
  subst ev
  refine ⟨I1.kIn, ?_⟩
  cases r1 with
  | cons rv rn =>
    rename_i v' us'
    cases rn
    show wpAny _ _ (call (.ref C) [v']) _ _ _
    have hlim := I1.nolimit
    obtain ⟨hp, g, dr, tk, os⟩ := s1
    refine wpAny_call (PySem.PartX.part_made T I1.kIn hlim (by have := hr.dp; omega) fun h' tk' e d M => ?_)
    show MkP X pins σ Q (.ref e) ⟨h', g, dr, tk', os⟩
    obtain ⟨oe, fv, hoe, hc, hd, hdat, h1⟩ := M.obj
    have hns := M.ns
    obtain ⟨G', g1, g2⟩ := restrict h' fun b => decide (b ≠ e)
    have gk : ∀ b, b ≠ e → G'.get? b = h'.get? b := fun b hb => g1 b (decide_eq_true hb)
    have ge : G'.get? e = none := g2 e (by simp)
    have old : ∀ b o, hp.get? b = some o → G'.get? b = some o := fun b o q => (gk b (Nat.ne_of_lt (Nat.lt_of_lt_of_le (Heap.lt_size q) M.new))).trans (M.keep b o q)
    have ob : ObjOk X.prog X.w (upd H1 d (.xd [(("part" : Str), v)])) G' d (.xd [(("part" : Str), v)]) :=
      ⟨_, hns.at (fun o q => (gk d M.dne).trans q), fun f => relO_part rv f⟩
    have J : Inv X pins σ (upd H1 d (.xd [(("part" : Str), v)])) ⟨G', g, dr, tk', os⟩ := I1.laid (t' := tk') old M.dbig ob
    refine ⟨e, oe, fv, ⟨G', g, dr, tk', os⟩, _, .ref C, some d, rfl, J, fun b o q => ?_, ge, hoe, ⟨hc, hd⟩, hdat, h1, ?_, rfl, I1.bare, raises_own T.exC T.tyC, q1 d (I1.hok.fresh M.dbig)⟩
    · by_cases hb : b = e
      · have q' : G'.get? b = some o := q
        rw [hb, ge] at q'; cases q'
      · exact (gk b hb).symm.trans q
    · rw [upd_ne (Ne.symm M.dne)]
      exact I1.hok.fresh M.new
/-- raise Low(e) -/
def tRaisePart (C : Addr) (W : WX) (ta : TA) : TS := fun _ σ H => tMkPart C ta σ H fun cls d H' => W cls d σ H'
theorem ps_raisePart {a : Expr} {ta : TA} {W : WX} {p pos pos2 : Pos} {k : Nat} (hc : X.calm = true) (T : PySem.PartX.PartTxt X.K X.mg nmE qI C fI) (hr : Room k X.A) (tk : Takes X W) (ha : PA X [a] ta) (hg : Gl X nmE) (hdb : (nmE == ("__debug__" : Str)) = false := by decide)
    (he : starEach (a :: []) X.env = (false, eval a X.env) :: starEach [] X.env := by rfl) (hpl : (backTo pos (starEach [] X.env)).any (·.1) = false := by rfl) :
    PS X (.Raise (some (.Call (.Name nmE p) [a] [] pos)) none pos2) (tRaisePart C W ta) := ps_raise hc tk (pmk_part T hr ha hg hdb he hpl)

end
end L2
end S_Wc
section S_Wd
namespace Hk
open PySem PySem.Spec PyProof.Rows L2 LamX
theorem takes_len {X : Cx} {W : WX} (tk : L2.Takes X W) : L2.Takes X (fun cls d σ H => σ.length = X.N.length → W cls d σ H) := fun u s' ⟨a, B, sI, pins, σ, H, cls, d, e, I, nb, up, sky, na, os, ag, w⟩ =>
  tk u s' ⟨a, B, sI, pins, σ, H, cls, d, e, I, nb, up, sky, na, os, ag, w I.len⟩
abbrev nAsk : List Str := ["ask", "caught", "error"]
/-- caught = None / try: ask() / except E as error: caught = error / return ret -/
def THeard (K : PySem.W.Frag) (CS : Addr) (tr : TE) : (XK → Hp → VK → Prop) → Hp → VK → Prop := fun tl H Q => ∀ f : Addr,
  tl (fun cls d H' => PySem.W.exmOne K cls (.ref CS) = some true ∧ ∀ a, H' a = none → ∀ σ' : L2.St, σ'.length = 3 → σ'[1]? = some (some (.ref a)) → tr σ' (upd H' a (ErrAt cls d a)) Q) H
    fun _ H' => tr [some (.ref f), some .non, none] H' Q
abbrev cxA (X : Cx) (x : Str) (sg : Scope) (g : Addr) (cdg : Value) (A : Around) (s : Shared) (H : Hp) : Cx := (cxOf C8.CX0 X.prog X.w X.K X.mg X.base nAsk x sg g cdg A X.stack s H C8.E0).nox
theorem heard_gives {X : Cx} {x e q : Str} {sg : Scope} {g CS : Addr} {cdg : Value} {j : Nat} {rt : Expr} {tr : TE} {p1 p2 p3 p4 p5 p6 p7 p8 p9 r1 r2 r3 r4 : Pos} (Sg : FnScope nAsk ["ask"] sg) (k1 : sg.names.lookup ("caught" : Str) = some NameKind.local) (k2 : sg.names.lookup ("error" : Str) = some NameKind.local)
    (hge : sg.names.lookup e = some .globalImplicit) (hme : X.mg e = some (.ref CS)) (hde : (e == ("__debug__" : Str)) = false)
    (hrt : ∀ (A : Around) (s : Shared) (H : Hp), PE (cxA X x sg g cdg A s H) rt tr) :
    GivesTo X nAsk x sg g cdg [.Assign [.Name "caught" p1] (.Constant .none j p2) p3, .Try [.Expr (.Call (.Name "ask" r1) [] [] r2) r3] [.ExceptHandler (some (.Name e p4)) (some "error") [.Assign [.Name "caught" p5] (.Name "error" p6) p7] p8] [] [] p9, .Return (some rt) r4] "ask" q (THeard X.K CS tr) := by
  intro f c' s H Q tl act hc h
  have gE : Gl (cxA X x sg g cdg X.A s H) e := hge
  have l1 : ∀ {Y : Cx}, Y.env.scope = sg → (Y.fn "caught" = true ∨ Y.env.scope.names.lookup ("caught" : Str) = some NameKind.local) := fun e => .inr (by rw [e]; exact k1)
  refine ⟨_, pss_cons (ps_set (X := cxA X x sg g cdg X.A s H) (i := 1) Sg.nd rfl (Or.inl k1) pe_non rfl (l1 rfl)) (pss_cons (ps_keep (X := cxA X x sg g cdg X.A s H) (i := 2) (c := .ref CS) (ts := fun _ _ _ => tAsg (tVar 2) (gName 1))
      (tb := fun W D σ H => ∃ Ech : XK, (∀ cls d σ' H', Ech cls d H' → σ'.length = 3 → W cls d σ' H') ∧ σ[0]? = some (some (.ref f)) ∧ H c' = some (CodeO c' q) ∧ tl Ech H (fun _ H' => D.nx σ H'))
      rfl rfl rfl Sg.nd rfl k2 ⟨gE, hde, Or.inl hme⟩ (fun W pn xe tk _ => ?_) (fun a oe cls d pn _ _ => pss_one (ps_set (i := 1) Sg.nd rfl (Or.inl k1) (pe_var (i := 2) rfl (Or.inl k2)) rfl (l1 rfl)))) (pss_one (ps_ret (hrt X.A s H)))), ?_⟩
  · refine ⟨fun pins s' σ H' D I h' => ?_⟩
    obtain ⟨Ech, hW, h1, h2, h3⟩ := h'
    have hp := act (fun cls d σ H => σ.length = nAsk.length → W cls d σ H) pn xe Ech r1 r2 (takes_len tk) hW
    exact (pss_one (ps_expr (pos := r3) hp)).run pins s' σ H' D I ⟨h1, h2, h3⟩
  · have h' : tl (fun cls d H' => PySem.W.exmOne X.K cls (.ref CS) = some true ∧ ∀ a, H' a = none → ∀ σ' : L2.St, σ'.length = 3 → σ'[1]? = some (some (.ref a)) → tr σ' (upd H' a (ErrAt cls d a)) Q) H (fun _ H' => tr [some (V.ref f), some .non, none] H' Q) := h f
    refine ⟨fun cls d H' => PySem.W.exmOne X.K cls (.ref CS) = some true ∧ ∀ a, H' a = none → ∀ σ' : L2.St, σ'.length = 3 → σ'[1]? = some (some (.ref a)) → tr σ' (upd H' a (ErrAt cls d a)) Q, ?_, rfl, hc, h'⟩
    intro cls d σ' H' hh hl
    obtain ⟨he, hk⟩ := hh
    refine ⟨he, fun a na => ?_⟩
    exact ⟨.ref a, by rw [List.getElem?_set_self (by omega)] <;> rfl, fun na' => hk a na' _ (by simp [hl]) (by rw [List.getElem?_set_ne (by decide), List.getElem?_set_self (by simp [hl])] <;> rfl)⟩
end Hk
end S_Wd
section S_We
namespace Hk
open PySem PySem.Spec PyProof.Rows L2 LamX Tl
/-- the law's own call where no repr is under way, its code object's table tracked -/
theorem law_gT {P : Program} {w : World} {K : PySem.W.Frag} {mg mb : Str → Option Value} {k : Nat} {fa a c T : Addr} {fd : FuncData} {x : Str} {sp : Sp} {s₁ : Shared} {vs : List Value} {ns : List Int}
    (kin : K.In s₁.heap) (hns : s₁.heap.Ns mainGlobals mg) (hb : s₁.heap.Ns builtinsNs mb) (hbb : ∀ x : Str, x ≠ "__name__" → mb x = bootBuiltins x) (hlim : s₁.heap.NoLimit) (hg : s₁.gens = #[])
    (hT : s₁.heap.get? T = some { cls := .none, data := .fields #[] }) (nT : K.lookup T = none) (hC : PySem.W.CodeHd s₁.heap c T)
    (hbm : ∃ (bm : Addr) (ob : Obj), mg "__builtins__" = some (.ref bm) ∧ bm ≠ builtinsNs ∧ s₁.heap.get? bm = some ob ∧ ob.cls = .type "module" ∧ ob.dict = some builtinsNs ∧ ob.data = .plain)
    (ha : s₁.heap.get? a = some { cls := .type "list", data := .seq vs.toArray }) (hi : IntsAre vs ns) (hl : ns.length ≤ sizeLine) (hr : Room k callerA)
    (F : ∀ base : Heap, K.In base → base.Ns mainGlobals mg → TabB base mg c T → FnG P w K mg base k fa fd [x] sp) (hbind : ∀ (s : Shared) (u : Value), BindsTo s fd ⟨[u], []⟩ [(x, u)])
    (hsp : ∀ H : Hp, H T = some (.tbl #[]) → SqL K H a (ns.map V.int) → sp [.ref a] H (fun v _ => v = .bl true) fun _ _ _ => False) :
    codeAny (model P w) callerA (.call (.ref fa) ⟨[.ref a], []⟩) (fun r s' => r = .ok (.ret (.bool true)) ∧ OldK s₁.heap s'.heap ∧ s'.os = s₁.os ∧ AllBare s'.gens) s₁ := by
  have rv := vals_ints hi
  have aT : a ≠ T := fun z => by
    rw [z, hT] at ha
    have z' : Data.fields #[] = Data.seq vs.toArray _ := congrArg Obj.data (Option.some.inj ha)
    cases z'
  have run : ∀ H : Hp, H T = some (.tbl #[]) → SqL K H a (ns.map V.int) → HOk P w H s₁.heap → (∀ b u, H b = some u → b = T ∨ (b = a ∧ K.lookup a = none ∧ ∃ o xs, u = .frz o (.lst xs))) →
      codeAny (model P w) callerA (.call (.ref fa) ⟨[.ref a], []⟩) (fun r s' => r = .ok (.ret (.bool true)) ∧ OldK s₁.heap s'.heap ∧ s'.os = s₁.os ∧ AllBare s'.gens) s₁ := by
    intro H hHT hS hok hA
    have keepB : ∀ {b : Addr} {o : Obj}, s₁.heap.get? b = some o → (∀ vs n, o.data ≠ .seq vs n) → o.data ≠ .fields #[] → (hidT s₁.heap H).get? b = some o := fun {b o} e h1 h2 => by
      refine hidT_get e ?_
      cases q : H b with
      | none => rfl
      | some u =>
        rcases hA b u q with e1 | ⟨e1, _⟩
        · rw [e1, hT] at e
          cases e
          exact absurd rfl h2
        · rw [e1, ha] at e
          cases e
          exact absurd rfl (h1 _ _)
    have ns_of : ∀ {b : Addr} {m : Str → Option Value}, s₁.heap.Ns b m → (hidT s₁.heap H).Ns b m := fun {b m} hm => by
      obtain ⟨o, es, ep, e, d, r⟩ := hm
      exact ⟨o, es, ep, keepB e (fun vs n z => by rw [d] at z; cases z) (fun z => by rw [d] at z; cases z), d, r⟩
    have kb : K.In (hidT s₁.heap H) := fun b o e => hidT_get (kin b o e) (by
      cases q : H b with
      | none => rfl
      | some u =>
        rcases hA b u q with e1 | ⟨e1, e2, _⟩
        · rw [e1, nT] at e
          cases e
        · rw [e1, e2] at e
          cases e)
    have hM : Mod K mg (hidT s₁.heap H) := ⟨kb, ns_of hns, ⟨mb, ns_of hb, hbb⟩, hlim.elim fun mc h => ⟨mc, ns_of h.1, h.2⟩⟩
    have e0 : Env0 P w K mg (hidT s₁.heap H) callerA [] s₁ H := ⟨rfl, hM, fun _ _ e => of_hidT e, by rw [hidT_size] <;> exact Nat.le_refl _, trivial, fun _ hb => (nomatch hb), hok, .of_eq hg⟩
    have TB : TabB (hidT s₁.heap H) mg c T := by
      refine ⟨?_, ?_, fun z => ?_⟩
      · obtain ⟨o, us, file, tf, flags, tg, inF, text, tt, e1, r1, r2, r3, r4⟩ := hC
        exact ⟨o, us, file, tf, flags, tg, inF, text, tt, keepB e1 (fun vs n z => by rw [r2] at z; cases z) (fun z => by rw [r2] at z; cases z; simp at r3), r1, r2, r3, r4⟩
      · obtain ⟨bm, ob, b1, b2, b3, b4, b5, b6⟩ := hbm
        refine ⟨bm, ob, b1, b2, fun q => ?_, fun q => ?_, keepB b3 (fun vs n z => by rw [b6] at z; cases z) (fun z => by rw [b6] at z; cases z), b4, b5, b6⟩
        · obtain ⟨o, es, ep, e, hd, _⟩ := hns
          rw [q, e] at b3
          cases b3
          rw [hd] at b6
          cases b6
        · rw [q, hT] at b3
          cases b3
          cases b6
      · obtain ⟨o, es, ep, e, hd, _⟩ := hns
        rw [z, hT] at e
        cases e
        cases hd
    refine codeAny_mono ((F _ kb (ns_of hns) TB).go rfl hr e0 (us := [.ref a]) (hbind s₁ (.ref a)) (vs := [.ref a]) (.cons rfl .nil) (hsp H hHT hS)) fun r s' h => ?_
    match r, h with
    | .ok (.ret u), h =>
      obtain ⟨v, H', os, bare, un, hok', r', q⟩ := h
      cases (show v = .bl true from q)
      cases (show u = Value.bool true from r')
      obtain ⟨more, zT⟩ := un.tbls T #[] hHT
      have grown : s'.heap.get? T = some { cls := .none, data := .fields more } := by
        have q := hok' T _ zT
        rw [Array.empty_append] at q
        exact q
      have others : ∀ b o, b ≠ T → s₁.heap.get? b = some o → s'.heap.get? b = some o := fun b o nb e => by
        cases q : H b with
        | none => exact un.keep b o e q (fun y => (nomatch y)) (fun y => (nomatch y))
        | some u =>
          rcases hA b u q with z | ⟨_, _, ob, xs, rfl⟩
          · exact absurd z nb
          · obtain ⟨e1, _⟩ := hok b _ q
            obtain ⟨e2, _⟩ := hok' b _ (un.frzs b ob _ q)
            rw [e] at e1
            cases e1
            exact e2
      refine ⟨rfl, ⟨fun b o e => ?_, fun b o e => ?_⟩, os, bare⟩
      · by_cases hb : b = T
        · subst hb
          rw [hT] at e
          cases e
          exact .inr (.inl ⟨(hC.tab hT).isCodeTable, rfl, #[], more, rfl, by rw [Array.empty_append]; exact grown⟩)
        · exact .inl (others b o hb e)
      · by_cases hb : b = T
        · subst hb
          exact ⟨_, grown⟩
        · exact ⟨o, others b o hb e⟩
    | .error e, h => exact False.elim h
    | .ok .next, h => exact False.elim h
    | .ok .brk, h => exact False.elim h
    | .ok .cont, h => exact False.elim h
  have tT : (if T = T then some (HO.tbl #[]) else none) = some (HO.tbl #[]) := if_pos rfl
  cases hk : K.lookup a with
  | some o =>
    have e := kin a o hk
    rw [ha] at e
    cases e
    refine run (fun b => if b = T then some (.tbl #[]) else none) tT (.inr ⟨_, vs.toArray, _, hk, rfl, rfl, rfl, ?_, by simpa using rv⟩) (fun b u z => ?_) (fun b u z => ?_)
    · rw [List.size_toArray, hi.length]
      exact hl
    · dsimp only at z
      by_cases hb : b = T
      · rw [if_pos hb] at z
        cases z
        rw [hb]
        exact hT
      · rw [if_neg hb] at z
        cases z
    · skip
      by_cases hb : b = T
      · exact .inl hb
      · rw [if_neg hb] at z
        cases z
  | none =>
    refine run (fun b => if b = T then some (.tbl #[]) else if b = a then some (.frz { cls := .type "list", data := .seq vs.toArray } (.lst (ns.map V.int))) else none) (if_pos rfl) (.inl (.inr ⟨_, by dsimp only; rw [if_neg aT, if_pos rfl]⟩)) (fun b u z => ?_) fun b u z => ?_
    · dsimp only at z
      by_cases hb : b = T
      · rw [if_pos hb] at z
        cases z
        rw [hb]
        exact hT
      · rw [if_neg hb] at z
        by_cases hb2 : b = a
        · rw [if_pos hb2] at z
          cases z
          subst hb2
          exact ⟨ha, by rw [List.length_map]; exact hl, vs, _, rv, ha⟩
        · rw [if_neg hb2] at z
          cases z
    · skip
      by_cases hb : b = T
      · exact .inl hb
      · rw [if_neg hb] at z
        by_cases hb2 : b = a
        · rw [if_pos hb2] at z
          cases z
          exact .inr ⟨hb2, hk, _, _, rfl⟩
        · rw [if_neg hb2] at z
          cases z
theorem walk_gT {l : PySem.W.OpenLaw} {n k : Nat} {q : Program} {loose : List Str} {XP : (Str → Option Value) → Heap → Prop} {YP : World → Heap → Prop} {d : DefRec} {K : Params → PySem.W.Frag} {x : Str}
    (hn : l.most = some n) (hn2 : n ≤ sizeLine) (hdf : d.params.defaults = []) (hr : Room k callerA) (hrec : ((recsOf q).any fun e => e.name == d.name) = true) (hY : ∀ (w : World) (h : Heap), YP w h → (K w.params).In h)
    (F : ∀ (w : World) (mg : Str → Option Value) (fa : Addr) (h : Heap), (K w.params).In h → h.Ns mainGlobals mg → mg d.name = some (.ref fa) →
      ∃ (fd : FuncData) (T c : Addr) (o : Obj) (sp : Sp) (e : Value) (dd : Option Addr) (vs : Array Value) (sl : Array (Option Value)), (K w.params).lookup fa = some o ∧ o.data = .func fd ∧ fd.code = .ref c ∧ (K w.params).lookup c = some ⟨e, dd, .fields vs, sl⟩ ∧ vs[11]? = some (.ref T) ∧ (K w.params).lookup T = none ∧ (∀ (s : Shared) (u : Value), BindsTo s fd ⟨[u], []⟩ [(x, u)]) ∧
        (∀ (H : Hp) (a : Addr) (ns : List Int), ns.length ≤ n → H T = some (.tbl #[]) → SqL (K w.params) H a (ns.map V.int) → sp [.ref a] H (fun v _ => v = .bl true) fun _ _ _ => False) ∧
        ∀ base : Heap, (K w.params).In base → base.Ns mainGlobals mg → TabB base mg c T → FnG l.prog w (K w.params) mg base k fa fd [x] sp) :
    PySem.W.WalkO q loose XP YP l.row.toRowW d [] (fun f vs => PySem.call f vs) := by
  refine Att.attach_call hn hdf fun w s₀ s₁ mg mb fa o pm cd doc a vs ns G Y ho hd hcd hmg hobj hints hlen hg => ?_
  have kin := hY w _ Y
  obtain ⟨fd, T, c, o1, sp, e, dd, us, sl, k1, k2, k3, k4, k5, nT, h1, hs, h2⟩ := F w mg fa _ kin G.T.g hmg
  obtain ⟨dL, hm, hn1⟩ := List.any_eq_true.mp hrec
  have hn2' : dL.name = d.name := beq_iff_eq.mp hn1
  obtain ⟨a', o', fd', c', P', g1, g2, g3, g4, g5, g6⟩ := G.T.tab dL hm
  rw [hn2', hmg] at g1
  cases g1
  have q1 := kin _ _ k1
  rw [q1] at g2
  cases g2
  rw [k2] at g3
  cases g3
  rw [k3] at g4
  cases g4
  have hC := PySem.W.CodeHd.of g5 g6
  obtain ⟨⟨oc, vc, e1, _, e3, e4⟩, hP⟩ := g6
  have q2 := kin _ _ k4
  rw [q2] at e1
  cases e1
  cases e3
  rw [k5] at e4
  cases e4
  exact law_gT kin G.T.g G.T.b G.T.builtins G.T.nolimit hg hP nT hC G.T.bmain hobj hints (Nat.le_trans hlen hn2) hr h2 h1 fun H hHT hS => hs H a ns hlen hHT hS
end Hk
end S_We
section S_Baa
namespace P41
open PySem PySem.Spec PyProof.Rows L2 Tl Hk
def topS (i : Nat) : Stmt := PySem.Challenge.pw_threelanes_k41_trees_of_bags_made_and_re.main.body.getD i (.Pass ⟨0, 0, 0, 0⟩)
abbrev sInteger : Stmt := topS 1
abbrev sWithin : Stmt := topS 2
abbrev sList : Stmt := topS 3
abbrev sRow : Stmt := topS 4
abbrev sTreeC : Stmt := topS 7
abbrev sTextC : Stmt := topS 8
abbrev sAreBags : Stmt := topS 17
abbrev sTells : Stmt := topS 18
abbrev sHang : Stmt := topS 19
abbrev sFromTop : Stmt := topS 20
abbrev sFresh : Stmt := topS 21
abbrev sIsBag : Stmt := topS 22
abbrev sBt : Stmt := topS 25
abbrev sWrong : Stmt := topS 26
abbrev sTub : Stmt := topS 31
abbrev sScoop : Stmt := topS 32
abbrev sPick : Stmt := topS 33
abbrev sStirred : Stmt := topS 34
abbrev sWood : Stmt := topS 35
abbrev sPieces : Stmt := topS 36
abbrev sLIsCount : Stmt := topS 37
abbrev sLIsBag : Stmt := topS 38
abbrev sLAreAbove : Stmt := topS 39
abbrev sLPart : Stmt := topS 40
abbrev sLBent : Stmt := topS 41
abbrev sLMade : Stmt := topS 42
abbrev sLIsRight : Stmt := topS 43
abbrev sLaw : Stmt := topS 44
/-- a plain value and the name of its type -/
inductive Ty7 (K : PySem.W.Frag) (H : Hp) : V → String → Prop where
  | non : Ty7 K H .non "NoneType"
  | bl (b : Bool) : Ty7 K H (.bl b) "bool"
  | int (i : Int) : Ty7 K H (.int i) "int"
  | str (s : Str) : Ty7 K H (.str s) "str"
  | lst {a : Addr} {xs : List V} (h : SqL K H a xs) : Ty7 K H (.ref a) "list"
  | tup {a : Addr} {xs : List V} (h : SqT K H a xs) : Ty7 K H (.ref a) "tuple"
  | dK {a : Addr} {kvs : List (L2.Key × V)} (h : H a = some (.dK kvs)) : Ty7 K H (.ref a) "dict"
section
variable {K : PySem.W.Frag} {H H' : Hp} {x : V} {n : String}
theorem Ty7.tyx (h : Ty7 K H x n) : TyX K H x (.type n) := by
  cases h with
  | non => exact .base .non
  | bl b => exact .base (.bl b)
  | int i => exact .base (.int i)
  | str s => exact .base (.str s)
  | lst h =>
    rcases h with (h | ⟨o, h⟩) | ⟨o, its, m, h1, h2, _⟩
    · exact .base (.lst h)
    · exact .base (.frz h)
    · exact .kList h1 h2
  | tup h =>
    rcases h with (h | ⟨o, h⟩) | ⟨o, its, m, h1, h2, _⟩
    · exact .base (.tup h)
    · exact .fTuple h
    · exact .kTuple h1 h2
  | dK h => exact .base (.dK h)
theorem Ty7.ex (h : Ty7 K H x n) (e : Evl.Ex H H') : Ty7 K H' x n := by
  cases h with
  | non => exact .non
  | bl b => exact .bl b
  | int i => exact .int i
  | str s => exact .str s
  | lst h => exact .lst (Evl.ex_l e h)
  | tup h => exact .tup (Evl.ex_t e h)
  | dK h => exact .dK (e _ _ h)
/-- isinstance of one built-in class -/
def is7 (n c : String) : Bool := (L2.kitB n c).getD false
theorem Ty7.kit (h : Ty7 K H x n) {c : String} (hc : c = "int" ∨ c = "bool" ∨ c = "list" ∨ c = "tuple") : PySem.W.kitOne K (.type n) (.type c) = some (is7 n c) := by
  refine kit_ty ?_
  rcases hc with rfl | rfl | rfl | rfl <;> cases h <;> decide +kernel
theorem Ty7.isInt (h : Ty7 K H x n) : (is7 n "int" && !is7 n "bool") = decide (n = "int") := by
  cases h <;> decide +kernel
theorem Ty7.isSeq (h : Ty7 K H x n) : (is7 n "list" || is7 n "tuple") = (decide (n = "list") || decide (n = "tuple")) := by
  cases h <;> decide +kernel
theorem rc_isi (h : Ty7 K H x n) {c : String} (hc : c = "int" ∨ c = "bool" ∨ c = "list" ∨ c = "tuple") : Evl.RC (rIsi K) [x, .ty c] H (.bl (is7 n c)) :=
  fun H1 e _ q => ⟨x, .ty c, .type n, .type c, is7 n c, rfl, .ty c, (h.ex e).tyx, (h.ex e).kit hc, q H1 (Evl.Ex.refl H1)⟩
theorem rv_isN : Evl.RV (fun x y H Q => y = .non ∧ Q (.bl (decide (x = .non))) H) x .non H (.bl (decide (x = .non))) := fun H1 _ _ q => ⟨rfl, q H1 (Evl.Ex.refl H1)⟩
end
/-- None, or an integer -/
def Bnd : V → Prop
  | .non => True
  | .int _ => True
  | _ => False
def okLo : V → Int → Bool
  | .int j, i => decide (j ≤ i)
  | _, _ => true
def okHi : V → Int → Bool
  | .int j, i => decide (i ≤ j)
  | _, _ => true
/-- whether it is an integer within the bounds -/
def wi : V → V → V → Bool
  | .int i, lo, hi => okLo lo i && okHi hi i
  | _, _, _ => false
def spInteger (K : PySem.W.Frag) : Sp := fun vs H Q _ => ∃ (x : V) (n : String), vs = [x] ∧ Ty7 K H x n ∧ ∀ H1, Evl.Ex H H1 → Q (.bl (decide (n = "int"))) H1
theorem spv_integer {K : PySem.W.Frag} {H : Hp} {x : V} {n : String} (h : Ty7 K H x n) : Evl.SpV (spInteger K) [x] H (.bl (decide (n = "int"))) := fun H1 e Q q E => ⟨x, n, rfl, h.ex e, q⟩
def spWithin (K : PySem.W.Frag) : Sp := fun vs H Q _ => ∃ (x lo hi : V) (n : String), vs = [x, lo, hi] ∧ Ty7 K H x n ∧ Bnd lo ∧ Bnd hi ∧ ∀ H1, Evl.Ex H H1 → Q (.bl (wi x lo hi)) H1
theorem spv_within {K : PySem.W.Frag} {H : Hp} {x lo hi : V} {n : String} (h : Ty7 K H x n) (h1 : Bnd lo) (h2 : Bnd hi) : Evl.SpV (spWithin K) [x, lo, hi] H (.bl (wi x lo hi)) := fun H1 e Q q E => ⟨x, lo, hi, n, rfl, h.ex e, h1, h2, q⟩
def spList (K : PySem.W.Frag) : Sp := fun vs H Q _ => ∃ (x : V) (n : String), vs = [x] ∧ Ty7 K H x n ∧ ∀ H1, Evl.Ex H H1 → Q (.bl (decide (n = "list") || decide (n = "tuple"))) H1
theorem spv_list {K : PySem.W.Frag} {H : Hp} {x : V} {n : String} (h : Ty7 K H x n) : Evl.SpV (spList K) [x] H (.bl (decide (n = "list") || decide (n = "tuple"))) := fun H1 e Q q E => ⟨x, n, rfl, h.ex e, q⟩
theorem scInteger : FnScope ["value"] ["value"] (defScope sInteger) := ⟨rfl, rfl, rfl, by decide +kernel, rfl, by decide +kernel, by decide +kernel⟩
theorem scWithin : FnScope ["value", "least", "most"] ["value", "least", "most"] (defScope sWithin) := ⟨rfl, rfl, rfl, by decide +kernel, rfl, by decide +kernel, by decide +kernel⟩
theorem scList : FnScope ["value"] ["value"] (defScope sList) := ⟨rfl, rfl, rfl, by decide +kernel, rfl, by decide +kernel, by decide +kernel⟩
section
variable {P : Program} {w : World} {K : PySem.W.Frag} {mg : Str → Option Value} {base : Heap}
theorem ok_integer {f : Addr} {fd : FuncData} {k : Nat} (F : Fun K "is_integer" "is_integer" sInteger f fd) (mi : mg "isinstance" = none) (mint : mg "int" = none) (mbool : mg "bool" = none) : FnOk P w K mg base CX0 (k + 1) f fd ["value"] (spInteger K) := by
  refine F.ok scInteger (fun vs H Q E h => ?_) (fun cdv A outer s H vs Q E hr h => ?_)
  · obtain ⟨x, n, rfl, _⟩ := h
    rfl
  · obtain ⟨x, n, rfl, h, q⟩ := h
    refine ⟨_, pss_one (ps_ret (pe_and (pe_callB call_isi (by rfl) mi (by decide +kernel) (pa_cons (pv 0) (pa_cons (pe_bltn (v := .ty "int") (by rfl) mint (by decide +kernel) rfl) pa_nil)))
      (pe_one (pe_not (pe_callB call_isi (by rfl) mi (by decide +kernel) (pa_cons (pv 0) (pa_cons (pe_bltn (v := .ty "bool") (by rfl) mbool (by decide +kernel) rfl) pa_nil))))))), ?_⟩
    refine Evl.s_ret (v := .bl (is7 n "int" && !is7 n "bool")) (Evl.ev_andV (Evl.ev_cb (Evl.ea_cons (Evl.ev_var rfl) (Evl.ea_cons Evl.ev_c Evl.ea_nil)) (rc_isi h (.inl rfl))) fun _ =>
      Evl.ev_notV (Evl.ev_cb (Evl.ea_cons (Evl.ev_var rfl) (Evl.ea_cons Evl.ev_c Evl.ea_nil)) (rc_isi h (.inr (.inl rfl))))) fun H1 e1 => ?_
    rw [h.isInt]
    exact q H1 e1
theorem ok_list {f : Addr} {fd : FuncData} {k : Nat} (F : Fun K "is_list" "is_list" sList f fd) (mi : mg "isinstance" = none) (ml : mg "list" = none) (mt : mg "tuple" = none) : FnOk P w K mg base CX0 (k + 1) f fd ["value"] (spList K) := by
  refine F.ok scList (fun vs H Q E h => ?_) (fun cdv A outer s H vs Q E hr h => ?_)
  · obtain ⟨x, n, rfl, _⟩ := h
    rfl
  · obtain ⟨x, n, rfl, h, q⟩ := h
    refine ⟨_, pss_one (ps_ret (pe_callB call_isiT (by rfl) mi (by decide +kernel) (pa_cons (pv 0) (pa_cons (pe_tup (pa_cons (pe_bltn (v := .ty "list") (by rfl) ml (by decide +kernel) rfl) (pa_cons (pe_bltn (v := .ty "tuple") (by rfl) mt (by decide +kernel) rfl) pa_nil))) pa_nil)))), ?_⟩
    refine ⟨x, rfl, (by show 2 ≤ sizeLine; decide), fun T hT => ⟨x, T, [.ty "list", .ty "tuple"], .type n, [.type "list", .type "tuple"], is7 n "list" || is7 n "tuple", rfl, upd_same, .cons (.ty _) (.cons (.ty _) .nil), (h.ex (Evl.Ex.new hT)).tyx, ?_, ?_⟩⟩
    · refine kitAny_cons (h.kit (.inr (.inr (.inl rfl)))) (fun hb => kitAny_cons (h.kit (.inr (.inr (.inr rfl)))) (fun hb2 => ?_) fun hb2 => ?_) fun hb => ?_
      · rw [hb, hb2]; exact kitAny_nil
      · rw [hb2, Bool.or_true]
      · rw [hb, Bool.true_or]
    · show Q _ _
      rw [h.isSeq]
      exact q _ (Evl.Ex.new hT)
theorem ok_within {f fI : Addr} {fd fdI : FuncData} {k : Nat} (F : Fun K "is_within" "is_within" sWithin f fd) (FI : Fun K "is_integer" "is_integer" sInteger fI fdI) (GI : FnOk P w K mg base CX0 k fI fdI ["value"] (spInteger K)) (bI : Binds K fdI ["value"] []) (gI : mg "is_integer" = some (.ref fI)) :
    FnOk P w K mg base CX0 (k + 1) f fd ["value", "least", "most"] (spWithin K) := by
  refine F.ok scWithin (fun vs H Q E h => ?_) (fun cdv A outer s H vs Q E hr h => ?_)
  · obtain ⟨x, lo, hi, n, rfl, _⟩ := h
    rfl
  · obtain ⟨x, lo, hi, n, rfl, h, hlo, hhi, q⟩ := h
    refine ⟨_, pss_cons (ps_if (pt_not (pt_val (pe_call GI hr (by rfl) gI FI.kp bI .nil pass0 (pa_cons (pv 0) pa_nil)))) (pss_one (ps_ret pe_bl)) pss_nil)
      (pss_one (ps_ret (pe_and (pe_or (pe_cmpR op_isN (pv 1) pe_non (nomark _)) (pe_one (pe_cmpR op_ge (pv 0) (pv 1) (nomark _)))) (pe_one (pe_or (pe_cmpR op_isN (pv 2) pe_non (nomark _)) (pe_one (pe_cmpR op_le (pv 0) (pv 2) (nomark _)))))))), ?_⟩
    refine Evl.q_when (Evl.et_not (Evl.et_B (Evl.ev_call (Evl.ea_cons (Evl.ev_var rfl) Evl.ea_nil) (spv_integer h)))) (fun hb H1 e1 => ?_) (fun hb H1 e1 => ?_)
    · refine Evl.s_ret Evl.ev_c fun H2 e2 => ?_
      have hw : wi x lo hi = false := by
        cases h with
        | int i => exact absurd hb (by decide)
        | _ => rfl
      rw [← hw]
      exact q H2 (e1.trans e2)
    · cases h with
      | int i =>
        have hA : Evl.Ev (tOrV (tOp (fun x y H Q => y = .non ∧ Q (.bl (decide (x = .non))) H) (tVar 1) (tC .non)) (tOp (rI0 fun i j => V.bl (decide (j ≤ i))) (tVar 0) (tVar 1))) (start ["value", "least", "most"] [.int i, lo, hi]) H1 (.bl (okLo lo i)) := by
          cases lo with
          | non => exact Evl.ev_is (Evl.ev_orV (b := true) (Evl.ev_op (Evl.ev_var rfl) Evl.ev_c rv_isN) fun z => absurd z (by decide)) rfl
          | int j => exact Evl.ev_is (Evl.ev_orV (Evl.ev_op (Evl.ev_var rfl) Evl.ev_c rv_isN) fun _ => Evl.ev_op (Evl.ev_var rfl) (Evl.ev_var rfl) Evl.rv_I0) (by rw [show decide (V.int j = V.non) = false from rfl] <;> rfl)
          | _ => exact hlo.elim
        have hB : Evl.Ev (tOrV (tOp (fun x y H Q => y = .non ∧ Q (.bl (decide (x = .non))) H) (tVar 2) (tC .non)) (tOp (rI0 fun i j => V.bl (decide (i ≤ j))) (tVar 0) (tVar 2))) (start ["value", "least", "most"] [.int i, lo, hi]) H1 (.bl (okHi hi i)) := by
          cases hi with
          | non => exact Evl.ev_is (Evl.ev_orV (b := true) (Evl.ev_op (Evl.ev_var rfl) Evl.ev_c rv_isN) fun z => absurd z (by decide)) rfl
          | int j => exact Evl.ev_is (Evl.ev_orV (Evl.ev_op (Evl.ev_var rfl) Evl.ev_c rv_isN) fun _ => Evl.ev_op (Evl.ev_var rfl) (Evl.ev_var rfl) Evl.rv_I0) (by rw [show decide (V.int j = V.non) = false from rfl] <;> rfl)
          | _ => exact hhi.elim
        exact Evl.s_ret (Evl.ev_andV hA fun _ => hB) fun H2 e2 => q H2 (e1.trans e2)
      | _ => exact absurd hb (by decide)
end

theorem ev_allN {K : PySem.W.Frag} {ta : TE} {σ : L2.St} {H : Hp} {bs : List Bool} (h : Evl.EvL ta σ H (bs.map V.bl)) : Evl.Ev (tCB (rAll K) (tCons ta tNil)) σ H (.bl (bs.all id)) := fun H1 e Q q =>
  h H1 e _ fun p H2 _ e2 h2 => ⟨p, bs, rfl, Evl.sq_of h2, q H2 e2⟩
/-- a comprehension over a tuple that stands -/
theorem el_lcT {K : PySem.W.Frag} {a : Addr} {xs : List V} {tl te : TE} {t : TT} {σ : L2.St} {H : Hp} {j : Nat} {vs : List Nat} (f : Nat → Bool) (v : Nat → V) (h : Evl.Ev tl σ H (.ref a)) (hx : SqT K H a xs) (hz : xs.length ≤ 40000)
    (hw : ∀ x, wipe ((wipe σ vs).set j (some x)) vs = wipe σ vs) (ht : ∀ (i : Nat) (x : V) H1, Evl.Ex H H1 → xs[i]? = some x → Evl.EvT t ((wipe σ vs).set j (some x)) H1 (f i))
    (he : ∀ (i : Nat) (x : V) H1, Evl.Ex H H1 → xs[i]? = some x → f i = true → Evl.Ev te ((wipe σ vs).set j (some x)) H1 (v i)) : Evl.EvL (tLc (iTup K tl) (gName j) t te vs) σ H (Evl.given xs.length f v) := by
  intro H0 e Q q
  refine h H0 e _ fun H1 e1 => ⟨a, rfl, ⟨xs, Evl.ex_t (e.trans e1) hx⟩, fun Dl hD => lc_tup (xs := xs) (Evl.Cw H1 f v Dl) ⟨hD, Evl.Ex.new hD, upd_same⟩ (fun i H' _ p => Evl.ex_t ((e.trans e1).trans p.2.1) hx) (fun i x H' hi p => ⟨hw x, ?_⟩) fun H' p => q Dl H' (Evl.fresh_back e1 p.1) (e1.trans p.2.1) p.2.2⟩
  have hlt := (List.getElem?_eq_some_iff.mp hi).1
  exact Evl.cw_turn p (by omega) (ht i x H1 (e.trans e1) hi) fun hf => he i x H1 (e.trans e1) hi hf

end P41
end S_Baa
section S_Bab
namespace P41
open PySem PySem.Spec PyProof.Rows L2 Tl Hk
theorem scScoop : FnScope ["nest", "many", "rest", "at", "cell", "mixed"] ["nest", "many"] (defScope sScoop) := ⟨rfl, rfl, rfl, by decide +kernel, rfl, by decide +kernel, by decide +kernel⟩

/-- all but the object at t is as it was -/
def Kept (t : Addr) (H H' : Hp) : Prop := ∀ a o, a ≠ t → H a = some o → H' a = some o
theorem Kept.refl (t : Addr) (H : Hp) : Kept t H H := fun _ _ _ h => h
theorem Kept.trans {t : Addr} {H H1 H2 : Hp} (a : Kept t H H1) (b : Kept t H1 H2) : Kept t H H2 := fun x o n h => b x o n (a x o n h)
theorem Kept.of {t : Addr} {H H' : Hp} (e : Same H H') : Kept t H H' := fun x o _ h => e x o h
theorem Kept.upd (t : Addr) (H : Hp) (o : HO) : Kept t H (upd H t o) := fun a u n e => by
  rw [upd_ne n]
  exact e
theorem Kept.seq {K : PySem.W.Frag} {t : Addr} {H H' : Hp} {c : Addr} {xs : List V} (k : Kept t H H') (n : c ≠ t) (h : SqL K H c xs) : SqL K H' c xs := by
  rcases h with (h | ⟨o, h⟩) | h
  · exact .inl (.inl (k _ _ n h))
  · exact .inl (.inr ⟨o, k _ _ n h⟩)
  · exact .inr h
/-- the drawer of numbers at t: its cells at c, its turn of n at most, its rest -/
def Tub (H : Hp) (t c : Addr) (n : Nat) : Prop := ∃ (cs : List Int) (turn rest : Int),
  H t = some (.lst [.ref c, .int turn, .int rest]) ∧ H c = some (.lst (cs.map V.int)) ∧ c ≠ t ∧ cs.length ≤ 60 ∧ 0 ≤ turn ∧ turn ≤ n ∧ 0 ≤ rest
theorem Tub.mono {H : Hp} {t c : Addr} {n m : Nat} (T : Tub H t c n) (h : n ≤ m) : Tub H t c m := by
  obtain ⟨cs, turn, rest, h1, h2, h3, h4, h5, h6, h7⟩ := T
  exact ⟨cs, turn, rest, h1, h2, h3, h4, h5, by omega, h7⟩
theorem Tub.same {H H' : Hp} {t c : Addr} {n : Nat} (T : Tub H t c n) (e : Same H H') : Tub H' t c n := by
  obtain ⟨cs, turn, rest, h1, h2, h3, h4, h5, h6, h7⟩ := T
  exact ⟨cs, turn, rest, e _ _ h1, e _ _ h2, h3, h4, h5, h6, h7⟩
theorem Tub.ne {H : Hp} {t c p : Addr} {n : Nat} (T : Tub H t c n) (h : H p = none) : p ≠ t ∧ p ≠ c := by
  obtain ⟨cs, turn, rest, h1, h2, _⟩ := T
  exact ⟨(ne_of_none h1 h).symm, (ne_of_none h2 h).symm⟩
/-- an object that is neither of the drawer's two may change -/
theorem Tub.upd {H : Hp} {t c p : Addr} {n : Nat} {o : HO} (T : Tub H t c n) (h1 : p ≠ t) (h2 : p ≠ c) : Tub (upd H p o) t c n := by
  obtain ⟨cs, turn, rest, a1, a2, h⟩ := T
  refine ⟨cs, turn, rest, ?_, ?_, h⟩
  · rw [upd_ne h1.symm]
    exact a1
  · rw [upd_ne h2.symm]
    exact a2
theorem same_new {H : Hp} {p : Addr} {o : HO} (h : H p = none) : Same H (upd H p o) := fun b x e => by
  rw [upd_ne (ne_of_none e h)]
  exact e

open Evl in
theorem kept_ex {t : Addr} {H H' : Hp} (e : Evl.Ex H H') : Kept t H H' := fun x o _ h => e x o h
theorem Tub.ex {H H' : Hp} {t c : Addr} {n : Nat} (T : Tub H t c n) (e : Evl.Ex H H') : Tub H' t c n := T.same e
section
open Evl
variable {K : PySem.W.Frag} {σ : L2.St} {H H' : Hp} {ta tb te : TE} {x y z v : V}
theorem ev_int {i : Int} (h : Ev ta σ H (.int i)) : Ev (tCB (fun xs H Q => (∃ i, xs = [V.int i] ∧ Q (V.int i) H) ∨ ∃ k, xs = [V.bl k] ∧ Q (V.int (if k = true then 1 else 0)) H) (tCons ta tNil)) σ H (.int i) :=
  ev_cb (ea_cons h ea_nil) fun H1 _ _ q => .inl ⟨i, rfl, q H1 (Ex.refl H1)⟩
theorem ev_intB {b : Bool} (h : Ev ta σ H (.bl b)) : Ev (tCB (fun xs H Q => (∃ i, xs = [V.int i] ∧ Q (V.int i) H) ∨ ∃ k, xs = [V.bl k] ∧ Q (V.int (if k = true then 1 else 0)) H) (tCons ta tNil)) σ H (.int (if b = true then 1 else 0)) :=
  ev_cb (ea_cons h ea_nil) fun H1 _ _ q => .inr ⟨b, rfl, q H1 (Ex.refl H1)⟩
theorem ev_abs {i : Int} (h : Ev ta σ H (.int i)) : Ev (tCB (fun xs H Q => ∃ i, xs = [V.int i] ∧ Q (V.int (if i < 0 then -i else i)) H) (tCons ta tNil)) σ H (.int (if i < 0 then -i else i)) :=
  ev_cb (ea_cons h ea_nil) fun H1 _ _ q => ⟨i, rfl, q H1 (Ex.refl H1)⟩
theorem dp_ints {c : Addr} : ∀ (cs : List Int), DpAll K H (cs.map V.int) (cs.map PyData.int)
  | [] => .nil
  | i :: r => .cons (.int i) (dp_ints (c := c) r)
/-- a list of ints is not the empty one -/
theorem ev_neNil {c : Addr} {cs : List Int} (h : Ev ta σ H (.ref c)) (hc : SqL K H c (cs.map V.int)) : Ev (tOp (rNeD K) ta (tLst tNil)) σ H (.bl (!cs.isEmpty)) :=
  ev_opL (xs := []) h (el_lst ea_nil (Nat.zero_le _)) fun p H1 hp e => fun H2 e2 Q q => by
    refine ⟨.list (cs.map PyData.int), .list [], .lst (ex_l (e.trans e2) hc) (dp_ints (c := c) cs), .lst (sq_of (e2 _ _ hp)) .nil, PySem.W.ke_shaped_ints cs, by decide +kernel, ?_⟩
    have e3 : PyData.eqv (.list (cs.map PyData.int)) (.list []) = cs.isEmpty := by cases cs <;> rfl
    rw [e3]
    exact q H2 (Ex.refl H2)
theorem ev_eqNil {c : Addr} {cs : List Int} (h : Ev ta σ H (.ref c)) (hc : SqL K H c (cs.map V.int)) : Ev (tOp (rEqD K) ta (tLst tNil)) σ H (.bl cs.isEmpty) :=
  ev_opL (xs := []) h (el_lst ea_nil (Nat.zero_le _)) fun p H1 hp e => fun H2 e2 Q q => by
    refine ⟨.list (cs.map PyData.int), .list [], .lst (ex_l (e.trans e2) hc) (dp_ints (c := c) cs), .lst (sq_of (e2 _ _ hp)) .nil, PySem.W.ke_shaped_ints cs, by decide +kernel, ?_⟩
    have e3 : PyData.eqv (.list (cs.map PyData.int)) (.list []) = cs.isEmpty := by cases cs <;> rfl
    rw [e3]
    exact q H2 (Ex.refl H2)
theorem fmod_pos {a b : Int} (hb : 1 ≤ b) : 0 ≤ a.fmod b ∧ a.fmod b < b := by
  rw [Int.fmod_eq_emod_of_nonneg a (by omega)]
  exact ⟨Int.emod_nonneg _ (by omega), Int.emod_lt_of_pos _ (by omega)⟩
theorem fdiv_pos {a b : Int} (ha : 0 ≤ a) (hb : 1 ≤ b) : 0 ≤ a.fdiv b := by
  rw [Int.fdiv_eq_ediv_of_nonneg a (by omega)]
  exact Int.ediv_nonneg ha (by omega)
theorem mix_a {x turn : Int} (hx0 : 0 ≤ x) (hx : x < 2147483648) (h0 : 0 ≤ turn) (h1 : turn ≤ 1000000) : (x + 33575 * turn + 7329).natAbs < 2 ^ 64 := by omega
theorem mix_b {m turn : Int} (hm0 : 0 ≤ m) (hm : m < 2147483648) (h0 : 0 ≤ turn) (h1 : turn ≤ 1000000) : (m * (2 * turn + 6417) + 90903 * turn * turn + 33575).natAbs < 2 ^ 64 := by
  have a1 : m * (2 * turn + 6417) ≤ 2147483648 * 2006417 := Int.mul_le_mul (by omega) (by omega) (by omega) (by omega)
  have a2 : 0 ≤ m * (2 * turn + 6417) := Int.mul_nonneg hm0 (by omega)
  have b1 : 90903 * turn * turn ≤ 90903000000 * 1000000 := Int.mul_le_mul (by omega) (by omega) (by omega) (by omega)
  have b2 : 0 ≤ 90903 * turn * turn := Int.mul_nonneg (by omega) (by omega)
  generalize m * (2 * turn + 6417) = p at *
  generalize 90903 * turn * turn = r at *
  omega
theorem cell_at (cs : List Int) (turn d : Int) (h0 : 0 ≤ turn) : ∃ z, (cs.isEmpty = false → atI (cs.map V.int) (turn.fmod ((cs.map V.int).length : Int)) = some (.int z)) ∧ (cs.isEmpty = true → z = d) := by
  cases cs with
  | nil => exact ⟨d, fun h => (nomatch h), fun _ => rfl⟩
  | cons x r =>
    have hb := fmod_pos (a := turn) (b := (((x :: r).map V.int).length : Int)) (by rw [List.length_map, List.length_cons]; omega)
    obtain ⟨j, hj⟩ : ∃ j : Nat, turn.fmod (((x :: r).map V.int).length : Int) = (j : Int) := ⟨(turn.fmod (((x :: r).map V.int).length : Int)).toNat, by omega⟩
    rw [hj] at hb ⊢
    have hl : j < (x :: r).length := by
      rw [List.length_map] at hb
      omega
    refine ⟨(x :: r)[j], fun _ => atI_nat ?_, fun h => (nomatch h)⟩
    rw [List.getElem?_map, List.getElem?_eq_getElem hl]
    rfl
end

def spScoop : Sp := fun vs H Q _ => ∃ (t c : Addr) (many : Int) (n : Nat), vs = [.ref t, .int many] ∧ Tub H t c n ∧ n ≤ 1000000 ∧ 1 ≤ many ∧ many ≤ 100000 ∧
  ∀ r H', 0 ≤ r → r < many → Kept t H H' → Tub H' t c (n + 1) → Q (.int r) H'
section
variable {P : Program} {w : World} {K : PySem.W.Frag} {mg : Str → Option Value} {base : Heap}
theorem ok_scoop {f : Addr} {fd : FuncData} {k : Nat} (F : Fun K "_law_perch" "_law_perch" sScoop f fd) (mint : mg "int" = none) (mlen : mg "len" = none) (mabs : mg "abs" = none) : FnOk P w K mg base CX0 (k + 1) f fd ["nest", "many"] spScoop := by
  refine F.ok scScoop (fun vs H Q E h => ?_) (fun cdv A outer s H vs Q E hr h => ?_)
  · obtain ⟨t, c, m, n, rfl, _⟩ := h
    rfl
  · obtain ⟨t, c, many, n, rfl, hT, hn, hm1, hm2, q⟩ := h
    have nd := scScoop.nd
    refine ⟨_, (pss_cons (ps_if (pt_cmpR op_gt (pe_ix ix_list (pv 0) pe_int (fun _ _ => rfl)) pe_int (nomark _))
        (pss_cons (ps_set (i := 2) nd rfl (.inl rfl) (pe_callTy call_int1 (by rfl) mint (by decide +kernel) (pa_cons (pe_ix ix_list (pv 0) pe_int (fun _ _ => rfl)) pa_nil)))
        (pss_cons (ps_asg (pe_op op_fdivN (pv 2) (pv 1)) (pg_sub (pv 0) pe_int set_list))
        (pss_one (ps_ret (pe_op op_modN (pe_callTy call_int1 (by rfl) mint (by decide +kernel) (pa_cons (pv 2) pa_nil)) (pv 1)))))) pss_nil)
      (pss_cons (ps_set (i := 3) nd rfl (.inl rfl) (pe_ix ix_list (pv 0) pe_int (fun _ _ => rfl)))
      (pss_cons (ps_asg (pe_op op_add (pv 3) pe_int) (pg_sub (pv 0) pe_int set_list))
      (pss_cons (ps_if (pt_cmpR (op_eqD hr.units) (pe_ix ix_list (pv 0) pe_int (fun _ _ => rfl)) (pe_lst pa_nil) (nomark _)) (pss_one (ps_ret pe_int)) pss_nil)
      (pss_cons (ps_set (i := 4) nd rfl (.inl rfl) (pe_ix ix_list (pe_ix ix_list (pv 0) pe_int (fun _ _ => rfl)) (pe_op op_modN (pe_callTy call_int1 (by rfl) mint (by decide +kernel) (pa_cons (pv 3) pa_nil)) (pe_callB call_len_seq (by rfl) mlen PySem.boot_len (pa_cons (pe_ix ix_list (pv 0) pe_int (fun _ _ => rfl)) pa_nil))) (fun _ _ => rfl)))
      (pss_cons (ps_if (PW.pt (pw_and (pt_cmpR op_lt (pv 3) (pe_callB call_len_seq (by rfl) mlen PySem.boot_len (pa_cons (pe_ix ix_list (pv 0) pe_int (fun _ _ => rfl)) pa_nil)) (nomark _)) (pw_and1 (pt_cmpR op_ge (pe_callB call_abs (by rfl) mabs (by decide +kernel) (pa_cons (pv 4) pa_nil)) (pe_op op_pow pe_int pe_int) (nomark _)))))
        (pss_cons (ps_set (i := 2) nd rfl (.inl rfl) (pe_op op_add (pe_op op_mul pe_int (pe_op op_sub (pe_callB call_abs (by rfl) mabs (by decide +kernel) (pa_cons (pv 4) pa_nil)) (pe_op op_pow pe_int pe_int))) (pe_callTy call_int1 (by rfl) mint (by decide +kernel) (pa_cons (pe_cmpR op_lt (pv 4) pe_int (nomark _)) pa_nil))))
        (pss_cons (ps_asg (pe_op op_fdivN (pe_callTy call_int1 (by rfl) mint (by decide +kernel) (pa_cons (pv 2) pa_nil)) (pv 1)) (pg_sub (pv 0) pe_int set_list))
        (pss_one (ps_ret (pe_op op_modN (pe_callTy call_int1 (by rfl) mint (by decide +kernel) (pa_cons (pv 2) pa_nil)) (pv 1)))))) pss_nil)
      (pss_cons (ps_set (i := 5) nd rfl (.inl rfl) (pe_op op_modN (pe_callTy call_int1 (by rfl) mint (by decide +kernel) (pa_cons (pe_op op_pow (pe_op op_add (pe_op op_add (pe_op op_modN (pe_callTy call_int1 (by rfl) mint (by decide +kernel) (pa_cons (pv 4) pa_nil)) pe_int) (pe_op op_mul pe_int (pv 3))) pe_int) pe_int) pa_nil)) pe_int))
      (pss_cons (ps_set (i := 5) nd rfl (.inl rfl) (pe_op op_modN (pe_callTy call_int1 (by rfl) mint (by decide +kernel) (pa_cons (pe_op op_pow (pe_op op_add (pe_op op_add (pe_op op_mul (pv 5) (pe_op op_add (pe_op op_mul pe_int (pv 3)) pe_int)) (pe_op op_mul (pe_op op_mul pe_int (pv 3)) (pv 3))) pe_int) pe_int) pa_nil)) pe_int))
      (pss_one (ps_ret (pe_op op_modN (pe_callTy call_int1 (by rfl) mint (by decide +kernel) (pa_cons (pe_op op_fdivN (pv 5) pe_int) pa_nil)) (pv 1)))))))))))), ?_⟩
    obtain ⟨cs, turn, rest, ht, hc, hct, hcl, hu0, hun, hr0⟩ := hT
    have tubAt : ∀ {σ : L2.St} {H' : Hp} {j : Nat} {v : V} {xs : List V}, σ[0]? = some (some (.ref t)) → H' t = some (.lst xs) → xs[j]? = some v → Evl.Ev (tOp (rIxL K) (tVar 0) (tC (.int (j : Int)))) σ H' v :=
      fun hs h hv => Evl.ev_op (Evl.ev_var hs) Evl.ev_c (Evl.rv_ixL (Evl.sq_of h) (atI_nat hv))
    have turnS : turn ≤ 1000000 := by omega
    refine Evl.q_when (b := decide (0 < rest)) (Evl.et_test (Evl.ev_op (tubAt (j := 2) rfl ht rfl) Evl.ev_c Evl.rv_I0)) (fun hb H1 e1 => ?_) (fun hb H1 e1 => ?_)
    · refine Evl.q_asg (ev_int (tubAt (j := 2) rfl (e1 _ _ ht) rfl)) fun H2 e2 => ?_
      refine Evl.q_setL (l := t) (j := 2) (e2 _ _ (e1 _ _ ht)) (Evl.ev_op (Evl.ev_var rfl) (Evl.ev_var rfl) (Evl.rv_I ⟨by omega, by omega⟩)) (Evl.ev_var rfl) Evl.ev_c (by show 2 < 3; omega) fun H3 e3 => ?_
      refine Evl.s_ret (Evl.ev_op (ev_int (Evl.ev_var rfl)) (Evl.ev_var rfl) (Evl.rv_I (by omega))) fun H4 e4 => ?_
      have e13 := (e1.trans e2).trans e3
      refine q _ _ (fmod_pos hm1).1 (fmod_pos hm1).2 (((kept_ex e13).trans (Kept.upd t H3 _)).trans (kept_ex e4)) (Tub.ex ?_ e4)
      exact ⟨cs, turn, rest.fdiv many, upd_same, Kept.upd t H3 _ _ _ hct (e13 _ _ hc), hct, hcl, hu0, by omega, fdiv_pos hr0 hm1⟩
    · refine Evl.q_asg (tubAt (j := 1) rfl (e1 _ _ ht) rfl) fun H2 e2 => ?_
      refine Evl.q_setL (l := t) (j := 1) (e2 _ _ (e1 _ _ ht)) (Evl.ev_op (Evl.ev_var rfl) Evl.ev_c Evl.rv_I0) (Evl.ev_var rfl) Evl.ev_c (by show 1 < 3; omega) fun H3 e3 => ?_
      have e13 := (e1.trans e2).trans e3
      have k3 : Kept t H (upd H3 t (.lst [.ref c, .int (turn + 1), .int rest])) := (kept_ex e13).trans (Kept.upd t H3 _)
      have h3 : (upd H3 t (.lst [.ref c, .int (turn + 1), .int rest])) t = some (.lst [.ref c, .int (turn + 1), .int rest]) := upd_same
      show tSeq _ _ _ _ (upd H3 t (.lst [.ref c, .int (turn + 1), .int rest]))
      generalize upd H3 t (.lst [.ref c, .int (turn + 1), .int rest]) = H3' at k3 h3 ⊢
      have hc3 : H3' c = some (.lst (cs.map V.int)) := k3 _ _ hct hc
      refine Evl.q_when (b := cs.isEmpty) (Evl.et_test (ev_eqNil (tubAt (j := 0) rfl h3 rfl) (Evl.sq_of hc3))) (fun _ H4 e4 => Evl.s_ret Evl.ev_c fun H5 e5 => q 0 H5 (Int.le_refl _) (by omega) (k3.trans (kept_ex (e4.trans e5))) (Tub.ex ⟨cs, turn + 1, rest, h3, hc3, hct, hcl, by omega, by omega, hr0⟩ (e4.trans e5))) fun hce H4 e4 => ?_
      replace h3 := e4 _ _ h3
      replace hc3 := e4 _ _ hc3
      replace k3 := k3.trans (kept_ex e4)
      clear e4
      clear e1 e2 e3 e13
      obtain ⟨cell, z1, z2⟩ := cell_at cs turn (90903 * turn + 7329) hu0
      have hne : ((cs.map V.int).length : Int) ≠ 0 := by
        rw [List.length_map]
        cases cs with
        | nil => cases hce
        | cons x r => rw [List.length_cons]; omega
      refine Evl.q_asg (v := .int cell) (Evl.ev_op (tubAt (j := 0) rfl h3 rfl) (Evl.ev_op (ev_int (Evl.ev_var rfl)) (Evl.ev_len (tubAt (j := 0) rfl h3 rfl) (Evl.sq_of hc3)) (Evl.rv_I hne)) (Evl.rv_ixL (Evl.sq_of hc3) (z1 hce))) fun H5 e35 => ?_
      have k5 : Kept t H H5 := k3.trans (kept_ex e35)
      have h5 := e35 _ _ h3
      have hc5 := e35 _ _ hc3
      clear e35 h3 hc3 k3
      refine Evl.q_when (Evl.et_and (Evl.et_test (Evl.ev_op (Evl.ev_var rfl) (Evl.ev_len (tubAt (j := 0) rfl h5 rfl) (Evl.sq_of hc5)) Evl.rv_I0)) fun _ => Evl.et_test (Evl.ev_op (ev_abs (Evl.ev_var rfl)) (Evl.ev_op Evl.ev_c Evl.ev_c (Evl.rv_I ⟨by decide, by decide, by decide⟩)) Evl.rv_I0)) (fun hb H6 e6 => ?_) (fun hb H6 e6 => ?_)
      · have hb2 := (Bool.and_eq_true_iff.mp hb).2
        have hbig : (10 : Int) ^ 18 ≤ (if cell < 0 then -cell else cell) := of_decide_eq_true hb2
        refine Evl.q_asg (Evl.ev_op (Evl.ev_op Evl.ev_c (Evl.ev_op (ev_abs (Evl.ev_var rfl)) (Evl.ev_op Evl.ev_c Evl.ev_c (Evl.rv_I ⟨by decide, by decide, by decide⟩)) Evl.rv_I0) (Evl.rv_I (.inl ⟨by decide, by decide⟩))) (ev_intB (Evl.ev_op (Evl.ev_var rfl) Evl.ev_c Evl.rv_I0)) Evl.rv_I0) fun H7 e7 => ?_
        have hr2 : (0 : Int) ≤ 2 * ((if cell < 0 then -cell else cell) - 10 ^ (18 : Int).toNat) + (if decide (cell < 0) = true then 1 else 0) := by
          have e18 : (18 : Int).toNat = 18 := rfl
          rw [e18]
          split <;> omega
        generalize (2 * ((if cell < 0 then -cell else cell) - 10 ^ (18 : Int).toNat) + (if decide (cell < 0) = true then 1 else 0) : Int) = rest2 at hr2 ⊢
        refine Evl.q_setL (l := t) (j := 2) (e7 _ _ (e6 _ _ h5)) (Evl.ev_op (ev_int (Evl.ev_var rfl)) (Evl.ev_var rfl) (Evl.rv_I ⟨by omega, by omega⟩)) (Evl.ev_var rfl) Evl.ev_c (by show 2 < 3; omega) fun H8 e8 => ?_
        refine Evl.s_ret (Evl.ev_op (ev_int (Evl.ev_var rfl)) (Evl.ev_var rfl) (Evl.rv_I (by omega))) fun H9 e9 => ?_
        have e68 := (e6.trans e7).trans e8
        refine q _ _ (fmod_pos hm1).1 (fmod_pos hm1).2 (((k5.trans (kept_ex e68)).trans (Kept.upd t H8 _)).trans (kept_ex e9)) (Tub.ex ?_ e9)
        exact ⟨cs, turn + 1, rest2.fdiv many, upd_same, Kept.upd t H8 _ _ _ hct (e68 _ _ hc5), hct, hcl, by omega, by omega, fdiv_pos hr2 hm1⟩
      · have c1 := fmod_pos (a := cell) (b := 2147483563) (by decide)
        refine Evl.q_asg (Evl.ev_op (ev_int (Evl.ev_op (Evl.ev_op (Evl.ev_op (Evl.ev_op (ev_int (Evl.ev_var rfl)) Evl.ev_c (Evl.rv_I (by decide))) (Evl.ev_op Evl.ev_c (Evl.ev_var rfl) (Evl.rv_I (.inl ⟨by decide, by decide⟩))) Evl.rv_I0) Evl.ev_c Evl.rv_I0) Evl.ev_c (Evl.rv_I ⟨by decide, by decide, mix_a c1.1 (by omega) hu0 turnS⟩))) Evl.ev_c (Evl.rv_I (by decide))) fun H7 e7 => ?_
        have m1 := fmod_pos (a := (cell.fmod 2147483563 + 33575 * turn + 7329) ^ (5 : Int).toNat) (b := 2147483629) (by decide)
        generalize ((cell.fmod 2147483563 + 33575 * turn + 7329) ^ (5 : Int).toNat).fmod 2147483629 = mx at m1 ⊢
        refine Evl.q_asg (Evl.ev_op (ev_int (Evl.ev_op (Evl.ev_op (Evl.ev_op (Evl.ev_op (Evl.ev_var rfl) (Evl.ev_op (Evl.ev_op Evl.ev_c (Evl.ev_var rfl) (Evl.rv_I (.inl ⟨by decide, by decide⟩))) Evl.ev_c Evl.rv_I0) (Evl.rv_I (.inl ⟨by omega, by omega⟩))) (Evl.ev_op (Evl.ev_op Evl.ev_c (Evl.ev_var rfl) (Evl.rv_I (.inl ⟨by decide, by decide⟩))) (Evl.ev_var rfl) (Evl.rv_I (.inl ⟨by omega, by omega⟩))) Evl.rv_I0) Evl.ev_c Evl.rv_I0) Evl.ev_c (Evl.rv_I ⟨by decide, by decide, mix_b m1.1 (by omega) hu0 turnS⟩))) Evl.ev_c (Evl.rv_I (by decide))) fun H8 e8 => ?_
        refine Evl.s_ret (Evl.ev_op (ev_int (Evl.ev_op (Evl.ev_var rfl) Evl.ev_c (Evl.rv_I ⟨by decide, by decide⟩))) (Evl.ev_var rfl) (Evl.rv_I (by omega))) fun H9 e9 => ?_
        have e69 := ((e6.trans e7).trans e8).trans e9
        exact q _ _ (fmod_pos hm1).1 (fmod_pos hm1).2 (k5.trans (kept_ex e69)) ⟨cs, turn + 1, rest, e69 _ _ h5, e69 _ _ hc5, hct, hcl, by omega, by omega, hr0⟩
end

theorem scPick : FnScope ["nest", "some"] ["nest", "some"] (defScope sPick) := ⟨rfl, rfl, rfl, by decide +kernel, rfl, by decide +kernel, by decide +kernel⟩
theorem scTub : FnScope ["script", "cell"] ["script"] (defScope sTub) := ⟨rfl, rfl, rfl, by decide +kernel, rfl, by decide +kernel, by decide +kernel⟩
/-- an item at a drawn place -/
theorem at_drawn {xs : List V} {r : Int} (h0 : 0 ≤ r) (h1 : r < (xs.length : Int)) : ∃ (j : Nat) (v : V), xs[j]? = some v ∧ atI xs r = some v := by
  obtain ⟨j, rfl⟩ : ∃ j : Nat, r = (j : Int) := ⟨r.toNat, by omega⟩
  have hj : j < xs.length := by omega
  exact ⟨j, xs[j], List.getElem?_eq_getElem hj, atI_nat (List.getElem?_eq_getElem hj)⟩
def spPick (K : PySem.W.Frag) : Sp := fun vs H Q _ => ∃ (t c l : Addr) (xs : List V) (n : Nat), vs = [.ref t, .ref l] ∧ Tub H t c n ∧ n < 1000000 ∧ l ≠ t ∧ SqL K H l xs ∧ 1 ≤ xs.length ∧ xs.length ≤ 30000 ∧
  ∀ (j : Nat) (v : V) (H' : Hp), xs[j]? = some v → Kept t H H' → Tub H' t c (n + 1) → Q v H'
/-- the drawer as it is made: new -/
def spTub (K : PySem.W.Frag) : Sp := fun vs H Q _ => ∃ (a : Addr) (ns : List Int), vs = [.ref a] ∧ SqL K H a (ns.map V.int) ∧ ns.length ≤ 1000 ∧ ∀ t c H', H t = none → H c = none → Same H H' → Tub H' t c 0 → Q (.ref t) H'
theorem given_all {α : Type} (ns : List α) (d : α) (f : α → V) : Evl.given ns.length (fun _ => true) (fun i => f (ns.getD i d)) = ns.map f := by
  unfold Evl.given
  rw [List.filter_eq_self.mpr (fun _ _ => rfl)]
  refine List.ext_getElem (by simp) fun i h1 h2 => ?_
  have h3 : i < ns.length := by simpa using h2
  simp [List.getD_eq_getElem?_getD, h3]
theorem erase_map : ∀ (l : List Int) (j : Nat), (l.map V.int).eraseIdx j = (l.eraseIdx j).map V.int
  | [], j => by simp
  | _ :: _, 0 => rfl
  | a :: r, j + 1 => by
    have ih := erase_map r j
    simp [ih]
/-! ### going on behind an argument, a list made, a call -/
theorem ret_lst {t : TA} {D : Ends} {σ : L2.St} {H : Hp} (h : t σ H fun xs H1 => xs.length ≤ sizeLine ∧ ∀ p, H1 p = none → D.rt (.ref p) (upd H1 p (.lst xs))) : tRet (tLst t) D σ H := h
theorem go_l {te : TE} {σ : L2.St} {H : Hp} {Q : VK} {xs : List V} (h : Evl.EvL te σ H xs) (k : ∀ p H1, H p = none → Evl.Ex H H1 → H1 p = some (.lst xs) → Q (.ref p) H1) : te σ H Q := h H (Evl.Ex.refl H) Q k
theorem go_v {te : TE} {σ : L2.St} {H : Hp} {Q : VK} {v : V} (h : Evl.Ev te σ H v) (k : ∀ H1, Evl.Ex H H1 → Q v H1) : te σ H Q := h H (Evl.Ex.refl H) Q k
theorem cons_l {ta : TE} {tr : TA} {σ : L2.St} {H : Hp} {Q : List V → Hp → Prop} {xs : List V} (h : Evl.EvL ta σ H xs) (k : ∀ p H1, H p = none → Evl.Ex H H1 → H1 p = some (.lst xs) → tr σ H1 fun vs H2 => Q (.ref p :: vs) H2) : tCons ta tr σ H Q := h H (Evl.Ex.refl H) _ k
theorem cons_v {ta : TE} {tr : TA} {σ : L2.St} {H : Hp} {Q : List V → Hp → Prop} {v : V} (h : Evl.Ev ta σ H v) (k : ∀ H1, Evl.Ex H H1 → tr σ H1 fun vs H2 => Q (v :: vs) H2) : tCons ta tr σ H Q := h H (Evl.Ex.refl H) _ k
theorem et_yes {σ : L2.St} {H : Hp} : Evl.EvT tYes σ H true := fun H1 _ _ q => q H1 (Evl.Ex.refl H1)
theorem cut60 (xs : List V) : cutV xs none (some 60) = xs.take 60 := by
  unfold cutV
  rw [HT.sIx_none, show HT.sIx xs.length xs.length (some 60) = min 60 xs.length from HT.sIx_nat _ _ 60, List.drop_zero, Nat.sub_zero]
  by_cases h : 60 ≤ xs.length
  · rw [Nat.min_eq_left h]
  · rw [Nat.min_eq_right (by omega), List.take_length, List.take_of_length_le (by omega)]
section
variable {P : Program} {w : World} {K : PySem.W.Frag} {mg : Str → Option Value} {base : Heap}
theorem ok_pick {f fS : Addr} {fd fdS : FuncData} {k : Nat} (F : Fun K "_law_pick" "_law_pick" sPick f fd) (FS : Fun K "_law_perch" "_law_perch" sScoop fS fdS) (GS : FnOk P w K mg base CX0 k fS fdS ["nest", "many"] spScoop) (bS : Binds K fdS ["nest", "many"] [])
    (gS : mg "_law_perch" = some (.ref fS)) (mlen : mg "len" = none) : FnOk P w K mg base CX0 (k + 1) f fd ["nest", "some"] (spPick K) := by
  refine F.ok scPick (fun vs H Q E h => ?_) (fun cdv A outer s H vs Q E hr h => ?_)
  · obtain ⟨t, c, l, xs, n, rfl, _⟩ := h
    rfl
  · obtain ⟨t, c, l, xs, n, rfl, hT, hn, hlt, hS, h1, h2, q⟩ := h
    refine ⟨_, pss_one (ps_ret (pe_ix ix_list (pv 1) (pe_call GS hr (by rfl) gS FS.kp bS .nil pass0 (pa_cons (pv 0) (pa_cons (pe_callB call_len_seq (by rfl) mlen PySem.boot_len (pa_cons (pv 1) pa_nil)) pa_nil))) (fun _ _ => rfl))), ?_⟩
    refine ⟨.ref l, rfl, .ref t, rfl, .ref l, rfl, l, xs, rfl, .inl hS, t, c, (xs.length : Int), n, rfl, hT, by omega, by omega, by omega, fun r H' r0 r1 hk hT' => ?_⟩
    obtain ⟨j, v, hj, ha⟩ := at_drawn r0 r1
    exact ⟨l, xs, r, v, rfl, rfl, hk.seq hlt hS, ha, q j v H' hj hk hT'⟩
theorem ok_tub {f : Addr} {fd : FuncData} {k : Nat} (F : Fun K "_law_nest" "_law_nest" sTub f fd) (mint : mg "int" = none) : FnOk P w K mg base CX0 (k + 1) f fd ["script"] (spTub K) := by
  refine F.ok scTub (fun vs H Q E h => ?_) (fun cdv A outer s H vs Q E hr h => ?_)
  · obtain ⟨a, ns, rfl, _⟩ := h
    rfl
  · obtain ⟨a, ns, rfl, hS, hl, q⟩ := h
    have nd := scTub.nd
    refine ⟨_, pss_one (ps_ret (pe_lst (pa_cons (pe_lc (own := [("cell", 1)]) (g := gName 1) (tt := tYes) rfl nd (pi_list (pe_slice sl_list (pv 0) po_none (po_some pe_int))) (blkOk_by (N := ["script", "cell"]) (sc := defScope sTub) (by decide +kernel)) (fun _ _ _ _ _ => pg_name (i := 1) nd rfl (Or.inl rfl)) (fun _ _ _ _ _ => pts_nil) (fun _ _ _ _ _ => pe_callTy call_int1 (by rfl) mint (by decide +kernel) (pa_cons (pv 1) pa_nil))) (pa_cons pe_int (pa_cons pe_int pa_nil))))), ?_⟩
    have e0 : cutV (ns.map V.int) none (some 60) = (ns.take 60).map V.int := by rw [cut60, List.map_take]
    refine ret_lst (cons_l (Evl.el_lcNL (K := K) (H := H) (j := 1) (xs := (ns.take 60).map V.int) (fun _ => true) (fun i => V.int ((ns.take 60).getD i 0)) ?_ ?_ ?_ ?_ ?_) (fun p H1 hp e1 h1 => ?_))
    · rw [← e0]
      exact Evl.el_sl (Evl.ev_var rfl) Evl.eo_none (Evl.eo_some Evl.ev_c) hS
    · rw [List.length_map, List.length_take]
      omega
    · exact fun x => rfl
    · exact fun i x H1 _ _ => et_yes
    · intro i x H1 _ hx _
      have hx2 : x = V.int ((ns.take 60).getD i 0) := by
        rw [List.getElem?_map] at hx
        cases hz : (ns.take 60)[i]? with
        | none => rw [hz] at hx; cases hx
        | some z =>
          rw [hz] at hx
          rw [List.getD_eq_getElem?_getD, hz]
          exact (Option.some.inj hx).symm
      subst hx2
      exact ev_int (Evl.ev_var rfl)
    · rw [List.length_map, given_all (ns.take 60) 0 V.int] at h1
      refine ⟨by show 3 ≤ sizeLine; decide, fun t ht => ?_⟩
      refine q t p _ (Evl.fresh_back e1 ht) hp (fun b o hb => ?_) ⟨ns.take 60, 0, 0, upd_same, ?_, ne_of_none h1 ht, by rw [List.length_take]; omega, Int.le_refl _, Int.le_refl _, Int.le_refl _⟩
      · rw [upd_ne (ne_of_none (e1 _ _ hb) ht)]
        exact e1 _ _ hb
      · rw [upd_ne (ne_of_none h1 ht)]
        exact h1
end

end P41
end S_Bab
section S_Wf
namespace Hk
open PySem PySem.Spec PyProof.Rows L2
theorem args_minD (a v : Value) : argsOk "min" ⟨[a], [(Str.ofString "default", v)]⟩ := by unfold argsOk; kernel_rfl
section
variable {prog : Program} {w : World} {A : Around} {E : Value → Shared → Prop} {s : Shared}
/-- min of an empty list, with what is told for none -/
theorem min_none {l : Addr} {d : Value} {Q : Value → Shared → Prop} (hh : A.handled = none) (hl : s.heap.IsList l #[]) (k : ∀ h' tk, (∀ b o, s.heap.get? b = some o → h'.get? b = some o) → Q d { s with heap := h', toks := tk }) :
    wpAny (model prog w) A (call (.builtin "min") [.ref l] [(Str.ofString "default", d)]) Q E s := by
  refine PyProof.Rows.kmk_tree PySem.F.kind_min PySem.F.plain_min PySem.F.entry_min (args_minD _ _) ?_
  show wpAny _ A.in1 (Builtin.Builtins.bindParams "min" ["key", "default"] 0 ⟨[], [(Str.ofString "default", d)]⟩ >>= _) _ _ s
  refine wpAny_bind (wpAny_of_eq (show Builtin.Builtins.bindParams "min" ["key", "default"] 0 ⟨[], [(Str.ofString "default", d)]⟩ = pure [none, some d] from rfl) (wpAny_bind (wpAny_pure (wpAny_bind (wpAny_pyIter_list hl (wpAny_bind (wpAny_newList ?_ (Nat.zero_le _))))))))
  rw [show (toString "min" ++ toString ".loop" : String) = "min.loop" by decide]
  have ll : l < s.heap.objs.size := by
    obtain ⟨o, ho, _⟩ := hl
    exact Heap.lt_size ho
  refine wpAny_pure ⟨plainId_quiet PySem.F.plain_min_loop _, ?_⟩
  have up : ∀ b o, s.heap.get? b = some o → ((s.heap.push { cls := .type "list_iterator", data := .fields #[.ref l, .int 0 0] }).push (seqObj "list" #[] 0)).get? b = some o := fun b o e => Heap.get?_push_of_some _ (Heap.get?_push_of_some _ e)
  have gI : ((s.heap.push { cls := .type "list_iterator", data := .fields #[.ref l, .int 0 0] }).push (seqObj "list" #[] 0)).get? s.heap.objs.size = some { cls := .type "list_iterator", data := .fields #[.ref l, .int 0 0] } := Heap.get?_push_of_some _ (Heap.get?_push_size _ rfl)
  have gS : ((s.heap.push { cls := .type "list_iterator", data := .fields #[.ref l, .int 0 0] }).push (seqObj "list" #[] 0)).get? (s.heap.push { cls := .type "list_iterator", data := .fields #[.ref l, .int 0 0] }).objs.size = some (seqObj "list" #[] 0) := Heap.get?_push_size _ rfl
  refine codeAny_builtin PySem.F.entry_min_loop ?_
  rw [Around.under_plainId PySem.F.plain_min_loop _]
  refine wpAny_bind (wpAny_seqItems gS rfl (wpAny_bind (wpAny_tryCatch (wpAny_pyNext_list_end (i := 0) (items := #[]) hh ⟨_, gI, rfl, rfl⟩ (let ⟨o, ho, r⟩ := hl; ⟨o, up _ _ ho, r⟩) rfl fun h' ext => ?_))))
  show wpAny _ _ (do rule (toString "min" ++ toString ".default"); (ret d : Sem Fin)) _ _ _
  exact wpAny_bind (wpAny_rule (wpAny_pure (k _ _ fun b o e => ext b o (Nat.ne_of_lt (Heap.lt_size e)) (up b o e))))
end
def rMinN (K : PySem.W.Frag) : List V → List V → Hp → VK → Prop := fun xs zs H Q => ∃ (l : Addr) (z : V), xs = [.ref l] ∧ zs = [z] ∧ SqL K H l [] ∧ Q z H
theorem call_minN {X : Cx} (hc : X.calm = true) : CallRK X (.builtin "min") ["default"] (rMinN X.K) := by
  intro pins s σ H xs zs us ws Q I r r2 h
  obtain ⟨l, z, rfl, rfl, hS, q⟩ := h
  cases r with
  | cons rx rr =>
    cases rr
    cases rx
    cases r2 with
    | cons rz rr =>
      cases rr
      obtain ⟨its, rv, pl, hz⟩ := I.list hS
      have e : its = [] := by cases rv; rfl
      subst e
      exact min_none (I.ok.hd hc) pl.isList fun h' tk kp => ⟨z, H, I.kept (t' := tk) kp, rz, q⟩
end Hk
end S_Wf
section S_Wg
namespace Hk
open PySem PySem.Spec PyProof.Rows L2 Tl
section
open Evl
variable {K : PySem.W.Frag} {σ : L2.St} {H H' B : Hp} {ta tb te : TE} {x y z v : V}
theorem s_retN {te : TE} {D : Ends} {R : V → Hp → Prop} (h : EvN te σ H R) (k : ∀ v H1, Ex H H1 → (∀ H3, Ex H H3 → Since H H1 H3 → R v H3) → D.rt v H1) : tRet te D σ H := h H (Ex.refl H) D.rt k
theorem s_retB {te : TE} {D : Ends} {R : V → Hp → Prop} {B : Hp} (hB : Ex B H) (h : EvN te σ B R) (k : ∀ v H1, Ex H H1 → (∀ H3, Ex B H3 → Since H H1 H3 → R v H3) → D.rt v H1) : tRet te D σ H := h H hB D.rt k
theorem q_asgN {te : TE} {tz : TS} {i : Nat} {D : Ends} {R : V → Hp → Prop} {B : Hp} (hB : Ex B H) (h : EvN te σ B R) (k : ∀ v H1, Ex H H1 → (∀ H3, Ex B H3 → Since H H1 H3 → R v H3) → tz D (σ.set i (some v)) H1) : tSeq (tAsg te (gName i)) tz D σ H := h H hB _ k
def SpN (sp : Sp) (vs : List V) (H : Hp) (R : V → Hp → Prop) : Prop := ∀ H1, Ex H H1 → ∀ Q : VK, (∀ v H2, Ex H1 H2 → (∀ H3, Ex H H3 → Since H1 H2 H3 → R v H3) → Q v H2) → ∀ E : XK, sp vs H1 Q E
theorem en_call {sp : Sp} {dvs vs : List V} {E : XK} {ta : TA} {R : V → Hp → Prop} (h : EvA ta σ H vs) (hs : SpN sp (vs ++ dvs) H R) : EvN (tCall sp dvs E ta) σ H R := fun H1 e Q q =>
  h H1 e _ fun H2 e2 => hs H2 (e.trans e2) Q (fun v H3 e3 hv => q v H3 (e2.trans e3) fun H4 h4 s4 => hv H4 h4 fun a o ha hc => s4 a o (fresh_back e2 ha) hc) E
theorem en_tup {ta : TE} {a : Addr} {xs : List V} (h : Ev ta σ H (.ref a)) (hs : SqL K H a xs) : EvN (tCB (fun xs H Q => ∃ p ys, xs = [V.ref p] ∧ ((SqL K H p ys ∧ ∀ l, H l = none → Q (V.ref l) (upd H l (HO.tup ys))) ∨ (SqT K H p ys ∧ Q (V.ref p) H))) (tCons ta tNil)) σ H
    (fun u H' => ∃ t, u = .ref t ∧ H' t = some (.tup xs)) := fun H1 e Q q =>
  h H1 e _ fun H2 e2 => ⟨a, xs, rfl, .inl ⟨ex_l (e.trans e2) hs, fun t ht => q _ _ (e2.trans (Ex.new ht)) fun H3 _ s3 => ⟨t, rfl, s3 _ _ (fresh_back e2 ht) upd_same⟩⟩⟩
theorem ei_rng2c {σ : L2.St} {H : Hp} {ta : TA} {i j : Int} {n : Nat} (hn : (j - i).toNat = n) (h : Evl.EvA ta σ H [.int i, .int j]) (h0 : -100000 ≤ i ∧ i ≤ 100000) (h1 : -100000 ≤ j ∧ j ≤ 100000) : EvI (iRng2 ta) σ H n (YFn fun k => .int (i + k)) := by
  subst hn
  exact ei_rng2 h h0 h1
theorem ei_rng1c {σ : L2.St} {H : Hp} {ta : TA} {j : Int} {n : Nat} (hn : j.toNat = n) (h : Evl.EvA ta σ H [.int j]) (h0 : 0 ≤ j) (h1 : j ≤ 100000) : EvI (iRng1 ta) σ H n (YFn fun k => .int (0 + k)) := by
  subst hn
  exact ei_rng1 h h0 h1
end
end Hk
end S_Wg
section S_Bac
namespace P41
open PySem PySem.Spec PyProof.Rows L2 Tl Hk
/-- a value, and whether it is a list of integers within bounds -/
inductive RowR (K : PySem.W.Frag) (H : Hp) (lo hi : V) : V → Bool → Prop where
  | no {x : V} {n : String} (h : Ty7 K H x n) (h1 : n ≠ "list") (h2 : n ≠ "tuple") : RowR K H lo hi x false
  | lst {a : Addr} {xs : List V} (h : SqL K H a xs) (hl : xs.length ≤ 4000) (hi_ : ∀ v ∈ xs, ∃ n, Ty7 K H v n) : RowR K H lo hi (.ref a) (xs.all fun v => wi v lo hi)
  | tup {a : Addr} {xs : List V} (h : SqT K H a xs) (hl : xs.length ≤ 4000) (hi_ : ∀ v ∈ xs, ∃ n, Ty7 K H v n) : RowR K H lo hi (.ref a) (xs.all fun v => wi v lo hi)
theorem RowR.ex {K : PySem.W.Frag} {H H' : Hp} {lo hi x : V} {r : Bool} (h : RowR K H lo hi x r) (e : Evl.Ex H H') : RowR K H' lo hi x r := by
  cases h with
  | no h h1 h2 => exact .no (h.ex e) h1 h2
  | lst h hl hi => exact .lst (Evl.ex_l e h) hl fun v hv => (hi v hv).imp fun n hn => hn.ex e
  | tup h hl hi => exact .tup (Evl.ex_t e h) hl fun v hv => (hi v hv).imp fun n hn => hn.ex e
def spRow (K : PySem.W.Frag) : Sp := fun vs H Q _ => ∃ (x lo hi : V) (r : Bool), vs = [x, lo, hi] ∧ RowR K H lo hi x r ∧ Bnd lo ∧ Bnd hi ∧ ∀ H1, Evl.Ex H H1 → Q (.bl r) H1
theorem scRow : FnScope ["value", "least", "most", "item"] ["value", "least", "most"] (defScope sRow) := ⟨rfl, rfl, rfl, by decide +kernel, rfl, by decide +kernel, by decide +kernel⟩
section
variable {P : Program} {w : World} {K : PySem.W.Frag} {mg : Str → Option Value} {base : Heap}
theorem ok_row {f fW fL : Addr} {fd fdW fdL : FuncData} {k : Nat} (F : Fun K "is_row" "is_row" sRow f fd)
    (FW : Fun K "is_within" "is_within" sWithin fW fdW) (GW : FnOk P w K mg base CX0 k fW fdW ["value", "least", "most"] (spWithin K)) (bW : Binds K fdW ["value", "least", "most"] []) (gW : mg "is_within" = some (.ref fW))
    (FL : Fun K "is_list" "is_list" sList fL fdL) (GL : FnOk P w K mg base CX0 k fL fdL ["value"] (spList K)) (bL : Binds K fdL ["value"] []) (gL : mg "is_list" = some (.ref fL)) (mall : mg "all" = none) :
    FnOk P w K mg base CX0 (k + 1) f fd ["value", "least", "most"] (spRow K) := by
  refine F.ok scRow (fun vs H Q E h => ?_) (fun cdv A outer s H vs Q E hr h => ?_)
  · obtain ⟨x, lo, hi, r, rfl, _⟩ := h
    rfl
  · obtain ⟨x, lo, hi, r, rfl, h, hlo, hhi, q⟩ := h
    have nd := scRow.nd
    have isl : ∀ {n : String}, Ty7 K H x n → Evl.Ev (tCall (spList K) [] E0 (tCons (tVar 0) tNil)) (start ["value", "least", "most", "item"] [x, lo, hi]) H (.bl (decide (n = "list") || decide (n = "tuple"))) :=
      fun h7 => Evl.ev_call (Evl.ea_cons (Evl.ev_var rfl) Evl.ea_nil) (spv_list h7)
    have items : ∀ {H1 : Hp} {xs : List V} {i : Nat} {v : V}, Evl.Ex H H1 → (∀ v ∈ xs, ∃ n, Ty7 K H v n) → xs[i]? = some v → Evl.Ev (tCall (spWithin K) [] E0 (tCons (tVar 3) (tCons (tVar 1) (tCons (tVar 2) tNil)))) [none, some lo, some hi, some v] H1 (.bl (wi (xs.getD i .non) lo hi)) :=
      fun {H1 xs i v} e hi' hv => by
        obtain ⟨n, hn⟩ := hi' v (List.mem_of_getElem? hv)
        have ev : xs.getD i .non = v := by rw [List.getD_eq_getElem?_getD, hv]; rfl
        rw [ev]
        exact Evl.ev_call (Evl.ea_cons (Evl.ev_var rfl) (Evl.ea_cons (Evl.ev_var rfl) (Evl.ea_cons (Evl.ev_var rfl) Evl.ea_nil))) (spv_within (hn.ex e) hlo hhi)
    have ebs : ∀ xs : List V, Evl.given xs.length (fun _ => true) (fun i => V.bl (wi (xs.getD i .non) lo hi)) = (xs.map fun v => wi v lo hi).map V.bl := fun xs => by
      rw [given_all xs .non fun v => V.bl (wi v lo hi), List.map_map]
      rfl
    have eall : ∀ xs : List V, (true && (xs.map fun v => wi v lo hi).all id) = xs.all fun v => wi v lo hi := fun xs => by
      rw [Bool.true_and, List.all_map]
      rfl
    cases h with
    | @no x n h7 h1 h2 =>
      refine ⟨_, pss_one (ps_ret (pe_and (pe_call GL hr (by rfl) gL FL.kp bL .nil pass0 (pa_cons (pv 0) pa_nil)) (pe_one (pe_callB (cr_all rfl) (by rfl) mall (by decide +kernel) (pa_cons
          (pe_lc (own := [("item", 3)]) (g := gName 3) (tt := tYes) rfl nd (pi_list (pv 0)) (blkOk_by (N := ["value", "least", "most", "item"]) (sc := defScope sRow) (by decide +kernel)) (fun _ _ _ _ _ => pg_name (i := 3) nd rfl (Or.inl rfl)) (fun _ _ _ _ _ => pts_nil)
            (fun _ _ _ _ _ => pe_call GW (hr) (by rfl) gW FW.kp bW .nil pass0 (pa_cons (pv 3) (pa_cons (pv 1) (pa_cons (pv 2) pa_nil))))) pa_nil))))), ?_⟩
      have eb : (decide (n = "list") || decide (n = "tuple")) = false := by simp [h1, h2]
      exact Evl.s_ret (Evl.ev_is (Evl.ev_andV (b := false) (isl h7) fun z => by rw [eb] at z; cases z) (by rw [eb] <;> rfl)) q
    | @lst a xs hS hl hi0 =>
      refine ⟨_, pss_one (ps_ret (pe_and (pe_call GL hr (by rfl) gL FL.kp bL .nil pass0 (pa_cons (pv 0) pa_nil)) (pe_one (pe_callB (cr_all rfl) (by rfl) mall (by decide +kernel) (pa_cons
          (pe_lc (own := [("item", 3)]) (g := gName 3) (tt := tYes) rfl nd (pi_list (pv 0)) (blkOk_by (N := ["value", "least", "most", "item"]) (sc := defScope sRow) (by decide +kernel)) (fun _ _ _ _ _ => pg_name (i := 3) nd rfl (Or.inl rfl)) (fun _ _ _ _ _ => pts_nil)
            (fun _ _ _ _ _ => pe_call GW (hr) (by rfl) gW FW.kp bW .nil pass0 (pa_cons (pv 3) (pa_cons (pv 1) (pa_cons (pv 2) pa_nil))))) pa_nil))))), ?_⟩
      refine Evl.s_ret (Evl.ev_is (Evl.ev_andV (isl (.lst hS)) fun _ => ev_allN (bs := xs.map fun v => wi v lo hi) ?_) (congrArg V.bl (eall xs))) q
      rw [← ebs]
      exact Evl.el_lcL (fun _ => true) _ (Evl.ev_var rfl) hS (by omega) (fun _ => rfl) (fun _ _ _ _ _ => et_yes) fun i v H1 e1 hv _ => items e1 hi0 hv
    | @tup a xs hS hl hi0 =>
      refine ⟨_, pss_one (ps_ret (pe_and (pe_call GL hr (by rfl) gL FL.kp bL .nil pass0 (pa_cons (pv 0) pa_nil)) (pe_one (pe_callB (cr_all rfl) (by rfl) mall (by decide +kernel) (pa_cons
          (pe_lc (own := [("item", 3)]) (g := gName 3) (tt := tYes) rfl nd (pi_tup (pv 0)) (blkOk_by (N := ["value", "least", "most", "item"]) (sc := defScope sRow) (by decide +kernel)) (fun _ _ _ _ _ => pg_name (i := 3) nd rfl (Or.inl rfl)) (fun _ _ _ _ _ => pts_nil)
            (fun _ _ _ _ _ => pe_call GW (hr) (by rfl) gW FW.kp bW .nil pass0 (pa_cons (pv 3) (pa_cons (pv 1) (pa_cons (pv 2) pa_nil))))) pa_nil))))), ?_⟩
      refine Evl.s_ret (Evl.ev_is (Evl.ev_andV (isl (.tup hS)) fun _ => ev_allN (bs := xs.map fun v => wi v lo hi) ?_) (congrArg V.bl (eall xs))) q
      rw [← ebs]
      exact el_lcT (fun _ => true) _ (Evl.ev_var rfl) hS (by omega) (fun _ => rfl) (fun _ _ _ _ _ => et_yes) fun i v H1 e1 hv _ => items e1 hi0 hv
end
end P41
end S_Bac
section S_Wh
namespace Hk
open PySem PySem.Spec PyProof.Rows L2 LamX Tl
/-- a def called where no repr is under way, its code object known -/
theorem fn_gC {P : Program} {w : World} {K : PySem.W.Frag} {mg : Str → Option Value} {base : Heap} {x qual : Str} {st : Stmt} {f c : Addr} {fd : FuncData} {N ps : List Str} {k : Nat} {sp : Sp} (F : Fun K x qual st f fd) (hcode : fd.code = .ref c) (S : FnScope N ps (defScope st))
    (len : ∀ {vs H Q E}, sp vs H Q E → vs.length = ps.length)
    (hbody : ∀ (A : Around) (outer : List Env) (s : Shared) (H : Hp) (vs : List V) (Q : VK) (E : XK), A.guards = some [] → Room k (A.deeper (envOfC qual (defScope st) s.heap.objs.size f (.ref c))) → sp vs H Q E →
      ∃ t, PSs (cxOf CX0 P w K mg base N qual (defScope st) f (.ref c) A outer s H E).nox (defBody st) t ∧ t { nx := fun _ H' => Q .non H', rt := Q } (start N vs) H) : FnG P w K mg base (k + 1) f fd ps sp := by
  obtain ⟨oc, od, kV, doc, pm, an, cdv, ct, osl, rfl, lk, hcd⟩ := F.ex
  obtain rfl : cdv = .ref c := hcode
  refine ⟨len, fun {A outer s H args us vs Q E} hgd hr e0 hb r hsp => ?_⟩
  have kin : K.In s.heap := e0.mod.kin.keeps fun b o e => (e0.bs b o e).1
  have nl : s.heap.NoLimit := e0.mod.nolimit.keeps fun b o e => (e0.bs b o e).1
  refine codeAny_call_function hr.depth (kin _ _ lk) rfl S.co S.gen rfl (PySem.W.codeRec_of kin hcd) (hb _ _ _ _ (wpAny_newFunctionEnv_cells S.kind ?_ fun env he s1 x => ?_))
  · intro y hy
    have hp : y.1 ∈ ps := (List.of_mem_zip (a := y.1) (b := y.2) hy).1
    exact (S.par y.1 hp).imp id fun q => ⟨q, PySem.W.cellsFrom_some _ _ _ (.inl q)⟩
  · cases he
    obtain ⟨t, ht, hq⟩ := hbody A outer s H vs Q E hgd (hr.deeper _) hsp
    have I := inv_start (CX := CX0) (P := P) (w := w) (base := base) (E := E) (qual := qual) (f := f) (cd := .ref c) S hr.hd e0 (len hsp) r x
    refine ⟨nl.keeps x.toInCall.keep, codeAny_func (wpAny_mono (ht.nox.run [] s1 (start N vs) H _ I hq) (fun fl s' hs => ?_) fun _ _ hs => hs)⟩
    cases fl with
    | ret u =>
      obtain ⟨v, σ', H', J, rv, q⟩ := hs
      exact ⟨v, H', J.os, J.bare, J.base, J.hok, rv, q⟩
    | next =>
      obtain ⟨σ', H', J, q⟩ := hs
      exact ⟨.non, H', J.os, J.bare, J.base, J.hok, rfl, q⟩
    | brk => exact hs.elim fun _ h => h.elim fun _ h => h.2.elim
    | cont => exact hs.elim fun _ h => h.elim fun _ h => h.2.elim
theorem passF {X : Cx} {P : Program} {w : World} : Passes (L2.CX P w) X E0 := fun _ _ _ _ _ _ _ c => by
  obtain ⟨_, _, _, _, _, _, _, _, _, _, _, _, h⟩ := c
  exact h.elim
section
open Evl
variable {K : PySem.W.Frag} {σ : L2.St} {H H' : Hp} {ta tb te : TE}
theorem el_listT {p : Addr} {xs : List V} (ha : Ev ta σ H (.ref p)) (h : SqT K H p xs) : EvL (tCB (rListS K) (tCons ta tNil)) σ H xs := fun H1 e Q q =>
  ha H1 e _ fun H2 e2 => ⟨p, xs, rfl, .inr (ex_t (e.trans e2) h), fun l hl => q l _ (fresh_back e2 hl) (e2.trans (Ex.new hl)) upd_same⟩
theorem el_listU {xs : List V} (ha : EvU ta σ H xs) : EvL (tCB (rListS K) (tCons ta tNil)) σ H xs := fun H1 e Q q =>
  ha H1 e _ fun p H2 hp e2 h2 => ⟨p, xs, rfl, .inr (st_of h2), fun l hl => q l _ (fresh_back e2 hl) (e2.trans (Ex.new hl)) upd_same⟩
theorem ev_lenU {xs : List V} (ha : EvU ta σ H xs) : Ev (tCB (rLenS K) (tCons ta tNil)) σ H (.int (xs.length : Int)) := fun H1 e Q q =>
  ha H1 e _ fun p H2 _ e2 h2 => ⟨p, xs, rfl, .inr (st_of h2), q H2 e2⟩
/-- a tuple with these items, new or not -/
def EvTp (K : PySem.W.Frag) (te : TE) (σ : L2.St) (H : Hp) (xs : List V) : Prop := ∀ H1, Ex H H1 → ∀ Q : VK, (∀ p H2, Ex H1 H2 → SqT K H2 p xs → Q (.ref p) H2) → te σ H1 Q
theorem tp_u {xs : List V} (h : EvU te σ H xs) : EvTp K te σ H xs := fun H1 e Q q => h H1 e Q fun p H2 _ e2 h2 => q p H2 e2 (st_of h2)
theorem tp_slTo {th : TO} {a : Addr} {xs : List V} {n : Nat} (h : Ev te σ H (.ref a)) (h2 : EvO th σ H (some (n : Int))) (hs : SqT K H a xs) (hn : n ≤ xs.length) : EvTp K (tSl (rSlA K) te tNoPart th) σ H (xs.take n) := fun H1 e Q q =>
  h H1 e _ fun H2 e2 => h2 H2 (e.trans e2) _ fun H4 e4 => by
    have hh := ex_t ((e.trans e2).trans e4) hs
    have ec : cutV xs none (some (n : Int)) = xs.take n := by
      unfold cutV
      rw [HT.sIx_none, HT.sIx_nat, List.drop_zero, Nat.sub_zero, Nat.min_eq_left hn]
    refine ⟨a, xs, rfl, hh, fun hw => ?_, fun _ p hp => ?_⟩
    · have e1 := hw.2
      rw [HT.sIx_nat, Nat.min_eq_left hn] at e1
      refine q a H4 (e2.trans e4) ?_
      rw [e1, List.take_length]
      exact hh
    · rw [ec]
      exact q p _ ((e2.trans e4).trans (Ex.new hp)) (st_of upd_same)
/-- ints, as data -/
def dz (ns : List Int) : List PyData := ns.map PyData.int
theorem dp_z : ∀ (ns : List Int), DpAll K H (ns.map V.int) (dz ns)
  | [] => .nil
  | i :: r => .cons (.int i) (dp_z r)
theorem z_shT (ns : List Int) : SeqAt.shaped (.tuple (dz ns)) = true := by
  unfold dz
  simp [SeqAt.shaped, PyData.canLay0, PyData.depth, PySem.W.ke_canLayAll0, PySem.W.ke_depthAll]
theorem z_shL (ns : List Int) : SeqAt.shaped (.list (dz ns)) = true := PySem.W.ke_shaped_ints ns
theorem et_neTp {ns : List Int} (ha : EvTp K ta σ H (ns.map V.int)) (hb : EvTp K tb σ H (ns.map V.int)) : EvT (tTest (tOp (rNeD K) ta tb)) σ H false := fun H1 e Q q =>
  ha H1 e _ fun p H2 e2 h2 => hb H2 (e.trans e2) _ fun p3 H3 e3 h3 => by
    refine ⟨.tuple (dz ns), .tuple (dz ns), .tup (ex_t e3 h2) (dp_z ns), .tup h3 (dp_z ns), z_shT ns, z_shT ns, ?_⟩
    rw [SeqAt.eqv_refl _ (SeqAt.canLay_of_shaped (z_shT ns))]
    exact ⟨false, rfl, q H3 (e2.trans e3)⟩
theorem et_neLL {ns : List Int} (ha : EvL ta σ H (ns.map V.int)) (hb : EvL tb σ H (ns.map V.int)) : EvT (tTest (tOp (rNeD K) ta tb)) σ H false := fun H1 e Q q =>
  ha H1 e _ fun p H2 _ e2 h2 => hb H2 (e.trans e2) _ fun p3 H3 _ e3 h3 => by
    refine ⟨.list (dz ns), .list (dz ns), .lst (sq_of (e3 _ _ h2)) (dp_z ns), .lst (sq_of h3) (dp_z ns), z_shL ns, z_shL ns, ?_⟩
    rw [SeqAt.eqv_refl _ (SeqAt.canLay_of_shaped (z_shL ns))]
    exact ⟨false, rfl, q H3 (e2.trans e3)⟩
theorem piled_le : ∀ {ts : List Str} {c : Nat}, (∀ t ∈ ts, t.length ≤ c) → piled ts ≤ ts.length * (c + 2)
  | [], c, _ => Nat.zero_le _
  | t :: r, c, h => by
    have h1 := h t List.mem_cons_self
    have h2 := piled_le (ts := r) (c := c) fun u hu => h u (List.mem_cons_of_mem _ hu)
    rw [List.length_cons, Nat.succ_mul]
    show t.length + 2 + piled r ≤ _
    omega
theorem listText_le {ts : List Str} {c : Nat} (h : ∀ t ∈ ts, t.length ≤ c) : (listText ts).length ≤ ts.length * (c + 2) + 3 := by
  have hp := piled_le h
  unfold listText
  rw [strLen_append, show (("]" : String) : Str).length = 1 from rfl]
  cases ts with
  | nil =>
    show ((("[" : String) : Str)).length + 1 ≤ _
    rw [show (("[" : String) : Str).length = 1 from rfl]
    omega
  | cons t r =>
    show (textFrom (0 + 1) _ r).length + 1 ≤ _
    rw [textFrom_length_pos r (0 + 1) _ (by decide), strLen_append, strLen_append, show (("[" : String) : Str).length = 1 from rfl]
    have e2 : (((if 0 > 0 then ", " else "" : String)) : Str).length = 0 := rfl
    rw [e2]
    have e3 : piled (t :: r) = t.length + 2 + piled r := piled_cons t r
    omega
theorem shownAll_eq : ∀ ds : List PyData, PyData.shownAll ds = ds.map PyData.shown
  | [] => rfl
  | d :: r => by rw [PyData.shownAll, shownAll_eq r] <;> rfl
theorem z_len {ns : List Int} {b : Nat} (h1 : ns.length ≤ 10000) (h2 : ∀ x ∈ ns, x.natAbs ≤ 64) : (PyData.list (dz ns)).shown.length ≤ sizeLine := by
  show (listText (PyData.shownAll (dz ns))).length ≤ _
  rw [shownAll_eq]
  have := listText_le (ts := (dz ns).map PyData.shown) (c := 66) fun u hu => by
    unfold dz at hu
    rw [List.map_map] at hu
    obtain ⟨x, hx, rfl⟩ := List.mem_map.mp hu
    have b1 := len_str_of_int x
    have b2 := h2 x hx
    show (Str.ofString (toString x)).length ≤ 66
    omega
  rw [List.length_map] at this
  unfold dz at this
  rw [List.length_map] at this
  have h3 : ns.length * (66 + 2) ≤ 10000 * 68 := Nat.mul_le_mul h1 (Nat.le_refl _)
  rw [sizeLine_eq]
  unfold dz
  omega
theorem z_show : ∀ {ns : List Int}, (∀ x ∈ ns, x.natAbs ≤ 64) → PyData.showableAll (dz ns) = true
  | [], _ => rfl
  | x :: r, h => by
    show (decide (x.natAbs.log2 < 1920) && PyData.showableAll (dz r)) = true
    rw [z_show fun y hy => h y (List.mem_cons_of_mem _ hy), Bool.and_true]
    have h1 := h x List.mem_cons_self
    exact decide_eq_true (Nat.lt_of_le_of_lt (Nat.log2_le_self _) (by omega))
theorem z_nd : ∀ ns : List Int, PyData.hasDictAll (dz ns) = false
  | [] => rfl
  | x :: r => by show (false || PyData.hasDictAll (dz r)) = false; rw [z_nd r] <;> rfl
theorem z_deep (ns : List Int) : (PyData.list (dz ns)).depth ≤ 20 := by
  unfold dz
  simp [PyData.depth, PySem.W.ke_depthAll]
/-- repr of a new list of small ints -/
theorem ev_reprZ {ns : List Int} (h : EvL te σ H (ns.map V.int)) (h1 : ns.length ≤ 10000) (h2 : ∀ x ∈ ns, x.natAbs ≤ 64) : Ev (tCB (rRepr K) (tCons te tNil)) σ H (.str (PyData.list (dz ns)).shown) := fun H1 e Q q =>
  h H1 e _ fun p H2 _ e2 h2' => ⟨p, _, rfl, .lst (sq_of h2') (dp_z ns), z_show h2, z_nd ns, z_deep ns, z_len (b := 0) h1 h2, q H2 e2⟩
theorem et_neStr {z : Str} (h1 : Ev ta σ H (.str z)) (h2 : Ev tb σ H (.str z)) : EvT (tTest (tOp rNe ta tb)) σ H false :=
  et_is (et_test (ev_op h1 h2 (rv_ne rfl))) (by rw [decide_eq_true rfl] <;> rfl)
end
end Hk
end S_Wh
section S_Wj
namespace Hk
open PySem PySem.Spec PyProof.Rows L2 Tl RZ
theorem walk_zipT {K : PySem.W.Frag} {a b : Addr} {xs ys : List V} {n : Nat} (hn : n = min xs.length ys.length) : Walk (ItzT K a b) n (fun H => SqT K H a xs ∧ SqT K H b ys) (YPair (fun i => xs[i]?) (fun i => ys[i]?)) := by
  subst hn
  refine ⟨fun i _ hi ⟨q1, q2⟩ => ?_, fun _ ⟨q1, q2⟩ => ⟨xs, ys, q1, q2, by omega⟩, fun i H v H' _ ⟨q1, q2⟩ ⟨T, x, z, z1, z2, z3, z4, z5⟩ => ⟨T, x, z, z1, z2, z3, z4 xs q1, z5 ys q2⟩⟩
  have l1 : i < xs.length := by omega
  have l2 : i < ys.length := by omega
  exact ⟨xs, ys, xs[i], ys[i], q1, q2, by simp [l1], by simp [l2]⟩
theorem aims_pair {K : PySem.W.Frag} {xs ys : List V} {n j1 j2 : Nat} : Aims (gTup K 2 (gCons (gName j1) (gCons (gName j2) gNil))) n (YPair (fun i => xs[i]?) (fun i => ys[i]?))
    (fun i σ => (σ.set j1 (some (xs.getD i .non))).set j2 (some (ys.getD i .non))) := fun i σ H v H' hi y => by
  obtain ⟨T, x, y, rfl, hT, rfl, h1, h2⟩ := y
  have h1 : xs[i]? = some x := h1
  have h2 : ys[i]? = some y := h2
  obtain rfl : xs.getD i .non = x := by rw [List.getD_eq_getElem?_getD, h1]; rfl
  obtain rfl : ys.getD i .non = y := by rw [List.getD_eq_getElem?_getD, h2]; rfl
  exact ⟨Evl.Ex.new hT, fun Q q => ⟨T, _, rfl, Evl.st_of upd_same, rfl, _, _, rfl, _, _, rfl, rfl, q⟩⟩
section
open Evl
variable {K : PySem.W.Frag} {σ : L2.St} {H : Hp} {ta tb te : TE}
theorem ei_zipL {a : Addr} {xs ys : List V} {n : Nat} (hn : n = min xs.length ys.length) (h : Ev ta σ H (.ref a)) (hx : SqL K H a xs) (h2 : EvL tb σ H ys) : EvI (iZipA K (tCons ta (tCons tb tNil))) σ H n (YPair (fun i => xs[i]?) (fun i => ys[i]?)) := fun H1 e R k =>
  h H1 e _ fun H2 e2 => h2 H2 (e.trans e2) _ fun p H3 hp e3 h3 => ⟨a, p, xs, ys, rfl, .inl ⟨ex_l ((e.trans e2).trans e3) hx, sq_of h3, k _ _ H3 (e2.trans e3) (walk_zip hn) fun A ab s => ⟨ex_l ab hx, sq_of (s p _ (fresh_back e2 hp) h3)⟩⟩⟩
theorem ei_zipT {a : Addr} {xs ys : List V} {n : Nat} (hn : n = min xs.length ys.length) (h : Ev ta σ H (.ref a)) (hx : SqT K H a xs) (h2 : EvU tb σ H ys) : EvI (iZipA K (tCons ta (tCons tb tNil))) σ H n (YPair (fun i => xs[i]?) (fun i => ys[i]?)) := fun H1 e R k =>
  h H1 e _ fun H2 e2 => h2 H2 (e.trans e2) _ fun p H3 hp e3 h3 => ⟨a, p, xs, ys, rfl, .inr ⟨ex_t ((e.trans e2).trans e3) hx, st_of h3, k _ _ H3 (e2.trans e3) (walk_zipT hn) fun A ab s => ⟨ex_t ab hx, st_of (s p _ (fresh_back e2 hp) h3)⟩⟩⟩
/-- a tuple's items from the second on: a new tuple -/
theorem eu_slFrom1 {tl : TO} {a : Addr} {xs : List V} (h : Ev te σ H (.ref a)) (h2 : EvO tl σ H (some (1 : Int))) (hs : SqT K H a xs) (hn : 1 ≤ xs.length) : EvU (tSl (rSlA K) te tl tNoPart) σ H (xs.drop 1) := fun H1 e Q q =>
  h H1 e _ fun H2 e2 => h2 H2 (e.trans e2) _ fun H4 e4 => by
    have ec : cutV xs (some ((1 : Nat) : Int)) none = xs.drop 1 := by
      unfold cutV
      rw [HT.sIx_nat, HT.sIx_none, Nat.min_eq_left hn, List.take_of_length_le (by rw [List.length_drop]; omega)]
    refine ⟨a, xs, rfl, ex_t ((e.trans e2).trans e4) hs, fun hw => ?_, fun _ p hp => ?_⟩
    · have e1 := hw.1
      rw [show (1 : Int) = ((1 : Nat) : Int) from rfl, HT.sIx_nat, Nat.min_eq_left hn] at e1
      exact absurd e1 (by decide)
    · rw [show (1 : Int) = ((1 : Nat) : Int) from rfl, ec]
      exact q p _ (fresh_back (e2.trans e4) hp) ((e2.trans e4).trans (Ex.new hp)) upd_same
end
section
variable {t : TT} {tu tw : TS} {D : Ends} {σ : L2.St} {H : Hp}
/-- a for over a range that may be empty, its bound below 0 -/
theorem s_forR1n {ta : TA} {j : Nat} {n : Int} (h : Evl.EvA ta σ H [.int n]) (hn : -100000 ≤ n ∧ n ≤ 100000) (Pv : Nat → L2.St → Hp → Prop) (h0 : ∀ H1, Evl.Ex H H1 → Pv 0 σ H1)
    (hs : ∀ (i : Nat) σ' H', (i : Int) < n → Pv i σ' H' → tu { D with nx := Pv (i + 1), ct := Pv (i + 1), bk := D.nx } (σ'.set j (some (.int (i : Int)))) H') (hd : ∀ σ' H', Pv n.toNat σ' H' → D.nx σ' H') : tFor (iRng1 ta) (gName j) tu D σ H :=
  h H (Evl.Ex.refl H) _ fun G e => ⟨n, rfl, by omega, by omega, for_range (lo := 0) (n := n.toNat) Pv (h0 G e) (fun i σ1 G1 hi p => by
    have z : (0 : Int) + (i : Int) = (i : Int) := Int.zero_add _
    show tu { D with nx := Pv (i + 1), ct := Pv (i + 1), bk := D.nx } (σ1.set j (some (.int ((0 : Int) + (i : Int))))) G1
    rw [z]
    exact hs i σ1 G1 (by omega) p) hd⟩
theorem q_forR1n {tz : TS} {ta : TA} {j : Nat} {n : Int} (h : Evl.EvA ta σ H [.int n]) (hn : -100000 ≤ n ∧ n ≤ 100000) (Pv : Nat → L2.St → Hp → Prop) (h0 : ∀ H1, Evl.Ex H H1 → Pv 0 σ H1)
    (hs : ∀ (i : Nat) σ' H', (i : Int) < n → Pv i σ' H' → tu { D with nx := Pv (i + 1), ct := Pv (i + 1), bk := tz D } (σ'.set j (some (.int (i : Int)))) H') (hd : ∀ σ' H', Pv n.toNat σ' H' → tz D σ' H') : tSeq (tFor (iRng1 ta) (gName j) tu) tz D σ H :=
  s_forR1n (D := { D with nx := tz D }) h hn Pv h0 hs hd
end
end Hk
end S_Wj
section S_Wl
namespace Hk
open PySem PySem.Spec PyProof.Rows L2 Tl
theorem cutAt (xs : List V) {b h : Nat} (hl : b + h ≤ xs.length) : cutV xs (some (b : Int)) (some ((b + h : Nat) : Int)) = (xs.drop b).take h := by
  unfold cutV
  rw [HT.sIx_nat, HT.sIx_nat, Nat.min_eq_left hl, Nat.min_eq_left (by omega), show b + h - b = h by omega]
section
open Evl
variable {K : PySem.W.Frag} {σ : L2.St} {H : Hp} {ta tb : TE}
def zD (ns : List Int) : List PyData := ns.map PyData.int
theorem dp_zD : ∀ (ns : List Int), DpAll K H (ns.map V.int) (zD ns)
  | [] => .nil
  | i :: r => .cons (.int i) (dp_zD r)
theorem eqv_zD (ns ms : List Int) : PyData.eqv (.list (zD ns)) (.list (zD ms)) = decide (ns = ms) := PySem.W.Datum.eqv (α := List Int) ns ms
/-- two new lists of ints, alike or not -/
theorem ev_eqLL {ns ms : List Int} (ha : EvL ta σ H (ns.map V.int)) (hb : EvL tb σ H (ms.map V.int)) : Ev (tOp (rEqD K) ta tb) σ H (.bl (decide (ns = ms))) :=
  ev_opLL ha hb fun p q H1 h1 h2 _ => fun H2 e2 Q k => by
    refine ⟨.list (zD ns), .list (zD ms), .lst (sq_of (e2 _ _ h1)) (dp_zD ns), .lst (sq_of (e2 _ _ h2)) (dp_zD ms), PySem.W.ke_shaped_ints ns, PySem.W.ke_shaped_ints ms, ?_⟩
    rw [eqv_zD]
    exact k H2 (Ex.refl H2)
end
end Hk
namespace Hk
open PySem PySem.Spec PyProof.Rows L2 Tl
section
open Evl
variable {K : PySem.W.Frag} {σ : L2.St} {H : Hp} {ta tb te : TE} {t : TT}
/-- a comprehension over anything that is walked, with a test: the turns that give, and what -/
theorem el_lcI {wi : TI} {g : TG} {vs : List Nat} {n : Nat} {Y : Nat → Hp → V → Hp → Prop} {s : Nat → L2.St → L2.St} (f : Nat → Bool) (v : Nat → V) (hw : EvI wi σ H n Y) (aim : Aims g n Y s) (hs : ∀ i, wipe (s i (wipe σ vs)) vs = wipe σ vs) (hn : n ≤ 40000)
    (ht : ∀ i H1, Ex H H1 → i < n → EvT t (s i (wipe σ vs)) H1 (f i)) (he : ∀ i H1, Ex H H1 → i < n → f i = true → Ev te (s i (wipe σ vs)) H1 (v i)) : EvL (tLc wi g t te vs) σ H (given n f v) := fun H1 e Q q =>
  hw H1 e _ fun J G H2 e2 w sG D hD => lc_it w (Cw H2 f v D) ⟨hD, Ex.new hD, upd_same⟩ (fun i H' _ p => sG H' ((e.trans e2).trans p.2.1) fun a o _ ha => p.2.1 _ _ ha)
    (fun i x A B hi p y => by
      obtain ⟨ab, k⟩ := aim i (wipe σ vs) A x B hi y
      exact k _ ⟨hs i, cw_turn ⟨p.1, p.2.1.trans ab, ab _ _ p.2.2⟩ (by omega) (ht i H2 (e.trans e2) hi) fun hf => he i H2 (e.trans e2) hi hf⟩)
    (fun H' p => q D H' (fresh_back e2 p.1) (e2.trans p.2.1) p.2.2)
theorem el_catN {xs ys : List V} (ha : EvL ta σ H xs) (hb : EvL tb σ H ys) (hz : xs.length + ys.length ≤ 100000) : EvL (tOp rCat ta tb) σ H (xs ++ ys) := fun H1 e Q q =>
  ha H1 e _ fun a H2 ha' e2 h2 => hb H2 (e.trans e2) _ fun p H3 _ e3 h3 => ⟨a, p, xs, ys, rfl, rfl, e3 _ _ h2, h3, sz_of hz, fun r hr => q r _ (fresh_back (e2.trans e3) hr) ((e2.trans e3).trans (Ex.new hr)) upd_same⟩
end
theorem yes_at {σ : L2.St} {H : Hp} {P R : Hp → Prop} (h : P H) : tYes σ H fun b H3 => if b = true then P H3 else R H3 := by
  show (if true = true then P H else R H)
  rw [if_pos rfl]
  exact h
theorem if_go {b : Bool} {P R : Prop} (h1 : b = true → P) (h2 : b = false → R) : if b = true then P else R := by
  cases b with
  | true => rw [if_pos rfl]; exact h1 rfl
  | false => rw [if_neg (by decide)]; exact h2 rfl
theorem cutTo' (xs : List V) (n : Nat) : cutV xs none (some (n : Int)) = xs.take n := by
  unfold cutV
  rw [HT.sIx_none, HT.sIx_nat, List.drop_zero, Nat.sub_zero]
  by_cases h : n ≤ xs.length
  · rw [Nat.min_eq_left h]
  · rw [Nat.min_eq_right (by omega), List.take_length, List.take_of_length_le (by omega)]
theorem cutFrom (xs : List V) (n : Nat) : cutV xs (some (n : Int)) none = xs.drop n := by
  unfold cutV
  rw [HT.sIx_nat, HT.sIx_none]
  by_cases h : n ≤ xs.length
  · rw [Nat.min_eq_left h, List.take_of_length_le (by rw [List.length_drop]; omega)]
  · rw [Nat.min_eq_right (by omega), Nat.sub_self, List.take_zero, List.drop_of_length_le (by omega)]
end Hk
namespace Hk
open PySem PySem.Spec PyProof.Rows L2 Tl
section
open Evl
variable {K : PySem.W.Frag} {σ : L2.St} {H : Hp} {ta tb te : TE} {t : TT}
theorem el_catNV {m : Addr} {xs ys : List V} (ha : EvL ta σ H xs) (hb : Ev tb σ H (.ref m)) (hm : H m = some (.lst ys)) (hz : xs.length + ys.length ≤ 100000) : EvL (tOp rCat ta tb) σ H (xs ++ ys) := fun H1 e Q q =>
  ha H1 e _ fun a H2 ha' e2 h2 => hb H2 (e.trans e2) _ fun H3 e3 => ⟨a, m, xs, ys, rfl, rfl, e3 _ _ h2, e3 _ _ (e2 _ _ (e _ _ hm)), sz_of hz, fun r hr => q r _ (fresh_back (e2.trans e3) hr) ((e2.trans e3).trans (Ex.new hr)) upd_same⟩
theorem el_rg1 {j : Int} (ha : Ev ta σ H (.int j)) (h : RgOk 0 j) : EvL (tLstRg (tRg1 ta)) σ H (rgV 0 j) := fun H1 e Q q =>
  ha H1 e _ fun H2 e2 => ⟨j, rfl, h, fun p hp => q p _ (fresh_back e2 hp) (e2.trans (Ex.new hp)) upd_same⟩
end
end Hk
namespace Hk
open PySem PySem.Spec PyProof.Rows L2 LamX Tl
theorem tupText_le {ts : List Str} {c : Nat} (h : ∀ t ∈ ts, t.length ≤ c) : (tupleText ts).length ≤ ts.length * (c + 2) + 3 := by
  unfold tupleText
  rw [strLen_append, strLen_append]
  have e1 : (("(" : String) : Str).length = 1 := rfl
  have e2 : (((if ts.length == 1 then ",)" else ")" : String)) : Str).length ≤ 2 := by split <;> decide
  have e3 : (Str.join ", " ts).length ≤ piled ts := by
    cases ts with
    | nil => exact Nat.le_refl _
    | cons t r => have := join_length_add (t :: r) (by simp); omega
  have := piled_le h
  omega
theorem z_lenT {ns : List Int} {c : Nat} (h1 : ns.length * (c + 4) ≤ 100000) (h2 : ∀ x ∈ ns, x.natAbs ≤ c) : (PyData.tuple (dz ns)).shown.length ≤ sizeLine := by
  show (tupleText (PyData.shownAll (dz ns))).length ≤ _
  rw [shownAll_eq]
  have := tupText_le (ts := (dz ns).map PyData.shown) (c := c + 2) fun u hu => by
    unfold dz at hu
    rw [List.map_map] at hu
    obtain ⟨x, hx, rfl⟩ := List.mem_map.mp hu
    have b1 := len_str_of_int x
    have b2 := h2 x hx
    show (Str.ofString (toString x)).length ≤ c + 2
    omega
  rw [List.length_map] at this
  unfold dz at this
  rw [List.length_map] at this
  have h3 : ns.length * (c + 2 + 2) ≤ 100000 := h1
  rw [sizeLine_eq]
  unfold dz
  omega
theorem z_showB {b : Nat} (hb : b < 2 ^ 1000) : ∀ {ns : List Int}, (∀ x ∈ ns, x.natAbs ≤ b) → PyData.showableAll (dz ns) = true
  | [], _ => rfl
  | x :: r, h => by
    show (decide (x.natAbs.log2 < 1920) && PyData.showableAll (dz r)) = true
    rw [z_showB hb fun y hy => h y (List.mem_cons_of_mem _ hy), Bool.and_true]
    have h1 := h x List.mem_cons_self
    refine decide_eq_true ?_
    by_cases z : x.natAbs = 0
    · rw [z]; decide
    · have := (Nat.log2_lt z (k := 1000)).mpr (by omega)
      omega
theorem z_deepT (ns : List Int) : (PyData.tuple (dz ns)).depth ≤ 20 := by
  unfold dz
  simp [PyData.depth, PySem.W.ke_depthAll]
/-- repr of data at an address, or of None -/
def rReprB (K : PySem.W.Frag) : List V → Hp → VK → Prop := fun xs H Q => rRepr K xs H Q ∨ (xs = [.non] ∧ Q (.str "None") H)
theorem call_reprB {X : Cx} (hg : X.A.guards = some []) (hu : X.A.units + 64 < cLine) : CallR X (.builtin "repr") (rReprB X.K) := by
  intro pins s σ H xs us Q I r h
  rcases h with h | ⟨rfl, q⟩
  · exact call_reprD hg hu _ _ _ _ _ _ _ I r h
  · obtain ⟨u, rfl, ru⟩ := vals1 r
    cases ru
    exact PySem.P.repr_of_none ⟨.str "None", H, I.tok _, ⟨_, rfl⟩, q⟩
end Hk
end S_Wl
section S_Wm
namespace Hk
open PySem PySem.Spec PyProof.Rows L2 Tl
/-- a set without items, as set() lays it -/
abbrev zO (w : World) : Obj := { cls := .type "set", dict := none, data := .set #[] 0 (.fresh 0 0 (!w.params.followText "set-order")) }
/-- what comes of set(l), l a list of these ints -/
def Got (w : World) (s : Shared) (ns : List Int) (r : Value) (s2 : Shared) : Prop := r = .ref s.heap.objs.size ∧ ∃ (h' : Heap) (tk c : Nat), s2 = { s with heap := h', toks := tk } ∧ SetR w h' s.heap.objs.size (fun j => decide (j ∈ ns)) c ∧ c ≤ ns.length ∧ ∀ b o, s.heap.get? b = some o → h'.get? b = some o
section
variable {P : Program} {w : World} {A : Around} {E : Value → Shared → Prop} {s : Shared}
set_option maxHeartbeats 3200000 in
theorem fill_list {l : Addr} {its : Array Value} {ns : List Int} (a0 : A.handled = none) (hl : s.heap.IsList l its) (hi : IntsAre its.toList ns) (hb : ns.length + 1 < scanBound) :
    codeAny (model P w) A (.call (.builtin "set.__init__") ⟨[.ref s.heap.objs.size, .ref l], []⟩) (wants (fun r s2 => r = .none ∧ Got w s ns (.ref s.heap.objs.size) s2) E) { s with heap := s.heap.push (zO w) } := by
  have n1 : its.size = ns.length := by
    have z := IntsAre.length hi
    rwa [Array.length_toList] at z
  have g0 : (s.heap.push (zO w)).get? s.heap.objs.size = some (zO w) := Heap.get?_push_size _ rfl
  refine codeAny_call_builtin (R := wants (fun r s2 => r = .none ∧ Got w s ns (.ref s.heap.objs.size) s2) E) F.called_set.init.plain F.entry_set_init (check_set_init_1 (s := { s with heap := s.heap.push (zO w) }) ⟨_, g0, rfl⟩ ?_)
  obtain ⟨⟨oc, od, ob, osl⟩, o1, o2, nl, o3⟩ := hl
  simp only at o2 o3
  subst o2
  subst o3
  have g1 := Heap.get?_push_of_some (zO w) o1
  have hls : (s.heap.push (zO w)).IsList l its := ⟨_, g1, rfl, nl, rfl⟩
  have k1 := F.sub_list_set
  have k2 := F.sub_list_frozenset
  have k3 : (Value.type "list" == Value.type "dict") = false := by decide
  unfold Builtin.«set.__init__» noKeywords Builtin.Frozenset.updateFrom
  generalize hPI : pyIter = PI
  wp_walk
  subst hPI
  refine wpAny_pyIter_list hls (wpAny_bind (wpAny_runValue ?_))
  have lS : l < s.heap.objs.size := Heap.lt_size o1
  have sz : (s.heap.push (zO w)).objs.size = s.heap.objs.size + 1 := Heap.size_push ..
  have a3 : A.in1.in1.handled = none := by simp [a0]
  have nI : l ≠ (s.heap.push (zO w)).objs.size := by
    rw [sz]
    exact Nat.ne_of_lt (Nat.lt_succ_of_lt lS)
  have nS : s.heap.objs.size ∉ [(s.heap.push (zO w)).objs.size, l] := fun m => by
    rw [sz] at m
    rcases List.mem_cons.mp m with z | z
    · exact Nat.ne_of_lt (Nat.lt_succ_self _) z
    · exact Nat.ne_of_gt lS (List.mem_singleton.mp z)
  have val : ∀ (i : Nat) (v : Value), its[i]? = some v → ∃ k t, ns[i]? = some k ∧ v = .int k t := fun i v hv => by
    have lt : i < ns.length := by rw [← n1]; exact (Array.getElem?_eq_some_iff.mp hv).1
    obtain ⟨t, e⟩ := PyProof.Rows.IntsAre.int_at hi i v (by rw [Array.getElem?_toList]; exact hv)
    exact ⟨ns[i], t, List.getElem?_eq_getElem lt, by rw [e, List.getD_eq_getElem?_getD, List.getElem?_eq_getElem lt] <;> rfl⟩
  refine set_update_ints ((Walks.list a3 _ l nI its).toS) s.heap.objs.size nS ns n1 hb val (its.size - 0) 0 _ (by omega) (Nat.zero_le _) ?z ?z0 ?z1
  case z => exact ⟨⟨_, Heap.get?_push_size _ rfl, rfl, rfl⟩, (hls.push _)⟩
  case z0 => exact ⟨0, Nat.le_refl 0, setR_new_at (Heap.get?_push_of_some _ g0)⟩
  case z1 =>
    intro s' c' hm hc' hS'
    obtain ⟨h', g2, d2, tk', os2⟩ := s'
    obtain rfl : g2 = s.gens := hm.gens
    obtain rfl : d2 = s.drawn := hm.drawn
    obtain rfl : os2 = s.os := hm.os
    show wpAny _ _ _ _ _ _
    refine wpAny_pure ?_
    show wpAny _ _ (ret Value.none) _ _ _
    rw [n1] at hc'
    refine wpAny_pure ⟨rfl, rfl, h', tk', c', rfl, hS', hc', fun b o e => ?_⟩
    have lb : b < s.heap.objs.size := Heap.lt_size e
    refine hm.heap b o (fun m => ?_) (Heap.get?_push_of_some _ (Heap.get?_push_of_some _ e))
    rcases List.mem_cons.mp m with z | z
    · exact Nat.ne_of_lt lb z
    · have z := List.mem_singleton.mp z
      rw [sz] at z
      exact Nat.ne_of_lt (Nat.lt_succ_of_lt lb) z
set_option maxHeartbeats 3200000 in
theorem set_of_list {l : Addr} {its : Array Value} {ns : List Int} {Q : Value → Shared → Prop} (a0 : A.handled = none) (hl : s.heap.IsList l its) (hi : IntsAre its.toList ns) (hb : ns.length + 1 < scanBound)
    (k : ∀ r s2, Got w s ns r s2 → Q r s2) : wpAny (model P w) A (call (.type "set") [.ref l]) Q E s := by
  obtain ⟨c, tl, hmro⟩ := F.called_set.mro
  refine wpAny_call (codeAny_of_tree ?_)
  show wpAny _ _ (callAny (.type "set") _) _ _ _
  refine wpAny_pure ⟨Code.quiet_builtin _ (by decide +kernel), codeAny_builtin F.entry_type_call ?_⟩
  rw [Around.under_plain (weight_type_call_type "set" [.ref l] []) rfl]
  have m1 := F.called_set.made
  have m2 := F.called_set.sub
  have m3 := F.called_set.notType
  have m4 := F.called_set.canCreate
  have m5 := F.typeCall_set_1 (.ref l)
  repeat (any_goals (first | assumption | wp_step))
  refine codeAny_mono (code_set_led1 (.ref l) (E := E) (Q₁ := fun u t => u = .ref s.heap.objs.size ∧ t = { s with heap := s.heap.push (zO w) }) ⟨rfl, rfl⟩) fun r s1 hr => ?_
  match r, hr with
  | .ok (.ret u), hr =>
    obtain ⟨rfl, rfl⟩ := hr
    have g0 : (s.heap.push (zO w)).get? s.heap.objs.size = some (zO w) := Heap.get?_push_size _ rfl
    have hT : Shared.TypeIs { s with heap := s.heap.push (zO w) } (.ref s.heap.objs.size) "set" := ⟨_, g0, rfl⟩
    have m6 := F.called_set.init.lookup
    have m7 := F.called_set.init.bind (.ref s.heap.objs.size)
    repeat (any_goals (first | assumption | wp_step))
    refine codeAny_mono (fill_list (P := P) (w := w) (E := E) a0 hl hi hb) fun r2 s2 h2 => ?_
    match r2, h2 with
    | .ok (.ret u), h2 =>
      obtain ⟨rfl, G⟩ := h2
      repeat (any_goals (first | assumption | wp_step))
      exact k _ _ G
    | .error e, h2 => exact h2
    | .ok .next, h2 => exact h2.elim
    | .ok .brk, h2 => exact h2.elim
    | .ok .cont, h2 => exact h2.elim
  | .error e, hr => exact hr
  | .ok .next, hr => exact hr.elim
  | .ok .brk, hr => exact hr.elim
  | .ok .cont, hr => exact hr.elim
end
/-- set(l) of a list of ints -/
def rSetL (K : PySem.W.Frag) (w : World) : List V → Hp → VK → Prop := fun xs H Q => ∃ (l : Addr) (ns : List Int), xs = [.ref l] ∧ SqL K H l (ns.map V.int) ∧ ns.length ≤ 1000 ∧ ∀ p c, H p = none → c ≤ ns.length → Q (.ref p) (upd H p (SetO w p (fun j => decide (j ∈ ns)) c))
theorem cr_setL {X : Cx} (hc : X.calm = true) : CallR X (.type "set") (rSetL X.K X.w) := by
  intro pins s σ H xs us Q I r h
  obtain ⟨l, ns, rfl, hq, hz, q⟩ := h
  rw [Vals.ref1 r]
  obtain ⟨its, rv, pl, _⟩ := I.list hq
  refine set_of_list (ns := ns) (I.ok.hd hc) pl.isList (by simpa using RZ.intsAre_vals rv) (by unfold scanBound; omega) fun u s2 ⟨e1, h', tk, c, e2, R, hc', kp⟩ => ?_
  subst e1 e2
  have hn : H s.heap.objs.size = none := I.hok.fresh (Nat.le_refl _)
  exact ⟨.ref s.heap.objs.size, _, I.laid (t' := tk) kp (Nat.le_refl _) (setO_new R), rfl, q _ c hn hc'⟩
end Hk
end S_Wm
section S_Wn
namespace Hk
open PySem PySem.Spec PyProof.Rows L2 Tl
/-- the i-th of xs, and what stands while it is walked -/
def YRow (xs : List V) (W : Hp → Prop) : Nat → Hp → V → Hp → Prop := fun i H v H' => H' = H ∧ xs[i]? = some v ∧ W H
section
open Evl
variable {K : PySem.W.Frag} {σ : L2.St} {H : Hp} {te : TE}
theorem ei_rowsL {a : Addr} {xs : List V} {n : Nat} {W : Hp → Prop} (h : Ev te σ H (.ref a)) (hx : SqL K H a xs) (hn : n = xs.length) (hW : ∀ A, Ex H A → W A) : EvI (iList K te) σ H n (YRow xs W) := fun H1 e R k => by
  subst hn
  exact h H1 e _ fun H2 e2 => ⟨a, rfl, ⟨xs, ex_l (e.trans e2) hx⟩, k _ (fun A => SqL K A a xs ∧ W A) H2 e2 (walk_list.mono (fun _ q => q.1) fun i A v A' hi q y => ⟨y.1, y.2, q.2⟩) fun A ab _ => ⟨ex_l ab hx, hW A ab⟩⟩
theorem ei_rowsT {a : Addr} {xs : List V} {n : Nat} {W : Hp → Prop} (h : Ev te σ H (.ref a)) (hx : SqT K H a xs) (hn : n = xs.length) (hW : ∀ A, Ex H A → W A) : EvI (iTup K te) σ H n (YRow xs W) := fun H1 e R k => by
  subst hn
  exact h H1 e _ fun H2 e2 => ⟨a, rfl, ⟨xs, ex_t (e.trans e2) hx⟩, k _ (fun A => SqT K A a xs ∧ W A) H2 e2 (walk_tup.mono (fun _ q => q.1) fun i A v A' hi q y => ⟨y.1, y.2, q.2⟩) fun A ab _ => ⟨ex_t ab hx, hW A ab⟩⟩
theorem ei_rng3 {ta : TA} {i j c : Int} {n : Nat} (h : EvA ta σ H [.int i, .int j, .int c]) (hr : RgC i j c n) : EvI (iRng3 ta) σ H n (YFn fun k => .int (i + (k : Nat) * c)) := fun H1 e R k =>
  h H1 e _ fun H2 e2 => ⟨i, j, c, n, rfl, hr, k _ _ H2 e2 walk_rangeC fun _ _ _ => trivial⟩
end
section
open Evl
variable {K : PySem.W.Frag} {σ : L2.St} {H : Hp}
/-- tuple(list made now) -/
theorem en_tupNL {ta : TE} {L : List V → Hp → Prop} (h : EvNL ta σ H L) : EvN (tCB (fun xs H Q => ∃ p ys, xs = [V.ref p] ∧ ((SqL K H p ys ∧ ∀ l, H l = none → Q (V.ref l) (upd H l (HO.tup ys))) ∨ (SqT K H p ys ∧ Q (V.ref p) H))) (tCons ta tNil)) σ H
    (fun u H' => ∃ t xs, u = .ref t ∧ H' t = some (.tup xs) ∧ L xs H') := fun H1 e Q q =>
  h H1 e _ fun p xs H2 hp e2 h2 hL => ⟨p, xs, rfl, .inl ⟨sq_of h2, fun t ht => q _ _ (e2.trans (Ex.new ht)) fun H3 h3 s3 => ⟨t, xs, rfl, s3 _ _ (fresh_back e2 ht) upd_same, hL H3 h3 fun a o _ ha hb => by
    refine s3 a o ha ?_
    rw [upd_ne (ne_of_none hb ht)]
    exact hb⟩⟩⟩
end
theorem ev_anyN {K : PySem.W.Frag} {ta : TE} {σ : L2.St} {H : Hp} {bs : List Bool} (h : Evl.EvL ta σ H (bs.map V.bl)) : Evl.Ev (tCB (rAny K) (tCons ta tNil)) σ H (.bl (bs.any id)) := fun H1 e Q q =>
  h H1 e _ fun p H2 hp e2 h2 => ⟨p, bs, rfl, Evl.sq_of h2, q H2 e2⟩
/-- a for over what EvI tells; the body may write what is not of the walk -/
theorem s_forI {wi : TI} {g : TG} {tb : TS} {D : Ends} {σ : L2.St} {H B : Hp} {n : Nat} {Y : Nat → Hp → V → Hp → Prop} {s : Nat → L2.St → L2.St} (hw : EvI wi σ B n Y) (aim : Aims g n Y s) (e : Evl.Ex B H) (Pv : Hp → Nat → L2.St → Hp → Prop) (h0 : ∀ H2, Evl.Ex H H2 → Pv H2 0 σ H2)
    (hk : ∀ H2 i σ' H', Evl.Ex H H2 → i ≤ n → Pv H2 i σ' H' → Evl.Ex B H' ∧ Since H H2 H') (hs : ∀ H2 i σ' H' H'', Evl.Ex H H2 → i < n → Pv H2 i σ' H' → Evl.Ex H' H'' → tb { D with nx := Pv H2 (i + 1), ct := Pv H2 (i + 1), bk := D.nx } (s i σ') H'')
    (hd : ∀ H2 σ' H', Evl.Ex H H2 → Pv H2 n σ' H' → D.nx σ' H') : tFor wi g tb D σ H :=
  hw H e _ fun J G H2 e2 w sG => for_it w (Pv H2) (h0 H2 e2) (fun i σ' H' hi p => sG H' (hk H2 i σ' H' e2 hi p).1 (hk H2 i σ' H' e2 hi p).2)
    (fun i x σ' H' H'' hi p y => by
      obtain ⟨ab, k⟩ := aim i σ' H' x H'' hi y
      exact k _ (hs H2 i σ' H' H'' e2 hi p ab)) (fun σ' H' p => hd H2 σ' H' e2 p)
theorem q_forI {wi : TI} {g : TG} {tb tz : TS} {D : Ends} {σ : L2.St} {H B : Hp} {n : Nat} {Y : Nat → Hp → V → Hp → Prop} {s : Nat → L2.St → L2.St} (hw : EvI wi σ B n Y) (aim : Aims g n Y s) (e : Evl.Ex B H) (Pv : Hp → Nat → L2.St → Hp → Prop) (h0 : ∀ H2, Evl.Ex H H2 → Pv H2 0 σ H2)
    (hk : ∀ H2 i σ' H', Evl.Ex H H2 → i ≤ n → Pv H2 i σ' H' → Evl.Ex B H' ∧ Since H H2 H') (hs : ∀ H2 i σ' H' H'', Evl.Ex H H2 → i < n → Pv H2 i σ' H' → Evl.Ex H' H'' → tb { D with nx := Pv H2 (i + 1), ct := Pv H2 (i + 1), bk := tz D } (s i σ') H'')
    (hd : ∀ H2 σ' H', Evl.Ex H H2 → Pv H2 n σ' H' → tz D σ' H') : tSeq (tFor wi g tb) tz D σ H := s_forI (D := { D with nx := tz D }) hw aim e Pv h0 hk hs hd
theorem el_catVN {σ : L2.St} {H : Hp} {ta tb : TE} {m : Addr} {xs ys : List V} (ha : Evl.Ev ta σ H (.ref m)) (hm : H m = some (.lst xs)) (hb : Evl.EvL tb σ H ys) (hz : xs.length + ys.length ≤ 100000) : Evl.EvL (tOp rCat ta tb) σ H (xs ++ ys) := fun H1 e Q q =>
  ha H1 e _ fun H2 e2 => hb H2 (e.trans e2) _ fun p H3 _ e3 h3 => ⟨m, p, xs, ys, rfl, rfl, e3 _ _ (e2 _ _ (e _ _ hm)), h3, Evl.sz_of hz, fun r hr => q r _ (Evl.fresh_back (e2.trans e3) hr) ((e2.trans e3).trans (Evl.Ex.new hr)) upd_same⟩
/-- a, b = a row of two -/
theorem aims_rowT2 {K : PySem.W.Frag} {xs : List V} {n j1 j2 : Nat} {c : Nat → V × V} : Aims (gTup K 2 (gCons (gName j1) (gCons (gName j2) gNil))) n
    (YRow xs fun H => ∀ i v, i < n → xs[i]? = some v → ∃ r, v = .ref r ∧ H r = some (.tup [(c i).1, (c i).2])) (fun i σ => (σ.set j1 (some (c i).1)).set j2 (some (c i).2)) := fun i σ H v H' hi y => by
  obtain ⟨rfl, hv, w⟩ := y
  obtain ⟨r, rfl, hr⟩ := w i v hi hv
  exact ⟨Evl.Ex.refl _, fun Q q => ⟨r, _, rfl, Evl.st_of hr, rfl, _, _, rfl, _, _, rfl, rfl, q⟩⟩
/-- a, b, c = a row of three, a list -/
theorem aims_rowL3 {K : PySem.W.Frag} {xs : List V} {n j1 j2 j3 : Nat} {c : Nat → V × V × V} : Aims (gLst K 3 (gCons (gName j1) (gCons (gName j2) (gCons (gName j3) gNil)))) n
    (YRow xs fun H => ∀ i v, i < n → xs[i]? = some v → ∃ r, v = .ref r ∧ H r = some (.lst [(c i).1, (c i).2.1, (c i).2.2])) (fun i σ => ((σ.set j1 (some (c i).1)).set j2 (some (c i).2.1)).set j3 (some (c i).2.2)) := fun i σ H v H' hi y => by
  obtain ⟨rfl, hv, w⟩ := y
  obtain ⟨r, rfl, hr⟩ := w i v hi hv
  exact ⟨Evl.Ex.refl _, fun Q q => ⟨r, _, rfl, Evl.sq_of hr, rfl, _, _, rfl, _, _, rfl, _, _, rfl, rfl, q⟩⟩
theorem joinL_length (S : List Nat) : ∀ ps : List (List Nat), (TL.joinL S ps).length ≤ (ps.map List.length).sum + ps.length * S.length
  | [] => by unfold TL.joinL; simp
  | [p] => by unfold TL.joinL; simp
  | p :: q :: r => by
    have ih := joinL_length S (q :: r)
    have e : TL.joinL S (p :: q :: r) = p ++ (S ++ TL.joinL S (q :: r)) := rfl
    rw [e, List.length_append, List.length_append, List.map_cons, List.sum_cons, List.length_cons, Nat.add_mul]
    omega
theorem tl_length (s : Str) : (TL.tl s).length = s.length := (TL.len_tl s).symm
theorem join_len (y : Str) (ps : List Str) : (Txt.join y ps).length ≤ (ps.map (·.length)).sum + ps.length * y.length := by
  rw [← tl_length, TL.join_eq, TL.tl_join]
  refine Nat.le_trans (joinL_length _ _) ?_
  rw [List.map_map, List.length_map, tl_length]
  have : (ps.map (List.length ∘ TL.tl)) = ps.map (·.length) := List.map_congr_left fun p _ => tl_length p
  rw [this] <;> exact Nat.le_refl _
end Hk
namespace Hk
open PySem PySem.Spec PyProof.Rows L2 Tl
open Evl
theorem ev_neNilL {K : PySem.W.Frag} {σ : L2.St} {H : Hp} {ta : TE} {cs : List Int} (h : EvL ta σ H (cs.map V.int)) : Ev (tOp (rNeD K) ta (tLst tNil)) σ H (.bl (!cs.isEmpty)) :=
  ev_opLL (ys := []) h (el_lst ea_nil (Nat.zero_le _)) fun p q H1 h1 h2 _ => fun H2 e2 Q k => by
    refine ⟨.list (zD cs), .list [], .lst (sq_of (e2 _ _ h1)) (dp_zD cs), .lst (sq_of (e2 _ _ h2)) .nil, PySem.W.ke_shaped_ints cs, by decide +kernel, ?_⟩
    have e3 : PyData.eqv (.list (zD cs)) (.list []) = cs.isEmpty := by cases cs <;> rfl
    rw [e3]
    exact k H2 (Ex.refl H2)
/-- the heap without one object -/
def but (t : Addr) (H : Hp) : Hp := fun a => if a = t then none else H a
theorem but_le {t : Addr} {H : Hp} : Ex (but t H) H := fun a o h => by
  unfold but at h
  split at h
  · cases h
  · exact h
theorem but_at {t a : Addr} {H : Hp} (h : a ≠ t) : but t H a = H a := if_neg h
/-- a comprehension whose body draws -/
theorem go_lcT {wi : TI} {g : TG} {tt : TT} {te : TE} {vs : List Nat} {n : Nat} {Y : Nat → Hp → V → Hp → Prop} {s : Nat → L2.St → L2.St} {σ : L2.St} {H : Hp} {Q : VK} {t : Addr} {o : HO} (ho : H t = some o)
    (hw : EvI wi σ (but t H) n Y) (aim : Aims g n Y s) (hs : ∀ i, wipe (s i (wipe σ vs)) vs = wipe σ vs) (hn : n ≤ 40000) (R : Nat → List V → Hp → Prop)
    (h0 : ∀ H2, Ex H H2 → R 0 [] H2) (hx : ∀ i acc A B, R i acc A → Ex A B → R i acc B)
    (hu : ∀ i acc A D l l', H D = none → D ≠ t → A D = some (.lst l) → R i acc A → R i acc (upd A D (.lst l')))
    (hst : ∀ i acc A (F1 : V → Hp → Prop) (F2 : Hp → Prop), i < n → (∀ a o, a ≠ t → H a = some o → A a = some o) → acc.length ≤ i → R i acc A →
      (∀ y H4, (∀ a o, a ≠ t → A a = some o → H4 a = some o) → R (i + 1) (acc ++ [y]) H4 → F1 y H4) → (∀ H3, (∀ a o, a ≠ t → A a = some o → H3 a = some o) → R (i + 1) acc H3 → F2 H3) →
      tt (s i (wipe σ vs)) A fun b H3 => if b = true then te (s i (wipe σ vs)) H3 F1 else F2 H3)
    (hd : ∀ D acc A, H D = none → D ≠ t → A D = some (.lst acc) → acc.length ≤ n → (∀ a o, a ≠ t → H a = some o → A a = some o) → R n acc A → Q (.ref D) A) : tLc wi g tt te vs σ H Q :=
  hw H but_le _ fun J G H2 e2 w sG D hD => by
    have D0 : H D = none := fresh_back e2 hD
    have Dt : D ≠ t := fun z => by rw [z, ho] at D0; cases D0
    have kp : ∀ {A : Hp}, (∀ a o, a ≠ t → H2 a = some o → A a = some o) → ∀ a o, a ≠ t → H a = some o → A a = some o := fun k a o ha h => k a o ha (e2 _ _ h)
    refine lc_it w (fun i A => (∀ a o, a ≠ t → H2 a = some o → A a = some o) ∧ ∃ acc, A D = some (.lst acc) ∧ acc.length ≤ i ∧ R i acc A) ⟨fun a o _ h => Ex.new hD a o h, [], upd_same, Nat.le_refl _, h0 _ (e2.trans (Ex.new hD))⟩ (fun i A _ p => sG A (fun a o h => ?_) fun a o h1 h2 => p.1 a o (fun z => by rw [z, ho] at h1; cases h1) h2)
      (fun i x A B hi p y => ?_) (fun A ⟨p1, acc, p2, p5, p3⟩ => hd D acc A D0 Dt p2 p5 (kp p1) p3)
    · by_cases z : a = t
      · rw [z] at h
        unfold but at h
        rw [if_pos rfl] at h
        cases h
      · rw [but_at z] at h
        exact kp p.1 a o z h
    · obtain ⟨p1, acc, p2, p3, p4⟩ := p
      obtain ⟨ab, k⟩ := aim i (wipe σ vs) A x B hi y
      refine k _ ⟨hs i, ?_⟩
      have hB : B D = some (.lst acc) := ab _ _ p2
      have pB : ∀ a o, a ≠ t → H2 a = some o → B a = some o := fun a o ha h => ab _ _ (p1 a o ha h)
      refine hst i acc B _ _ hi (kp pB) p3 (hx _ _ _ _ p4 ab) (fun y H4 k4 r4 => ?_) fun H3 k3 r3 => ⟨fun a o ha h => k3 a o ha (pB a o ha h), acc, k3 _ _ Dt hB, by omega, r3⟩
      have h4 : H4 D = some (.lst acc) := k4 _ _ Dt hB
      refine ⟨acc, h4, sz_lt (by omega), fun a o ha h => ?_, acc ++ [y], upd_same, by rw [List.length_append, List.length_singleton]; omega, hu _ _ _ _ _ _ D0 Dt h4 r4⟩
      rw [upd_ne (ne_of_none h hD)]
      exact k4 a o ha (pB a o ha h)
end Hk
end S_Wn
section S_Wo
namespace Hk
open PySem PySem.Spec PyProof.Rows L2 Tl
mutual
theorem dp_ex {K : PySem.W.Frag} {H H' : Hp} (e : Evl.Ex H H') : ∀ {v : V} {d : PyData}, Dp K H v d → Dp K H' v d
  | _, _, .non => .non
  | _, _, .bl b => .bl b
  | _, _, .int i => .int i
  | _, _, .str x => .str x
  | _, _, .lst h a => .lst (Evl.ex_l e h) (dpa_ex e a)
  | _, _, .tup h a => .tup (Evl.ex_t e h) (dpa_ex e a)
theorem dpa_ex {K : PySem.W.Frag} {H H' : Hp} (e : Evl.Ex H H') : ∀ {vs : List V} {ds : List PyData}, DpAll K H vs ds → DpAll K H' vs ds
  | _, _, .nil => .nil
  | _, _, .cons h a => .cons (dp_ex e h) (dpa_ex e a)
end
/-- a value that can be compared -/
def DpS (K : PySem.W.Frag) (H : Hp) (v : V) : Prop := ∃ d, Dp K H v d ∧ d.canLay0 = true ∧ d.depth ≤ 5
theorem DpS.ex {K : PySem.W.Frag} {H H' : Hp} {v : V} (h : DpS K H v) (e : Evl.Ex H H') : DpS K H' v := h.imp fun d ⟨a, b⟩ => ⟨dp_ex e a, b⟩
theorem lay_all : ∀ {ds : List PyData}, (∀ d ∈ ds, d.canLay0 = true) → PyData.canLayAll0 ds = true
  | [], _ => rfl
  | d :: r, h => by
    unfold PyData.canLayAll0
    rw [h d List.mem_cons_self, lay_all fun x hx => h x (List.mem_cons_of_mem _ hx)]
    rfl
theorem deep_all {c : Nat} : ∀ {ds : List PyData}, (∀ d ∈ ds, d.depth ≤ c) → PyData.depthAll ds ≤ c
  | [], _ => Nat.zero_le _
  | d :: r, h => by
    unfold PyData.depthAll
    have h1 := h d List.mem_cons_self
    have h2 := deep_all fun x hx => h x (List.mem_cons_of_mem _ hx)
    omega
theorem shaped_list {c : Nat} (hc : c ≤ 60) {ds : List PyData} (h : ∀ d ∈ ds, d.canLay0 = true ∧ d.depth ≤ c) : SeqAt.shaped (.list ds) = true := by
  unfold SeqAt.shaped
  have h1 : (PyData.list ds).canLay0 = true := by unfold PyData.canLay0; exact lay_all fun d hd => (h d hd).1
  have h2 : (PyData.list ds).depth ≤ 64 := by
    have := deep_all fun d hd => (h d hd).2
    unfold PyData.depth
    omega
  rw [h1, decide_eq_true h2] <;> rfl
theorem dps_all {K : PySem.W.Frag} {H : Hp} : ∀ {xs : List V}, (∀ v ∈ xs, DpS K H v) → ∃ ds, DpAll K H xs ds ∧ (∀ d ∈ ds, d.canLay0 = true ∧ d.depth ≤ 5) ∧ ds.length = xs.length
  | [], _ => ⟨[], .nil, fun d hd => (nomatch hd), rfl⟩
  | v :: r, h => by
    obtain ⟨d, a, b⟩ := h v List.mem_cons_self
    obtain ⟨ds, c1, c2, c3⟩ := dps_all (xs := r) fun x hx => h x (List.mem_cons_of_mem _ hx)
    refine ⟨d :: ds, .cons a c1, fun x hx => ?_, by rw [List.length_cons, List.length_cons, c3]⟩
    rcases List.mem_cons.mp hx with rfl | hx
    · exact b
    · exact c2 x hx
theorem eqv_nil (ds : List PyData) : PyData.eqv (.list ds) (.list []) = ds.isEmpty := by
  cases ds with
  | nil => rfl
  | cons d r => rfl
section
open Evl
variable {K : PySem.W.Frag} {σ : L2.St} {H : Hp} {ta tb : TE}
theorem ev_eqNilD {xs : List V} (ha : EvL ta σ H xs) (hb : EvL tb σ H []) (hx : ∀ v ∈ xs, DpS K H v) : Ev (tOp (rEqD K) ta tb) σ H (.bl xs.isEmpty) :=
  ev_opLL ha hb fun p q H1 h1 h2 e1 => fun H2 e2 Q k => by
    obtain ⟨ds, d1, d2, d3⟩ := dps_all (K := K) (H := H2) (xs := xs) fun v hv => (hx v hv).ex (e1.trans e2)
    refine ⟨.list ds, .list [], .lst (sq_of (e2 _ _ h1)) d1, .lst (sq_of (e2 _ _ h2)) .nil, shaped_list (c := 5) (by decide) d2, shaped_list (c := 5) (by decide) (fun d hd => nomatch hd), ?_⟩
    rw [eqv_nil]
    have : ds.isEmpty = xs.isEmpty := by cases ds <;> cases xs <;> first | rfl | (cases d3)
    rw [this]
    exact k H2 (Ex.refl H2)
theorem ev_neNilD {xs : List V} (ha : EvL ta σ H xs) (hb : EvL tb σ H []) (hx : ∀ v ∈ xs, DpS K H v) : Ev (tOp (rNeD K) ta tb) σ H (.bl !xs.isEmpty) :=
  ev_opLL ha hb fun p q H1 h1 h2 e1 => fun H2 e2 Q k => by
    obtain ⟨ds, d1, d2, d3⟩ := dps_all (K := K) (H := H2) (xs := xs) fun v hv => (hx v hv).ex (e1.trans e2)
    refine ⟨.list ds, .list [], .lst (sq_of (e2 _ _ h1)) d1, .lst (sq_of (e2 _ _ h2)) .nil, shaped_list (c := 5) (by decide) d2, shaped_list (c := 5) (by decide) (fun d hd => nomatch hd), ?_⟩
    rw [eqv_nil]
    have : ds.isEmpty = xs.isEmpty := by cases ds <;> cases xs <;> first | rfl | (cases d3)
    rw [this]
    exact k H2 (Ex.refl H2)
end
end Hk
end S_Wo
section S_Wp
namespace Hk
open PySem PySem.Spec PyProof.Rows L2 Tl
def rIxB (K : PySem.W.Frag) : R2 := fun x y H Q => rIxL K x y H Q ∨ rIxT K x y H Q
theorem ix_any2 {X : Cx} : IxR X (rIxB X.K) := fun value slice pins s σ H x y v u Q I r1 r2 h e => h.elim (fun h => ix_list value slice pins s σ H x y v u Q I r1 r2 h e) (fun h => ix_tup value slice pins s σ H x y v u Q I r1 r2 h e)
/-- a list or a tuple -/
def SqS (K : PySem.W.Frag) (H : Hp) (a : Addr) (xs : List V) : Prop := SqL K H a xs ∨ SqT K H a xs
theorem SqS.ex {K : PySem.W.Frag} {H H' : Hp} {a : Addr} {xs : List V} (h : SqS K H a xs) (e : Evl.Ex H H') : SqS K H' a xs := h.elim (fun h => .inl (Evl.ex_l e h)) (fun h => .inr (Evl.ex_t e h))
theorem rv_ixB {K : PySem.W.Frag} {H : Hp} {v : V} {p : Addr} {xs : List V} {i : Int} (h : SqS K H p xs) (ha : atI xs i = some v) : Evl.RV (rIxB K) (.ref p) (.int i) H v := fun H1 e Q q =>
  h.elim (fun h => .inl (Evl.rv_ixL h ha H1 e Q q)) (fun h => .inr (Evl.rv_ixT h ha H1 e Q q))
theorem ev_lenB {K : PySem.W.Frag} {ta : TE} {σ : L2.St} {H : Hp} {p : Addr} {xs : List V} (ha : Evl.Ev ta σ H (.ref p)) (h : SqS K H p xs) : Evl.Ev (tCB (Evl.rLenS K) (tCons ta tNil)) σ H (.int (xs.length : Int)) := fun H1 e Q q =>
  ha H1 e _ fun H2 e2 => ⟨p, xs, rfl, h.ex (e.trans e2), q H2 e2⟩
theorem ev_ixB {K : PySem.W.Frag} {te : TE} {σ : L2.St} {H : Hp} {a : Addr} {xs : List V} {j : Nat} {v : V} (h : Evl.Ev te σ H (.ref a)) (ha : SqS K H a xs) (hv : xs[j]? = some v) : Evl.Ev (tOp (rIxB K) te (tC (.int (j : Int)))) σ H v := Evl.ev_op h Evl.ev_c (rv_ixB ha (atI_nat hv))
/-- a walk over a list or a tuple -/
def iEi (K : PySem.W.Frag) (te : TE) : TI := fun σ H R => iList K te σ H R ∨ iTup K te σ H R
theorem pi_ei {X : Cx} {tg e : Expr} {te : TE} (he : PE X e te) : PI X tg e (iEi X.K te) := ⟨fun pins s σ H R I h => h.elim (fun h => (pi_list (tg := tg) he).run pins s σ H R I h) fun h => (pi_tup (tg := tg) he).run pins s σ H R I h⟩
theorem ei_ei {K : PySem.W.Frag} {σ : L2.St} {H : Hp} {te : TE} {a : Addr} {xs : List V} (h : Evl.Ev te σ H (.ref a)) (hs : SqS K H a xs) : EvI (iEi K te) σ H xs.length (YAt xs) := fun H1 e R k => hs.elim (fun hs => .inl (ei_list h hs H1 e R k)) fun hs => .inr (ei_tup h hs H1 e R k)
/-- a, b, .. = a list or a tuple of that length -/
def gEi (K : PySem.W.Frag) (n : Nat) (t : TGs) : TG := fun v σ H Q => gLst K n t v σ H Q ∨ gTup K n t v σ H Q
theorem gEi_of {K : PySem.W.Frag} {n : Nat} {t : TGs} {a : Addr} {xs : List V} {σ : L2.St} {H : Hp} {Q : L2.St → Hp → Prop} (h : SqS K H a xs) (hn : xs.length = n) (q : t xs σ H Q) : gEi K n t (.ref a) σ H Q := h.elim (fun h => .inl ⟨a, xs, rfl, h, hn, q⟩) fun h => .inr ⟨a, xs, rfl, h, hn, q⟩
theorem pg_ei {X : Cx} {pos : Pos} {es : List Expr} {k : Nat} {t : TGs} {n : Nat} (hc : X.calm = true) (h : PGs X es t)
    (hn : (assignEach es X.env).length = n := by rfl) (hst : (assignEach es X.env).findIdx? (·.1) = none := by rfl) : PG X (.Tuple es k pos) (gEi X.K n t) :=
  ⟨fun pins s σ H v u Q I r hw => hw.elim (fun hw => (pg_lst hc h hn hst).run pins s σ H v u Q I r hw) fun hw => (pg_tup hc h hn hst).run pins s σ H v u Q I r hw⟩
noncomputable def pd (p : Prop) : Bool := @decide p (Classical.propDecidable p)
theorem pd_true {p : Prop} (h : p) : pd p = true := @decide_eq_true p (Classical.propDecidable p) h
theorem pd_false {p : Prop} (h : ¬p) : pd p = false := @decide_eq_false p (Classical.propDecidable p) h
theorem pd_of {p : Prop} (h : pd p = true) : p := @of_decide_eq_true p (Classical.propDecidable p) h
theorem pd_not {p : Prop} (h : pd p = false) : ¬p := @of_decide_eq_false p (Classical.propDecidable p) h
theorem pd_is {p : Prop} {b : Bool} (h : p ↔ b = true) : pd p = b := by
  cases b with
  | true => exact pd_true (h.mpr rfl)
  | false => exact pd_false fun z => nomatch h.mp z
end Hk
end S_Wp
section S_Xv
/-! steps of raw terms, by name -/
namespace Go
open PySem PySem.Spec PyProof.Rows L2
theorem cons_any {te : TE} {tr : TA} {σ : L2.St} {H : Hp} {Q : List V → Hp → Prop} (h : te σ H fun v H1 => tr σ H1 fun vs H2 => Q (v :: vs) H2) : tCons te tr σ H Q := h
theorem cons_c {v : V} {tr : TA} {σ : L2.St} {H : Hp} {Q : List V → Hp → Prop} (h : tr σ H fun vs H2 => Q (v :: vs) H2) : tCons (tC v) tr σ H Q := h
theorem asg_go {te : TE} {tz : TS} {i : Nat} {D : Ends} {σ : L2.St} {H : Hp} (h : te σ H fun v H1 => tz D (σ.set i (some v)) H1) : tSeq (tAsg te (gName i)) tz D σ H := h
theorem asg_last {te : TE} {i : Nat} {D : Ends} {σ : L2.St} {H : Hp} (h : te σ H fun v H1 => D.nx (σ.set i (some v)) H1) : tAsg te (gName i) D σ H := h
theorem q_asg1 {te : TE} {g : TG} {tz : TS} {D : Ends} {σ : L2.St} {H : Hp} (h : te σ H fun x H1 => g x σ H1 fun σ1 H2 => tz D σ1 H2) : tSeq (tAsg te g) tz D σ H := h
theorem op_go {r : R2} {ta tb : TE} {σ : L2.St} {H : Hp} {Q : VK} (h : ta σ H fun x H1 => tb σ H1 fun y H2 => r x y H2 Q) : tOp r ta tb σ H Q := h
theorem tup_go {ta : TA} {σ : L2.St} {H : Hp} {Q : VK} (h : ta σ H fun xs H1 => xs.length ≤ sizeLine ∧ ∀ p, H1 p = none → Q (.ref p) (upd H1 p (.tup xs))) : tTup ta σ H Q := h
theorem lst_go {ta : TA} {σ : L2.St} {H : Hp} {Q : VK} (h : ta σ H fun xs H1 => xs.length ≤ sizeLine ∧ ∀ p, H1 p = none → Q (.ref p) (upd H1 p (.lst xs))) : tLst ta σ H Q := h
theorem ret_go {te : TE} {D : Ends} {σ : L2.St} {H : Hp} (h : te σ H D.rt) : tRet te D σ H := h
theorem drop_go {te : TE} {tz : TS} {D : Ends} {σ : L2.St} {H : Hp} (h : te σ H fun _ H1 => tz D σ H1) : tSeq (tDrop te) tz D σ H := h
theorem call_go {sp : Sp} {dvs vs : List V} {E : XK} {ta : TA} {σ : L2.St} {H : Hp} {Q : VK} (h : Evl.EvA ta σ H vs) (k : ∀ H1, Evl.Ex H H1 → sp (vs ++ dvs) H1 Q E) : tCall sp dvs E ta σ H Q := h H (Evl.Ex.refl H) _ k
theorem call_raw {sp : Sp} {dvs : List V} {E : XK} {ta : TA} {σ : L2.St} {H : Hp} {Q : VK} (h : ta σ H fun vs H1 => sp (vs ++ dvs) H1 Q E) : tCall sp dvs E ta σ H Q := h
theorem cb_go {r : List V → Hp → VK → Prop} {ta : TA} {σ : L2.St} {H : Hp} {Q : VK} (h : ta σ H fun vs H1 => r vs H1 Q) : tCB r ta σ H Q := h
theorem par_go {i j : Nat} {ta : TA} {tz : TS} {D : Ends} {σ : L2.St} {H : Hp} (h : ta σ H fun vs H1 => ∃ v w, vs = [v, w] ∧ tz D ((σ.set i (some v)).set j (some w)) H1) : tSeq (tPar i j ta) tz D σ H := h
/-- an expression with a value, in a raw place -/
theorem go {te : TE} {σ : L2.St} {H : Hp} {v : V} {Q : VK} (h : Evl.Ev te σ H v) (k : ∀ H1, Evl.Ex H H1 → Q v H1) : te σ H Q := h H (Evl.Ex.refl H) _ k
theorem goT {t : TT} {σ : L2.St} {H : Hp} {b : Bool} {Q : Bool → Hp → Prop} (h : Evl.EvT t σ H b) (k : ∀ H1, Evl.Ex H H1 → Q b H1) : t σ H Q := h H (Evl.Ex.refl H) _ k
theorem goA {ta : TA} {σ : L2.St} {H : Hp} {vs : List V} {Q : List V → Hp → Prop} (h : Evl.EvA ta σ H vs) (k : ∀ H1, Evl.Ex H H1 → Q vs H1) : ta σ H Q := h H (Evl.Ex.refl H) _ k
end Go
end S_Xv
section S_Bad
namespace P41
open PySem PySem.Spec PyProof.Rows L2 Tl Hk RZ
/-! ### bags -/
/-- a value, and its items if it is a list or a tuple -/
inductive BagD (K : PySem.W.Frag) (H : Hp) : V → Option (List V) → Prop where
  | no {x : V} {n : String} (h : Ty7 K H x n) (h1 : n ≠ "list") (h2 : n ≠ "tuple") : BagD K H x none
  | lst {a : Addr} {xs : List V} (h : SqL K H a xs) (hl : xs.length ≤ 3000) (hi : ∀ v ∈ xs, ∃ n, Ty7 K H v n) : BagD K H (.ref a) (some xs)
  | tup {a : Addr} {xs : List V} (h : SqT K H a xs) (hl : xs.length ≤ 3000) (hi : ∀ v ∈ xs, ∃ n, Ty7 K H v n) : BagD K H (.ref a) (some xs)
theorem BagD.ex {K : PySem.W.Frag} {H H' : Hp} {x : V} {r : Option (List V)} (h : BagD K H x r) (e : Evl.Ex H H') : BagD K H' x r := by
  cases h with
  | no h h1 h2 => exact .no (h.ex e) h1 h2
  | lst h hl hi => exact .lst (Evl.ex_l e h) hl fun v hv => (hi v hv).imp fun n hn => hn.ex e
  | tup h hl hi => exact .tup (Evl.ex_t e h) hl fun v hv => (hi v hv).imp fun n hn => hn.ex e
theorem BagD.ty {K : PySem.W.Frag} {H : Hp} {x : V} {r : Option (List V)} (h : BagD K H x r) : ∃ n, Ty7 K H x n := by
  cases h with
  | no h _ _ => exact ⟨_, h⟩
  | lst h _ _ => exact ⟨_, .lst h⟩
  | tup h _ _ => exact ⟨_, .tup h⟩
/-- ints, each greater than the one ahead -/
def ascI : List Int → Bool
  | a :: b :: r => decide (a < b) && ascI (b :: r)
  | _ => true
/-- the ints of values that are ints all -/
def intsOf : List V → Option (List Int)
  | [] => some []
  | .int i :: r => (intsOf r).map (i :: ·)
  | _ :: _ => none
theorem intsOf_map : ∀ ns : List Int, intsOf (ns.map V.int) = some ns
  | [] => rfl
  | n :: r => by
    rw [List.map_cons]
    show (intsOf (r.map V.int)).map (n :: ·) = _
    rw [intsOf_map r]
    rfl
theorem intsOf_some : ∀ {xs : List V} {ns : List Int}, intsOf xs = some ns → xs = ns.map V.int
  | [], ns, h => by cases h; rfl
  | .int i :: r, ns, h => by
    have h : (intsOf r).map (i :: ·) = some ns := h
    obtain ⟨ms, h1, rfl⟩ := Option.map_eq_some_iff.mp h
    rw [intsOf_some h1]
    rfl
  | .non :: _, _, h => nomatch h
  | .bl _ :: _, _, h => nomatch h
  | .str _ :: _, _, h => nomatch h
  | .ref _ :: _, _, h => nomatch h
  | .ty _ :: _, _, h => nomatch h
theorem wi0_ints {xs : List V} : (xs.all fun v => wi v (.int 0) .non) = true → ∃ ns : List Int, xs = ns.map V.int ∧ ∀ i ∈ ns, 0 ≤ i := by
  induction xs with
  | nil => exact fun _ => ⟨[], rfl, fun i h => nomatch h⟩
  | cons v r ih =>
    intro h
    rw [List.all_cons, Bool.and_eq_true_iff] at h
    obtain ⟨ns, rfl, hn⟩ := ih h.2
    cases v with
    | int i =>
      have : (decide ((0 : Int) ≤ i) && true) = true := h.1
      rw [Bool.and_true] at this
      exact ⟨i :: ns, rfl, fun j hj => by
        rcases List.mem_cons.mp hj with rfl | hj
        · exact of_decide_eq_true this
        · exact hn j hj⟩
    | _ => exact absurd h.1 (by intro z; cases z)
theorem wi0_all {ns : List Int} (h : ∀ i ∈ ns, 0 ≤ i) : ((ns.map V.int).all fun v => wi v (.int 0) .non) = true := List.all_eq_true.mpr fun v hv => by
  obtain ⟨i, hi, rfl⟩ := List.mem_map.mp hv
  show (decide ((0 : Int) ≤ i) && true) = true
  rw [decide_eq_true (h i hi)]
  rfl
/-- whether they are a bag of least to most pieces -/
def bagV (lo hi : V) : Option (List V) → Bool
  | none => false
  | some xs => (xs.all fun v => wi v (.int 0) .non) && wi (.int (xs.length : Int)) lo hi && ascI ((intsOf xs).getD [])
theorem asc_pairs : ∀ ns : List Int, ascI ns = ((List.range (ns.length - 1)).map fun i => decide (ns.getD i 0 < ns.getD (i + 1) 0)).all id
  | [] => rfl
  | [_] => rfl
  | a :: b :: r => by
    show (decide (a < b) && ascI (b :: r)) = _
    rw [asc_pairs (b :: r), show (a :: b :: r).length - 1 = ((b :: r).length - 1) + 1 by simp, List.range_succ_eq_map, List.map_cons, List.map_map]
    rfl
def spIsBag (K : PySem.W.Frag) : Sp := fun vs H Q _ => ∃ (x lo hi : V) (r : Option (List V)), vs = [x, lo, hi] ∧ BagD K H x r ∧ Bnd lo ∧ Bnd hi ∧ ∀ H1, Evl.Ex H H1 → Q (.bl (bagV lo hi r)) H1
theorem spv_isBag {K : PySem.W.Frag} {H : Hp} {x lo hi : V} {r : Option (List V)} (h : BagD K H x r) (h1 : Bnd lo) (h2 : Bnd hi) : Evl.SpV (spIsBag K) [x, lo, hi] H (.bl (bagV lo hi r)) := fun H1 e Q q E => ⟨x, lo, hi, r, rfl, h.ex e, h1, h2, q⟩
theorem scIsBag : FnScope ["value", "least", "most", "one", "other"] ["value", "least", "most"] (defScope sIsBag) := ⟨rfl, rfl, rfl, by decide +kernel, rfl, by decide +kernel, by decide +kernel⟩
section
open Evl
variable {K : PySem.W.Frag} {σ : L2.St} {H : Hp} {ta tb te : TE}
/-- zip of a tuple and its own items from the second on -/
theorem ei_zipOwnT {a : Addr} {xs : List V} (h : Ev ta σ H (.ref a)) (hx : SqT K H a xs) : EvI (iZipA K (tCons ta (tCons (tSl (rSlA K) ta (tPart (tC (.int 1))) tNoPart) tNil))) σ H (xs.length - 1) (YPair (fun i => xs[i]?) (fun i => (xs.drop 1)[i]?)) := fun H1 e R k =>
  h H1 e _ fun H2 e2 => h H2 (e.trans e2) _ fun H3 e3 => by
    have hx3 := ex_t ((e.trans e2).trans e3) hx
    refine ⟨1, rfl, a, xs, rfl, hx3, fun hw => ?_, fun _ p hp => ?_⟩
    · have hnil : xs = [] := by
        cases xs with
        | nil => rfl
        | cons x r =>
          have e1 := hw.1
          rw [show (1 : Int) = ((1 : Nat) : Int) from rfl, HT.sIx_nat, Nat.min_eq_left (by simp)] at e1
          exact absurd e1 (by decide)
      subst hnil
      exact ⟨a, a, [], [], rfl, .inr ⟨hx3, hx3, k _ _ H3 (e2.trans e3) (walk_zipT rfl) fun A ab s => ⟨ex_t ab hx, ex_t ab hx⟩⟩⟩
    · have ec : cutV xs (some ((1 : Nat) : Int)) none = xs.drop 1 := cutFrom xs 1
      rw [show (1 : Int) = ((1 : Nat) : Int) from rfl, ec]
      have eN := Ex.new (o := .tup (xs.drop 1)) hp
      exact ⟨a, p, xs, xs.drop 1, rfl, .inr ⟨ex_t eN hx3, st_of upd_same, k _ _ _ ((e2.trans e3).trans eN) (walk_zipT (by rw [List.length_drop]; omega)) fun A ab s => ⟨ex_t ab hx, st_of (s p _ (fresh_back (e2.trans e3) hp) upd_same)⟩⟩⟩
theorem ei_zipOwnL {a : Addr} {xs : List V} (h : Ev ta σ H (.ref a)) (hx : SqL K H a xs) : EvI (iZipA K (tCons ta (tCons (tSl (rSlL K) ta (tPart (tC (.int 1))) tNoPart) tNil))) σ H (xs.length - 1) (YPair (fun i => xs[i]?) (fun i => (xs.drop 1)[i]?)) := by
  have := ei_zipL (K := K) (n := xs.length - 1) (ys := xs.drop 1) (by rw [List.length_drop]; omega) h hx (by
    have := el_sl (K := K) (lo := some (1 : Int)) (hi := none) h (eo_some (te := tC (.int 1)) ev_c) eo_none hx
    rw [show cutV xs (some (1 : Int)) none = xs.drop 1 from cutFrom xs 1] at this
    exact this)
  exact this
end
theorem gd_int {f : List Int} {m : Nat} (h : m < f.length) : (f.map V.int).getD m .non = V.int (f.getD m 0) := by
  rw [List.getD_eq_getElem?_getD, List.getD_eq_getElem?_getD, List.getElem?_map, List.getElem?_eq_getElem h]
  rfl
theorem gd_int1 {f : List Int} {m : Nat} (h : m < f.length - 1) : ((f.map V.int).drop 1).getD m .non = V.int (f.getD (m + 1) 0) := by
  rw [List.getD_eq_getElem?_getD, List.getElem?_drop, ← List.getD_eq_getElem?_getD, show 1 + m = m + 1 by omega]
  exact gd_int (by omega)
theorem given_rng {n : Nat} {v : Nat → V} : Evl.given n (fun _ => true) v = (List.range n).map v := by
  unfold Evl.given
  rw [List.filter_eq_self.mpr fun _ _ => rfl]
theorem bag_no {lo hi : V} {xs : List V} (h : (!(xs.all fun v => wi v (.int 0) .non) || !wi (.int (xs.length : Int)) lo hi) = true) : bagV lo hi (some xs) = false := by
  unfold bagV
  rw [← Bool.not_and, Bool.not_eq_true'] at h
  dsimp only
  rw [h, Bool.false_and]
theorem bag_yes {lo hi : V} {xs : List V} (h : (!(xs.all fun v => wi v (.int 0) .non) || !wi (.int (xs.length : Int)) lo hi) = false) : ∃ ns : List Int, xs = ns.map V.int ∧ (∀ i ∈ ns, 0 ≤ i) ∧ bagV lo hi (some xs) = ascI ns := by
  rw [← Bool.not_and, Bool.not_eq_false'] at h
  obtain ⟨ns, rfl, hn⟩ := wi0_ints (Bool.and_eq_true_iff.mp h).1
  refine ⟨ns, rfl, hn, ?_⟩
  unfold bagV
  dsimp only
  rw [h, Bool.true_and, intsOf_map]
  rfl
section
variable {P : Program} {w : World} {K : PySem.W.Frag} {mg : Str → Option Value} {base : Heap}
theorem ok_isBag {f fW fR : Addr} {fd fdW fdR : FuncData} {k : Nat} (F : Fun K "_is_bag" "_is_bag" sIsBag f fd)
    (FR : Fun K "is_row" "is_row" sRow fR fdR) (GR : FnOk P w K mg base CX0 k fR fdR ["value", "least", "most"] (spRow K)) (bR : Binds K fdR ["value", "least", "most"] []) (gR : mg "is_row" = some (.ref fR))
    (FW : Fun K "is_within" "is_within" sWithin fW fdW) (GW : FnOk P w K mg base CX0 k fW fdW ["value", "least", "most"] (spWithin K)) (bW : Binds K fdW ["value", "least", "most"] []) (gW : mg "is_within" = some (.ref fW))
    (mlen : mg "len" = none) (mzip : mg "zip" = none) (mall : mg "all" = none) : FnOk P w K mg base CX0 (k + 1) f fd ["value", "least", "most"] (spIsBag K) := by
  refine F.ok scIsBag (fun vs H Q E h => ?_) (fun cdv A outer s H vs Q E hr h => ?_)
  · obtain ⟨x, lo, hi, r, rfl, _⟩ := h
    rfl
  · obtain ⟨x, lo, hi, r, rfl, h, hlo, hhi, q⟩ := h
    have nd := scIsBag.nd
    have row : ∀ {b : Bool} {H1 : Hp}, RowR K H1 (.int 0) .non x b → Evl.EvT (tNot (tB (tCall (spRow K) [] E0 (tCons (tVar 0) (tCons (tC (.int 0)) (tCons (tC .non) tNil)))))) (start ["value", "least", "most", "one", "other"] [x, lo, hi]) H1 (!b) := fun h => Evl.et_not (Evl.et_B (Evl.ev_call (Evl.ea_cons (Evl.ev_var rfl) (Evl.ea_cons Evl.ev_c (Evl.ea_cons Evl.ev_c Evl.ea_nil))) fun H1 e Q q E => ⟨x, .int 0, .non, _, rfl, h.ex e, trivial, trivial, q⟩))
    cases h with
    | @no x n h7 h1 h2 =>
      refine ⟨_, pss_cons (ps_if (PW.pt (pw_or (pt_not (pt_val (pe_call GR hr (by rfl) gR FR.kp bR .nil pass0 (pa_cons (pv 0) (pa_cons (pe_int) (pa_cons (pe_non) (pa_nil))))))) (pw_or1 (pt_not (pt_val (pe_call GW hr (by rfl) gW FW.kp bW .nil pass0 (pa_cons (pe_callB call_len_seq (by rfl) mlen PySem.boot_len (pa_cons (pv 0) (pa_nil))) (pa_cons (pv 1) (pa_cons (pv 2) (pa_nil)))))))))) (pss_one (ps_ret (pe_bl))) (pss_nil)) (pss_one (ps_ret (pe_callB (cr_all rfl) (by rfl) mall (by decide +kernel) (pa_cons (pe_lc (own := [("one", 3), ("other", 4)]) (g := gTup K 2 (gCons (gName 3) (gCons (gName 4) gNil))) (tt := tYes) (te := tOp (rI0 fun i j => V.bl (decide (i < j))) (tVar 3) (tVar 4)) rfl nd (pi_zipA (by rfl) mzip (pa_cons (pv 0) (pa_cons (pe_slice sl_list (pv 0) (po_some (pe_int)) (po_none)) (pa_nil)))) (blkOk_by (N := ["value", "least", "most", "one", "other"]) (sc := defScope sIsBag) (by decide +kernel)) (fun _ _ _ _ _ => pg_tup (by rfl) (pgs_cons (pg_name (i := 3) nd rfl (Or.inl rfl)) (pgs_cons (pg_name (i := 4) nd rfl (Or.inl rfl)) pgs_nil))) (fun _ _ _ _ _ => pts_nil) (fun _ _ _ _ _ => pe_cmpR op_lt (pv 3) (pv 4) (nomark _))) (pa_nil))))), ?_⟩
      exact Evl.q_when (b := true) (Evl.et_is (Evl.et_or (a := true) (b := true) (row (.no h7 h1 h2)) fun z => nomatch z) rfl) (fun _ H1 e1 => Evl.s_ret Evl.ev_c fun H2 e2 => q H2 (e1.trans e2)) fun z => nomatch z
    | @lst a xs hS hl hi0 =>
      refine ⟨_, pss_cons (ps_if (PW.pt (pw_or (pt_not (pt_val (pe_call GR hr (by rfl) gR FR.kp bR .nil pass0 (pa_cons (pv 0) (pa_cons (pe_int) (pa_cons (pe_non) (pa_nil))))))) (pw_or1 (pt_not (pt_val (pe_call GW hr (by rfl) gW FW.kp bW .nil pass0 (pa_cons (pe_callB call_len_seq (by rfl) mlen PySem.boot_len (pa_cons (pv 0) (pa_nil))) (pa_cons (pv 1) (pa_cons (pv 2) (pa_nil)))))))))) (pss_one (ps_ret (pe_bl))) (pss_nil)) (pss_one (ps_ret (pe_callB (cr_all rfl) (by rfl) mall (by decide +kernel) (pa_cons (pe_lc (own := [("one", 3), ("other", 4)]) (g := gTup K 2 (gCons (gName 3) (gCons (gName 4) gNil))) (tt := tYes) (te := tOp (rI0 fun i j => V.bl (decide (i < j))) (tVar 3) (tVar 4)) rfl nd (pi_zipA (by rfl) mzip (pa_cons (pv 0) (pa_cons (pe_slice sl_list (pv 0) (po_some (pe_int)) (po_none)) (pa_nil)))) (blkOk_by (N := ["value", "least", "most", "one", "other"]) (sc := defScope sIsBag) (by decide +kernel)) (fun _ _ _ _ _ => pg_tup (by rfl) (pgs_cons (pg_name (i := 3) nd rfl (Or.inl rfl)) (pgs_cons (pg_name (i := 4) nd rfl (Or.inl rfl)) pgs_nil))) (fun _ _ _ _ _ => pts_nil) (fun _ _ _ _ _ => pe_cmpR op_lt (pv 3) (pv 4) (nomark _))) (pa_nil))))), ?_⟩
      refine Evl.q_when (Evl.et_or (row (.lst hS (by omega) hi0)) fun _ => Evl.et_not (Evl.et_B (Evl.ev_call (Evl.ea_cons (ev_lenB (K := K) (Evl.ev_var rfl) (.inl hS)) (Evl.ea_cons (Evl.ev_var rfl) (Evl.ea_cons (Evl.ev_var rfl) Evl.ea_nil))) (spv_within (.int _) hlo hhi)))) (fun hb H1 e1 => Evl.s_ret Evl.ev_c fun H2 e2 => ?_) fun hb H1 e1 => ?_
      · rw [show false = bagV lo hi (some xs) from (bag_no hb).symm]
        exact q H2 (e1.trans e2)
      · obtain ⟨ns, rfl, h1, h2⟩ := bag_yes hb
        refine Evl.s_ret (ev_allN (bs := (List.range (ns.length - 1)).map fun i => decide (ns.getD i 0 < ns.getD (i + 1) 0)) ?_) fun H2 e2 => ?_
        · have := el_lcI (te := tOp (rI0 fun i j => V.bl (decide (i < j))) (tVar 3) (tVar 4)) (t := tYes) (σ := start ["value", "least", "most", "one", "other"] [.ref a, lo, hi]) (H := H1) (vs := [3, 4]) (fun _ => true) (fun i => V.bl (decide (ns.getD i 0 < ns.getD (i + 1) 0))) (ei_zipOwnL (K := K) (Evl.ev_var (i := 0) rfl) (Evl.ex_l e1 hS)) (aims_pair (K := K) (j1 := 3) (j2 := 4)) (fun _ => rfl) (by omega) (fun _ _ _ _ => et_yes) (fun i A eA hi _ => by
            rw [List.length_map] at hi
            exact Evl.ev_op (Evl.ev_is (Evl.ev_var rfl) (gd_int (by omega))) (Evl.ev_is (Evl.ev_var rfl) (gd_int1 hi)) Evl.rv_I0)
          rw [given_rng, List.length_map] at this
          rw [List.map_map]
          exact this
        · rw [← asc_pairs, ← h2]
          exact q H2 (e1.trans e2)
    | @tup a xs hS hl hi0 =>
      refine ⟨_, pss_cons (ps_if (PW.pt (pw_or (pt_not (pt_val (pe_call GR hr (by rfl) gR FR.kp bR .nil pass0 (pa_cons (pv 0) (pa_cons (pe_int) (pa_cons (pe_non) (pa_nil))))))) (pw_or1 (pt_not (pt_val (pe_call GW hr (by rfl) gW FW.kp bW .nil pass0 (pa_cons (pe_callB call_len_seq (by rfl) mlen PySem.boot_len (pa_cons (pv 0) (pa_nil))) (pa_cons (pv 1) (pa_cons (pv 2) (pa_nil)))))))))) (pss_one (ps_ret (pe_bl))) (pss_nil)) (pss_one (ps_ret (pe_callB (cr_all rfl) (by rfl) mall (by decide +kernel) (pa_cons (pe_lc (own := [("one", 3), ("other", 4)]) (g := gTup K 2 (gCons (gName 3) (gCons (gName 4) gNil))) (tt := tYes) (te := tOp (rI0 fun i j => V.bl (decide (i < j))) (tVar 3) (tVar 4)) rfl nd (pi_zipA (by rfl) mzip (pa_cons (pv 0) (pa_cons (pe_slice sl_tupA (pv 0) (po_some (pe_int)) (po_none)) (pa_nil)))) (blkOk_by (N := ["value", "least", "most", "one", "other"]) (sc := defScope sIsBag) (by decide +kernel)) (fun _ _ _ _ _ => pg_tup (by rfl) (pgs_cons (pg_name (i := 3) nd rfl (Or.inl rfl)) (pgs_cons (pg_name (i := 4) nd rfl (Or.inl rfl)) pgs_nil))) (fun _ _ _ _ _ => pts_nil) (fun _ _ _ _ _ => pe_cmpR op_lt (pv 3) (pv 4) (nomark _))) (pa_nil))))), ?_⟩
      refine Evl.q_when (Evl.et_or (row (.tup hS (by omega) hi0)) fun _ => Evl.et_not (Evl.et_B (Evl.ev_call (Evl.ea_cons (ev_lenB (K := K) (Evl.ev_var rfl) (.inr hS)) (Evl.ea_cons (Evl.ev_var rfl) (Evl.ea_cons (Evl.ev_var rfl) Evl.ea_nil))) (spv_within (.int _) hlo hhi)))) (fun hb H1 e1 => Evl.s_ret Evl.ev_c fun H2 e2 => ?_) fun hb H1 e1 => ?_
      · rw [show false = bagV lo hi (some xs) from (bag_no hb).symm]
        exact q H2 (e1.trans e2)
      · obtain ⟨ns, rfl, h1, h2⟩ := bag_yes hb
        refine Evl.s_ret (ev_allN (bs := (List.range (ns.length - 1)).map fun i => decide (ns.getD i 0 < ns.getD (i + 1) 0)) ?_) fun H2 e2 => ?_
        · have := el_lcI (te := tOp (rI0 fun i j => V.bl (decide (i < j))) (tVar 3) (tVar 4)) (t := tYes) (σ := start ["value", "least", "most", "one", "other"] [.ref a, lo, hi]) (H := H1) (vs := [3, 4]) (fun _ => true) (fun i => V.bl (decide (ns.getD i 0 < ns.getD (i + 1) 0))) (ei_zipOwnT (K := K) (Evl.ev_var (i := 0) rfl) (Evl.ex_t e1 hS)) (aims_pair (K := K) (j1 := 3) (j2 := 4)) (fun _ => rfl) (by omega) (fun _ _ _ _ => et_yes) (fun i A eA hi _ => by
            rw [List.length_map] at hi
            exact Evl.ev_op (Evl.ev_is (Evl.ev_var rfl) (gd_int (by omega))) (Evl.ev_is (Evl.ev_var rfl) (gd_int1 hi)) Evl.rv_I0)
          rw [given_rng, List.length_map] at this
          rw [List.map_map]
          exact this
        · rw [← asc_pairs, ← h2]
          exact q H2 (e1.trans e2)
end
end P41
end S_Bad
section S_Bae
namespace P41
open PySem PySem.Spec PyProof.Rows L2 Tl Hk RZ
/-! ### lists of bags -/
/-- a value, and its items if it is a list or a tuple -/
inductive BagsD (K : PySem.W.Frag) (H : Hp) : V → Option (List (Option (List V))) → Prop where
  | no {x : V} {n : String} (h : Ty7 K H x n) (h1 : n ≠ "list") (h2 : n ≠ "tuple") : BagsD K H x none
  | seq {a : Addr} {xs : List V} {rs : List (Option (List V))} (h : SqS K H a xs) (hn : xs.length = rs.length) (hl : xs.length ≤ 3000) (hi : ∀ (i : Nat) (v : V) (r : Option (List V)), xs[i]? = some v → rs[i]? = some r → BagD K H v r) : BagsD K H (.ref a) (some rs)
theorem BagsD.ex {K : PySem.W.Frag} {H H' : Hp} {x : V} {r : Option (List (Option (List V)))} (h : BagsD K H x r) (e : Evl.Ex H H') : BagsD K H' x r := by
  cases h with
  | no h h1 h2 => exact .no (h.ex e) h1 h2
  | seq h hn hl hi => exact .seq (h.ex e) hn hl fun i v r a b => (hi i v r a b).ex e
theorem BagsD.ty {K : PySem.W.Frag} {H : Hp} {x : V} {r : Option (List (Option (List V)))} (h : BagsD K H x r) : ∃ n, Ty7 K H x n := by
  cases h with
  | no h _ _ => exact ⟨_, h⟩
  | seq h _ _ _ =>
    rcases h with h | h
    · exact ⟨_, .lst h⟩
    · exact ⟨_, .tup h⟩
def bagsV (lo hi : V) : Option (List (Option (List V))) → Bool
  | none => false
  | some rs => rs.all (bagV lo hi)
def spAreBags (K : PySem.W.Frag) : Sp := fun vs H Q _ => ∃ (x lo hi : V) (r : Option (List (Option (List V)))), vs = [x, lo, hi] ∧ BagsD K H x r ∧ Bnd lo ∧ Bnd hi ∧ ∀ H1, Evl.Ex H H1 → Q (.bl (bagsV lo hi r)) H1
theorem spv_areBags {K : PySem.W.Frag} {H : Hp} {x lo hi : V} {r : Option (List (Option (List V)))} (h : BagsD K H x r) (h1 : Bnd lo) (h2 : Bnd hi) : Evl.SpV (spAreBags K) [x, lo, hi] H (.bl (bagsV lo hi r)) := fun H1 e Q q E => ⟨x, lo, hi, r, rfl, h.ex e, h1, h2, q⟩
theorem scAreBags : FnScope ["value", "least", "most", "bag"] ["value", "least", "most"] (defScope sAreBags) := ⟨rfl, rfl, rfl, by decide +kernel, rfl, by decide +kernel, by decide +kernel⟩
/-- enumerate of a list or a tuple -/
def iEnE (K : PySem.W.Frag) (ta : TA) : TI := fun σ H R => iEnum K ta σ H R ∨ iEnumT K ta σ H R
theorem pi_enE {X : Cx} {e : Expr} {ta : TA} {p pos tpos : Pos} {elts : List Expr} {kk : Nat} (hg : Gl X "enumerate") (hm : X.mg "enumerate" = none) (ha : PA X [e] ta) (hs : starEach [e] X.env = [(false, eval e X.env)] := by rfl) : PI X (.Tuple elts kk tpos) (.Call (.Name "enumerate" p) [e] [] pos) (iEnE X.K ta) :=
  ⟨fun pins s σ H R I h => h.elim (fun h => (pi_enum hg hm ha hs).run pins s σ H R I h) fun h => (pi_enumT hg hm ha hs).run pins s σ H R I h⟩
theorem ei_enE {K : PySem.W.Frag} {σ : L2.St} {H : Hp} {a : Addr} {xs : List V} {ta : TA} (h : Evl.EvA ta σ H [.ref a]) (hs : SqS K H a xs) : EvI (iEnE K ta) σ H xs.length (YPair (fun i => some (.int (i : Nat))) (fun i => xs[i]?)) := fun H1 e R k =>
  hs.elim (fun hs => .inl (ei_enum h hs H1 e R k)) fun hs => .inr (ei_enumT h hs H1 e R k)
theorem aims_enumE {K : PySem.W.Frag} {xs : List V} {n j1 j2 : Nat} : Aims (gTup K 2 (gCons (gName j1) (gCons (gName j2) gNil))) n (YPair (fun i => some (.int (i : Nat))) (fun i => xs[i]?))
    (fun i σ => (σ.set j1 (some (.int (i : Nat)))).set j2 (some (xs.getD i .non))) := fun i σ H v H' hi y => by
  obtain ⟨T, x, y, rfl, hT, rfl, h1, h2⟩ := y
  have h1 : some (V.int (i : Nat)) = some x := h1
  have h2 : xs[i]? = some y := h2
  cases h1
  obtain rfl : xs.getD i .non = y := by rw [List.getD_eq_getElem?_getD, h2]; rfl
  exact ⟨Evl.Ex.new hT, fun Q q => ⟨T, _, rfl, Evl.st_of upd_same, rfl, _, _, rfl, _, _, rfl, rfl, q⟩⟩
section
variable {P : Program} {w : World} {K : PySem.W.Frag} {mg : Str → Option Value} {base : Heap}
theorem ok_areBags {f fB fL : Addr} {fd fdB fdL : FuncData} {k : Nat} (F : Fun K "are_bags" "are_bags" sAreBags f fd)
    (FB : Fun K "_is_bag" "_is_bag" sIsBag fB fdB) (GB : FnOk P w K mg base CX0 k fB fdB ["value", "least", "most"] (spIsBag K)) (bB : Binds K fdB ["value", "least", "most"] []) (gB : mg "_is_bag" = some (.ref fB))
    (FL : Fun K "is_list" "is_list" sList fL fdL) (GL : FnOk P w K mg base CX0 k fL fdL ["value"] (spList K)) (bL : Binds K fdL ["value"] []) (gL : mg "is_list" = some (.ref fL)) (mall : mg "all" = none) : FnOk P w K mg base CX0 (k + 1) f fd ["value", "least", "most"] (spAreBags K) := by
  refine F.ok scAreBags (fun vs H Q E h => ?_) (fun cdv A outer s H vs Q E hr h => ?_)
  · obtain ⟨x, lo, hi, r, rfl, _⟩ := h
    rfl
  · obtain ⟨x, lo, hi, r, rfl, h, hlo, hhi, q⟩ := h
    have nd := scAreBags.nd
    refine ⟨_, pss_one (ps_ret (pe_and (pe_call GL hr (by rfl) gL FL.kp bL .nil pass0 (pa_cons (pv 0) (pa_nil))) (pe_one (pe_callB (cr_all rfl) (by rfl) mall (by decide +kernel) (pa_cons (pe_lc (own := [("bag", 3)]) (g := gName 3) (tt := tYes) (te := tCall (spIsBag K) [] E0 (tCons (tVar 3) (tCons (tVar 1) (tCons (tVar 2) tNil)))) rfl nd (pi_ei (pv 0)) (blkOk_by (N := ["value", "least", "most", "bag"]) (sc := defScope sAreBags) (by decide +kernel)) (fun _ _ _ _ _ => pg_name (i := 3) nd rfl (Or.inl rfl)) (fun _ _ _ _ _ => pts_nil) (fun _ _ _ _ _ => pe_call GB hr (by rfl) gB FB.kp bB .nil pass0 (pa_cons (pv 3) (pa_cons (pv 1) (pa_cons (pv 2) (pa_nil)))))) (pa_nil)))))), ?_⟩
    have isl : ∀ {n : String}, Ty7 K H x n → Evl.Ev (tCall (spList K) [] E0 (tCons (tVar 0) tNil)) (start ["value", "least", "most", "bag"] [x, lo, hi]) H (.bl (decide (n = "list") || decide (n = "tuple"))) :=
      fun h7 => Evl.ev_call (Evl.ea_cons (Evl.ev_var rfl) Evl.ea_nil) (spv_list h7)
    cases h with
    | @no x n h7 h1 h2 =>
      have eb : (decide (n = "list") || decide (n = "tuple")) = false := by simp [h1, h2]
      exact Evl.s_ret (Evl.ev_is (Evl.ev_andV (b := false) (isl h7) fun z => by rw [eb] at z; cases z) (by rw [eb] <;> rfl)) q
    | @seq a xs rs hS hn hl hi0 =>
      have isT : Evl.Ev (tCall (spList K) [] E0 (tCons (tVar 0) tNil)) (start ["value", "least", "most", "bag"] [.ref a, lo, hi]) H (.bl true) := by
        rcases hS with hS | hS
        · exact isl (.lst hS)
        · exact isl (.tup hS)
      have item := el_lcI (te := tCall (spIsBag K) [] E0 (tCons (tVar 3) (tCons (tVar 1) (tCons (tVar 2) tNil)))) (t := tYes) (σ := start ["value", "least", "most", "bag"] [.ref a, lo, hi]) (H := H) (vs := [3]) (fun _ => true) (fun i => V.bl (bagV lo hi (rs.getD i none))) (ei_ei (K := K) (Evl.ev_var (i := 0) rfl) hS) (aims_at (j := 3)) (fun _ => rfl) (by omega) (fun _ _ _ _ => et_yes) (fun i A eA hi _ => by
        have hx := List.getElem?_eq_getElem hi
        have hr2 := List.getElem?_eq_getElem (show i < rs.length by omega)
        rw [show xs.getD i .non = xs[i] from by rw [List.getD_eq_getElem?_getD, hx]; rfl, show rs.getD i none = rs[i]'(by omega) from by rw [List.getD_eq_getElem?_getD, hr2]; rfl]
        exact Evl.ev_call (Evl.ea_cons (Evl.ev_var rfl) (Evl.ea_cons (Evl.ev_var rfl) (Evl.ea_cons (Evl.ev_var rfl) Evl.ea_nil))) (spv_isBag ((hi0 i _ _ hx hr2).ex eA) hlo hhi))
      rw [hn, given_all rs none fun r => V.bl (bagV lo hi r)] at item
      refine Evl.s_ret (v := .bl (true && rs.all (bagV lo hi))) (Evl.ev_andV isT fun _ => Evl.ev_is (ev_allN (bs := rs.map (bagV lo hi)) (by rw [List.map_map]; exact item)) ?_) fun H1 e1 => ?_
      · rw [List.all_map]; rfl
      · rw [Bool.true_and]; exact q H1 e1
end
/-! ### the way up -/
/-- indexes as values -/
def nv (l : List Nat) : List V := l.map fun k : Nat => V.int (k : Int)
/-- what stands above each: as values -/
def uv : Option Nat → V
  | none => .non
  | some k => .int (k : Int)
/-- from here one comes up to a top -/
inductive Top (ups : List (Option Nat)) : Nat → Prop where
  | top {i : Nat} (h : ups[i]? = some none) : Top ups i
  | up {i j : Nat} (h : ups[i]? = some (some j)) (t : Top ups j) : Top ups i
theorem Top.lt {ups : List (Option Nat)} {i : Nat} (h : Top ups i) : i < ups.length := by
  cases h with
  | top h => exact (List.getElem?_eq_some_iff.mp h).1
  | up h _ => exact (List.getElem?_eq_some_iff.mp h).1
def kids (ups : List (Option Nat)) (j n : Nat) : List Nat := (List.range n).filter fun k => decide (ups[k]? = some (some j))
def tops (ups : List (Option Nat)) (n : Nat) : List Nat := (List.range n).filter fun k => decide (ups[k]? = some none)
theorem kids_mem {ups : List (Option Nat)} {j n x : Nat} : x ∈ kids ups j n ↔ x < n ∧ ups[x]? = some (some j) := by
  unfold kids
  rw [List.mem_filter, List.mem_range, decide_eq_true_iff]
theorem tops_mem {ups : List (Option Nat)} {n x : Nat} : x ∈ tops ups n ↔ x < n ∧ ups[x]? = some none := by
  unfold tops
  rw [List.mem_filter, List.mem_range, decide_eq_true_iff]
theorem kids_nd (ups : List (Option Nat)) (j n : Nat) : (kids ups j n).Nodup := List.Pairwise.filter _ List.nodup_range
theorem tops_nd (ups : List (Option Nat)) (n : Nat) : (tops ups n).Nodup := List.Pairwise.filter _ List.nodup_range
theorem kids_succ (ups : List (Option Nat)) (j n : Nat) : kids ups j (n + 1) = kids ups j n ++ if ups[n]? = some (some j) then [n] else [] := by
  unfold kids
  rw [List.range_succ, List.filter_append]
  congr 1
  by_cases h : ups[n]? = some (some j) <;> simp [h]
theorem tops_succ (ups : List (Option Nat)) (n : Nat) : tops ups (n + 1) = tops ups n ++ if ups[n]? = some none then [n] else [] := by
  unfold tops
  rw [List.range_succ, List.filter_append]
  congr 1
  by_cases h : ups[n]? = some none <;> simp [h]
/-- how far the walk down has come -/
structure Dn (ups : List (Option Nat)) (order wl : List Nat) : Prop where
  nd : (order ++ wl).Nodup
  tp : ∀ x ∈ order ++ wl, Top ups x
  top : ∀ x, ups[x]? = some none → x ∈ order ++ wl
  kid : ∀ o ∈ order, ∀ x, ups[x]? = some (some o) → x ∈ order ++ wl
  par : ∀ x ∈ order ++ wl, ∀ o, ups[x]? = some (some o) → o ∈ order
theorem Dn.start (ups : List (Option Nat)) : Dn ups [] (tops ups ups.length) := by
  refine ⟨by rw [List.nil_append]; exact tops_nd _ _, fun x hx => ?_, fun x hx => ?_, (fun o ho => nomatch ho), fun x hx o ho => ?_⟩
  · rw [List.nil_append] at hx
    exact .top (tops_mem.mp hx).2
  · rw [List.nil_append]
    exact tops_mem.mpr ⟨(List.getElem?_eq_some_iff.mp hx).1, hx⟩
  · rw [List.nil_append] at hx
    rw [(tops_mem.mp hx).2] at ho
    cases ho
theorem Dn.step {ups : List (Option Nat)} {order wl : List Nat} {y : Nat} (d : Dn ups order (wl ++ [y])) : Dn ups (order ++ [y]) (wl ++ kids ups y ups.length) := by
  have hp : (order ++ (wl ++ [y])).Perm ((order ++ [y]) ++ wl) := by
    rw [List.append_assoc]
    exact List.Perm.append_left _ List.perm_append_comm
  have hin : ∀ x, x ∈ (order ++ [y]) ++ (wl ++ kids ups y ups.length) ↔ x ∈ order ++ (wl ++ [y]) ∨ x ∈ kids ups y ups.length := fun x => by
    rw [← List.append_assoc, List.mem_append, hp.mem_iff]
  have yin : y ∈ order ++ (wl ++ [y]) := by simp
  have yno : y ∉ order := fun z => (List.nodup_append.mp d.nd).2.2 y z y (by simp) rfl
  have kno : ∀ x ∈ kids ups y ups.length, x ∉ order ++ (wl ++ [y]) := fun x hx hz => yno (d.par x hz y (kids_mem.mp hx).2)
  refine ⟨?_, fun x hx => ?_, fun x hx => ?_, fun o ho x hx => ?_, fun x hx o ho => ?_⟩
  · rw [← List.append_assoc]
    refine List.nodup_append.mpr ⟨hp.nodup_iff.mp d.nd, kids_nd _ _ _, fun a ha b hb e => ?_⟩
    subst e
    exact kno a hb (hp.mem_iff.mpr ha)
  · rcases (hin x).mp hx with hx | hx
    · exact d.tp x hx
    · exact .up (kids_mem.mp hx).2 (d.tp y yin)
  · exact (hin x).mpr (.inl (d.top x hx))
  · rcases List.mem_append.mp ho with ho | ho
    · exact (hin x).mpr (.inl (d.kid o ho x hx))
    · rw [List.mem_singleton.mp ho] at hx
      exact (hin x).mpr (.inr (kids_mem.mpr ⟨(List.getElem?_eq_some_iff.mp hx).1, hx⟩))
  · rcases (hin x).mp hx with hx | hx
    · exact List.mem_append.mpr (.inl (d.par x hx o ho))
    · rw [(kids_mem.mp hx).2] at ho
      cases ho
      simp
theorem Dn.done {ups : List (Option Nat)} {order : List Nat} (d : Dn ups order []) : order.Nodup ∧ ∀ x, x ∈ order ↔ Top ups x := by
  have nd := d.nd
  rw [List.append_nil] at nd
  refine ⟨nd, fun x => ⟨fun h => d.tp x (by rw [List.append_nil]; exact h), fun h => ?_⟩⟩
  induction h with
  | top h => have := d.top _ h; rwa [List.append_nil] at this
  | up h _ ih => have := d.kid _ ih _ h; rwa [List.append_nil] at this
theorem nd_le : ∀ {l m : List Nat}, l.Nodup → (∀ x ∈ l, x ∈ m) → l.length ≤ m.length
  | [], _, _, _ => Nat.zero_le _
  | a :: r, m, h1, h2 => by
    obtain ⟨n1, n2⟩ := List.nodup_cons.mp h1
    have ha := h2 a (by simp)
    have := nd_le (m := m.erase a) n2 fun x hx => (List.mem_erase_of_ne (fun (z : x = a) => n1 (by rw [← z]; exact hx))).mpr (h2 x (by simp [hx]))
    rw [List.length_erase_of_mem ha] at this
    have hp := List.length_pos_of_mem ha
    rw [List.length_cons]
    omega
theorem Dn.le {ups : List (Option Nat)} {order wl : List Nat} (d : Dn ups order wl) : (order ++ wl).length ≤ ups.length := by
  have h := nd_le d.nd (m := List.range ups.length) fun x hx => List.mem_range.mpr (d.tp x hx).lt
  rwa [List.length_range] at h
theorem Dn.full {ups : List (Option Nat)} {order : List Nat} (d : Dn ups order []) : order.length = ups.length ↔ ∀ x, x < ups.length → Top ups x := by
  obtain ⟨nd, hm⟩ := d.done
  have hle := d.le
  rw [List.append_nil] at hle
  constructor
  · intro he x hx
    by_cases hz : x ∈ order
    · exact (hm x).mp hz
    · have := nd_le (l := x :: order) (m := List.range ups.length) (List.nodup_cons.mpr ⟨hz, nd⟩) fun y hy => List.mem_range.mpr (by
        rcases List.mem_cons.mp hy with rfl | hy
        · exact hx
        · exact ((hm y).mp hy).lt)
      rw [List.length_cons, List.length_range] at this
      omega
  · intro h
    have := nd_le (l := List.range ups.length) (m := order) List.nodup_range fun y hy => (hm y).mpr (h y (List.mem_range.mp hy))
    rw [List.length_range] at this
    omega
end P41
end S_Bae
section S_Xh
namespace EnL
open PySem PySem.Spec PyProof.Rows L2 Tl
/-! ### == and != by an own __eq__, whatever it says -/
section
variable {prog : Program} {w : World} {A : Around} {E : Value → Shared → Prop} {s : Shared} {K : PySem.W.Frag} {x C f L : Addr} {h₀ : Heap} {m : Str → Option Value} {ox : Obj} {od : Option Obj} {b tb : Value}
theorem check_slotK {M : Model} {id owner n : String} {rest : List Value} {Q : Unit → Shared → Prop} (hk : builtinKind id = some .slot) (hs : splitId id = some (owner, n)) (ha : argsOk id ⟨.ref x :: rest, []⟩)
    (X : K.In s.heap) (I : PySem.W.InstAt s.heap x ox C od) (hm : PySem.W.mroIn K C (.type owner) = some true) (hq : Q () s) : wpAny M A (checkBuiltinCall id ⟨.ref x :: rest, []⟩) Q E s := by
  simp only [checkBuiltinCall, hk, hs]
  refine wpAny_bind ?_
  unfold isInstance
  refine wpAny_bind (I.type.here ?_)
  refine (PySem.W.looks_mroIn X hm).here ?_
  cases hsig : Manifest.signature? id with
  | none => exact wpAny_pure hq
  | some sig =>
    simp only [argsOk, hsig] at ha
    have h2 : Bind.checkArgs id sig ⟨.ref x :: rest, []⟩ = pure () := ha
    show wpAny M A (Bind.checkArgs id sig ⟨.ref x :: rest, []⟩) Q E _
    rw [h2]; exact wpAny_pure hq
theorem ifBound_ne {M : Model} {Q : Option Value → Shared → Prop} (X : K.In s.heap) (I : PySem.W.InstAt s.heap x ox C od) (hs : PySem.W.findIn K (.ref C) "__ne__" = some (some (.builtin "object.__ne__")))
    (h : wpAny M A (call (.builtin "object.__ne__") [.ref x, b]) (fun v => Q (some v)) E s) : wpAny M A (callSpecialIfBound? (.ref x) "__ne__" [b]) Q E s := by
  simp only [callSpecialIfBound?, bindSpecialIfBound?]
  refine wpAny_holding (wpAny_bind (wpAny_bind (wpAny_bind (I.type.here ((PySem.W.looks_findIn X hs).here ?_)))))
  refine wpAny_bind (wpAny_askSetting (wpAny_ite ?_))
  have fin : wpAny M A (call (.builtin "object.__ne__") ([.ref x] ++ [b]) >>= fun v => pure (some v)) Q E s := wpAny_bind (wpAny_mono h (fun v s' h' => wpAny_pure h') fun _ _ h' => h')
  split
  · rw [F.cmp_object.ne.bind]
    exact wpAny_bind (wpAny_pure (wpAny_pure (by exact fin)))
  · refine wpAny_tryCatch ?_
    rw [F.cmp_object.ne.bind]
    exact wpAny_bind (wpAny_pure (wpAny_pure (by exact fin)))
theorem ne_entryK {Q : Fin → Shared → Prop} (X : K.In s.heap) (I : PySem.W.InstAt s.heap x ox C od) (hu : A.units < cLine) (hs : PySem.W.findIn K (.ref C) "__eq__" = some (some (.ref f))) (hf : PySem.W.isFn K (.ref f) = true)
    (hcall : wpAny (model prog w) A (call (.ref f) [.ref x, b]) (fun v s' => ∃ k, v = .bool k ∧ Q (.done (.ret (.bool (!k)))) s') E s) :
    wpAny (model prog w) A (Builtin.«object.__ne__» ⟨[.ref x, b], []⟩) Q E s := by
  unfold Builtin.«object.__ne__»
  have eq1 := fun (Q1 : Option Value → Shared → Prop) (h : wpAny (model prog w) A (call (.ref f) [.ref x, b]) (fun v => Q1 (some v)) E s) => PySem.W.ifBound_K (args := [b]) (E := E) X I hs hf h
  repeat (first
    | with_reducible refine wpAny_cRoomFor hu ?_
    | (refine wpAny_bind (m := callSpecialIfBound? (.ref x) (Str.ofString "__eq__") [b])
        (eq1 _ (wpAny_mono hcall (fun v s' hv => by
          obtain ⟨k, rfl, hq⟩ := hv
          repeat (first | exact hq | exact wpAny_pure hq | exact wpAny_truthy_bool hq | (refine wpAny_bind (m := truthy (.bool _)) (wpAny_truthy_bool ?_)) | wp_step)) fun _ _ e => e)))
    | wp_step)
theorem richK {op : CmpOp} {Q : Value → Shared → Prop} (hu : A.units < cLine) (X : K.In s.heap) (I : PySem.W.InstAt s.heap x ox C od) (hb : PySem.W.Looks (model prog w) s.heap (typeOf b) tb) (hn : PySem.W.notFirst K C tb = true)
    (h : wpAny (model prog w) A (tryCompare (.ref x) (cmpInfo op).2.1 b) (fun r s' => ∃ v, r = some v ∧ Q v s') E s) : wpAny (model prog w) A (richCompare op (.ref x) b) Q E s := by
  unfold richCompare
  simp only [oneThing_ref]
  refine wpAny_holding (wpAny_bind (wpAny_cRoomFor hu ?_))
  refine wpAny_bind (I.type.here (wpAny_bind (hb.here ?_)))
  split
  · rename_i q
    have e : PySem.W.subIn K tb (.ref C) = some false := by
      rcases Bool.or_eq_true_iff.mp hn with e | e
      · rw [beq_iff_eq.mp e] at q; simp at q
      · exact beq_iff_eq.mp e
    refine wpAny_bind ((PySem.W.looks_subIn X e).here ?_)
    simp only [Bool.false_eq_true, if_false]
    refine wpAny_bind (wpAny_mono h (fun r s' z => ?_) fun _ _ e => e)
    obtain ⟨v, rfl, hq⟩ := z
    exact wpAny_pure hq
  · refine wpAny_bind (wpAny_pure ?_)
    simp only [Bool.false_eq_true, if_false]
    refine wpAny_bind (wpAny_mono h (fun r s' z => ?_) fun _ _ e => e)
    obtain ⟨v, rfl, hq⟩ := z
    exact wpAny_pure hq
theorem cmp_ne {Q : Value → Shared → Prop} (hu : A.units + 1 < cLine) (X : K.In s.heap) (I : PySem.W.InstAt s.heap x ox C od) (hb : PySem.W.Looks (model prog w) s.heap (typeOf b) tb) (hn : PySem.W.notFirst K C tb = true)
    (hs : PySem.W.findIn K (.ref C) "__eq__" = some (some (.ref f))) (hf : PySem.W.isFn K (.ref f) = true) (hne : PySem.W.findIn K (.ref C) "__ne__" = some (some (.builtin "object.__ne__"))) (hm : PySem.W.mroIn K C (.type "object") = some true)
    (h : wpAny (model prog w) A.in1 (call (.ref f) [.ref x, b]) (fun v s' => ∃ k, v = .bool k ∧ Q (.bool (!k)) s') E s) : wpAny (model prog w) A (richCompare .NotEq (.ref x) b) Q E s := by
  refine richK (Nat.lt_of_succ_lt hu) X I hb hn ?_
  show wpAny (model prog w) A (tryCompare (.ref x) "__ne__" b) (fun r s' => ∃ v, r = some v ∧ Q v s') E s
  unfold tryCompare
  refine wpAny_bind (ifBound_ne (Q := fun r s' => wpAny (model prog w) A (match r with | some .notImplemented => pure none | none => pure none | some v => pure (some v)) (fun r s' => ∃ v, r = some v ∧ Q v s') E s') X I hne (wpAny_call (codeAny_call_builtin F.cmp_object.ne.plain F.cmpEntry_ne (check_slotK F.cmpKind_ne F.cmpSplit_ne (F.cmpArgs_ne _ _) X I hm (ne_entryK (A := A.in1) X I hu hs hf (wpAny_mono h (fun v s' hv => ?_) fun _ _ e => e))))))
  obtain ⟨k, rfl, hq⟩ := hv
  exact ⟨k, rfl, wpAny_pure ⟨_, rfl, hq⟩⟩
end
/-- y stands aside when an instance of the class at C is compared with it -/
def Aside (K : PySem.W.Frag) (C : Addr) (H : Hp) (y : V) : Prop := (∃ b dy gs, y = .ref b ∧ H b = some (.ins C dy gs)) ∨ (∃ b ys, y = .ref b ∧ SqT K H b ys ∧ PySem.W.subIn K (.type "tuple") (.ref C) = some false)
/-- x == y (neg: x != y), x an instance of the class at C with an own __eq__ -/
def rOwnEq (K : PySem.W.Frag) (C : Addr) (neg : Bool) (sp : Sp) (E : XK) : R2 := fun x y H Q => ∃ a dx fs, x = .ref a ∧ H a = some (.ins C dx fs) ∧ Aside K C H y ∧ sp [x, y] H (fun v H' => ∃ k, v = .bl k ∧ Q (.bl (k != neg)) H') E
section
variable {X : Cx} {CX : CXT} {C f : Addr} {fd : FuncData} {ps : List Str} {n : Nat} {sp : Sp} {E : XK}
theorem aside_looks {pins : List (Addr × Obj)} {σ : L2.St} {H : Hp} {s : Shared} {y : V} {u : Value} (I : Inv X pins σ H s) (ry : RelV y u) (h : Aside X.K C H y) : ∃ tb, PySem.W.Looks (model X.prog X.w) s.heap (typeOf u) tb ∧ PySem.W.notFirst X.K C tb = true := by
  rcases h with ⟨b, dy, gs, rfl, hb⟩ | ⟨b, ys, rfl, hb, hs⟩
  · cases (show u = Value.ref b from ry)
    obtain ⟨mB, J, _⟩ := ins_get I.hok hb
    obtain ⟨od, J, _⟩ := J.look
    exact ⟨_, J.type, by simp [PySem.W.notFirst]⟩
  · cases (show u = Value.ref b from ry)
    obtain ⟨its, _, ⟨o, e, ec, _⟩, _⟩ := I.tuple hb
    refine ⟨.type "tuple", ?_, by simp [PySem.W.notFirst, hs]⟩
    intro A Q E s' k q
    refine wpAny_typeOf_ref (k _ _ e) ?_
    rw [ec]
    exact q
theorem op_ownEq (hs : PySem.W.findIn X.K (.ref C) "__eq__" = some (some (.ref f))) (hf : PySem.W.isFn X.K (.ref f) = true) (F : FnOk X.prog X.w X.K X.mg X.base CX n f fd ps sp) (hb : Binds X.K fd ps [])
    (hr : Room n X.A) (hx : Passes CX X E) : OpR X (compareOp .Eq) (rOwnEq X.K C false sp E) := by
  intro pins s σ H x y v u Q I rx ry h
  obtain ⟨a, dx, fs, rfl, ha, hy, q⟩ := h
  cases (show v = Value.ref a from rx)
  obtain ⟨mA, J, _⟩ := ins_get I.hok ha
  obtain ⟨od, J, _⟩ := J.look
  obtain ⟨m, hF⟩ := I.fr
  obtain ⟨tb, L, hn⟩ := aside_looks I ry hy
  show wpAny (model X.prog X.w) X.A (richCompare .Eq (.ref a) u) (EP X pins σ Q) X.xe s
  refine PySem.W.cmp_K (op := .Eq) hr.units0 hF I.ok.mod.kin J L hn hs hf ?_
  refine wpAny_mono (run_fn (us := [.ref a, u]) (vs := [.ref a, y]) F hr hb .nil hx I (.cons rfl (.cons ry .nil)) q) (fun w s' z => ?_) fun _ _ x => x
  obtain ⟨z', H', I', rz, k, ez, qz⟩ := z
  subst ez
  cases (show w = Value.bool k from rz)
  refine ⟨.bl k, H', I', rfl, ?_⟩
  cases k <;> exact qz
theorem op_ownNe (hs : PySem.W.findIn X.K (.ref C) "__eq__" = some (some (.ref f))) (hf : PySem.W.isFn X.K (.ref f) = true) (hne : PySem.W.findIn X.K (.ref C) "__ne__" = some (some (.builtin "object.__ne__"))) (hm : PySem.W.mroIn X.K C (.type "object") = some true)
    (F : FnOk X.prog X.w X.K X.mg X.base CX n f fd ps sp) (hb : Binds X.K fd ps []) (hr : Room (n + 1) X.A) (hx : Passes CX X E) : OpR X (compareOp .NotEq) (rOwnEq X.K C true sp E) := by
  intro pins s σ H x y v u Q I rx ry h
  obtain ⟨a, dx, fs, rfl, ha, hy, q⟩ := h
  cases (show v = Value.ref a from rx)
  obtain ⟨mA, J, _⟩ := ins_get I.hok ha
  obtain ⟨od, J, _⟩ := J.look
  obtain ⟨tb, L, hn⟩ := aside_looks I ry hy
  show wpAny (model X.prog X.w) X.A (richCompare .NotEq (.ref a) u) (EP X pins σ Q) X.xe s
  refine cmp_ne (by have := hr.un; omega) I.kIn J L hn hs hf hne hm ?_
  have hl := F.len _ _ _ _ q
  have r2 : Vals [V.ref a, y] [Value.ref a, u] := .cons rfl (.cons ry .nil)
  refine wpAny_call (codeAny_mono (F.run X.A.in1 X.stack s H ⟨[.ref a, u], []⟩ [.ref a, u] [.ref a, y] _ E hr.in1 I.env0.in1 (by
    have := hb s [.ref a, u] I.kIn (by simpa using hl)
    simpa using this) r2 q) fun r s' hq => ?_)
  cases r with
  | error e => exact hx pins σ H s e s' I hq
  | ok fl =>
    cases fl with
    | ret w =>
      obtain ⟨z, H', I', rz, k, ez, qz⟩ := I.after hq
      subst ez
      cases (show w = Value.bool k from rz)
      refine ⟨k, rfl, .bl (!k), H', I', rfl, ?_⟩
      cases k <;> exact qz
    | next => exact False.elim hq
    | brk => exact False.elim hq
    | cont => exact False.elim hq
end
end EnL
end S_Xh
section S_Wi
/-! a lambda with one parameter, its default a constant, handed to a def that calls it without arguments -/
namespace LamX
open PySem PySem.Spec PyProof.Rows L2
/-- the function object of such a lambda: dv its defaults -/
abbrev dfFd (q : Str) (ps : Arguments) (bd : Expr) (sc : Scope) (cl : List (Str × Addr)) (dv pm cv ct : Value) : FuncData :=
  { PySem.W.kla_fn "<lambda>" q ps bd sc cl pm cv ct with defaults := dv }
abbrev dfObj (fd : FuncData) : Obj := { cls := .type "function", data := .func fd }
abbrev dfTup (v : Value) : Obj := { cls := .type "tuple", data := .seq #[v] }
abbrev dfArgs (x : Str) (ap : Pos) (e : Expr) : Arguments := { posonlyargs := [], args := [{ arg := x, annotation := none, pos := ap }], vararg := none, kwonlyargs := [], kw_defaults := [], kwarg := none, defaults := [e] }
section
variable {M : Model} {A : Around} {E : Value → Shared → Prop} {s : Shared} {q : Str} {ap : Arguments} {bd : Expr} {sc : Scope} {env : Env} {c P : Addr} {tr : Array Value} {pos : Pos} {fl : Nat} {mg : Str → Option Value}
  {cl : List (Str × Addr)} {dv : Value} {Q : Value → Shared → Prop}
theorem clo_tup {its : List Value} {b : Bool} {jp : Value → Sem Value} (h : ∀ (v : Value) (hh : Heap), (∀ a o, s.heap.get? a = some o → hh.get? a = some o) → s.heap.objs.size ≤ hh.objs.size → wpAny M A (jp v) Q E { s with heap := hh }) :
    wpAny M A (if b = true then pure Value.none >>= jp else newTextTuple its >>= jp) Q E s := by
  cases b with
  | true => exact wpAny_bind (wpAny_pure (h .none s.heap (fun _ _ e => e) (Nat.le_refl _)))
  | false => exact wpAny_bind (wpAny_newTextTuple (h _ _ (fun _ _ e => Heap.get?_push_of_some _ e) (by rw [Heap.size_push]; omega)))
/-- the object is made: its code object is new -/
theorem df_miss (h1 : closureFor sc env = pure cl) (h2 : env.globals = mainGlobals) (h3 : s.heap.Ns mainGlobals mg) (h4 : env.code = .ref c) (h5 : PySem.W.CodeHd s.heap c P) (h6 : s.heap.get? P = some (PySem.W.tabObj tr)) (h7 : TriplesOk tr.toList)
    (h8 : codeAmong pos tr.toList = none) (h9 : mainGlobals ≠ P) (hb : s.heap.BuiltinsAt mg P)
    (k : ∀ c' ct hh tk, Heap.ExtBut P s.heap hh → s.heap.objs.size ≤ c' → c' < hh.objs.size → hh.CodeRec (.ref c') q → hh.get? P = some (PySem.W.tabObj (tr ++ #[rawInt pos.line, rawInt pos.col, .ref c'])) →
      Q (.ref hh.objs.size) { s with heap := hh.push (dfObj (dfFd q ap bd sc cl dv ((mg "__name__").getD .none) (.ref c') ct)), toks := tk }) : wpAny M A (makeTail "<lambda>" q ap (.expr bd) sc env dv .none none pos fl) Q E s := by
  obtain ⟨bm, ob, b1, b2, _, b3, b4, b5, b6, b7⟩ := hb
  unfold makeTail
  rw [h1, h2]
  refine wpAny_bind (wpAny_pure ?_)
  refine clo_tup fun ct h0 k0 sz => ?_
  refine wpAny_bind (wpAny_functionCodeX h4 ((h5.keeps k0).code (k0 _ _ h6) h7) ((h5.keeps k0).tab (k0 _ _ h6)) h8 fun c' hh tk hx ge lt _ hrec htb _ => ?_)
  have g' := (h3.keeps k0).extBut hx h9
  have x' : Heap.ExtBut P s.heap hh := fun b o n e => hx b o n (k0 b o e)
  refine wpAny_bind (wpAny_builtinsFor g' b1 b2 (x' _ _ b3 b4) b5 b6 b7 (wpAny_bind (wpAny_nsGet g' ?_)))
  exact wpAny_bind (wpAny_pure (wpAny_newObj_type (k c' ct hh tk x' (Nat.le_trans sz ge) lt hrec htb.2) (by size_fits)))
/-- its code object stands in the table -/
theorem df_hit {cv : Value} (h1 : closureFor sc env = pure cl) (h2 : env.globals = mainGlobals) (h3 : s.heap.Ns mainGlobals mg) (h4 : env.code = .ref c) (h5 : PySem.W.CodeHd s.heap c P) (h6 : s.heap.get? P = some (PySem.W.tabObj tr)) (h7 : TriplesOk tr.toList)
    (h8 : codeAmong pos tr.toList = some cv) (hb : s.heap.BuiltinsAt mg P)
    (k : ∀ (ct : Value) (hh : Heap) (tk : Tok), (∀ a o, s.heap.get? a = some o → hh.get? a = some o) → s.heap.objs.size ≤ hh.objs.size → Q (.ref hh.objs.size) { s with heap := hh.push (dfObj (dfFd q ap bd sc cl dv ((mg "__name__").getD .none) cv ct)), toks := tk }) :
    wpAny M A (makeTail "<lambda>" q ap (.expr bd) sc env dv .none none pos fl) Q E s := by
  obtain ⟨bm, ob, b1, b2, _, b3, b4, b5, b6, b7⟩ := hb
  unfold makeTail
  rw [h1, h2]
  refine wpAny_bind (wpAny_pure ?_)
  refine clo_tup fun ct h0 k0 sz => ?_
  refine wpAny_bind (wpAny_functionCode_hit h4 ((h5.keeps k0).code (k0 _ _ h6) h7) h8 ?_)
  refine wpAny_bind (wpAny_builtinsFor (h3.keeps k0) b1 b2 (k0 _ _ b4) b5 b6 b7 (wpAny_bind (wpAny_nsGet (h3.keeps k0) ?_)))
  exact wpAny_bind (wpAny_pure (wpAny_newObj_type (k ct h0 s.toks k0 sz) (by size_fits)))
end
section
variable {X : Cx} {pins : List (Addr × Obj)} {σ : L2.St} {H : Hp} {s : Shared}
/-- the whole making -/
theorem lam_makeD {T : List (Addr × Str)} {c P : Addr} {x : Str} {ap : Pos} {e : Expr} {bd : Expr} {sc : Scope} {pos : Pos} {E : Value → Shared → Prop} {Q : Value → Shared → Prop} (I : Inv X pins σ H s) (TB : TabB X.base X.mg c P) (hcode : X.env.code = .ref c) (he : e.isPlainConst = true)
    (hm : (P, X.env.qual ++ "<lambda>") ∈ T) (hu : ∀ p ∈ T, p.1 = P → p.2 = X.env.qual ++ "<lambda>") (hT : Tabs T H) (hfree : ∀ y ∈ sc.names, y.2 = .free → ∃ c, X.env.cells.lookup y.1 = some c)
    (k : ∀ (f c' d : Addr) (v pm ct : Value) (H1 : Hp) (s' : Shared), Inv X pins σ H1 s' → ExtN H H1 → Tabs T H1 → s'.heap.get? f = some (dfObj (dfFd (X.env.qual ++ "<lambda>") (dfArgs x ap e) bd sc (cloFrom X.env.cells sc.names []) (.ref d) pm (.ref c') ct)) →
      s'.heap.get? d = some (dfTup v) → H1 f = none → H1 d = none → f ∉ frs X.stack → d ∉ frs X.stack → H1 c' = some (CodeO c' (X.env.qual ++ "<lambda>")) → Q (.ref f) s') :
    wpAny (model X.prog X.w) X.A (eval (.Lambda (dfArgs x ap e) bd sc pos) X.env) Q E s := by
  obtain ⟨tr, hP, ht, ha⟩ := hT _ hm
  rw [arm_eval_Lambda]
  show wpAny (model X.prog X.w) X.A (do let dv ← evalAll (evalEach [e] X.env); let kdv ← holding dv (evalAllOpt []); makeFunction "<lambda>" (X.env.qual ++ "<lambda>") (dfArgs x ap e) (.expr bd) sc X.env dv kdv [] pos pos.line) Q E s
  refine wpAny_bind (wpAny_evalAll_consts [e] s _ (fun z hz => by rw [List.mem_singleton.mp hz]; exact he) fun vs tk cv => ?_)
  obtain ⟨v, rfl⟩ : ∃ v, vs = [v] := by
    match vs, cv with
    | [v], _ => exact ⟨v, rfl⟩
    | _ :: _ :: _, cv => exact cv.2.elim
  refine wpAny_bind (wpAny_holding (wpAny_pure ?_))
  rw [makeFunction_eq]
  simp only [List.zip_nil_left, List.filterMap_nil, List.isEmpty_nil, List.isEmpty_cons, if_true, if_false, Bool.false_eq_true, pure_bind]
  refine wpAny_bind (wpAny_newTextTuple ?_)
  have nofr : ∀ f, s.heap.objs.size ≤ f → f ∉ frs X.stack := fun f hf z => by
    rcases List.mem_cons.mp (I.stkSub _ z) with e' | e'
    · have w := I.lt
      rw [← e'] at w
      exact Nat.lt_irrefl _ (Nat.lt_of_lt_of_le w hf)
    · exact I.nofs hf e'
  have hd : H s.heap.objs.size = none := I.hok.fresh (Nat.le_refl _)
  have dP : s.heap.objs.size ≠ P := fun z => by rw [z, hP] at hd; cases hd
  have I0 : Inv X pins σ H { s with heap := s.heap.push (dfTup v), toks := tk } := I.kept fun b o z => Heap.get?_push_of_some _ z
  have d0 : (s.heap.push (dfTup v)).get? s.heap.objs.size = some (dfTup v) := Heap.get?_push_size _ rfl
  have sz0 : s.heap.objs.size ≤ (s.heap.push (dfTup v)).objs.size := by rw [Heap.size_push]; omega
  have bP : (s.heap.push (dfTup v)).BuiltinsAt X.mg P := TB.bm.keeps I0.bk
  have hP' : (s.heap.push (dfTup v)).get? P = some { cls := .none, data := .fields tr } := I0.hok P _ hP
  cases hc : codeAmong pos tr.toList with
  | none =>
    refine df_miss (s := { s with heap := s.heap.push (dfTup v), toks := tk }) (mg := X.mg) (c := c) (P := P) (tr := tr) (closure_ok hfree) I.ok.glob (I.mod.glob.keeps I0.bk) hcode (TB.code.keeps I0.bk) hP' ht hc TB.gP bP fun c' ct hh tk' hx ge lt hrec htb => ?_
    obtain ⟨c2, oc, vs, t, e2, hoc, hdt, hv⟩ := hrec
    cases e2
    have ge' : (s.heap.push (dfTup v)).objs.size ≤ c' := ge
    have nC : H c' = none := I.hok.fresh (Nat.le_trans sz0 ge')
    have szh : (s.heap.push (dfTup v)).objs.size ≤ hh.objs.size := Nat.le_trans ge' (Nat.le_of_lt lt)
    have dc : s.heap.objs.size ≠ c' := fun z => by rw [← z, Heap.size_push] at ge'; omega
    have df : s.heap.objs.size ≠ hh.objs.size := fun z => by rw [← z, Heap.size_push] at szh; omega
    have I1 := inv_table (t' := tk') (more := #[rawInt pos.line, rawInt pos.col, .ref c']) (h' := hh.push (dfObj (dfFd (X.env.qual ++ "<lambda>") (dfArgs x ap e) bd sc (cloFrom X.env.cells sc.names []) (.ref s.heap.objs.size) ((X.mg "__name__").getD .none) (.ref c') ct))) I0 hP
      (fun b o hb z => Heap.get?_push_of_some _ (hx b o hb z)) (Heap.get?_push_of_some _ htb) ge ⟨oc, vs, t, Heap.get?_push_of_some _ hoc, hdt, hv⟩
    have hE : ExtN H (upd (upd H P (.tbl (tr ++ #[rawInt pos.line, rawInt pos.col, .ref c']))) c' (CodeO c' (X.env.qual ++ "<lambda>"))) := fun b o z n => by
      have bP' : b ≠ P := fun y => n tr (Option.some.inj (z.symm.trans (by rw [y]; exact hP)))
      rw [upd_ne (ne_of_none z nC), upd_ne bP']
      exact z
    have eL : (tr ++ #[rawInt pos.line, rawInt pos.col, .ref c']).toList = tr.toList ++ [rawInt pos.line, rawInt pos.col, .ref c'] := by simp
    have off : ∀ {b : Addr}, b ≠ c' → b ≠ P → H b = none → upd (upd H P (.tbl (tr ++ #[rawInt pos.line, rawInt pos.col, .ref c']))) c' (CodeO c' (X.env.qual ++ "<lambda>")) b = none := fun n1 n2 n3 => by rw [upd_ne n1, upd_ne n2]; exact n3
    refine k hh.objs.size c' s.heap.objs.size v ((X.mg "__name__").getD .none) ct _ _ I1 hE (fun p hp => ?_) (Heap.get?_push_size _ rfl) (Heap.get?_push_of_some _ (hx _ _ dP d0)) (off (Nat.ne_of_gt lt) (Nat.ne_of_gt (Nat.lt_of_lt_of_le (Heap.lt_size hP') szh)) (I.hok.fresh (Nat.le_trans sz0 szh))) (off dc dP hd) (nofr _ (Nat.le_trans sz0 szh)) (nofr _ (Nat.le_refl _)) upd_same
    by_cases hb : p.1 = P
    · rw [hu p hp hb, hb]
      refine ⟨_, by rw [upd_ne (ne_of_none hP nC), upd_same], by rw [eL]; exact PySem.TriplesOk_snoc _ _ _ _ ht, fun p' cv' hcv => ?_⟩
      rw [eL] at hcv
      rcases among_app _ ht hcv with z | z
      · obtain ⟨c0, y1, y2⟩ := ha p' cv' z
        exact ⟨c0, y1, hE _ _ y2 codeO_ne⟩
      · exact ⟨c', z, upd_same⟩
    · obtain ⟨tr2, a1, a2, a3⟩ := hT p hp
      refine ⟨tr2, by rw [upd_ne (ne_of_none a1 nC), upd_ne hb]; exact a1, a2, fun p' cv' hcv => ?_⟩
      obtain ⟨c0, y1, y2⟩ := a3 p' cv' hcv
      exact ⟨c0, y1, hE _ _ y2 codeO_ne⟩
  | some cv =>
    obtain ⟨c', y, hco⟩ := ha pos cv hc
    subst y
    refine df_hit (s := { s with heap := s.heap.push (dfTup v), toks := tk }) (mg := X.mg) (c := c) (P := P) (tr := tr) (closure_ok hfree) I.ok.glob (I.mod.glob.keeps I0.bk) hcode (TB.code.keeps I0.bk) hP' ht hc bP fun ct hh tk' hx szh => ?_
    have I1 : Inv X pins σ H { s with heap := hh.push (dfObj (dfFd (X.env.qual ++ "<lambda>") (dfArgs x ap e) bd sc (cloFrom X.env.cells sc.names []) (.ref s.heap.objs.size) ((X.mg "__name__").getD .none) (.ref c') ct)), toks := tk' } := I0.kept fun b o z => Heap.get?_push_of_some _ (hx b o z)
    exact k hh.objs.size c' s.heap.objs.size v ((X.mg "__name__").getD .none) ct H _ I1 (ExtN.refl H) hT (Heap.get?_push_size _ rfl) (Heap.get?_push_of_some _ (hx _ _ d0)) (I.hok.fresh (Nat.le_trans sz0 szh)) hd (nofr _ (Nat.le_trans sz0 szh)) (nofr _ (Nat.le_refl _)) hco
end
/-- its names: the parameter x alone is its own -/
structure LamSD (sc scope : Scope) (x : Str) : Prop where
  kind : scope.kind = .function
  co : scope.isCoroutine = false
  gen : scope.isGenerator = false
  own : ∀ y ∈ scope.names, (y.2 = .local → y.1 = x) ∧ y.2 ≠ .cell
  loc : scope.names.lookup x = some .local
  free : ∀ y ∈ scope.names, y.2 = .free → sc.names.lookup y.1 = some .cell ∨ sc.names.lookup y.1 = some .free
def lamSDB (sc scope : Scope) (x : Str) : Bool :=
  decide (scope.kind = .function) && (!scope.isCoroutine && (!scope.isGenerator && (decide (scope.names.lookup x = some .local) && scope.names.all fun y => (!decide (y.2 = .local) || decide (y.1 = x)) && (!decide (y.2 = .cell) && (!decide (y.2 = .free) || (decide (sc.names.lookup y.1 = some .cell) || decide (sc.names.lookup y.1 = some .free)))))))
theorem lamSD_by {sc scope : Scope} {x : Str} (h : lamSDB sc scope x = true) : LamSD sc scope x := by
  unfold lamSDB at h
  simp only [Bool.and_eq_true, Bool.or_eq_true, Bool.not_eq_true', decide_eq_true_eq, decide_eq_false_iff_not, List.all_eq_true] at h
  obtain ⟨a1, a2, a3, a4, a5⟩ := h
  exact ⟨a1, a2, a3, fun y hy => ⟨fun e => (a5 y hy).1.elim (fun n => absurd e n) id, (a5 y hy).2.1⟩, a4, fun y hy e => (a5 y hy).2.2.elim (fun n => absurd e n) id⟩
theorem LamSD.has {X : Cx} {scope : Scope} {x : Str} (L : LamSD X.env.scope scope x) (ok : X.Ok) : ∀ y ∈ scope.names, y.2 = .free → ∃ c, X.env.cells.lookup y.1 = some c := fun y hy e =>
  (L.free y hy e).elim (fun z => ok.has _ (.inl z)) fun z => ok.has _ (.inr z)
section
variable {X : Cx} {pins : List (Addr × Obj)} {σ : L2.St} {H HZ : Hp} {s s1 : Shared}
theorem lam_startD {A : Around} {outer : List Env} {E : XK} {scope : Scope} {f c' : Addr} {h₁ : Heap} {tk : Nat} {x : Str} {v : Value} (I : Inv X pins σ H s) (L : LamSD X.env.scope scope x) (hx : x ∉ X.N) (z0 : Env0 X.prog X.w X.K X.mg X.base A outer s1 HZ) (z1 : A.handled = none)
    (un : Un (frs X.stack) [] H HZ s.heap s1.heap) (ns : h₁.Ns s1.heap.objs.size fun y => ([(x, v)] : List (Str × Value)).reverse.lookup y) (kp : ∀ b o, s1.heap.get? b = some o → h₁.get? b = some o) :
    Inv (lamCx X A outer s1 HZ E scope f c') [] σ HZ { s1 with heap := h₁, toks := tk } := by
  have hfree := L.has I.ok
  have cm : ∀ {y c}, (cloFrom X.env.cells scope.names []).lookup y = some c → X.env.cells.lookup y = some c := fun {y c} e => by
    rcases cloFrom_mem (PySem.mem_of_lookup e) with m | ⟨m1, m2⟩
    · cases m
    · obtain ⟨c1, hc⟩ := hfree _ m1 rfl
      have hc : X.env.cells.lookup y = some c1 := hc
      obtain rfl : c = c1 := by rw [m2, hc] <;> rfl
      exact hc
  have look : ∀ {y}, scope.names.lookup y = some .free → ∃ c, (cloFrom X.env.cells scope.names []).lookup y = some c := fun {y} m =>
    mem_lookup (cloFrom_has (cells := X.env.cells) (acc := []) (show (y, NameKind.free) ∈ scope.names from PySem.mem_of_lookup m))
  have cellK : ∀ {c : Addr} {u : Option Value}, H c = none → s.heap.IsCell c u → h₁.IsCell c u := fun {c u} n ⟨o, ho, hd⟩ => by
    obtain ⟨sl, w⟩ := un.any ho n (by simp)
    exact ⟨_, kp _ _ w, hd⟩
  have noA : ∀ b : Addr, b ∉ (lamCx X A outer s1 HZ E scope f c').ex := fun b m => absurd (show b ∈ ([] : List Addr) from m) (by simp)
  refine ⟨⟨z0.mod, L.kind, rfl, rfl, Nat.le_refl _, fun y m c e1 e2 => I.ok.inj y m c (cm e1) (cm e2), fun y hy => ?_, fun y c m _ => ?_, fun _ => z1, Around.frames_deeper z0.frames, .inr ⟨rfl, rfl⟩, fun b m => absurd m (noA b), z0.bs, z0.bsz, fun b _ _ => noA b,
      fun b m => absurd m (noA b), z0.funs, z0.frf⟩,
    rfl, z0.bare, Un.kept kp, ⟨_, ns, fun i y u e1 e2 e3 => ?_⟩, fun y c e => ?_, z0.hok.fresh (Nat.le_refl _), fun y c e => ?_, fun p hp => absurd (show p ∈ ([] : List (Addr × Obj)) ++ [] from hp) (by simp), z0.hok.kept kp, I.len⟩
  · have hy : scope.names.lookup y = some .cell ∨ scope.names.lookup y = some .free := hy
    exact hy.elim (fun m => absurd rfl (L.own _ (PySem.mem_of_lookup m)).2) look
  · cases (show false = true from m)
  · have e1' : X.N[i]? = some y := e1
    have e3 : Vis scope y := e3
    rcases e3 with m | m | m
    · have m' := (L.own _ (PySem.mem_of_lookup m)).1 rfl
      exact absurd (m' ▸ List.mem_of_getElem? e1') hx
    · exact absurd rfl (L.own _ (PySem.mem_of_lookup m)).2
    · obtain ⟨mm, hn, hl⟩ := I.loc
      have vis : Vis X.env.scope y := (L.free _ (PySem.mem_of_lookup m) rfl).elim (fun m => .inr (.inl m)) (fun m => .inr (.inr m))
      obtain ⟨u', r, w⟩ := hl i y u e1 e2 vis
      obtain ⟨c2, m2⟩ := look m
      refine ⟨u', r, .inr ⟨.inr m, c2, m2, ?_⟩⟩
      have c1 := cm m2
      rcases w with ⟨k', _⟩ | ⟨_, c3, e', w⟩
      · have k' : X.env.scope.names.lookup y = some .local := k'
        rcases L.free _ (PySem.mem_of_lookup m) rfl with k2 | k2 <;> rw [show X.env.scope.names.lookup y = _ from k2] at k' <;> cases k'
      · rw [c1] at e'
        cases e'
        exact cellK (I.freeC y _ c1) w
  · obtain ⟨u', w⟩ := I.cell y c (cm e)
    exact ⟨u', cellK (I.freeC y c (cm e)) w⟩
  · obtain ⟨u, o, ho, hd⟩ := I.cell y c (cm e)
    exact un.free c o ho (I.freeC y c (cm e)) (by simp)
/-- how the call without arguments binds -/
def BindsD (x : Str) (ps : Arguments) (bd : Expr) (sc : Scope) : Prop := ∀ (q : Str) (cl : List (Str × Addr)) (d : Addr) (v pm cv ct : Value), ∃ k, bindArgs (dfFd q ps bd sc cl (.ref d) pm cv ct) ⟨[], []⟩ = seqItems? (.ref d) >>= k ∧ k (some #[v]) = pure [(x, v)]
theorem pe_actD {CXg : CXT} {Eg : XK} {Ng : List Str} {qg : Str} {sg : Scope} {g f c' d : Addr} {cdg pm ct v : Value} {ps : Arguments} {bd : Expr} {scope : Scope} {k i : Nat} {a x : Str} {pn : List (Addr × Obj)} {xe : Value → Shared → Prop} {W : WX} {E : XK} {tb : TE} {p1 p2 : Pos}
    (I : Inv X pins σ H s) (L : LamSD X.env.scope scope x) (hx : x ∉ X.N) (hf : s.heap.get? f = some (dfObj (dfFd (X.env.qual ++ "<lambda>") ps bd scope (cloFrom X.env.cells scope.names []) (.ref d) pm (.ref c') ct))) (hdv : s.heap.get? d = some (dfTup v)) (nf : H f = none) (nd : H d = none) (ff : f ∉ frs X.stack) (fd : d ∉ frs X.stack)
    (hbind : BindsD x ps bd scope)
    (tk : Takes ((cxOf CXg X.prog X.w X.K X.mg X.base Ng qg sg g cdg X.A X.stack s H Eg).tr pn xe) W) (hW : ∀ cls d σ' H', E cls d H' → W cls d σ' H') (hr : Room (k + 1) (X.A.deeper (envOfC qg sg s.heap.objs.size g cdg)))
    (hbody : ∀ (A : Around) (outer : List Env) (s : Shared) (H : Hp), Room k (A.deeper (lamEnv X scope s.heap.objs.size f c')) → PE (lamCx X A outer s H E scope f c') bd tb)
    (hN : Ng[i]? = some a) (hv : Vis sg a) (hd : (a == ("__debug__" : Str)) = false := by decide) (hcd : (a == ("__classdict__" : Str)) = false := by decide) :
    PE ((cxOf CXg X.prog X.w X.K X.mg X.base Ng qg sg g cdg X.A X.stack s H Eg).tr pn xe) (.Call (.Name a p1) [] [] p2)
      (fun σZ HZ Q => σZ[i]? = some (some (.ref f)) ∧ HZ c' = some (CodeO c' (X.env.qual ++ "<lambda>")) ∧ tb σ HZ Q) := by
  refine ⟨fun pinsZ sZ σZ HZ Q IZ ⟨hs, hc, ht⟩ => ?_⟩
  refine wpAny_Call_Name_kw (thn ((pe_var (pos := p1) (i := i) hN hv hd hcd).run pinsZ sZ σZ HZ (fun u H1 => u = .ref f ∧ H1 = HZ) IZ ⟨.ref f, hs, rfl, rfl⟩) fun u s1 ⟨u', H1, I1, r1, w1⟩ => ?_)
  obtain ⟨w1, w2⟩ := w1
  subst w1
  rw [w2] at I1
  obtain rfl : u = Value.ref f := r1
  have noX : ∀ b : Addr, b ∉ ([] : List Addr) := fun b z => nomatch z
  have of1 : s1.heap.get? f = some (dfObj (dfFd (X.env.qual ++ "<lambda>") ps bd scope (cloFrom X.env.cells scope.names []) (.ref d) pm (.ref c') ct)) := I1.base.keep f _ hf nf ff (noX f)
  have od1 : s1.heap.get? d = some (dfTup v) := I1.base.keep d _ hdv nd fd (noX d)
  refine PySem.W.callWith_F0 ⟨_, _, _, _, of1⟩ ?_
  have un : Un (frs X.stack) [] H HZ s.heap s1.heap := I1.base
  obtain ⟨⟨oc, vs, t, o1, o2, o3⟩, _, _⟩ := I1.hok c' _ hc
  obtain ⟨kb, bk1, bk2⟩ := hbind (X.env.qual ++ "<lambda>") (cloFrom X.env.cells scope.names []) d v pm (.ref c') ct
  have rc : codeAny (model X.prog X.w) (X.A.deeper (envOfC qg sg s.heap.objs.size g cdg)) (.call (.ref f) ⟨[], []⟩) (CR (L2.CX X.prog X.w) (envOfC qg sg s.heap.objs.size g cdg :: X.stack) X.prog X.w HZ s1 Q E) s1 := by
    refine PySem.W.kla_callFunE hr.depth of1 rfl L.co L.gen rfl ⟨c', oc, vs, t, rfl, o1, o2, o3⟩ ?_
    rw [bk1]
    refine wpAny_bind (wpAny_seqItems od1 rfl ?_)
    rw [bk2]
    refine wpAny_pure (wpAny_newFunctionEnv (fun y hy => (L.own y hy).2) (fun y hy => by rw [List.mem_singleton.mp hy]; exact L.loc) (fun h₁ hns hsb => ⟨I1.nolimit.fresh _ hsb, ?_⟩) L.kind)
    show codeAny _ _ (.expr bd (lamEnv X scope s1.heap.objs.size f c')) _ _
    have kp : ∀ b o, s1.heap.get? b = some o → h₁.get? b = some o := fun b o z => hsb.extBut b o (Nat.ne_of_lt (Heap.lt_size z)) (Heap.get?_push_of_some _ z)
    have J : Inv (lamCx X (X.A.deeper (envOfC qg sg s.heap.objs.size g cdg)) (envOfC qg sg s.heap.objs.size g cdg :: X.stack) s1 HZ E scope f c') [] σ HZ { s1 with heap := h₁, toks := s1.toks + ([(x, v)] : List (Str × Value)).length } :=
      lam_startD I L hx I1.env0 hr.hd un hns kp
    refine PySem.W.kla_codeExpr (wpAny_mono ((hbody _ _ s1 HZ (hr.deeper _)).run [] _ _ HZ Q J ht) (fun u s' hq => ?_) fun z s' hq => hq)
    obtain ⟨w', H', J', rv, q⟩ := hq
    exact ⟨w', H', J'.os, J'.bare, J'.base, J'.hok, rv, q⟩
  have hxp : Passes (L2.CX X.prog X.w) ((cxOf CXg X.prog X.w X.K X.mg X.base Ng qg sg g cdg X.A X.stack s H Eg).tr pn xe) E := passes_call tk hW
  refine wpAny_call (codeAny_mono rc fun r s' hq => ?_)
  match r, hq with
  | .error z, hq => exact hxp pinsZ σZ HZ s1 z s' I1 hq
  | .ok (.ret u), hq => exact I1.after hq
  | .ok .next, hq => exact hq.elim
  | .ok .brk, hq => exact hq.elim
  | .ok .cont, hq => exact hq.elim
end
section
variable {X : Cx}
/-- g(lambda x=const: body) -/
theorem pe_lamcallD {T : List (Addr × Str)} {TT : (XK → Hp → VK → Prop) → Hp → VK → Prop} {gn a x : Str} {g c P : Addr} {k : Nat} {pg : Arguments} {bg : List Stmt} {sg : Scope} {dV kV doc pm cdv ct oc : Value} {an od : Option Addr} {osl : Array (Option Value)} {Ng : List Str}
    {ap : Pos} {e bd : Expr} {scope : Scope} {t : XK → TE} {p lpos pos : Pos} (hg : Gl X gn) (hm : X.mg gn = some (.ref g)) (hk : PySem.W.keepIn X.K (.ref g) = true)
    (lk : X.K.lookup g = some ⟨oc, od, .func (PySem.W.fnOf gn gn pg bg sg dV kV doc pm an cdv ct), osl⟩) (hcg : PySem.W.codeIn X.K cdv gn = true) (hb : L2.Binds X.K (PySem.W.fnOf gn gn pg bg sg dV kV doc pm an cdv ct) [a] []) (Sg : FnScope Ng [a] sg) (hNg : Ng[0]? = some a) (hva : Vis sg a)
    (hG : GivesTo X Ng gn sg g cdv bg a (X.env.qual ++ "<lambda>") TT)
    (TB : TabB X.base X.mg c P) (hcode : X.env.code = .ref c) (hmT : (P, X.env.qual ++ "<lambda>") ∈ T) (hu : ∀ p ∈ T, p.1 = P → p.2 = X.env.qual ++ "<lambda>") (hr : Room (k + 2) X.A) (L : LamSD X.env.scope scope x) (hx : x ∉ X.N) (he : e.isPlainConst = true)
    (hbind : BindsD x (dfArgs x ap e) bd scope)
    (hbody : ∀ (A : Around) (outer : List Env) (s : Shared) (H : Hp) (E : XK) (f c' : Addr), Room k (A.deeper (lamEnv X scope s.heap.objs.size f c')) → PE (lamCx X A outer s H E scope f c') bd (t E))
    (hdb : (gn == ("__debug__" : Str)) = false := by decide) (hd : (a == ("__debug__" : Str)) = false := by decide) (hcd : (a == ("__classdict__" : Str)) = false := by decide) :
    PE X (.Call (.Name gn p) [.Lambda (dfArgs x ap e) bd scope lpos] [] pos) (tLam T TT t) := by
  refine ⟨fun pins s σ H Q I ⟨hT, h⟩ => ?_⟩
  refine wpAny_Call_Name_kw (ld_glob I hg hm ?_ hdb)
  refine PySem.W.callWith_K (h₀ := X.base) I.ok.mod.kin hk ?_ (by rfl) (by rfl)
  show wpAny _ _ (spliced ((false, eval (.Lambda (dfArgs x ap e) bd scope lpos) X.env) :: backTo pos (starEach [] X.env))) _ _ s
  refine Calls.spliced_cons (lam_makeD I TB hcode he hmT hu hT (L.has I.ok) fun f c' d v pm' ctv H1 s' I1 eN T1 hf hdv nf nd ff fd hco => ?_)
  refine Calls.spliced_nil ⟨I1.kIn, ?_⟩
  have rc : codeAny (model X.prog X.w) X.A (.call (.ref g) ⟨[.ref f], []⟩) (CR C8.CX0 X.stack X.prog X.w H1 s' Q C8.E0) s' := by
    refine run_ofS (N := Ng) (ps := [a]) (us := [.ref f]) (vs := [.ref f]) lk hcg Sg hr I1.env0 (hb s' [.ref f] I1.kIn rfl) (.cons rfl .nil) rfl fun hr' => ?_
    obtain ⟨t', ht', hq'⟩ := hG f c' s' H1 Q (fun E H' Q' => t E σ H' Q') (fun W pn xe E p1 p2 tk hW => pe_actD (i := 0) I1 L hx hf hdv nf nd ff fd hbind tk hW hr' (fun A outer s H hr2 => hbody A outer s H E f c' hr2) hNg hva hd hcd) hco (h H1 eN T1)
    exact ⟨t', ht'.nox, hq'⟩
  refine wpAny_call (codeAny_mono rc fun r s2 hq => ?_)
  match r, hq with
  | .error z, hq => exact (show False from hq).elim
  | .ok (.ret u), hq => exact I1.after hq
  | .ok .next, hq => exact hq.elim
  | .ok .brk, hq => exact hq.elim
  | .ok .cont, hq => exact hq.elim
end
end LamX
end S_Wi
section S_Wk
namespace Hk
open PySem PySem.Spec PyProof.Rows L2 LamX Tl
/-- caught = None / try: ask() / except E as error: caught = error / rest -/
def THeardS (K : PySem.W.Frag) (CS : Addr) (tr : TS) : (XK → Hp → VK → Prop) → Hp → VK → Prop := fun tl H Q => ∀ f : Addr,
  tl (fun cls d H' => PySem.W.exmOne K cls (.ref CS) = some true ∧ ∀ a, H' a = none → ∀ σ' : L2.St, σ'.length = 3 → σ'[1]? = some (some (.ref a)) → tr { nx := fun _ G => Q .non G, rt := Q } σ' (upd H' a (ErrAt cls d a))) H
    fun _ H' => tr { nx := fun _ G => Q .non G, rt := Q } [some (.ref f), some .non, none] H'
theorem heard_givesS {X : Cx} {x e q : Str} {sg : Scope} {g CS : Addr} {cdg : Value} {j : Nat} {rest : List Stmt} {tr : TS} {p1 p2 p3 p4 p5 p6 p7 p8 p9 r1 r2 r3 : Pos} (Sg : FnScope nAsk ["ask"] sg) (k1 : sg.names.lookup ("caught" : Str) = some NameKind.local) (k2 : sg.names.lookup ("error" : Str) = some NameKind.local)
    (hge : sg.names.lookup e = some .globalImplicit) (hme : X.mg e = some (.ref CS)) (hde : (e == ("__debug__" : Str)) = false)
    (hrt : ∀ (A : Around) (s : Shared) (H : Hp), PSs (cxA X x sg g cdg A s H) rest tr) :
    GivesTo X nAsk x sg g cdg (.Assign [.Name "caught" p1] (.Constant .none j p2) p3 :: .Try [.Expr (.Call (.Name "ask" r1) [] [] r2) r3] [.ExceptHandler (some (.Name e p4)) (some "error") [.Assign [.Name "caught" p5] (.Name "error" p6) p7] p8] [] [] p9 :: rest) "ask" q (THeardS X.K CS tr) := by
  intro f c' s H Q tl act hc h
  have gE : Gl (cxA X x sg g cdg X.A s H) e := hge
  have l1 : ∀ {Y : Cx}, Y.env.scope = sg → (Y.fn "caught" = true ∨ Y.env.scope.names.lookup ("caught" : Str) = some NameKind.local) := fun z => .inr (by rw [z]; exact k1)
  refine ⟨_, pss_cons (ps_set (X := cxA X x sg g cdg X.A s H) (i := 1) Sg.nd rfl (Or.inl k1) pe_non rfl (l1 rfl)) (pss_cons (ps_keep (X := cxA X x sg g cdg X.A s H) (i := 2) (c := .ref CS) (ts := fun _ _ _ => tAsg (tVar 2) (gName 1))
      (tb := fun W D σ H => ∃ Ech : XK, (∀ cls d σ' H', Ech cls d H' → σ'.length = 3 → W cls d σ' H') ∧ σ[0]? = some (some (.ref f)) ∧ H c' = some (CodeO c' q) ∧ tl Ech H (fun _ H' => D.nx σ H'))
      rfl rfl rfl Sg.nd rfl k2 ⟨gE, hde, Or.inl hme⟩ (fun W pn xe tk _ => ?_) (fun a oe cls d pn _ _ => pss_one (ps_set (i := 1) Sg.nd rfl (Or.inl k1) (pe_var (i := 2) rfl (Or.inl k2)) rfl (l1 rfl)))) (hrt X.A s H)), ?_⟩
  · refine ⟨fun pins s' σ H' D I ⟨Ech, hW, h1, h2, h3⟩ => ?_⟩
    have hp := act (fun cls d σ H => σ.length = nAsk.length → W cls d σ H) pn xe Ech r1 r2 (takes_len tk) hW
    exact (pss_one (ps_expr (pos := r3) hp)).run pins s' σ H' D I ⟨h1, h2, h3⟩
  · have h' := h f
    refine ⟨fun cls d H' => PySem.W.exmOne X.K cls (.ref CS) = some true ∧ ∀ a, H' a = none → ∀ σ' : L2.St, σ'.length = 3 → σ'[1]? = some (some (.ref a)) → tr { nx := fun _ G => Q .non G, rt := Q } σ' (upd H' a (ErrAt cls d a)), ?_, rfl, hc, h'⟩
    rintro cls d σ' H' ⟨he, hk⟩ hl
    refine ⟨he, fun a na => ?_⟩
    exact ⟨.ref a, by rw [List.getElem?_set_self (by omega)] <;> rfl, fun na' => hk a na' _ (by simp [hl]) (by rw [List.getElem?_set_ne (by decide), List.getElem?_set_self (by simp [hl])] <;> rfl)⟩
/-! ### what stays while tables grow and the drawer draws -/
/-- H without its tables, and without what stands at t -/
def strip (t : Addr) (H : Hp) : Hp := fun a => if a = t then none else match H a with
  | some (.tbl _) => none
  | o => o
theorem strip_at {t a : Addr} {H : Hp} {o : HO} (h : H a = some o) (ht : a ≠ t) (hn : ∀ ps, o ≠ .tbl ps) : strip t H a = some o := by
  unfold strip
  rw [if_neg ht, h]
  split
  · rename_i ps e
    exact absurd (Option.some.inj e) (hn ps)
  · rfl
theorem strip_le {t a : Addr} {H : Hp} {o : HO} (h : strip t H a = some o) : a ≠ t ∧ H a = some o ∧ ∀ ps, o ≠ .tbl ps := by
  unfold strip at h
  by_cases z : a = t
  · rw [if_pos z] at h
    cases h
  · rw [if_neg z] at h
    refine ⟨z, ?_⟩
    split at h
    · cases h
    · rename_i hh
      refine ⟨h, fun ps e => ?_⟩
      rw [e] at h
      exact hh ps h
theorem strip_new {t a : Addr} {H : Hp} (h : H a = none) : strip t H a = none := by
  unfold strip
  split
  · rfl
  · rw [h]
theorem strip_ex {t : Addr} {H : Hp} : Evl.Ex (strip t H) H := fun a o h => (strip_le h).2.1
theorem strip_n {t : Addr} {H H' : Hp} (e : ExtN H H') : Evl.Ex (strip t H) H' := fun a o h => e a o (strip_le h).2.1 (strip_le h).2.2
theorem strip_nt {t : Addr} {H : Hp} : ∀ a ps, strip t H a ≠ some (.tbl ps) := fun a ps h => (strip_le h).2.2 ps rfl
/-- B, which holds no table, stands; so do the tables -/
structure Live (T : List (Addr × Str)) (B H : Hp) : Prop where
  ex : Evl.Ex B H
  nt : ∀ a ps, B a ≠ some (.tbl ps)
  tabs : Tabs T H
theorem Live.exN {T : List (Addr × Str)} {B H H' : Hp} (l : Live T B H) (e : ExtN H H') (t : Tabs T H') : Live T B H' := ⟨fun a o h => e a o (l.ex a o h) fun ps z => l.nt a ps (z ▸ h), l.nt, t⟩
theorem Live.go {T : List (Addr × Str)} {B H H' : Hp} (l : Live T B H) (e : Evl.Ex H H') : Live T B H' := ⟨l.ex.trans e, l.nt, l.tabs.ext e⟩
theorem Live.add {T : List (Addr × Str)} {B H : Hp} {p : Addr} {o : HO} (l : Live T B H) (h : H p = some o) (ho : ∀ ps, o ≠ .tbl ps) : Live T (upd B p o) H := ⟨fun a u e => by
  by_cases z : a = p
  · rw [z, upd_same] at e
    rw [z, h]
    exact e
  · rw [upd_ne z] at e
    exact l.ex a u e, fun a ps => by
  by_cases z : a = p
  · rw [z, upd_same]
    exact fun e => ho ps (Option.some.inj e)
  · rw [upd_ne z]
    exact l.nt a ps, l.tabs⟩
theorem Live.fresh {T : List (Addr × Str)} {B H : Hp} {p : Addr} (l : Live T B H) (h : H p = none) : B p = none := by
  cases e : B p with
  | none => rfl
  | some o =>
    have := l.ex p o e
    rw [h] at this
    cases this
section
variable {K : PySem.W.Frag} {σ : L2.St} {G : Hp}
theorem ev_isK {a D : Addr} {d : Option Addr} {fs : List (Str × V)} {c : Addr} {b : Bool} {i : Nat} (hσ : σ[i]? = some (some (.ref a))) (ha : G a = some (ErrAt (.ref D) d a)) (hd : DictAt G d fs) (E : ErrC K D) (hk : PySem.W.kitOne K (.ref D) (.ref c) = some b) :
    Evl.Ev (tCB (fun xs H Q => rIsi K xs H Q ∨ rIsK K xs H Q) (tCons (tVar i) (tCons (tC (.ref c)) tNil))) σ G (.bl b) := fun H1 e Q q =>
  ⟨.ref a, hσ, .inr ⟨a, D, d, fs, .ref c, .ref c, b, rfl, e _ _ ha, hd.imp fun x ⟨y, z⟩ => ⟨y, e _ _ z⟩, E, .own c, hk, q H1 (Evl.Ex.refl H1)⟩⟩
theorem ev_isNone {c : Addr} {b : Bool} {i : Nat} (hσ : σ[i]? = some (some .non)) (hk : PySem.W.kitOne K (.type "NoneType") (.ref c) = some b) :
    Evl.Ev (tCB (fun xs H Q => rIsi K xs H Q ∨ rIsK K xs H Q) (tCons (tVar i) (tCons (tC (.ref c)) tNil))) σ G (.bl b) := fun H1 e Q q =>
  ⟨.non, hσ, .inl ⟨.non, .ref c, .type "NoneType", .ref c, b, rfl, .own c, .base .non, hk, q H1 (Evl.Ex.refl H1)⟩⟩
theorem ev_keptF {a D : Addr} {d : Option Addr} {fs : List (Str × V)} {f : Str} {v : V} {i : Nat} (hσ : σ[i]? = some (some (.ref a))) (ha : G a = some (ErrAt (.ref D) d a)) (hd : DictAt G d fs) (E : ErrC K D) (hn : PySem.W.findIn K (.ref D) f = some none) (hl : fs.lookup f = some v) :
    Evl.Ev (tKeptF K f (tVar i)) σ G v := fun H1 e Q q => ⟨.ref a, hσ, a, D, d, fs, v, rfl, e _ _ ha, hd.imp fun x ⟨y, z⟩ => ⟨y, e _ _ z⟩, E, hn, hl, q H1 (Evl.Ex.refl H1)⟩
/-- a lambda heard that raises an error of the class D: a new tuple -/
theorem lam_raise {T : List (Addr × Str)} {CS D : Addr} {tr : TS} {t : XK → TE} {B H : Hp} {Q : VK} {fs : List (Str × V)} {vs : List V} (l : Live T B H) (hx : PySem.W.exmOne K (.ref D) (.ref CS) = some true)
    (ht : ∀ H1 E Q', Evl.Ex B H1 → (∀ H2 d, Evl.Ex H1 H2 → H2 d = none → E (.ref D) (some d) (upd H2 d (.xd fs))) → t E σ H1 Q')
    (hr : ∀ (G : Hp) (a d : Addr) (σ' : L2.St) (D' : Ends), G a = some (ErrAt (.ref D) (some d) a) → DictAt G (some d) fs → σ'.length = 3 → σ'[1]? = some (some (.ref a)) → (∀ p G', G p = none → Evl.Ex G G' → G' p = some (.tup vs) → D'.rt (.ref p) G') → tr D' σ' G)
    (k : ∀ p H3, Live T (upd B p (.tup vs)) H3 → H3 p = some (.tup vs) → B p = none → Q (.ref p) H3) : tLam T (THeardS K CS tr) t σ H Q := by
  refine ⟨l.tabs, fun H1 eN T1 f => ht H1 _ _ (l.exN eN T1).ex fun H2 d e2 hd => ⟨hx, fun a na σ' hl hσ => ?_⟩⟩
  have ad : d ≠ a := fun z => by rw [← z, upd_same] at na; cases na
  have eG : Evl.Ex H1 (upd (upd H2 d (.xd fs)) a (ErrAt (.ref D) (some d) a)) := (e2.trans (Evl.Ex.new hd)).trans (Evl.Ex.new na)
  refine hr _ a d σ' _ upd_same ⟨d, rfl, by rw [upd_ne ad, upd_same]⟩ hl hσ fun p G' hp e hG' => ?_
  have L := ((l.exN eN T1).go eG).go e
  refine k p G' (L.add hG' fun ps z => nomatch z) hG' ?_
  exact ((l.exN eN T1).go eG).fresh hp
/-- a lambda heard that raises nothing -/
theorem lam_calm {T : List (Addr × Str)} {CS : Addr} {tr : TS} {t : XK → TE} {B H : Hp} {Q : VK} (l : Live T B H)
    (ht : ∀ H1 E Q', Evl.Ex B H1 → (∀ v H2, Evl.Ex H1 H2 → Q' v H2) → t E σ H1 Q')
    (hr : ∀ (G : Hp) (f : Addr) (D' : Ends), (∀ G', Evl.Ex G G' → D'.rt .non G') → tr D' [some (.ref f), some .non, none] G)
    (k : ∀ H3, Live T B H3 → Q .non H3) : tLam T (THeardS K CS tr) t σ H Q :=
  ⟨l.tabs, fun H1 eN T1 f => ht H1 _ _ (l.exN eN T1).ex fun v H2 e2 => hr H2 f _ fun G' e => k G' (((l.exN eN T1).go e2).go e)⟩
end
end Hk
end S_Wk
section S_Ws
namespace Hk
open PySem PySem.Spec PyProof.Rows L2 LamX Tl
/-- isinstance(e, (c1, c2, ..)) of a kept error -/
def rIsKT (K : PySem.W.Frag) : List V → Hp → VK → Prop := fun xs H Q => ∃ (a D tp : Addr) (d : Option Addr) (fs : List (Str × V)) (cs : List V) (us : List Value) (b : Bool), xs = [.ref a, .ref tp] ∧ H a = some (ErrAt (.ref D) d a) ∧ DictAt H d fs ∧ ErrC K D ∧ H tp = some (.tup cs) ∧ Paired ClsV cs us ∧ PySem.W.kitAny K (.ref D) us = some b ∧ Q (.bl b) H
theorem call_isKeptT {X : Cx} : CallR X (.builtin "isinstance") (rIsKT X.K) := by
  intro pins s σ H xs us Q I r h
  obtain ⟨a, D, tp, d, fs, cs, ws, b, rfl, ha, hd, C, hT, k, e, q⟩ := h
  obtain ⟨u1, u2, rfl, r1, r2⟩ := vals2 r
  cases (show u2 = Value.ref tp from r2)
  cases (show u1 = Value.ref a from r1)
  obtain ⟨oe, od, mA, J, _, _⟩ := at_inst I ha hd
  obtain ⟨_, its, rv, o, h1, h2, n, h3⟩ := (show ObjOk X.prog X.w H s.heap tp (.tup cs) from I.hok tp _ hT)
  have e3 := ClsV.all k rv
  subst e3
  obtain ⟨oc, od', dt, sl⟩ := o
  simp only at h2 h3
  subst h2 h3
  exact PySem.W.kia_tup (PySem.W.kitx_exc C.ci C.ga C.gg C.ex C.ha C.hn C.ht C.hm) I.kIn J h1 e (fun z => nomatch z) fun tk => ⟨.bl b, H, I.kept (t' := tk) fun _ _ z => z, rfl, q⟩
theorem call_isAnyT {X : Cx} : CallR X (.builtin "isinstance") (fun xs H Q => rIsiT X.K xs H Q ∨ rIsKT X.K xs H Q) := by
  intro pins s σ H xs us Q I r h
  rcases h with h | h
  · exact call_isiT _ _ _ _ _ _ _ I r h
  · exact call_isKeptT _ _ _ _ _ _ _ I r h
section
variable {K : PySem.W.Frag} {σ : L2.St} {G : Hp}
theorem ev_isKT2 {a D : Addr} {d : Option Addr} {fs : List (Str × V)} {c1 c2 : Addr} {b : Bool} {i : Nat} (hσ : σ[i]? = some (some (.ref a))) (ha : G a = some (ErrAt (.ref D) d a)) (hd : DictAt G d fs) (E : ErrC K D) (hk : PySem.W.kitAny K (.ref D) [.ref c1, .ref c2] = some b) :
    Evl.Ev (tCB (fun xs H Q => rIsiT K xs H Q ∨ rIsKT K xs H Q) (tCons (tVar i) (tCons (tTup (tCons (tC (.ref c1)) (tCons (tC (.ref c2)) tNil))) tNil))) σ G (.bl b) := fun H1 e Q q =>
  ⟨.ref a, hσ, by show 2 ≤ sizeLine; decide, fun tp htp => .inr ⟨a, D, tp, d, fs, [.ref c1, .ref c2], [.ref c1, .ref c2], b, rfl, (e.trans (Evl.Ex.new htp)) _ _ ha, hd.imp fun x ⟨y, z⟩ => ⟨y, (e.trans (Evl.Ex.new htp)) _ _ z⟩, E, upd_same, .cons (.own c1) (.cons (.own c2) .nil), hk, q _ (Evl.Ex.new htp)⟩⟩
end
end Hk
end S_Ws
section S_Wu
namespace Hk
open PySem PySem.Spec PyProof.Rows L2 LamX Tl
/-- a text backward -/
def revS (z : Str) : Str := ⟨((Builtin.Str.strSliceIndices none none (-1) z.length).filterMap (z.cps[·]?)).toArray⟩
def tRevS (te : TE) : TE := fun σ H Q => te σ H fun x H1 => ∃ z, x = .str z ∧ (revS z).length ≤ sizeLine ∧ Q (.str (revS z)) H1
theorem pe_revS {X : Cx} {e : Expr} {te : TE} {k : Nat} {p1 p2 p3 pos : Pos} (he : PE X e te) : PE X (.Subscript e (.Slice none none (some (.UnaryOp .USub (.Constant (.int 1) k p1) p2)) p3) pos) (tRevS te) := by
  refine ⟨fun pins s σ H Q I h => ?_⟩
  refine Subscript_ (thn (he.run pins s σ H _ I h) fun v s1 ⟨x, H1, I1, r1, q1⟩ => ?_)
  obtain ⟨z, ex, hz, q⟩ := q1
  subst ex
  obtain ⟨t, rfl⟩ := r1
  have hst : PO X (some (.UnaryOp .USub (.Constant (.int 1) k p1) p2)) (tPart (tUn (rU fun i => .int (-i)) (tC (.int 1)))) := po_some (pe_un un_neg pe_int)
  refine wpAny_Slice (thn (po_none.run pins s1 σ H1 (fun o H2 => o = none ∧ H2 = H1) I1 ⟨rfl, rfl⟩) fun vl s2 ⟨l, H2, I2, pl, el, e2⟩ => ?_)
  subst el e2
  refine thn (po_none.run pins s2 σ H2 (fun o H3 => o = none ∧ H3 = H2) I2 ⟨rfl, rfl⟩) fun vu s3 ⟨u, H3, I3, pu, eu, e3⟩ => ?_
  subst eu e3
  refine thn (hst.run pins s3 σ H3 (fun o H4 => o = some (-1) ∧ H4 = H3) I3 ⟨1, rfl, -1, rfl, rfl, rfl⟩) fun vs s4 ⟨o, H4, I4, ps, eo, e4⟩ => ?_
  subst eo e4
  have I5 : Inv X pins σ H4 { s4 with heap := s4.heap.push { cls := .type "slice", data := .fields #[vl, vu, vs] } } := I4.kept (t' := s4.toks) fun b ob q => Heap.get?_push_of_some _ q
  obtain ⟨l', rfl, el⟩ := IsPart.raw pl
  obtain ⟨u', rfl, eu⟩ := IsPart.raw pu
  obtain ⟨st', rfl, es⟩ := IsPart.raw ps
  show wpAny (model X.prog X.w) X.A (subscriptTail e (.Slice none none (some (.UnaryOp .USub (.Constant (.int 1) k p1) p2)) p3) (.str z t) (.ref s4.heap.objs.size)) (EP X pins σ Q) X.xe { s4 with heap := s4.heap.push { cls := .type "slice", data := .fields #[partValue l', partValue u', partValue st'] } }
  refine tail_any (ops := [.str z t, .ref s4.heap.objs.size]) (typeIs_str _ _ _) (F.slot_str_getitem.lookup) ?_ (by with_unfolding_all rfl)
  refine wpAny_getItem_str_slice (l := l') (u := u') (st := st') ⟨_, Heap.get?_push_size _ rfl, rfl, rfl⟩ (by rw [es]; rfl) ?_
  unfold sliceMade slicePicked
  rw [el, eu, es]
  have hne : ¬((((some (-1) : Option Int).getD 1 == 1) && (Builtin.Str.strSliceIndices none none ((some (-1) : Option Int).getD 1) z.length).length == z.length) = true) := by
    show ¬((false && _) = true)
    rw [Bool.false_and]
    exact Bool.false_ne_true
  rw [if_neg hne]
  exact ⟨hz, .str (revS z), H4, I5.tok _, ⟨_, rfl⟩, q⟩
/-- a text, some times -/
def mulS (a : Str) (n : Nat) : Str := ⟨(List.replicate n a.cps).foldl (· ++ ·) #[]⟩
def rMulS : R2 := fun x y H Q => ∃ (a : Str) (n : Nat), x = .str a ∧ y = .int (n : Int) ∧ 2 ≤ n ∧ 1 ≤ a.length ∧ a.length * n ≤ 1000 ∧ Q (.str (mulS a n)) H
theorem op_mulS {X : Cx} : OpR X (binaryOp .Mult) rMulS := by
  intro pins s σ H x y v u Q I rx ry h
  obtain ⟨a, n, rfl, rfl, h2, h1, hz, q⟩ := h
  obtain ⟨t, rfl⟩ := rx
  obtain ⟨t2, rfl⟩ := ry
  have hn : n ≤ 1000 := Nat.le_trans (Nat.le_mul_of_pos_left n h1) hz
  have hlong : Builtin.Str.tooLong (a.length * ((n : Int)).toNat) = false := by
    rw [Int.toNat_natCast]
    refine decide_eq_false fun z => ?_
    rw [sizeLine_eq] at z
    exact absurd (Nat.lt_of_lt_of_le z hz) (by decide)
  refine PySem.P.mul_str ?_ (fun _ _ => ?_) (fun _ _ => hlong) ?_
  · rw [decide_eq_false (by omega), decide_eq_false (by omega)]
    rfl
  · have : ((a.length : Nat) : Int) ≤ (2 ^ 63 - 1) / (n : Int) := by
      refine (Int.le_ediv_iff_mul_le (by omega)).mpr ?_
      have : ((a.length : Nat) : Int) * (n : Int) = ((a.length * n : Nat) : Int) := by rw [Int.natCast_mul]
      rw [this]
      have h3 : ((a.length * n : Nat) : Int) ≤ 1000 := by exact_mod_cast hz
      exact Int.le_trans h3 (by decide)
    omega
  · rw [if_neg (by omega), if_neg (by
      rw [Bool.or_eq_true_iff, beq_iff_eq, beq_iff_eq]
      omega), Int.toNat_natCast]
    exact ⟨PySem.fits_reps (by rw [← hlong, Int.toNat_natCast]), .str (mulS a n), H, I.tok _, ⟨_, rfl⟩, q⟩
end Hk
end S_Wu
section S_Wt
namespace Hk
open PySem PySem.Spec PyProof.Rows L2 LamX Tl
/-- the law's own call where no repr is under way, its code object's table tracked -/
theorem law_gTs {P : Program} {w : World} {K : PySem.W.Frag} {mg mb : Str → Option Value} {k : Nat} {fa a : Addr} {Ts : List (Addr × Addr)} {fd : FuncData} {x : Str} {sp : Sp} {s₁ : Shared} {vs : List Value} {ns : List Int}
    (kin : K.In s₁.heap) (hns : s₁.heap.Ns mainGlobals mg) (hb : s₁.heap.Ns builtinsNs mb) (hbb : ∀ x : Str, x ≠ "__name__" → mb x = bootBuiltins x) (hlim : s₁.heap.NoLimit) (hg : s₁.gens = #[])
    (hTs : ∀ p ∈ Ts, s₁.heap.get? p.2 = some { cls := .none, data := .fields #[] } ∧ K.lookup p.2 = none ∧ PySem.W.CodeHd s₁.heap p.1 p.2)
    (hbm : ∃ (bm : Addr) (ob : Obj), mg "__builtins__" = some (.ref bm) ∧ bm ≠ builtinsNs ∧ s₁.heap.get? bm = some ob ∧ ob.cls = .type "module" ∧ ob.dict = some builtinsNs ∧ ob.data = .plain)
    (ha : s₁.heap.get? a = some { cls := .type "list", data := .seq vs.toArray }) (hi : IntsAre vs ns) (hl : ns.length ≤ sizeLine) (hr : Room k callerA)
    (F : ∀ base : Heap, K.In base → base.Ns mainGlobals mg → (∀ p ∈ Ts, TabB base mg p.1 p.2) → FnG P w K mg base k fa fd [x] sp) (hbind : ∀ (s : Shared) (u : Value), BindsTo s fd ⟨[u], []⟩ [(x, u)])
    (hsp : ∀ H : Hp, (∀ p ∈ Ts, H p.2 = some (.tbl #[])) → SqL K H a (ns.map V.int) → sp [.ref a] H (fun v _ => v = .bl true) fun _ _ _ => False) :
    codeAny (model P w) callerA (.call (.ref fa) ⟨[.ref a], []⟩) (fun r s' => r = .ok (.ret (.bool true)) ∧ OldK s₁.heap s'.heap ∧ s'.os = s₁.os ∧ AllBare s'.gens) s₁ := by
  have rv := vals_ints hi
  have tbl : ∀ {b : Addr}, b ∈ Ts.map (·.2) → s₁.heap.get? b = some { cls := .none, data := .fields #[] } ∧ K.lookup b = none := fun {b} hb => by
    obtain ⟨p, hp, rfl⟩ := List.mem_map.mp hb
    exact ⟨(hTs p hp).1, (hTs p hp).2.1⟩
  have aT : a ∉ Ts.map (·.2) := fun z => by
    rw [(tbl z).1] at ha
    have z' : Data.fields #[] = Data.seq vs.toArray _ := congrArg Obj.data (Option.some.inj ha)
    cases z'
  have run : ∀ H : Hp, (∀ p ∈ Ts, H p.2 = some (.tbl #[])) → SqL K H a (ns.map V.int) → HOk P w H s₁.heap → (∀ b u, H b = some u → b ∈ Ts.map (·.2) ∨ (b = a ∧ K.lookup a = none ∧ ∃ o xs, u = .frz o (.lst xs))) →
      codeAny (model P w) callerA (.call (.ref fa) ⟨[.ref a], []⟩) (fun r s' => r = .ok (.ret (.bool true)) ∧ OldK s₁.heap s'.heap ∧ s'.os = s₁.os ∧ AllBare s'.gens) s₁ := by
    intro H hHT hS hok hA
    have keepB : ∀ {b : Addr} {o : Obj}, s₁.heap.get? b = some o → (∀ vs n, o.data ≠ .seq vs n) → o.data ≠ .fields #[] → (hidT s₁.heap H).get? b = some o := fun {b o} e h1 h2 => by
      refine hidT_get e ?_
      cases q : H b with
      | none => rfl
      | some u =>
        rcases hA b u q with e1 | ⟨e1, _⟩
        · rw [(tbl e1).1] at e
          cases e
          exact absurd rfl h2
        · rw [e1, ha] at e
          cases e
          exact absurd rfl (h1 _ _)
    have ns_of : ∀ {b : Addr} {m : Str → Option Value}, s₁.heap.Ns b m → (hidT s₁.heap H).Ns b m := fun {b m} hm => by
      obtain ⟨o, es, ep, e, d, r⟩ := hm
      exact ⟨o, es, ep, keepB e (fun vs n z => by rw [d] at z; cases z) (fun z => by rw [d] at z; cases z), d, r⟩
    have kb : K.In (hidT s₁.heap H) := fun b o e => hidT_get (kin b o e) (by
      cases q : H b with
      | none => rfl
      | some u =>
        rcases hA b u q with e1 | ⟨e1, e2, _⟩
        · rw [(tbl e1).2] at e
          cases e
        · rw [e1, e2] at e
          cases e)
    have hM : Mod K mg (hidT s₁.heap H) := ⟨kb, ns_of hns, ⟨mb, ns_of hb, hbb⟩, hlim.elim fun mc h => ⟨mc, ns_of h.1, h.2⟩⟩
    have e0 : Env0 P w K mg (hidT s₁.heap H) callerA [] s₁ H := ⟨rfl, hM, fun _ _ e => of_hidT e, by rw [hidT_size] <;> exact Nat.le_refl _, trivial, fun _ hb => (nomatch hb), hok, .of_eq hg⟩
    have TB : ∀ p ∈ Ts, TabB (hidT s₁.heap H) mg p.1 p.2 := fun p hp => by
      obtain ⟨hT, nT, hC⟩ := hTs p hp
      refine ⟨?_, ?_, fun z => ?_⟩
      · obtain ⟨o, us, file, tf, flags, tg, inF, text, tt, e1, r1, r2, r3, r4⟩ := hC
        exact ⟨o, us, file, tf, flags, tg, inF, text, tt, keepB e1 (fun vs n z => by rw [r2] at z; cases z) (fun z => by rw [r2] at z; cases z; simp at r3), r1, r2, r3, r4⟩
      · obtain ⟨bm, ob, b1, b2, b3, b4, b5, b6⟩ := hbm
        refine ⟨bm, ob, b1, b2, fun q => ?_, fun q => ?_, keepB b3 (fun vs n z => by rw [b6] at z; cases z) (fun z => by rw [b6] at z; cases z), b4, b5, b6⟩
        · obtain ⟨o, es, ep, e, hd, _⟩ := hns
          rw [q, e] at b3
          cases b3
          rw [hd] at b6
          cases b6
        · rw [q, hT] at b3
          cases b3
          cases b6
      · obtain ⟨o, es, ep, e, hd, _⟩ := hns
        rw [z, hT] at e
        cases e
        cases hd
    refine codeAny_mono ((F _ kb (ns_of hns) TB).go rfl hr e0 (us := [.ref a]) (hbind s₁ (.ref a)) (vs := [.ref a]) (.cons rfl .nil) (hsp H hHT hS)) fun r s' h => ?_
    match r, h with
    | .ok (.ret u), h =>
      obtain ⟨v, H', os, bare, un, hok', r', q⟩ := h
      cases (show v = .bl true from q)
      cases (show u = Value.bool true from r')
      have grown : ∀ p ∈ Ts, ∃ more, s'.heap.get? p.2 = some { cls := .none, data := .fields more } := fun p hp => by
        obtain ⟨more, zT⟩ := un.tbls p.2 #[] (hHT p hp)
        have q := hok' p.2 _ zT
        rw [Array.empty_append] at q
        exact ⟨more, q⟩
      have others : ∀ b o, b ∉ Ts.map (·.2) → s₁.heap.get? b = some o → s'.heap.get? b = some o := fun b o nb e => by
        cases q : H b with
        | none => exact un.keep b o e q (fun y => (nomatch y)) (fun y => (nomatch y))
        | some u =>
          rcases hA b u q with z | ⟨_, _, ob, xs, rfl⟩
          · exact absurd z nb
          · obtain ⟨e1, _⟩ := hok b _ q
            obtain ⟨e2, _⟩ := hok' b _ (un.frzs b ob _ q)
            rw [e] at e1
            cases e1
            exact e2
      refine ⟨rfl, ⟨fun b o e => ?_, fun b o e => ?_⟩, os, bare⟩
      · by_cases hb : b ∈ Ts.map (·.2)
        · obtain ⟨p, hp, rfl⟩ := List.mem_map.mp hb
          obtain ⟨hT, _, hC⟩ := hTs p hp
          obtain ⟨more, hm⟩ := grown p hp
          rw [hT] at e
          cases e
          exact .inr (.inl ⟨(hC.tab hT).isCodeTable, rfl, #[], more, rfl, by rw [Array.empty_append]; exact hm⟩)
        · exact .inl (others b o hb e)
      · by_cases hb : b ∈ Ts.map (·.2)
        · obtain ⟨p, hp, rfl⟩ := List.mem_map.mp hb
          obtain ⟨more, hm⟩ := grown p hp
          exact ⟨_, hm⟩
        · exact ⟨o, others b o hb e⟩
    | .error e, h => exact False.elim h
    | .ok .next, h => exact False.elim h
    | .ok .brk, h => exact False.elim h
    | .ok .cont, h => exact False.elim h
  have mem : ∀ p ∈ Ts, p.2 ∈ Ts.map (·.2) := fun p hp => List.mem_map.mpr ⟨p, hp, rfl⟩
  cases hk : K.lookup a with
  | some o =>
    have e := kin a o hk
    rw [ha] at e
    cases e
    refine run (fun b => if b ∈ Ts.map (·.2) then some (.tbl #[]) else none) (fun p hp => if_pos (mem p hp)) (.inr ⟨_, vs.toArray, _, hk, rfl, rfl, rfl, ?_, by simpa using rv⟩) (fun b u z => ?_) (fun b u z => ?_)
    · rw [List.size_toArray, hi.length]
      exact hl
    · dsimp only at z
      by_cases hb : b ∈ Ts.map (·.2)
      · rw [if_pos hb] at z
        cases z
        exact (tbl hb).1
      · rw [if_neg hb] at z
        cases z
    · by_cases hb : b ∈ Ts.map (·.2)
      · exact .inl hb
      · rw [if_neg hb] at z
        cases z
  | none =>
    refine run (fun b => if b ∈ Ts.map (·.2) then some (.tbl #[]) else if b = a then some (.frz { cls := .type "list", data := .seq vs.toArray } (.lst (ns.map V.int))) else none) (fun p hp => if_pos (mem p hp)) (.inl (.inr ⟨_, by dsimp only; rw [if_neg aT, if_pos rfl]⟩)) (fun b u z => ?_) fun b u z => ?_
    · dsimp only at z
      by_cases hb : b ∈ Ts.map (·.2)
      · rw [if_pos hb] at z
        cases z
        exact (tbl hb).1
      · rw [if_neg hb] at z
        by_cases hb2 : b = a
        · rw [if_pos hb2] at z
          cases z
          subst hb2
          exact ⟨ha, by rw [List.length_map]; exact hl, vs, _, rv, ha⟩
        · rw [if_neg hb2] at z
          cases z
    · by_cases hb : b ∈ Ts.map (·.2)
      · exact .inl hb
      · rw [if_neg hb] at z
        by_cases hb2 : b = a
        · rw [if_pos hb2] at z
          cases z
          exact .inr ⟨hb2, hk, _, _, rfl⟩
        · rw [if_neg hb2] at z
          cases z
/-- what is known of a def whose lambdas' table is tracked -/
def TabOf (K : PySem.W.Frag) (mg : Str → Option Value) (q : Program) (p : Addr × Addr) : Prop := ∃ (name : Str) (f : Addr) (fd : FuncData) (o : Obj) (e : Value) (dd : Option Addr) (vs : Array Value) (sl : Array (Option Value)),
  ((recsOf q).any fun e => e.name == name) = true ∧ mg name = some (.ref f) ∧ K.lookup f = some o ∧ o.data = .func fd ∧ fd.code = .ref p.1 ∧ K.lookup p.1 = some ⟨e, dd, .fields vs, sl⟩ ∧ vs[11]? = some (.ref p.2) ∧ K.lookup p.2 = none
theorem walk_gTs {l : PySem.W.OpenLaw} {n k : Nat} {q : Program} {loose : List Str} {XP : (Str → Option Value) → Heap → Prop} {YP : World → Heap → Prop} {d : DefRec} {K : Params → PySem.W.Frag} {x : Str}
    (hn : l.most = some n) (hn2 : n ≤ sizeLine) (hdf : d.params.defaults = []) (hr : Room k callerA) (hY : ∀ (w : World) (h : Heap), YP w h → (K w.params).In h)
    (F : ∀ (w : World) (mg : Str → Option Value) (fa : Addr) (h : Heap), (K w.params).In h → h.Ns mainGlobals mg → mg d.name = some (.ref fa) →
      ∃ (fd : FuncData) (Ts : List (Addr × Addr)) (sp : Sp), (∀ p ∈ Ts, TabOf (K w.params) mg q p) ∧ (∀ (s : Shared) (u : Value), BindsTo s fd ⟨[u], []⟩ [(x, u)]) ∧
        (∀ (H : Hp) (a : Addr) (ns : List Int), ns.length ≤ n → (∀ p ∈ Ts, H p.2 = some (.tbl #[])) → SqL (K w.params) H a (ns.map V.int) → sp [.ref a] H (fun v _ => v = .bl true) fun _ _ _ => False) ∧
        ∀ base : Heap, (K w.params).In base → base.Ns mainGlobals mg → (∀ p ∈ Ts, TabB base mg p.1 p.2) → FnG l.prog w (K w.params) mg base k fa fd [x] sp) :
    PySem.W.WalkO q loose XP YP l.row.toRowW d [] (fun f vs => PySem.call f vs) := by
  refine Att.attach_call hn hdf fun w s₀ s₁ mg mb fa o pm cd doc a vs ns G Y ho hd hcd hmg hobj hints hlen hg => ?_
  have kin := hY w _ Y
  obtain ⟨fd, Ts, sp, hTs, h1, hs, h2⟩ := F w mg fa _ kin G.T.g hmg
  have ts : ∀ p ∈ Ts, s₁.heap.get? p.2 = some { cls := .none, data := .fields #[] } ∧ (K w.params).lookup p.2 = none ∧ PySem.W.CodeHd s₁.heap p.1 p.2 := fun p hp => by
    obtain ⟨name, f, fd', o1, e, dd, us, sl, hrec, hmf, k1, k2, k3, k4, k5, nT⟩ := hTs p hp
    obtain ⟨dL, hm, hn1⟩ := List.any_eq_true.mp hrec
    have hn2' : dL.name = name := beq_iff_eq.mp hn1
    obtain ⟨a', o', fd2, c', P', g1, g2, g3, g4, g5, g6⟩ := G.T.tab dL hm
    rw [hn2', hmf] at g1
    cases g1
    have q1 := kin _ _ k1
    rw [q1] at g2
    cases g2
    rw [k2] at g3
    cases g3
    rw [k3] at g4
    cases g4
    have hC := PySem.W.CodeHd.of g5 g6
    obtain ⟨⟨oc, vc, e1, _, e3, e4⟩, hP⟩ := g6
    have q2 := kin _ _ k4
    rw [q2] at e1
    cases e1
    cases e3
    rw [k5] at e4
    cases e4
    exact ⟨hP, nT, hC⟩
  exact law_gTs kin G.T.g G.T.b G.T.builtins G.T.nolimit hg ts G.T.bmain hobj hints (Nat.le_trans hlen hn2) hr h2 h1 fun H hHT hS => hs H a ns hlen hHT hS
end Hk
end S_Wt
section S_Wv
namespace Hk
open PySem PySem.Spec PyProof.Rows L2 LamX Tl
/-- repr of data at an address, of None or of a truth -/
def rReprX (K : PySem.W.Frag) : List V → Hp → VK → Prop := fun xs H Q => rReprB K xs H Q ∨ ∃ b : Bool, xs = [.bl b] ∧ Q (.str (if b then "True" else "False")) H
theorem call_reprX {X : Cx} (hg : X.A.guards = some []) (hu : X.A.units + 64 < cLine) : CallR X (.builtin "repr") (rReprX X.K) := by
  intro pins s σ H xs us Q I r h
  rcases h with h | ⟨b, rfl, q⟩
  · exact call_reprB hg hu _ _ _ _ _ _ _ I r h
  · obtain ⟨u, rfl, ru⟩ := vals1 r
    cases ru
    exact PySem.P.repr_of_bool ⟨.str (if b then "True" else "False"), H, I.tok _, ⟨_, rfl⟩, q⟩
theorem ev_reprT {K : PySem.W.Frag} {te : TE} {σ : L2.St} {H : Hp} {b : Bool} (h : Evl.Ev te σ H (.bl b)) : Evl.Ev (tCB (rReprX K) (tCons te tNil)) σ H (.str (if b then "True" else "False")) := fun H1 e Q q =>
  h H1 e _ fun H2 e2 => .inr ⟨b, rfl, q H2 e2⟩
theorem strip_tb {T t : Addr} {H : Hp} {ps : Array Value} (hT : H T = some (.tbl ps)) {a : Addr} {o : HO} (h : H a = some o) (hn : ∀ ps, o ≠ .tbl ps) : strip T H a = some o := strip_at h (fun z => by
  rw [z, hT] at h
  exact hn ps (Option.some.inj h).symm) hn
theorem strip_extN {T : Addr} {H H' : Hp} {ps : Array Value} (hT : H T = some (.tbl ps)) (e : Evl.Ex (strip T H) H') : ExtN H H' := fun a o h hn => e a o (strip_tb (t := T) hT h hn)
end Hk
end S_Wv
section S_Wx
namespace Hk
open PySem PySem.Spec PyProof.Rows L2 LamX Tl
section
variable {prog : Program} {w : World} {A : Around} {E : Value → Shared → Prop} {s : Shared}
theorem applied_rev {sl : Addr} {vs : Value} {n : Nat} {Q : Int × Int × Nat → Shared → Prop} (hs : s.heap.IsSliceOf sl .none .none vs) (ps : IsPart vs (some (-1)))
    (h : Q ((n : Int) - 1, -1, n) s) : wpAny (model prog w) A (Builtin.Slice.sliceApplied (.ref sl) (pure (n : Int))) Q E s := by
  obtain ⟨os, hos, hcs, hds⟩ := id hs
  unfold Builtin.Slice.sliceApplied Builtin.Slice.sliceFields
  refine wpAny_bind (wpAny_bind (wpAny_field hos hds (x := .none) rfl (wpAny_bind (wpAny_field hos hds (x := .none) rfl (wpAny_bind (wpAny_field hos hds (x := vs) rfl (wpAny_pure ?_)))))))
  refine wpAny_bind (HT.slicePart_ ps ?_)
  show wpAny _ _ (if ((-1 : Int) == 0) = true then _ else _) _ _ s
  rw [if_neg (by decide)]
  refine wpAny_bind (HT.slicePart_ .none (wpAny_bind (HT.slicePart_ .none (wpAny_bind (wpAny_pure ?_)))))
  show wpAny _ _ (pure ((n : Int) - 1, (-1 : Int), Builtin.Slice.slicePlaces ((n : Int) - 1) (-1) (-1))) _ _ s
  have e : Builtin.Slice.slicePlaces ((n : Int) - 1) (-1) (-1) = n := by
    unfold Builtin.Slice.slicePlaces
    rw [if_neg (by decide)]
    by_cases z : n = 0
    · subst z; decide
    · rw [if_pos (by omega)]
      have : ((n : Int) - 1 - -1 - 1) / (- -1) = (n : Int) - 1 := by
        rw [Int.neg_neg, Int.ediv_one]
        omega
      rw [this]
      omega
  rw [e]
  exact wpAny_pure h
theorem fm_congr {α β : Type} {f g : α → Option β} : ∀ {l : List α}, (∀ x ∈ l, f x = g x) → l.filterMap f = l.filterMap g
  | [], _ => rfl
  | a :: r, h => by rw [List.filterMap_cons, List.filterMap_cons, h a List.mem_cons_self, fm_congr fun x hx => h x (List.mem_cons_of_mem _ hx)]
theorem pick_rev (xs : Array Value) : ((List.range xs.size).filterMap fun (m : Nat) => xs[((xs.size : Int) - 1 + (m : Int) * (-1)).toNat]?).toArray = xs.toList.reverse.toArray := by
  have h := HT.pick_gen xs.reverse 0 xs.size
  have e : ((List.range xs.size).filterMap fun (m : Nat) => xs[((xs.size : Int) - 1 + (m : Int) * (-1)).toNat]?) = (List.range xs.size).filterMap fun (m : Nat) => xs.reverse[(((0 : Nat) : Int) + (m : Int) * 1).toNat]? := by
    refine fm_congr fun m hm => ?_
    have hm := List.mem_range.mp hm
    have h1 : ((xs.size : Int) - 1 + (m : Int) * (-1)).toNat = xs.size - 1 - m := by omega
    have h2 : (((0 : Nat) : Int) + (m : Int) * 1).toNat = m := by omega
    rw [h1, h2, Array.getElem?_reverse hm]
  rw [e, h, List.drop_zero, List.take_of_length_le (by simp)]
  simp
theorem getItem_tuple_rev {t sl : Addr} {items : Array Value} {vs : Value} {Q : Value → Shared → Prop} (ht : IsTup s.heap t items) (hs : s.heap.IsSliceOf sl .none .none vs) (ps : IsPart vs (some (-1)))
    (h : Q (.ref s.heap.objs.size) { s with heap := s.heap.push { cls := .type "tuple", data := .seq items.toList.reverse.toArray } })
    (hsz : items.size ≤ sizeLine) : wpAny (model prog w) A (getItem (.ref t) (.ref sl)) Q E s := by
  have htake : sizeOk (.seq items.toList.reverse.toArray) := by
    show items.toList.reverse.toArray.size ≤ sizeLine
    rw [List.size_toArray, List.length_reverse, Array.length_toList]
    exact hsz
  obtain ⟨os, hos, hcs, hds⟩ := id hs
  have hTs : s.TypeIs (.ref sl) "slice" := ⟨os, hos, hcs⟩
  unfold getItem
  try with_reducible refine wpAny_holding ?_
  first | refine wpAny_bind (wpAny_pure ?_) | skip
  refine wpAny_bind (wpAny_sequenceKey ht.typeIs (by decide) ?_)
  refine wpAny_bind (wpAny_callSpecial?_slot (name := Str.ofString "__getitem__") ht.typeIs PyProof.Rows.slot_tuple_getitem
    (wpAny_call_entry PyProof.Rows.slot_tuple_getitem ht.typeIs PyProof.Rows.entry_tuple_getitem ?_ (PyProof.Rows.args_tuple_getitem _ _)))
  show wpAny _ _ (Builtin.Tuple.tupleItemsOf (.ref t) >>= _) _ _ s
  refine wpAny_bind (tupleItemsOf_ ht ?_)
  refine wpAny_bind (wpAny_typeOf hTs ?_)
  rw [if_pos (by decide)]
  refine wpAny_bind (applied_rev hs ps ?_)
  have hno : ¬ ((((items.size : Int) - 1) == 0 && (-1 : Int) == 1 && items.size == items.size) = true) := by
    rw [show ((-1 : Int) == 1) = false from rfl, Bool.and_false, Bool.false_and]
    exact Bool.false_ne_true
  show wpAny _ _ (if ((((items.size : Int) - 1) == 0 && (-1 : Int) == 1 && items.size == items.size) = true) then _ else _) _ _ s
  rw [if_neg hno, pick_rev]
  first
    | exact wpAny_bind (m := Builtin.Tuple.tupleExact _) (wpAny_newObj_type (wpAny_pure ⟨_, rfl, wpAny_pure h⟩) htake)
    | exact wpAny_bind (m := Builtin.Tuple.tupleExact _) (wpAny_newObj_type (wpAny_bind (wpAny_pure (wpAny_pure ⟨_, rfl, wpAny_pure h⟩))) htake)
    | exact wpAny_bind (wpAny_bind (m := Builtin.Tuple.tupleExact _) (wpAny_newObj_type (wpAny_pure (wpAny_pure ⟨_, rfl, wpAny_pure h⟩)) htake))
    | exact wpAny_bind (wpAny_bind (m := Builtin.Tuple.tupleExact _) (wpAny_newObj_type (wpAny_pure ⟨_, rfl, wpAny_pure h⟩) htake))
end
/-- a tuple backward -/
def tRevT (K : PySem.W.Frag) (te : TE) : TE := fun σ H Q => te σ H fun x H1 => ∃ a xs, x = .ref a ∧ SqT K H1 a xs ∧ ∀ p, H1 p = none → Q (.ref p) (upd H1 p (.tup xs.reverse))
theorem pe_revT {X : Cx} {e : Expr} {te : TE} {k : Nat} {p1 p2 p3 pos : Pos} (he : PE X e te) : PE X (.Subscript e (.Slice none none (some (.UnaryOp .USub (.Constant (.int 1) k p1) p2)) p3) pos) (tRevT X.K te) := by
  refine ⟨fun pins s σ H Q I h => ?_⟩
  refine Subscript_ (thn (he.run pins s σ H _ I h) fun v s1 ⟨x, H1, I1, r1, q1⟩ => ?_)
  obtain ⟨a, xs, ex, hx, q⟩ := q1
  subst ex
  cases r1
  have hst : PO X (some (.UnaryOp .USub (.Constant (.int 1) k p1) p2)) (tPart (tUn (rU fun i => .int (-i)) (tC (.int 1)))) := po_some (pe_un un_neg pe_int)
  refine wpAny_Slice (thn (po_none.run pins s1 σ H1 (fun o H2 => o = none ∧ H2 = H1) I1 ⟨rfl, rfl⟩) fun vl s2 ⟨l, H2, I2, pl, el, e2⟩ => ?_)
  subst el e2
  refine thn (po_none.run pins s2 σ H2 (fun o H3 => o = none ∧ H3 = H2) I2 ⟨rfl, rfl⟩) fun vu s3 ⟨u, H3, I3, pu, eu, e3⟩ => ?_
  subst eu e3
  refine thn (hst.run pins s3 σ H3 (fun o H4 => o = some (-1) ∧ H4 = H3) I3 ⟨1, rfl, -1, rfl, rfl, rfl⟩) fun vs s4 ⟨o, H4, I4, ps, eo, e4⟩ => ?_
  subst eo e4
  have I5 : Inv X pins σ H4 { s4 with heap := s4.heap.push { cls := .type "slice", data := .fields #[vl, vu, vs] } } := I4.kept (t' := s4.toks) fun b ob q => Heap.get?_push_of_some _ q
  obtain ⟨its, r, ht, hz⟩ := I5.tuple hx
  have hlen := r.length
  cases pl
  cases pu
  show wpAny (model X.prog X.w) X.A (subscriptTail e (.Slice none none (some (.UnaryOp .USub (.Constant (.int 1) k p1) p2)) p3) (.ref a) (.ref s4.heap.objs.size)) (EP X pins σ Q) X.xe { s4 with heap := s4.heap.push { cls := .type "slice", data := .fields #[.none, .none, vs] } }
  refine tail_any (ops := [.ref a, .ref s4.heap.objs.size]) ht.typeIs (PyProof.Rows.slot_tuple_getitem.lookup) ?_ (by with_unfolding_all rfl)
  refine getItem_tuple_rev ht (Heap.IsSliceOf.new _ .none .none vs) ps ?_ (by rw [List.size_toArray]; omega)
  refine ⟨.ref _, _, I5.laid (t' := s4.toks) (o := .tup xs.reverse) (fun b ob q => Heap.get?_push_of_some _ q) (Nat.le_refl _) ?_, rfl, q _ (I5.hok.fresh (Nat.le_refl _))⟩
  exact ⟨by rw [List.length_reverse]; exact hz, _, r.reverse, IsTup.new _ _⟩
end Hk
end S_Wx
section S_Wy
namespace Hk
open PySem PySem.Spec PyProof.Rows L2 LamX Tl
/-! ### a call of a def that wants no repr under way -/
theorem pe_callG {X : Cx} {k : Nat} {f : Addr} {fd : FuncData} {ps : List Str} {sp : Sp} {E : XK} {x : Str} {p pos : Pos} {e : Expr} {es : List Expr} {t : TA} (F : FnG X.prog X.w X.K X.mg X.base k f fd ps sp) (hgd : X.A.guards = some []) (hr : Room k X.A) (hg : Gl X x) (hm : X.mg x = some (.ref f))
    (hk : PySem.W.keepIn X.K (.ref f) = true) (hb : Binds X.K fd ps []) (hx : Passes CX0 X E) (ha : PA X (e :: es) t) (hdb : (x == ("__debug__" : Str)) = false := by decide) (he : starEach (e :: es) X.env = (false, eval e X.env) :: starEach es X.env := by rfl)
    (hpl : (backTo pos (starEach es X.env)).any (·.1) = false := by rfl) : PE X (.Call (.Name x p) (e :: es) [] pos) (tCall sp [] E t) := by
  constructor
  intro pins s σ H Q I h
  refine wpAny_Call_Name_kw (ld_glob I hg hm (PySem.W.callWith_K (h₀ := X.base) I.ok.mod.kin hk (thn (ha.run pos pins s σ H _ I h) fun us s1 hv => ?_) he hpl) hdb)
  obtain ⟨vs, H1, I1, r, q⟩ := hv
  rw [List.append_nil] at q
  refine ⟨I1.kIn, wpAny_call (codeAny_mono (F.go hgd hr I1.env0 (by
    have := hb s1 us I1.kIn (by rw [List.append_nil, ← r.length]; exact F.len q)
    rwa [List.append_nil] at this) r q) fun z s' hq => ?_)⟩
  match z, hq with
  | .error e, hq => exact hx pins σ H1 s1 e s' I1 hq
  | .ok (.ret u), hq => exact I1.after hq
  | .ok .next, hq => exact hq.elim
  | .ok .brk, hq => exact hq.elim
  | .ok .cont, hq => exact hq.elim
theorem FnG.mono {P : Program} {w : World} {K : PySem.W.Frag} {mg : Str → Option Value} {base : Heap} {j k : Nat} {f : Addr} {fd : FuncData} {ps : List Str} {sp : Sp} (F : FnG P w K mg base j f fd ps sp) (h : j ≤ k) : FnG P w K mg base k f fd ps sp := ⟨F.len, fun a b c d e g => F.go a (b.mono h) c d e g⟩
theorem addr_snoc {as : List Addr} {p : Addr} {i : Nat} {a : Addr} (h : (as ++ [p])[i]? = some a) : (i < as.length ∧ as[i]? = some a) ∨ (i = as.length ∧ p = a) := by
  rcases Nat.lt_or_ge i as.length with z | z
  · rw [List.getElem?_append_left z] at h
    exact .inl ⟨z, h⟩
  · rw [List.getElem?_append_right z] at h
    rcases Nat.lt_or_ge (i - as.length) 1 with y | y
    · have e : i - as.length = 0 := by omega
      rw [e] at h
      cases h
      exact .inr ⟨by omega, rfl⟩
    · rw [List.getElem?_eq_none (by rw [List.length_singleton]; exact y)] at h
      cases h
section
open Evl
variable {K : PySem.W.Frag} {σ : L2.St} {H : Hp}
/-- a comprehension whose items are new objects, one each -/
theorem go_lcN {wi : TI} {g : TG} {te : TE} {vs : List Nat} {n : Nat} {Y : Nat → Hp → V → Hp → Prop} {s : Nat → L2.St → L2.St} {o : Nat → HO} (hw : EvI wi σ H n Y) (aim : Aims g n Y s) (hs : ∀ i, wipe (s i (wipe σ vs)) vs = wipe σ vs) (hn : n ≤ 90000)
    (he : ∀ i, i < n → ∀ H1, Ex H H1 → ∀ Q : VK, (∀ p H2, H1 p = none → Ex H1 H2 → H2 p = some (o i) → Q (.ref p) H2) → te (s i (wipe σ vs)) H1 Q) (H1 : Hp) (e : Ex H H1) (Q : VK)
    (q : ∀ (D : Addr) (as : List Addr) (H2 : Hp), H1 D = none → Ex H1 H2 → H2 D = some (.lst (as.map V.ref)) → as.length = n → (∀ (i : Nat) (a : Addr), as[i]? = some a → H2 a = some (o i)) → Q (.ref D) H2) :
    tLc wi g tYes te vs σ H1 Q :=
  hw H1 e _ fun J G H2 e2 w sG D hD => lc_it w (fun i H' => Ex H2 H' ∧ ∃ as : List Addr, H' D = some (.lst (as.map V.ref)) ∧ as.length = i ∧ (∀ (k : Nat) (a : Addr), as[k]? = some a → H1 a = none ∧ H' a = some (o k) ∧ a ≠ D))
    ⟨Ex.new hD, [], upd_same, rfl, fun i v h => by simp at h⟩ (fun i H' _ p => sG H' ((e.trans e2).trans p.1) fun a o _ ha => p.1 _ _ ha)
    (fun i x A B hi p y => by
      obtain ⟨p1, as, p3, p4, p5⟩ := p
      obtain ⟨ab, k⟩ := aim i (wipe σ vs) A x B hi y
      refine k _ ⟨hs i, ?_⟩
      show te (s i (wipe σ vs)) B _
      refine he i hi B (((e.trans e2).trans p1).trans ab) _ fun p C hp eC hC => ⟨as.map V.ref, eC _ _ (ab _ _ p3), sz_lt (by rw [List.length_map]; omega), ((p1.trans ab).trans eC).mut hD, as ++ [p], ?_, by rw [List.length_append, p4] <;> rfl, fun j a ha => ?_⟩
      · rw [upd_same, List.map_append]
        rfl
      · rcases addr_snoc ha with ⟨_, ha⟩ | ⟨rfl, rfl⟩
        · obtain ⟨q1, q2, q3⟩ := p5 j a ha
          exact ⟨q1, by rw [upd_ne q3]; exact eC _ _ (ab _ _ q2), q3⟩
        · have pD : p ≠ D := fun z => by rw [z, ab _ _ p3] at hp; cases hp
          exact ⟨fresh_back ((e2.trans p1).trans ab) hp, by rw [upd_ne pD, p4]; exact hC, pD⟩)
    (fun H' p => by
      obtain ⟨p1, as, p3, p4, p5⟩ := p
      exact q D as H' (fresh_back e2 hD) (e2.trans p1) p3 p4 fun i a ha => (p5 i a ha).2.1)
end
end Hk
end S_Wy
section S_Xi
namespace EnL
open PySem PySem.Spec PyProof.Rows L2 Tl Hk
/-! ### values told by what is new -/
/-- of H what G has not -/
def nw (G H : Hp) : Hp := fun a => if (G a).isNone = true then H a else none
theorem nw_of {G H : Hp} {a : Addr} {o : HO} (h : G a = none) (h2 : H a = some o) : nw G H a = some o := by
  unfold nw
  rw [h]
  exact h2
theorem nw_at {G H : Hp} {a : Addr} {o : HO} (h : nw G H a = some o) : G a = none ∧ H a = some o := by
  unfold nw at h
  cases z : G a with
  | none => rw [z] at h; exact ⟨rfl, h⟩
  | some u => rw [z] at h; cases h
theorem nw_ex {G H : Hp} : Evl.Ex (nw G H) H := fun a o h => (nw_at h).2
theorem nw_by {G H H' : Hp} (h : ∀ a o, G a = none → H a = some o → H' a = some o) : Evl.Ex (nw G H) H' := fun a o e => h a o (nw_at e).1 (nw_at e).2
theorem nw_up {G H H' : Hp} (e : Evl.Ex H H') : Evl.Ex (nw G H) (nw G H') := fun a o h => nw_of (nw_at h).1 (e _ _ (nw_at h).2)
theorem nw_back {G G' H : Hp} (e : Evl.Ex G G') : Evl.Ex (nw G' H) (nw G H) := fun a o h => nw_of (Evl.fresh_back e (nw_at h).1) (nw_at h).2
def Mono (R : V → Hp → Prop) : Prop := ∀ v H H', Evl.Ex H H' → R v H → R v H'
section
open Evl
variable {K : PySem.W.Frag} {σ : L2.St} {G : Hp} {te : TE} {ta : TA} {R R' : V → Hp → Prop} {n : Nat}
def EvF (te : TE) (σ : L2.St) (G : Hp) (R : V → Hp → Prop) : Prop := ∀ H1, Ex G H1 → ∀ Q : VK, (∀ v H2, Ex H1 H2 → R v (nw H1 H2) → Q v H2) → te σ H1 Q
def EvAF (ta : TA) (σ : L2.St) (G : Hp) (n : Nat) (R : V → Hp → Prop) : Prop := ∀ H1, Ex G H1 → ∀ Q : List V → Hp → Prop, (∀ vs H2, Ex H1 H2 → vs.length = n → (∀ v ∈ vs, R v (nw H1 H2)) → Q vs H2) → ta σ H1 Q
theorem ef_nil : EvAF tNil σ G 0 R := fun H1 e Q q => q [] H1 (Ex.refl H1) rfl fun v h => nomatch h
theorem ef_cons {tr : TA} (m : Mono R) (h : EvF te σ G R) (hr : EvAF tr σ G n R) : EvAF (tCons te tr) σ G (n + 1) R := fun H1 e Q q => h H1 e _ fun v H2 e2 hv => hr H2 (e.trans e2) _ fun vs H3 e3 l3 h3 =>
  q (v :: vs) H3 (e2.trans e3) (by rw [List.length_cons, l3]) fun u hu => by
    rcases List.mem_cons.mp hu with z | z
    · subst z
      exact m _ _ _ (nw_up e3) hv
    · exact m _ _ _ (nw_back e2) (h3 u z)
theorem ef_c {v : V} (h : Ev te σ G v) (r : ∀ H, R v H) : EvF te σ G R := fun H1 e Q q => h H1 e Q fun H2 e2 => q v H2 e2 (r _)
theorem ef_l {xs : List V} (h : EvL te σ G xs) (r : ∀ p H, H p = some (.lst xs) → R (.ref p) H) : EvF te σ G R := fun H1 e Q q => h H1 e Q fun p H2 hp e2 h2 => q _ H2 e2 (r p _ (nw_of hp h2))
theorem ef_u {xs : List V} (h : EvU te σ G xs) (r : ∀ p H, H p = some (.tup xs) → R (.ref p) H) : EvF te σ G R := fun H1 e Q q => h H1 e Q fun p H2 hp e2 h2 => q _ H2 e2 (r p _ (nw_of hp h2))
theorem ef_d (r : ∀ p H, H p = some (.dK []) → R (.ref p) H) : EvF tDNewK σ G R := fun H1 e Q q p hp => q _ _ (Ex.new hp) (r p _ (nw_of hp upd_same))
theorem ef_lst (m : Mono R) (h : EvAF ta σ G n R) (hn : n ≤ 100000) (r : ∀ p xs H, H p = some (.lst xs) → xs.length = n → (∀ v ∈ xs, R v H) → R' (.ref p) H) : EvF (tLst ta) σ G R' := fun H1 e Q q => h H1 e _ fun vs H2 e2 l2 h2 =>
  ⟨by rw [sizeLine_eq]; omega, fun p hp => q _ _ (e2.trans (Ex.new hp)) (r p vs _ (nw_of (fresh_back e2 hp) upd_same) l2 fun v hv => m _ _ _ (nw_up (Ex.new hp)) (h2 v hv))⟩
theorem mem_rep {α : Type} {xs : List α} {k : Nat} {v : α} (h : v ∈ (List.replicate k xs).flatten) : v ∈ xs := by
  obtain ⟨ys, h1, h2⟩ := List.mem_flatten.mp h
  rw [(List.mem_replicate.mp h1).2] at h2
  exact h2
theorem ef_rep {ti : TE} {k : Int} {m : Nat} (mo : Mono R) (h : EvF te σ G (fun u H' => ∃ p xs, u = .ref p ∧ H' p = some (.lst xs) ∧ xs.length ≤ m ∧ ∀ v ∈ xs, R v H')) (hi : ∀ H', Ex G H' → Ev ti σ H' (.int k)) (k0 : 0 ≤ k) (k1 : k ≤ 10000) (hm : m ≤ 5)
    (r : ∀ p ys H, H p = some (.lst ys) → ys.length ≤ m * k.toNat → (∀ v ∈ ys, R v H) → R' (.ref p) H) : EvF (tOp rRep te ti) σ G R' := fun H1 e Q q => h H1 e _ fun v H2 e2 hv => by
  obtain ⟨p, xs, rfl, hp, hl, hx⟩ := hv
  refine hi H2 (e.trans e2) H2 (Ex.refl _) _ fun H3 e3 => ⟨p, k, xs, rfl, rfl, e3 _ _ (nw_at hp).2, by omega, by omega, ?_, fun b hb => q _ _ ((e2.trans e3).trans (Ex.new hb)) (r b _ _ (nw_of (fresh_back (e2.trans e3) hb) upd_same) ?_ fun v hv => mo _ _ _ (nw_up (e3.trans (Ex.new hb))) (hx v (mem_rep hv)))⟩
  · rw [sizeLine_eq]
    have : k.toNat ≤ 10000 := by omega
    have := Nat.mul_le_mul (show xs.length ≤ 5 by omega) this
    omega
  · have len : ∀ j : Nat, ((List.replicate j xs).flatten).length = j * xs.length := fun j => by
      induction j with
      | zero => rw [Nat.zero_mul]; rfl
      | succ j ih => rw [List.replicate_succ, List.flatten_cons, List.length_append, ih, Nat.succ_mul, Nat.add_comm]
    rw [len]
    rw [Nat.mul_comm]
    exact Nat.mul_le_mul hl (Nat.le_refl _)
/-- a comprehension whose items are new objects, all unlike -/
theorem go_lcD {wi : TI} {g : TG} {te : TE} {vs : List Nat} {n : Nat} {Y : Nat → Hp → V → Hp → Prop} {s : Nat → L2.St → L2.St} {σ : L2.St} {H : Hp} {o : Nat → HO} (hw : EvI wi σ H n Y) (aim : Aims g n Y s) (hs : ∀ i, wipe (s i (wipe σ vs)) vs = wipe σ vs) (hn : n ≤ 90000)
    (he : ∀ i, i < n → ∀ H1, Ex H H1 → ∀ Q : VK, (∀ p H2, H1 p = none → Ex H1 H2 → H2 p = some (o i) → Q (.ref p) H2) → te (s i (wipe σ vs)) H1 Q) (H1 : Hp) (e : Ex H H1) (Q : VK)
    (q : ∀ (D : Addr) (as : List Addr) (H2 : Hp), H1 D = none → Ex H1 H2 → H2 D = some (.lst (as.map V.ref)) → as.length = n → as.Nodup → (∀ (i : Nat) (a : Addr), as[i]? = some a → H1 a = none ∧ a ≠ D ∧ H2 a = some (o i)) → Q (.ref D) H2) :
    tLc wi g tYes te vs σ H1 Q :=
  hw H1 e _ fun J G H2 e2 w sG D hD => lc_it w (fun i H' => Ex H2 H' ∧ ∃ as : List Addr, H' D = some (.lst (as.map V.ref)) ∧ as.length = i ∧ as.Nodup ∧ (∀ (k : Nat) (a : Addr), as[k]? = some a → H1 a = none ∧ H' a = some (o k) ∧ a ≠ D))
    ⟨Ex.new hD, [], upd_same, rfl, List.nodup_nil, fun i v h => by simp at h⟩ (fun i H' _ p => sG H' ((e.trans e2).trans p.1) fun a o _ ha => p.1 _ _ ha)
    (fun i x A B hi p y => by
      obtain ⟨p1, as, p3, p4, pn, p5⟩ := p
      obtain ⟨ab, k⟩ := aim i (wipe σ vs) A x B hi y
      refine k _ ⟨hs i, ?_⟩
      show te (s i (wipe σ vs)) B _
      refine he i hi B (((e.trans e2).trans p1).trans ab) _ fun p C hp eC hC => ⟨as.map V.ref, eC _ _ (ab _ _ p3), sz_lt (by rw [List.length_map]; omega), ((p1.trans ab).trans eC).mut hD, as ++ [p], ?_, by rw [List.length_append, p4] <;> rfl, ?_, fun j a ha => ?_⟩
      · rw [upd_same, List.map_append]
        rfl
      · rw [List.nodup_append]
        refine ⟨pn, by simp, fun x hx y hy e => ?_⟩
        rw [List.mem_singleton.mp hy] at e
        subst e
        obtain ⟨j, hj⟩ := List.mem_iff_getElem?.mp hx
        rw [ab _ _ (p5 j x hj).2.1] at hp
        cases hp
      · rcases addr_snoc ha with ⟨_, ha⟩ | ⟨rfl, rfl⟩
        · obtain ⟨q1, q2, q3⟩ := p5 j a ha
          exact ⟨q1, by rw [upd_ne q3]; exact eC _ _ (ab _ _ q2), q3⟩
        · have pD : p ≠ D := fun z => by rw [z, ab _ _ p3] at hp; cases hp
          exact ⟨fresh_back ((e2.trans p1).trans ab) hp, by rw [upd_ne pD, p4]; exact hC, pD⟩)
    (fun H' p => by
      obtain ⟨p1, as, p3, p4, pn, p5⟩ := p
      exact q D as H' (fresh_back e2 hD) (e2.trans p1) p3 p4 pn fun i a ha => ⟨(p5 i a ha).1, (p5 i a ha).2.2, (p5 i a ha).2.1⟩)
end
end EnL
end S_Xi
section S_Baf
namespace P41
open PySem PySem.Spec PyProof.Rows L2 Tl Hk RZ EnL
abbrev nFT : List Str := ["above", "beneath", "waiting", "at", "over", "order", "_"]
theorem scFromTop : FnScope nFT ["above"] (defScope sFromTop) := ⟨rfl, rfl, rfl, by decide +kernel, rfl, by decide +kernel, by decide +kernel⟩
/-- the way down, from above ones that are each one of the bags or none -/
def spFromTop (K : PySem.W.Frag) : Sp := fun vs H Q _ => ∃ (a : Addr) (ups : List (Option Nat)), vs = [.ref a] ∧ SqS K H a (ups.map uv) ∧ ups.length ≤ 3000 ∧ (∀ (i j : Nat), ups[i]? = some (some j) → j < ups.length) ∧
  ∀ O order H', Evl.Ex H H' → H O = none → H' O = some (.lst (nv order)) → Dn ups order [] → Q (.ref O) H'
theorem uv_at {ups : List (Option Nat)} {i : Nat} {u : Option Nat} (h : ups[i]? = some u) : (ups.map uv).getD i .non = uv u := by
  rw [List.getD_eq_getElem?_getD, List.getElem?_map, h]
  rfl
theorem nv_app (l m : List Nat) : nv l ++ nv m = nv (l ++ m) := List.map_append.symm
theorem nv_len (l : List Nat) : (nv l).length = l.length := List.length_map _
section
variable {P : Program} {w : World} {K : PySem.W.Frag} {mg : Str → Option Value} {base : Heap}
set_option maxHeartbeats 2000000 in
theorem ok_fromTop {f : Addr} {fd : FuncData} {k : Nat} (F : Fun K "from_top" "from_top" sFromTop f fd) (menum : mg "enumerate" = none) : FnOk P w K mg base CX0 (k + 1) f fd ["above"] (spFromTop K) := by
  refine F.ok scFromTop (fun vs H Q E h => ?_) (fun cdv A outer s H vs Q E hr h => ?_)
  · obtain ⟨a, ups, rfl, _⟩ := h
    rfl
  · obtain ⟨a, ups, rfl, hS, hl, hin, q⟩ := h
    have nd := scFromTop.nd
    refine ⟨_, pss_cons (ps_setLc (i := 1) (own := [("_", 6)]) (g := gName 6) (tt := tYes) (te := tLst tNil) rfl nd rfl rfl (sw_true rfl rfl rfl (by decide +kernel)) (pi_ei (pv 0)) (blkOk_by (N := nFT) (sc := defScope sFromTop) (by decide +kernel)) (fun _ _ _ _ _ => pg_name (i := 6) nd rfl (Or.inl rfl)) (fun _ _ _ _ _ => pts_nil) (fun _ _ _ _ _ => pe_lst (pa_nil))) (pss_cons (ps_set (i := 2) nd rfl (.inl rfl) (pe_lst (pa_nil))) (pss_cons (ps_for PassesOwn.never rfl (pi_enE (by rfl) menum (pa_cons (pv 0) pa_nil)) (pg_tup (by rfl) (pgs_cons (pg_name (i := 3) nd rfl (Or.inl rfl)) (pgs_cons (pg_name (i := 4) nd rfl (Or.inl rfl)) pgs_nil))) (pss_one (ps_if (pt_cmpR op_isN (pv 4) (pe_non) (nomark _)) (pss_one (ps_expr (pe_bm PySem.F.plainAttrs_list PySem.F.slot_list_append PySem.F.type_list_append mt_append (pv 2) (pa_cons (pv 3) (pa_nil))))) (pss_one (ps_expr (pe_bm PySem.F.plainAttrs_list PySem.F.slot_list_append PySem.F.type_list_append mt_append (pe_ix ix_list (pv 1) (pv 4) (fun _ _ => rfl)) (pa_cons (pv 3) (pa_nil)))))))) (pss_cons (ps_set (i := 5) nd rfl (.inl rfl) (pe_lst (pa_nil))) (pss_cons (ps_while PassesOwn.never (pt_truth (pv 2) (by intro _; rfl)) (pss_cons (ps_set (i := 3) nd rfl (.inl rfl) (pe_bm0 PySem.F.plainAttrs_list PySem.F.slot_list_pop PySem.F.type_list_pop mt_pop (pv 2))) (pss_cons (ps_expr (pe_bm PySem.F.plainAttrs_list PySem.F.slot_list_append PySem.F.type_list_append mt_append (pv 5) (pa_cons (pv 3) (pa_nil)))) (pss_one (ps_expr (pe_bm PySem.F.plainAttrs_list PySem.F.slot_list_extend PySem.F.type_list_extend mt_extend (pv 2) (pa_cons (pe_ix ix_list (pv 1) (pv 3) (fun _ _ => rfl)) (pa_nil)))))))) (pss_one (ps_ret (pv 5))))))), ?_⟩
    -- beneath
    refine Go.asg_go (go_lcD (H := H) (n := (ups.map uv).length) (o := fun _ => .lst []) (ei_ei (K := K) (Evl.ev_var (i := 0) rfl) hS) (aims_at (j := 6)) (fun _ => rfl) (by rw [List.length_map]; omega) (fun i hi H1 e1 Q1 q1 => (Evl.el_lst (vs := []) Evl.ea_nil (Nat.zero_le _)) H1 (Evl.Ex.refl _) _ fun p H2 hp e2 h2 => q1 p H2 hp e2 h2) H (Evl.Ex.refl _) _ fun D as H1 nD e1 hD hal hand hrow => ?_)
    rw [List.length_map] at hal
    try dsimp only [List.set_cons_zero, List.set_cons_succ]
    refine Evl.q_asgL (xs := []) (Evl.el_lst Evl.ea_nil (Nat.zero_le _)) fun Wt H2 nW e2 hW => ?_
    try dsimp only [List.set_cons_zero, List.set_cons_succ]
    have nW0 : H Wt = none := Evl.fresh_back e1 nW
    have e02 := e1.trans e2
    have hD2 := e2 _ _ hD
    have DW : D ≠ Wt := fun z => by rw [← z, hD] at nW; cases nW
    have asW : Wt ∉ as := fun z => by
      obtain ⟨i, hi⟩ := List.mem_iff_getElem?.mp z
      rw [(hrow i Wt hi).2.2] at nW
      cases nW
    have asD : D ∉ as := fun z => by
      obtain ⟨i, hi⟩ := List.mem_iff_getElem?.mp z
      exact (hrow i D hi).2.1 rfl
    have as0 : ∀ {b : Addr}, b ∈ as → H b = none := fun z => by
      obtain ⟨i, hi⟩ := List.mem_iff_getElem?.mp z
      exact (hrow i _ hi).1
    have as2 : ∀ {b : Addr}, b ∈ as → H2 b = some (.lst []) := fun z => by
      obtain ⟨i, hi⟩ := List.mem_iff_getElem?.mp z
      exact e2 _ _ (hrow i _ hi).2.2
    refine q_forI (B := H) (ei_enE (K := K) (Evl.ea_cons (Evl.ev_var (i := 0) rfl) Evl.ea_nil) hS) (aims_enumE (K := K) (j1 := 3) (j2 := 4)) e02
      (fun H3 i σ' H' => ∃ y3 y4 : Option V, σ' = [some (.ref a), some (.ref D), some (.ref Wt), y3, y4, none, none] ∧ H' D = some (.lst (as.map V.ref)) ∧ H' Wt = some (.lst (nv (tops ups i))) ∧ (∀ (j : Nat) b, as[j]? = some b → H' b = some (.lst (nv (kids ups j i)))) ∧ (∀ b o, b ≠ Wt → b ∉ as → H3 b = some o → H' b = some o))
      (fun H3 e3 => ⟨none, none, rfl, e3 _ _ hD2, e3 _ _ hW, fun j b hb => e3 _ _ (as2 (List.mem_of_getElem? hb)), fun _ _ _ _ h => h⟩)
      (fun H3 i σ' H' e3 _ ⟨_, _, _, _, _, _, kp⟩ => ⟨fun b o h => kp b o (fun z => by rw [z, nW0] at h; cases h) (fun z => by rw [as0 z] at h; cases h) (e3 _ _ (e02 _ _ h)), fun b o hn h => kp b o (fun z => by rw [z, hW] at hn; cases hn) (fun z => by rw [as2 z] at hn; cases hn) h⟩) ?_ ?_
    · rintro H3 i σ' H' H'' e3 hi ⟨y3, y4, rfl, k1, k2, k3, kp⟩ e''
      rw [List.length_map] at hi
      obtain ⟨u, hu⟩ : ∃ u, ups[i]? = some u := ⟨_, List.getElem?_eq_getElem hi⟩
      rw [uv_at hu]
      have g1 := e'' _ _ k1
      have g2 := e'' _ _ k2
      have g3 : ∀ (j : Nat) b, as[j]? = some b → H'' b = some (.lst (nv (kids ups j i))) := fun j b hb => e'' _ _ (k3 j b hb)
      have gp : ∀ b o, b ≠ Wt → b ∉ as → H3 b = some o → H'' b = some o := fun b o h1 h2 h => e'' _ _ (kp b o h1 h2 h)
      clear k1 k2 k3 kp
      cases u with
      | none =>
        refine Evl.s_if (b := true) (Evl.et_is (Evl.et_test (Evl.ev_op (Evl.ev_var (v := V.non) rfl) Evl.ev_c rv_isN)) rfl) (fun _ H4 e4 => ?_) fun z => nomatch z
        refine ⟨.ref Wt, rfl, .inl ⟨rfl, _, Evl.sq_of (e4 _ _ g2)⟩, .int (i : Int), rfl, Wt, nv (tops ups i), .int (i : Int), rfl, rfl, e4 _ _ g2, by rw [nv_len, sizeLine_eq]; have := List.length_filter_le (fun k => decide (ups[k]? = some none)) (List.range i); rw [List.length_range] at this; unfold tops; omega, ?_⟩
        refine ⟨_, _, rfl, by rw [upd_ne DW]; exact e4 _ _ g1, ?_, fun j b hb => ?_, fun b o h1 h2 h => by rw [upd_ne h1]; exact e4 _ _ (gp b o h1 h2 h)⟩
        · rw [upd_same, tops_succ, if_pos hu]
          exact congrArg (fun l => some (HO.lst l)) (nv_app (tops ups i) [i])
        · rw [upd_ne (fun z => asW (by rw [← z]; exact List.mem_of_getElem? hb)), kids_succ, if_neg (by rw [hu]; exact fun z => nomatch z), List.append_nil]
          exact e4 _ _ (g3 j b hb)
      | some o =>
        have ho := hin i o hu
        obtain ⟨c, hc⟩ : ∃ c, as[o]? = some c := ⟨_, List.getElem?_eq_getElem (by omega)⟩
        refine Evl.s_if (b := false) (Evl.et_is (Evl.et_test (Evl.ev_op (Evl.ev_var (v := V.int (o : Int)) rfl) Evl.ev_c rv_isN)) rfl) (fun z => nomatch z) fun _ H4 e4 => ?_
        have hcm := List.mem_of_getElem? hc
        refine (Evl.ev_op (x := .ref D) (y := .int (o : Int)) (z := .ref c) (Evl.ev_var rfl) (Evl.ev_var rfl) (Evl.rv_ixL (K := K) (Evl.sq_of (e4 _ _ g1)) (atI_nat (by rw [List.getElem?_map, hc]; rfl)))) H4 (Evl.Ex.refl _) _ fun H5 e5 => ⟨.inl ⟨rfl, _, Evl.sq_of (e5 _ _ (e4 _ _ (g3 o c hc)))⟩, .int (i : Int), rfl, c, nv (kids ups o i), .int (i : Int), rfl, rfl, e5 _ _ (e4 _ _ (g3 o c hc)), by rw [nv_len, sizeLine_eq]; have := List.length_filter_le (fun k => decide (ups[k]? = some (some o))) (List.range i); rw [List.length_range] at this; unfold kids; omega, ?_⟩
        refine ⟨_, _, rfl, by rw [upd_ne (fun z => asD (by rw [z]; exact hcm))]; exact e5 _ _ (e4 _ _ g1), ?_, fun j b hb => ?_, fun b o' h1 h2 h => by rw [upd_ne (fun z => h2 (by rw [z]; exact hcm))]; exact e5 _ _ (e4 _ _ (gp b o' h1 h2 h))⟩
        · rw [upd_ne (fun z => asW (by rw [z]; exact hcm)), tops_succ, if_neg (by rw [hu]; exact fun z => nomatch z), List.append_nil]
          exact e5 _ _ (e4 _ _ g2)
        · by_cases z : b = c
          · subst z
            obtain rfl : j = o := by
              obtain ⟨l1, g1⟩ := List.getElem?_eq_some_iff.mp hb
              obtain ⟨l2, g2⟩ := List.getElem?_eq_some_iff.mp hc
              exact (List.getElem_inj hand).mp (g1.trans g2.symm)
            rw [upd_same, kids_succ, if_pos hu]
            exact congrArg (fun l => some (HO.lst l)) (nv_app (kids ups j i) [i])
          · rw [upd_ne z, kids_succ, if_neg (fun z2 => z (by
              rw [hu] at z2
              have : o = j := Option.some.inj (Option.some.inj z2)
              subst this
              rw [hc] at hb
              exact (Option.some.inj hb).symm)), List.append_nil]
            exact e5 _ _ (e4 _ _ (g3 j b hb))
    · rintro H3 σ' H4 e3 ⟨y3, y4, rfl, k1, k2, k3, kp⟩
      rw [List.length_map] at k2 k3
      have e04 : Evl.Ex H H4 := fun b o h => kp b o (fun z => by rw [z, nW0] at h; cases h) (fun z => by rw [as0 z] at h; cases h) (e3 _ _ (e02 _ _ h))
      -- order
      refine Evl.q_asgL (xs := []) (Evl.el_lst Evl.ea_nil (Nat.zero_le _)) fun O H5 nO e5 hO => ?_
      try dsimp only [List.set_cons_zero, List.set_cons_succ]
      have nO0 : H O = none := Evl.fresh_back e04 nO
      have OW : O ≠ Wt := fun z => by rw [z, k2] at nO; cases nO
      have OD : O ≠ D := fun z => by rw [z, k1] at nO; cases nO
      have asO : O ∉ as := fun z => by
        obtain ⟨i, hi⟩ := List.mem_iff_getElem?.mp z
        rw [k3 i O hi] at nO
        cases nO
      refine Evl.q_while (fun m σ' H' => ∃ (y3 y4 : Option V) (order wl : List Nat), σ' = [some (.ref a), some (.ref D), some (.ref Wt), y3, y4, some (.ref O), none] ∧ m = ups.length - order.length ∧ Dn ups order wl ∧ H' D = some (.lst (as.map V.ref)) ∧ H' Wt = some (.lst (nv wl)) ∧ H' O = some (.lst (nv order)) ∧ (∀ (j : Nat) b, as[j]? = some b → H' b = some (.lst (nv (kids ups j ups.length)))) ∧ Evl.Ex H H') _
        ⟨_, _, [], _, rfl, rfl, Dn.start ups, e5 _ _ k1, e5 _ _ k2, hO, fun j b hb => e5 _ _ (k3 j b hb), e04.trans e5⟩ ?_
      rintro m σ' H' ⟨y3, y4, order, wl, rfl, rfl, hd, g1, g2, g3, g4, g5⟩
      refine ⟨!(nv wl).isEmpty, fun H6 e6 Q6 q6 => ⟨_, rfl, _, .inl ⟨_, Evl.sq_of (e6 _ _ g2), rfl⟩, q6 H6 (Evl.Ex.refl H6)⟩, fun hb H6 e6 => ?_, fun hb H6 e6 => ?_⟩
      · obtain ⟨wl', y, rfl⟩ : ∃ wl' y, wl = wl' ++ [y] := by
          rcases List.eq_nil_or_concat wl with h | ⟨l, y, h⟩
          · rw [h] at hb; cases hb
          · exact ⟨l, y, by rw [h, List.concat_eq_append]⟩
        have hle := hd.le
        simp only [List.length_append, List.length_cons, List.length_nil] at hle
        refine ⟨fun σ2 H2 => ∃ (y3 y4 : Option V) (order' wl : List Nat), σ2 = [some (.ref a), some (.ref D), some (.ref Wt), y3, y4, some (.ref O), none] ∧ order'.length = order.length + 1 ∧ Dn ups order' wl ∧ H2 D = some (.lst (as.map V.ref)) ∧ H2 Wt = some (.lst (nv wl)) ∧ H2 O = some (.lst (nv order')) ∧ (∀ (j : Nat) b, as[j]? = some b → H2 b = some (.lst (nv (kids ups j ups.length)))) ∧ Evl.Ex H H2, fun σ2 H2 ⟨y3, y4, o', w', h1, h2, h3⟩ => ⟨_, by omega, y3, y4, o', w', h1, rfl, h3⟩, ?_⟩
        have hwl : (nv (wl' ++ [y]))[(nv (wl' ++ [y])).length - 1]? = some (.int (y : Int)) := by
          rw [← nv_app, List.length_append]
          show (nv wl' ++ nv [y])[(nv wl').length + 1 - 1]? = _
          rw [List.getElem?_append_right (by omega)]
          simp [nv]
        have hdl : (nv (wl' ++ [y])).dropLast = nv wl' := by
          rw [← nv_app]
          exact List.dropLast_concat
        refine ⟨_, rfl, .inl ⟨rfl, _, Evl.sq_of (e6 _ _ g2)⟩, Wt, _, _, rfl, rfl, e6 _ _ g2, hwl, ?_⟩
        rw [hdl]
        have yt := hd.tp y (by simp)
        have ylt := yt.lt
        obtain ⟨c, hc⟩ : ∃ c, as[y]? = some c := ⟨_, List.getElem?_eq_getElem (by omega)⟩
        have hcm := List.mem_of_getElem? hc
        have hcW : c ≠ Wt := fun z => asW (z ▸ hcm)
        have hcO : c ≠ O := fun z => asO (z ▸ hcm)
        refine ⟨.ref O, rfl, .inl ⟨rfl, _, Evl.sq_of (by rw [upd_ne OW]; exact e6 _ _ g3)⟩, .int (y : Int), rfl, O, nv order, .int (y : Int), rfl, rfl, by rw [upd_ne OW]; exact e6 _ _ g3, by rw [nv_len, sizeLine_eq]; omega, ?_⟩
        have c1 : upd (upd H6 Wt (.lst (nv wl'))) O (.lst (nv order ++ [.int (y : Int)])) Wt = some (.lst (nv wl')) := by rw [upd_ne OW.symm, upd_same]
        have c2 : upd (upd H6 Wt (.lst (nv wl'))) O (.lst (nv order ++ [.int (y : Int)])) D = some (.lst (as.map V.ref)) := by rw [upd_ne OD.symm, upd_ne DW]; exact e6 _ _ g1
        have c3 : upd (upd H6 Wt (.lst (nv wl'))) O (.lst (nv order ++ [.int (y : Int)])) O = some (.lst (nv (order ++ [y]))) := by rw [upd_same]; exact congrArg (fun l => some (HO.lst l)) (nv_app order [y])
        have c4 : ∀ (j : Nat) b, as[j]? = some b → upd (upd H6 Wt (.lst (nv wl'))) O (.lst (nv order ++ [.int (y : Int)])) b = some (.lst (nv (kids ups j ups.length))) := fun j b hb2 => by
          have hm := List.mem_of_getElem? hb2
          rw [upd_ne (fun z => asO (by rw [← z]; exact hm)), upd_ne (fun z => asW (by rw [← z]; exact hm))]
          exact e6 _ _ (g4 j b hb2)
        have c5 : Evl.Ex H (upd (upd H6 Wt (.lst (nv wl'))) O (.lst (nv order ++ [.int (y : Int)]))) := ((g5.trans e6).mut nW0).mut nO0
        generalize upd (upd H6 Wt (.lst (nv wl'))) O (.lst (nv order ++ [.int (y : Int)])) = H7 at c1 c2 c3 c4 c5
        have klen : (kids ups y ups.length).length ≤ ups.length := by have := List.length_filter_le (fun k => decide (ups[k]? = some (some y))) (List.range ups.length); rw [List.length_range] at this; exact this
        refine ⟨.ref Wt, rfl, .inl ⟨rfl, _, Evl.sq_of c1⟩, (Evl.ev_op (x := .ref D) (y := .int (y : Int)) (z := .ref c) (Evl.ev_var rfl) (Evl.ev_var rfl) (Evl.rv_ixL (K := K) (Evl.sq_of c2) (atI_nat (by rw [List.getElem?_map, hc]; rfl)))) H7 (Evl.Ex.refl _) _ fun H8 e8 => ⟨Wt, c, nv wl', nv (kids ups y ups.length), rfl, rfl, e8 _ _ c1, e8 _ _ (c4 y c hc), by rw [nv_len, nv_len, sizeLine_eq]; omega, ?_⟩⟩
        refine ⟨_, _, order ++ [y], wl' ++ kids ups y ups.length, rfl, by rw [List.length_append]; rfl, hd.step, by rw [upd_ne DW]; exact e8 _ _ c2, by rw [upd_same, nv_app], by rw [upd_ne OW]; exact e8 _ _ c3, fun j b hb2 => by rw [upd_ne (fun z => asW (by rw [← z]; exact List.mem_of_getElem? hb2))]; exact e8 _ _ (c4 j b hb2), (c5.trans e8).mut nW0⟩
      · obtain rfl : wl = [] := by
          cases wl with
          | nil => rfl
          | cons x r => cases hb
        exact ⟨_, rfl, q O order H6 (g5.trans e6) nO0 (e6 _ _ g3) hd⟩
end
end P41
end S_Baf
section S_Bag
namespace P41
open PySem PySem.Spec PyProof.Rows L2 Tl Hk RZ EnL
abbrev nTA : List Str := ["value", "many", "tops", "over", "at"]
theorem scTells : FnScope nTA ["value", "many"] (defScope sTells) := ⟨rfl, rfl, rfl, by decide +kernel, rfl, by decide +kernel, by decide +kernel⟩
abbrev rIsN : R2 := fun x y H Q => y = V.non ∧ Q (.bl (decide (x = V.non))) H
abbrev teUp (K : PySem.W.Frag) : TE := tOrV (tOp rIsN (tVar 3) (tC .non)) (tCall (spWithin K) [] E0 (tCons (tVar 3) (tCons (tC (.int 0)) (tCons (tOp (rI0 fun i j => V.int (i - j)) (tVar 1) (tC (.int 1))) tNil))))
/-- for each of m bags the one above it, and one top: all come up to it -/
def UpsOk (m : Nat) (ups : List (Option Nat)) : Prop := ups.length = m ∧ (∀ (i j : Nat), ups[i]? = some (some j) → j < m) ∧ (tops ups m).length = 1 ∧ ∀ x, x < m → Top ups x
def TellsP (m : Nat) (r : Option (List V)) : Prop := ∃ ups, r = some (ups.map uv) ∧ UpsOk m ups
def spTells (K : PySem.W.Frag) : Sp := fun vs H Q _ => ∃ (v : V) (m : Nat) (r : Option (List V)), vs = [v, .int (m : Int)] ∧ BagD K H v r ∧ m ≤ 3000 ∧ ∀ H1, Evl.Ex H H1 → Q (.bl (pd (TellsP m r))) H1
theorem spv_tells {K : PySem.W.Frag} {H : Hp} {v : V} {m : Nat} {r : Option (List V)} (h : BagD K H v r) (hm : m ≤ 3000) : Evl.SpV (spTells K) [v, .int (m : Int)] H (.bl (pd (TellsP m r))) := fun H1 e Q q E => ⟨v, m, r, rfl, h.ex e, hm, q⟩
theorem BagD.sq {K : PySem.W.Frag} {H : Hp} {x : V} {xs : List V} (h : BagD K H x (some xs)) : ∃ a, x = .ref a ∧ SqS K H a xs ∧ xs.length ≤ 3000 ∧ ∀ v ∈ xs, ∃ n, Ty7 K H v n := by
  cases h with
  | lst h hl hi => exact ⟨_, rfl, .inl h, hl, hi⟩
  | tup h hl hi => exact ⟨_, rfl, .inr h, hl, hi⟩
theorem isl_bag {K : PySem.W.Frag} {H : Hp} {x : V} {r : Option (List V)} (h : BagD K H x r) : Evl.SpV (spList K) [x] H (.bl r.isSome) := by
  cases h with
  | no h h1 h2 =>
    have := spv_list h
    rw [show (decide (_ = "list") || decide (_ = "tuple")) = false from by simp [h1, h2]] at this
    exact this
  | lst h hl hi => exact spv_list (.lst h)
  | tup h hl hi => exact spv_list (.tup h)
/-- one above, or none -/
def upV (m : Nat) (v : V) : Bool := decide (v = .non) || wi v (.int 0) (.int ((m : Int) - 1))
theorem upV_uv {m : Nat} {u : Option Nat} (h : ∀ j, u = some j → j < m) : upV m (uv u) = true := by
  cases u with
  | none => rfl
  | some j =>
    have := h j rfl
    show (decide (V.int (j : Int) = V.non) || (decide ((0 : Int) ≤ (j : Int)) && decide ((j : Int) ≤ (m : Int) - 1))) = true
    rw [decide_eq_true (show (0 : Int) ≤ (j : Int) by omega), decide_eq_true (show (j : Int) ≤ (m : Int) - 1 by omega), Bool.and_self, Bool.or_true]
theorem ups_of {m : Nat} : ∀ {xs : List V}, xs.all (upV m) = true → ∃ ups : List (Option Nat), xs = ups.map uv ∧ ∀ u ∈ ups, ∀ j, u = some j → j < m
  | [], _ => ⟨[], rfl, fun u h => nomatch h⟩
  | v :: r, h => by
    rw [List.all_cons, Bool.and_eq_true_iff] at h
    obtain ⟨ups, rfl, hu⟩ := ups_of h.2
    have hv := h.1
    unfold upV at hv
    cases v with
    | non => exact ⟨none :: ups, rfl, fun u h2 => by
        rcases List.mem_cons.mp h2 with rfl | h2
        · exact fun j z => nomatch z
        · exact hu u h2⟩
    | int i =>
      have h3 : (decide ((0 : Int) ≤ i) && decide (i ≤ (m : Int) - 1)) = true := by simpa [wi, okLo, okHi] using hv
      rw [Bool.and_eq_true_iff] at h3
      have h4 := of_decide_eq_true h3.1
      have h5 := of_decide_eq_true h3.2
      refine ⟨some i.toNat :: ups, ?_, fun u h2 => ?_⟩
      · rw [List.map_cons]
        congr 1
        show V.int i = V.int ((i.toNat : Nat) : Int)
        rw [Int.toNat_of_nonneg h4]
      · rcases List.mem_cons.mp h2 with rfl | h2
        · intro j z
          have := Option.some.inj z
          omega
        · exact hu u h2
    | _ => cases hv
theorem uv_inj {a b : Option Nat} (h : uv a = uv b) : a = b := by
  cases a with
  | none => cases b with
    | none => rfl
    | some j => cases h
  | some i => cases b with
    | none => cases h
    | some j => have := V.int.inj h; congr 1; omega
theorem uvs_inj : ∀ {a b : List (Option Nat)}, a.map uv = b.map uv → a = b
  | [], [], _ => rfl
  | [], _ :: _, h => nomatch h
  | _ :: _, [], h => nomatch h
  | x :: a, y :: b, h => by
    rw [List.map_cons, List.map_cons] at h
    rw [uv_inj (List.cons.inj h).1, uvs_inj (List.cons.inj h).2]
section
variable {P : Program} {w : World} {K : PySem.W.Frag} {mg : Str → Option Value} {base : Heap}
set_option maxHeartbeats 2000000 in
theorem ok_tells {f fW fL fT : Addr} {fd fdW fdL fdT : FuncData} {k : Nat} (F : Fun K "tells_above" "tells_above" sTells f fd)
    (FW : Fun K "is_within" "is_within" sWithin fW fdW) (GW : FnOk P w K mg base CX0 k fW fdW ["value", "least", "most"] (spWithin K)) (bW : Binds K fdW ["value", "least", "most"] []) (gW : mg "is_within" = some (.ref fW))
    (FL : Fun K "is_list" "is_list" sList fL fdL) (GL : FnOk P w K mg base CX0 k fL fdL ["value"] (spList K)) (bL : Binds K fdL ["value"] []) (gL : mg "is_list" = some (.ref fL))
    (FT : Fun K "from_top" "from_top" sFromTop fT fdT) (GT : FnOk P w K mg base CX0 k fT fdT ["above"] (spFromTop K)) (bT : Binds K fdT ["above"] []) (gT : mg "from_top" = some (.ref fT))
    (mlen : mg "len" = none) (mall : mg "all" = none) (menum : mg "enumerate" = none) : FnOk P w K mg base CX0 (k + 1) f fd ["value", "many"] (spTells K) := by
  refine F.ok scTells (fun vs H Q E h => ?_) (fun cdv A outer s H vs Q E hr h => ?_)
  · obtain ⟨v, m, r, rfl, _⟩ := h
    rfl
  · obtain ⟨v, m, r, rfl, h, hm, q⟩ := h
    have nd := scTells.nd
    refine ⟨_, pss_cons (ps_if (PW.pt (pw_or (pt_not (pt_val (pe_call GL hr (by rfl) gL FL.kp bL .nil pass0 (pa_cons (pv 0) (pa_nil))))) (pw_or1 (pt_cmpR op_ne (pe_callB call_len_seq (by rfl) mlen PySem.boot_len (pa_cons (pv 0) (pa_nil))) (pv 1) (nomark _))))) (pss_one (ps_ret (pe_bl))) (pss_nil)) (pss_cons (ps_if (pt_not (pt_val (pe_callB (cr_all rfl) (by rfl) mall (by decide +kernel) (pa_cons (pe_lc (own := [("over", 3)]) (g := gName 3) (tt := tYes) (te := teUp K) rfl nd (pi_ei (pv 0)) (blkOk_by (N := nTA) (sc := defScope sTells) (by decide +kernel)) (fun _ _ _ _ _ => pg_name (i := 3) nd rfl (Or.inl rfl)) (fun _ _ _ _ _ => pts_nil) (fun _ _ _ _ _ => pe_or (pe_cmpR op_isN (pv 3) (pe_non) (nomark _)) (pe_one (pe_call GW hr (by rfl) gW FW.kp bW .nil pass0 (pa_cons (pv 3) (pa_cons (pe_int) (pa_cons (pe_op op_sub (pv 1) (pe_int)) (pa_nil)))))))) (pa_nil))))) (pss_one (ps_ret (pe_bl))) (pss_nil)) (pss_cons (ps_setLc (i := 2) (own := [("at", 4), ("over", 3)]) (g := gTup K 2 (gCons (gName 4) (gCons (gName 3) gNil))) (tt := tTest (tOp rIsN (tVar 3) (tC .non))) (te := tVar 4) rfl nd rfl rfl (sw_true rfl rfl rfl (by decide +kernel)) (pi_enE (by rfl) menum (pa_cons (pv 0) pa_nil)) (blkOk_by (N := nTA) (sc := defScope sTells) (by decide +kernel)) (fun _ _ _ _ _ => pg_tup (by rfl) (pgs_cons (pg_name (i := 4) nd rfl (Or.inl rfl)) (pgs_cons (pg_name (i := 3) nd rfl (Or.inl rfl)) pgs_nil))) (fun _ _ _ _ _ => pts_one (pt_cmpR op_isN (pv 3) (pe_non) (nomark _))) (fun _ _ _ _ _ => pv 4)) (pss_one (ps_ret (pe_and (pe_cmpR op_eq (pe_callB call_len_seq (by rfl) mlen PySem.boot_len (pa_cons (pv 2) (pa_nil))) (pe_int) (nomark _)) (pe_one (pe_cmpR op_eq (pe_callB call_len_seq (by rfl) mlen PySem.boot_len (pa_cons (pe_call GT hr (by rfl) gT FT.kp bT .nil pass0 (pa_cons (pv 0) (pa_nil))) (pa_nil))) (pv 1) (nomark _)))))))), ?_⟩
    have isl : Evl.EvT (tNot (tB (tCall (spList K) [] E0 (tCons (tVar 0) tNil)))) (start nTA [v, .int (m : Int)]) H (!r.isSome) := Evl.et_not (Evl.et_B (Evl.ev_call (Evl.ea_cons (Evl.ev_var rfl) Evl.ea_nil) (isl_bag h)))
    have no : ¬ TellsP m r → ∀ H1, Evl.Ex H H1 → Q (.bl false) H1 := fun hn H1 e => by
      have := q H1 e
      rwa [pd_false hn] at this
    cases r with
    | none => exact Evl.q_when (b := true) (Evl.et_is (Evl.et_or (a := true) (b := true) isl fun z => nomatch z) rfl) (fun _ H1 e1 => Evl.s_ret Evl.ev_c fun H2 e2 => no (fun ⟨ups, z, _⟩ => nomatch z) H2 (e1.trans e2)) fun z => nomatch z
    | some xs =>
      obtain ⟨a, rfl, hS, hl, hi0⟩ := h.sq
      refine Evl.q_when (b := !decide (xs.length = m)) (Evl.et_is (Evl.et_or (a := false) (b := !decide (xs.length = m)) isl fun _ => Evl.et_is (Evl.et_test (Evl.ev_op (ev_lenB (K := K) (Evl.ev_var rfl) hS) (Evl.ev_var rfl) (Evl.rv_ne rfl))) (by
        congr 1
        exact decide_eq_decide.mpr ⟨fun z => by have := V.int.inj z; omega, fun z => by rw [z]⟩)) rfl) (fun hb H1 e1 => ?_) fun hb H1 e1 => ?_
      · rw [Bool.not_eq_true', decide_eq_false_iff_not] at hb
        exact Evl.s_ret Evl.ev_c fun H2 e2 => no (fun ⟨ups, z, hu⟩ => hb (by
          cases z
          rw [List.length_map]
          exact hu.1)) H2 (e1.trans e2)
      · rw [Bool.not_eq_false', decide_eq_true_iff] at hb
        have hS1 := hS.ex e1
        have item := el_lcI (te := teUp K) (t := tYes) (σ := start nTA [.ref a, .int (m : Int)]) (H := H1) (vs := [3]) (fun _ => true) (fun i => V.bl (upV m (xs.getD i .non))) (ei_ei (K := K) (Evl.ev_var (i := 0) rfl) hS1) (aims_at (j := 3)) (fun _ => rfl) (by omega) (fun _ _ _ _ => et_yes) (fun i A eA hi _ => by
          obtain ⟨n7, h7⟩ := hi0 _ (List.getElem_mem hi)
          rw [show xs.getD i .non = xs[i] from by rw [List.getD_eq_getElem?_getD, List.getElem?_eq_getElem hi]; rfl]
          exact Evl.ev_orV (Evl.ev_op (Evl.ev_var rfl) Evl.ev_c rv_isN) fun _ => Evl.ev_call (Evl.ea_cons (Evl.ev_var rfl) (Evl.ea_cons Evl.ev_c (Evl.ea_cons (Evl.ev_op (Evl.ev_var rfl) Evl.ev_c Evl.rv_I0) Evl.ea_nil))) (spv_within ((h7.ex e1).ex eA) trivial trivial))
        rw [given_all xs .non fun v => V.bl (upV m v)] at item
        refine Evl.q_when (b := !xs.all (upV m)) (Evl.et_not (Evl.et_B (Evl.ev_is (ev_allN (bs := xs.map (upV m)) (by rw [List.map_map]; exact item)) (by rw [List.all_map]; rfl)))) (fun hb2 H2 e2 => ?_) fun hb2 H2 e2 => ?_
        · rw [Bool.not_eq_true'] at hb2
          refine Evl.s_ret Evl.ev_c fun H3 e3 => no (fun ⟨ups, z, hu⟩ => ?_) H3 ((e1.trans e2).trans e3)
          cases z
          rw [List.all_map, List.all_eq_true.mpr fun u hu' => ?_] at hb2
          · cases hb2
          · obtain ⟨i, hi⟩ := List.mem_iff_getElem?.mp hu'
            exact upV_uv fun j z => by subst z; exact hu.2.1 i j hi
        · rw [Bool.not_eq_false'] at hb2
          obtain ⟨ups, rfl, hu⟩ := ups_of hb2
          rw [List.length_map] at hb hl
          have hin : ∀ (i j : Nat), ups[i]? = some (some j) → j < ups.length := fun i j h => by rw [hb]; exact hu _ (List.mem_of_getElem? h) j rfl
          have hS2 := hS1.ex e2
          have tp := el_lcI (te := tVar 4) (t := tTest (tOp rIsN (tVar 3) (tC .non))) (σ := start nTA [.ref a, .int (m : Int)]) (H := H2) (vs := [4, 3]) (fun i => decide (ups[i]? = some none)) (fun i => V.int (i : Int)) (ei_enE (K := K) (Evl.ea_cons (Evl.ev_var (i := 0) rfl) Evl.ea_nil) hS2) (aims_enumE (K := K) (j1 := 4) (j2 := 3)) (fun _ => rfl) (by rw [List.length_map]; omega) (fun i A eA hi => by
            rw [List.length_map] at hi
            obtain ⟨u, hu2⟩ : ∃ u, ups[i]? = some u := ⟨_, List.getElem?_eq_getElem hi⟩
            rw [uv_at hu2]
            refine Evl.et_is (Evl.et_test (Evl.ev_op (x := uv u) (Evl.ev_var rfl) Evl.ev_c rv_isN)) (decide_eq_decide.mpr ?_)
            rw [hu2]
            exact ⟨fun z => by rw [show u = none from uv_inj (b := none) z], fun z => by rw [Option.some.inj z]; rfl⟩) (fun i A eA hi _ => Evl.ev_var rfl)
          rw [List.length_map, show Evl.given ups.length (fun i => decide (ups[i]? = some none)) (fun i => V.int (i : Int)) = nv (tops ups ups.length) from rfl] at tp
          refine Evl.q_asgL tp fun Tp H3 nT e3 hT => ?_
          try dsimp only [List.set_cons_zero, List.set_cons_succ]
          have key : ∀ b : Bool, (b = true ↔ (tops ups ups.length).length = 1 ∧ ∀ x, x < ups.length → Top ups x) → ∀ H4, Evl.Ex H3 H4 → Q (.bl b) H4 := fun b hb4 H4 e4 => by
            have := q H4 (((e1.trans e2).trans e3).trans e4)
            rwa [pd_is (b := b)] at this
            rw [hb4]
            constructor
            · rintro ⟨us, z, u1, u2, u3, u4⟩
              rw [← uvs_inj (Option.some.inj z)] at u1 u2 u3 u4
              rw [u1]
              exact ⟨u3, u4⟩
            · rintro ⟨u3, u4⟩
              exact ⟨ups, rfl, hb, fun i j h => by rw [← hb]; exact hin i j h, by rw [← hb]; exact u3, by rw [← hb]; exact u4⟩
          refine Go.ret_go ((Evl.ev_op (Evl.ev_len (K := K) (Evl.ev_var (i := 2) rfl) (Evl.sq_of hT)) Evl.ev_c (Evl.rv_eq rfl)) H3 (Evl.Ex.refl _) _ fun H4 e4 => ⟨_, rfl, if_go (fun hc => ?_) fun hc => ?_⟩)
          · have hc := of_decide_eq_true hc
            rw [nv_len] at hc
            have h1 : (tops ups ups.length).length = 1 := by have := V.int.inj hc; omega
            refine Go.op_go (Go.cb_go (Go.cons_any (Go.call_raw ⟨.ref a, rfl, a, ups, rfl, (hS2.ex e3).ex e4, by omega, hin, fun O order H5 e5 nO hO hd => ⟨O, nv order, rfl, .inl (Evl.sq_of hO), .int (m : Int), rfl, ?_⟩⟩)))
            refine (Evl.rv_eq rfl) H5 (Evl.Ex.refl _) _ fun H6 e6 => key _ ?_ H6 ((e4.trans e5).trans e6)
            rw [nv_len, decide_eq_true_iff, ← hd.full]
            exact ⟨fun z => ⟨h1, by have := V.int.inj z; omega⟩, fun z => by rw [z.2, hb]⟩
          · have hc := of_decide_eq_false hc
            rw [nv_len] at hc
            refine key false ⟨(fun z => nomatch z), fun z => absurd (by rw [z.1]; rfl) hc⟩ H4 e4
end
end P41
end S_Bag
section S_Re
set_option maxHeartbeats 2000000
/-! zip of any two that feed: a list's or a tuple's iterator, whichever -/
namespace Hk
open PySem RZ
/-- an iterator at c over what lies at l -/
structure Feed (prog : Program) (w : World) (c l : Addr) (ys : Array Value) (S : Nat → Heap → Prop) : Prop where
  keep : ∀ {i : Nat} {h h' : Heap}, S i h → (∀ o, h.get? c = some o → h'.get? c = some o) → (∀ o, h.get? l = some o → h'.get? l = some o) → S i h'
  live : ∀ {i : Nat} {h : Heap}, S i h → ∃ o, h.get? c = some o ∧ o.data = .fields #[.ref l, .int i 0]
  item : ∀ {A : Around} {E : Value → Shared → Prop} {s : Shared} {i : Nat} {x : Value} {Q : Value → Shared → Prop}, S i s.heap → ys[i]? = some x →
    (∀ h', S (i + 1) h' → Heap.SameBut c s.heap h' → Q x { s with heap := h' }) → wpAny (model prog w) A (Builtin.SmallTypes.nextOf (.ref c)) Q E s
  last : ∀ {A : Around} {E : Value → Shared → Prop} {s : Shared} {i : Nat} {Q : Value → Shared → Prop}, A.handled = none → S i s.heap → ys[i]? = none →
    (∀ h' e, Heap.ExtBut c s.heap h' → (∃ o, h'.get? e = some o ∧ o.cls = .type "StopIteration") → E (.ref e) { s with heap := h' }) → wpAny (model prog w) A (Builtin.SmallTypes.nextOf (.ref c)) Q E s
theorem feed_lst {prog : Program} {w : World} {c l : Addr} {ys : Array Value} (n : l ≠ c) : Feed prog w c l ys fun i h => h.IsListIter c l i ∧ h.IsList l ys where
  keep h k1 k2 := ⟨h.1.at k1, h.2.at k2⟩
  live h := by
    obtain ⟨⟨o, a, _, b⟩, _⟩ := h
    exact ⟨o, a, b⟩
  item h hx q := wpAny_nextOf_list_item h.1 h.2 hx fun h' k e => q h' ⟨k, h.2.extBut e.extBut n⟩ e
  last hh h hx q := wpAny_nextOf_list_end hh h.1 h.2 hx q
theorem feed_tup {prog : Program} {w : World} {c l : Addr} {ys : Array Value} (n : l ≠ c) : Feed prog w c l ys fun i h => h.IsTupleIter c l i ∧ h.IsTuple l ys where
  keep h k1 k2 := ⟨h.1.at k1, h.2.at k2⟩
  live h := by
    obtain ⟨⟨o, a, _, b⟩, _⟩ := h
    exact ⟨o, a, b⟩
  item h hx q := nextOf_tuple_item h.1 h.2 hx fun h' k e => q h' ⟨k, h.2.extBut e.extBut n⟩ e
  last hh h hx q := nextOf_tuple_end hh h.1 h.2 hx q
section
variable {prog : Program} {w : World} {A : Around} {E : Value → Shared → Prop} {s : Shared} {z TI TO i1 i2 l1 l2 : Addr} {k1 k2 : Nat} {xs ys : Array Value} {S1 S2 : Nat → Heap → Prop} {x y a b : Value}
theorem feed_by {c l d : Addr} {vs : Array Value} {S : Nat → Heap → Prop} {k : Nat} {h h' : Heap} (F : Feed prog w c l vs S) (st : S k h) (e : Heap.ExtBut d h h') (nc : c ≠ d) (nl : l ≠ d) : S k h' := F.keep st (fun o => e c o nc) fun o => e l o nl
theorem zipF_item {Q : Value → Shared → Prop} (D : ZipApart z TI TO i1 i2 l1 l2) (F1 : Feed prog w i1 l1 xs S1) (F2 : Feed prog w i2 l2 ys S2)
    (hz : IsZip s.heap z TI TO .none) (hTI : IsPair s.heap TI (.ref i1) (.ref i2)) (hTO : IsPair s.heap TO a b) (h1 : S1 k1 s.heap) (h2 : S2 k2 s.heap) (hx : xs[k1]? = some x) (hy : ys[k2]? = some y)
    (q : ∀ h', IsZip h' z TI TO (rawInt s.heap.objs.size) → IsPair h' TO x y → S1 (k1 + 1) h' → S2 (k2 + 1) h' → IsPair h' s.heap.objs.size x y → (∀ c o, c ≠ z → c ≠ TO → c ≠ i1 → c ≠ i2 → s.heap.get? c = some o → h'.get? c = some o) → Q (.ref s.heap.objs.size) { s with heap := h' }) :
    wpAny (model prog w) A (Builtin.«zip.__next__» ⟨[.ref z], []⟩) (fun fin s' => ∃ v, fin = .done (.ret v) ∧ Q v s') E s := by
  show wpAny _ _ (field (.ref z) 2 >>= _) _ _ _
  refine wpAny_bind (wpAny_field hz rfl (x := .bool false) rfl ?_)
  show wpAny _ _ (field (.ref z) 3 >>= _) _ _ _
  refine wpAny_bind (wpAny_field hz rfl (x := .ref TI) rfl (wpAny_bind (wpAny_seqItems hTI rfl ?_)))
  show wpAny _ _ (Builtin.SmallTypes.ownedTupleIsFree (.ref z) >>= _) _ _ _
  refine wpAny_bind ?_
  unfold Builtin.SmallTypes.ownedTupleIsFree
  refine wpAny_bind (wpAny_field hz rfl (x := .none) rfl (wpAny_pure ?_))
  simp only [if_true]
  refine wpAny_bind (wpAny_rule (wpAny_bind (wpAny_field hz rfl (x := .ref TO) rfl (wpAny_bind (wpAny_setField_rec hz (by simp) fun g1 z1 e1 => ?_)))))
  replace z1 : IsZip g1 z TI TO .ellipsis := z1
  refine wpAny_bind ?_
  simp only [List.zipIdx_cons, List.zipIdx_nil, List.forIn_cons, List.forIn_nil]
  -- the first
  refine wpAny_bind (wpAny_bind (wpAny_onRaise ?_))
  show wpAny _ _ (Builtin.SmallTypes.nextOf (.ref i1) >>= _) _ _ _
  refine wpAny_bind (F1.item (feed_by F1 h1 e1.extBut D.i1z D.l1z) hx fun g2 n1 e2 => wpAny_pure ?_)
  have o2 : IsPair g2 TO a b := e2.extBut _ _ D.TOi1 (e1.extBut _ _ D.TOz hTO)
  refine wpAny_bind (wpAny_seqItems o2 rfl (wpAny_bind (wpAny_updateSeq_pair o2 fun g3 o3 e3 => wpAny_bind (wpAny_letGo (wpAny_pure ?_)))))
  replace o3 : IsPair g3 TO x b := o3
  -- the second
  refine wpAny_bind (wpAny_bind (wpAny_onRaise ?_))
  show wpAny _ _ (Builtin.SmallTypes.nextOf (.ref i2) >>= _) _ _ _
  refine wpAny_bind (F2.item (feed_by F2 (feed_by F2 (feed_by F2 h2 e1.extBut D.i2z D.l2z) e2.extBut D.i12.symm D.l2i1) e3.extBut D.TOi2.symm D.l2TO) hy fun g4 n2 e4 => wpAny_pure ?_)
  have o4 : IsPair g4 TO x b := e4.extBut _ _ D.TOi2 o3
  refine wpAny_bind (wpAny_seqItems o4 rfl (wpAny_bind (wpAny_updateSeq_pair o4 fun g5 o5 e5 => wpAny_bind (wpAny_letGo (wpAny_pure (wpAny_pure ?_))))))
  replace o5 : IsPair g5 TO x y := o5
  have z5 : IsZip g5 z TI TO .ellipsis := e5.extBut _ _ D.TOz.symm (e4.extBut _ _ D.i2z.symm (e3.extBut _ _ D.TOz.symm (e2.extBut _ _ D.i1z.symm z1)))
  have sz : g5.objs.size = s.heap.objs.size := by rw [e5.1, e4.1, e3.1, e2.1, e1.1]
  have k5 : ∀ c o, c ≠ z → c ≠ TO → c ≠ i1 → c ≠ i2 → s.heap.get? c = some o → g5.get? c = some o := fun c o c1 c2 c3 c4 h => e5.extBut _ _ c2 (e4.extBut _ _ c4 (e3.extBut _ _ c2 (e2.extBut _ _ c3 (e1.extBut _ _ c1 h))))
  have m1 := feed_by F1 (feed_by F1 (feed_by F1 n1 e3.extBut D.TOi1.symm D.l1TO) e4.extBut D.i12 D.l1i2) e5.extBut D.TOi1.symm D.l1TO
  have m2 := feed_by F2 n2 e5.extBut D.TOi2.symm D.l2TO
  have zl : z < g5.objs.size := Heap.lt_size z5
  -- the pair
  refine wpAny_bind (wpAny_seqItems o5 rfl (wpAny_bind (wpAny_newTuple ?_)))
  show wpAny _ _ (Builtin.SmallTypes.ownedTupleHandOut (.ref z) (.ref g5.objs.size) >>= _) _ _ _
  refine wpAny_bind ?_
  unfold Builtin.SmallTypes.ownedTupleHandOut
  have z6 : IsZip (g5.push { cls := .type "tuple", data := .seq #[x, y] }) z TI TO .ellipsis := Heap.get?_push_of_some _ z5
  refine wpAny_bind (wpAny_setField_rec z6 (by simp) fun g7 z7 e7 => ?_)
  replace z7 : IsZip g7 z TI TO (rawInt g5.objs.size) := z7
  refine wpAny_setField_rec z7 (by simp) fun g8 z8 e8 => ?_
  replace z8 : IsZip g8 z TI TO (rawInt g5.objs.size) := z8
  have up : ∀ c o, c ≠ z → g5.get? c = some o → g8.get? c = some o := fun c o n h => e8.extBut _ _ n (e7.extBut _ _ n (Heap.get?_push_of_some _ h))
  have t8 : IsPair g8 g5.objs.size x y := e8.extBut _ _ (Nat.ne_of_gt zl) (e7.extBut _ _ (Nat.ne_of_gt zl) (Heap.get?_push_size _ rfl))
  rw [sz] at z8 t8
  refine wpAny_pure ⟨_, rfl, ?_⟩
  show Q (.ref g5.objs.size) _
  rw [sz]
  exact q g8 z8 (up _ _ D.TOz o5) (F1.keep m1 (fun o => up _ o D.i1z) fun o => up _ o D.l1z) (F2.keep m2 (fun o => up _ o D.i2z) fun o => up _ o D.l2z) t8 fun c o c1 c2 c3 c4 h => up c o c1 (k5 c o c1 c2 c3 c4 h)
theorem zipF_end {Q : Fin → Shared → Prop} (hh : A.handled = none) (D : ZipApart z TI TO i1 i2 l1 l2) (F1 : Feed prog w i1 l1 xs S1) (F2 : Feed prog w i2 l2 ys S2)
    (hz : IsZip s.heap z TI TO .none) (hTI : IsPair s.heap TI (.ref i1) (.ref i2)) (hTO : IsPair s.heap TO a b) (h1 : S1 k1 s.heap) (h2 : S2 k2 s.heap) (hend : xs[k1]? = none ∨ ys[k2]? = none)
    (q : ∀ h' e, (∀ c o, c ≠ z → c ≠ TO → c ≠ i1 → c ≠ i2 → s.heap.get? c = some o → h'.get? c = some o) → (∃ o, h'.get? e = some o ∧ o.cls = .type "StopIteration") → E (.ref e) { s with heap := h' }) :
    wpAny (model prog w) A (Builtin.«zip.__next__» ⟨[.ref z], []⟩) Q E s := by
  show wpAny _ _ (field (.ref z) 2 >>= _) _ _ _
  refine wpAny_bind (wpAny_field hz rfl (x := .bool false) rfl ?_)
  show wpAny _ _ (field (.ref z) 3 >>= _) _ _ _
  refine wpAny_bind (wpAny_field hz rfl (x := .ref TI) rfl (wpAny_bind (wpAny_seqItems hTI rfl ?_)))
  show wpAny _ _ (Builtin.SmallTypes.ownedTupleIsFree (.ref z) >>= _) _ _ _
  refine wpAny_bind ?_
  unfold Builtin.SmallTypes.ownedTupleIsFree
  refine wpAny_bind (wpAny_field hz rfl (x := .none) rfl (wpAny_pure ?_))
  simp only [if_true]
  refine wpAny_bind (wpAny_rule (wpAny_bind (wpAny_field hz rfl (x := .ref TO) rfl (wpAny_bind (wpAny_setField_rec hz (by simp) fun g1 z1 e1 => ?_)))))
  replace z1 : IsZip g1 z TI TO .ellipsis := z1
  -- an error out of a feeding iterator: the zip takes its tuple back
  have out : ∀ (g h' : Heap) (e : Addr), IsZip g z TI TO .ellipsis → (∃ o, g.get? e = some o ∧ o.cls = .type "StopIteration") → Heap.SameBut z g h' → (∃ o, h'.get? e = some o ∧ o.cls = .type "StopIteration") := fun g h' e hg ⟨o, ho, hc⟩ sb =>
    ⟨o, sb.extBut _ _ (fun v => by subst v; rw [hg] at ho; cases ho; simp at hc) ho, hc⟩
  refine wpAny_bind ?_
  simp only [List.zipIdx_cons, List.zipIdx_nil, List.forIn_cons, List.forIn_nil]
  refine wpAny_bind (wpAny_bind (wpAny_onRaise ?_))
  show wpAny _ _ (Builtin.SmallTypes.nextOf (.ref i1) >>= _) _ _ _
  have m1 := feed_by F1 h1 e1.extBut D.i1z D.l1z
  have m2 := feed_by F2 h2 e1.extBut D.i2z D.l2z
  cases hx : xs[k1]? with
  | none =>
    refine wpAny_bind (F1.last hh m1 hx fun g2 e e2 he => ?_)
    have z2 : IsZip g2 z TI TO .ellipsis := e2 _ _ D.i1z.symm z1
    exact wpAny_setField_rec z2 (by simp) fun g3 _ e3 => q g3 e (fun c o c1 _ c3 _ h => e3.extBut _ _ c1 (e2 _ _ c3 (e1.extBut _ _ c1 h))) (out g2 g3 e z2 he e3)
  | some x =>
    have hy : ys[k2]? = none := by
      rcases hend with h | h
      · rw [hx] at h; cases h
      · exact h
    refine wpAny_bind (F1.item m1 hx fun g2 n1 e2 => wpAny_pure ?_)
    have o2 : IsPair g2 TO a b := e2.extBut _ _ D.TOi1 (e1.extBut _ _ D.TOz hTO)
    refine wpAny_bind (wpAny_seqItems o2 rfl (wpAny_bind (wpAny_updateSeq_pair o2 fun g3 o3 e3 => wpAny_bind (wpAny_letGo (wpAny_pure ?_)))))
    refine wpAny_bind (wpAny_bind (wpAny_onRaise ?_))
    show wpAny _ _ (Builtin.SmallTypes.nextOf (.ref i2) >>= _) _ _ _
    refine wpAny_bind (F2.last hh (feed_by F2 (feed_by F2 m2 e2.extBut D.i12.symm D.l2i1) e3.extBut D.TOi2.symm D.l2TO) hy fun g4 e e4 he => ?_)
    have z4 : IsZip g4 z TI TO .ellipsis := e4 _ _ D.i2z.symm (e3.extBut _ _ D.TOz.symm (e2.extBut _ _ D.i1z.symm z1))
    exact wpAny_setField_rec z4 (by simp) fun g5 _ e5 => q g5 e (fun c o c1 c2 c3 c4 h => e5.extBut _ _ c1 (e4 _ _ c4 (e3.extBut _ _ c2 (e2.extBut _ _ c3 (e1.extBut _ _ c1 h))))) (out g4 g5 e z4 he e5)
theorem nextF_item {Q : Option Value → Shared → Prop} (D : ZipApart z TI TO i1 i2 l1 l2) (F1 : Feed prog w i1 l1 xs S1) (F2 : Feed prog w i2 l2 ys S2)
    (hz : IsZip s.heap z TI TO .none) (hTI : IsPair s.heap TI (.ref i1) (.ref i2)) (hTO : IsPair s.heap TO a b) (h1 : S1 k1 s.heap) (h2 : S2 k2 s.heap) (hx : xs[k1]? = some x) (hy : ys[k2]? = some y)
    (q : ∀ h', IsZip h' z TI TO (rawInt s.heap.objs.size) → IsPair h' TO x y → S1 (k1 + 1) h' → S2 (k2 + 1) h' → IsPair h' s.heap.objs.size x y → (∀ c o, c ≠ z → c ≠ TO → c ≠ i1 → c ≠ i2 → s.heap.get? c = some o → h'.get? c = some o) → Q (some (.ref s.heap.objs.size)) { s with heap := h' }) :
    wpAny (model prog w) A (pyNext (.ref z)) Q E s := by
  have hT : s.TypeIs (.ref z) "zip" := ⟨_, hz, rfl⟩
  unfold pyNext
  exact wpAny_bind (wpAny_attempt (wpAny_callSpecial?_slot (name := Str.ofString "__next__") hT F.slot_zip_next (wpAny_call_entry F.slot_zip_next hT F.entry_zip_next
    (zipF_item D F1 F2 hz hTI hTO h1 h2 hx hy fun h' a1 a2 a3 a4 a5 a6 => wpAny_pure (q h' a1 a2 a3 a4 a5 a6)) (F.args_zip_next_1 _))))
theorem nextF_end {Q : Option Value → Shared → Prop} (hh : A.handled = none) (D : ZipApart z TI TO i1 i2 l1 l2) (F1 : Feed prog w i1 l1 xs S1) (F2 : Feed prog w i2 l2 ys S2)
    (hz : IsZip s.heap z TI TO .none) (hTI : IsPair s.heap TI (.ref i1) (.ref i2)) (hTO : IsPair s.heap TO a b) (h1 : S1 k1 s.heap) (h2 : S2 k2 s.heap) (hend : xs[k1]? = none ∨ ys[k2]? = none)
    (q : ∀ h', (∀ c o, c ≠ z → c ≠ TO → c ≠ i1 → c ≠ i2 → s.heap.get? c = some o → h'.get? c = some o) → Q none { s with heap := h' }) : wpAny (model prog w) A (pyNext (.ref z)) Q E s := by
  have hT : s.TypeIs (.ref z) "zip" := ⟨_, hz, rfl⟩
  unfold pyNext
  refine wpAny_bind (wpAny_attempt (wpAny_callSpecial?_slot (name := Str.ofString "__next__") hT F.slot_zip_next (wpAny_call_entry F.slot_zip_next hT F.entry_zip_next
    (zipF_end hh D F1 F2 hz hTI hTO h1 h2 hend fun h' e hk he => ?_) (F.args_zip_next_1 _))))
  obtain ⟨o, ho, hc⟩ := he
  exact wpAny_bind (wpAny_isInstance (T := "StopIteration") (b := true) ⟨o, ho, hc⟩ isSubtype_stop (wpAny_pure (q _ hk)))
end
end Hk
end S_Re
section S_Rf
set_option maxHeartbeats 2000000
/-! zip of a list and a tuple -/
namespace Hk
open PySem RZ
open PySem.Sem (wp)
abbrev zq1 (h : Heap) (l : Addr) : Heap := h.push { cls := .type "list_iterator", data := .fields #[.ref l, .int 0 0] }
abbrev zq2 (h : Heap) (l t : Addr) : Heap := (zq1 h l).push { cls := .type "tuple_iterator", data := .fields #[.ref t, .int 0 0] }
abbrev zq3 (h : Heap) (l t : Addr) : Heap := (zq2 h l t).push { cls := .type "tuple", data := .seq #[.ref h.objs.size, .ref (zq1 h l).objs.size] }
abbrev zq4 (h : Heap) (l t : Addr) : Heap := (zq3 h l t).push { cls := .type "tuple", data := .seq #[.none, .none] }
abbrev zq5 (h : Heap) (l t : Addr) : Heap := (zq4 h l t).push { cls := .type "zip", data := .fields #[.none, .bool false, .bool false, .ref (zq2 h l t).objs.size, .ref (zq3 h l t).objs.size] }
theorem meets_zipLT (l t : Addr) (xs ys : Array Value) : Meets (Builtin.«zip.__new__» ⟨[.type "zip", .ref l, .ref t], []⟩) (fun _ R s => s.heap.IsList l xs ∧ s.heap.IsTuple t ys ∧ R (.ok (.ret (.ref (zq4 s.heap l t).objs.size))) { s with heap := zq5 s.heap l t }) :=
  .of_wp fun prog w A R s h => by
    obtain ⟨hp, g, d, tk, os⟩ := s
    obtain ⟨a1, a2, h⟩ := h
    have hsub := sub_zip
    have b1 : Heap.IsList (Shared.heap ⟨hp, g, d, tk, os⟩) l xs := a1
    have b2 : Heap.IsTuple (Shared.heap ⟨hp.push { cls := .type "list_iterator", data := .fields #[.ref l, .int 0 0] }, g, d, tk, os⟩) t ys := Heap.IsTuple.push a2 _
    wp_walk using wpAny_pyIter_list b1, wpAny_pyIter_tuple b2
    exact ⟨_, rfl, h⟩
theorem call_zipLT {prog : Program} {w : World} {A : Around} {E : Value → Shared → Prop} {s : Shared} {l t : Addr} {xs ys : Array Value} {Q : Value → Shared → Prop} (a1 : s.heap.IsList l xs) (a2 : s.heap.IsTuple t ys)
    (q : ∀ h', IsZip h' (s.heap.objs.size + 4) (s.heap.objs.size + 2) (s.heap.objs.size + 3) .none → IsPair h' (s.heap.objs.size + 2) (.ref s.heap.objs.size) (.ref (s.heap.objs.size + 1)) →
      IsPair h' (s.heap.objs.size + 3) .none .none → h'.IsListIter s.heap.objs.size l 0 → h'.IsTupleIter (s.heap.objs.size + 1) t 0 → (∀ c o, s.heap.get? c = some o → h'.get? c = some o) → Q (.ref (s.heap.objs.size + 4)) { s with heap := h' }) :
    wpAny (model prog w) A (call (.type "zip") [.ref l, .ref t]) Q E s := by
  refine callType_new F.called_zip (by decide) (F.typeCall_zip_2 _ _) (F.newCall_zip_2 _ _) (fun obj => F.args_object_init_3 obj _ _) F.entry_zip_new (meets_zipLT l t xs ys) ⟨a1, a2, ?_⟩
  have n1 : (zq1 s.heap l).objs.size = s.heap.objs.size + 1 := Heap.size_push ..
  have n2 : (zq2 s.heap l t).objs.size = s.heap.objs.size + 2 := by rw [Heap.size_push, n1]
  have n3 : (zq3 s.heap l t).objs.size = s.heap.objs.size + 3 := by rw [Heap.size_push, n2]
  have n4 : (zq4 s.heap l t).objs.size = s.heap.objs.size + 4 := by rw [Heap.size_push, n3]
  have up : ∀ {c o}, (zq4 s.heap l t).get? c = some o → (zq5 s.heap l t).get? c = some o := fun h => Heap.get?_push_of_some _ h
  have up3 : ∀ {c o}, (zq3 s.heap l t).get? c = some o → (zq5 s.heap l t).get? c = some o := fun h => up (Heap.get?_push_of_some _ h)
  have up2 : ∀ {c o}, (zq2 s.heap l t).get? c = some o → (zq5 s.heap l t).get? c = some o := fun h => up3 (Heap.get?_push_of_some _ h)
  have up1 : ∀ {c o}, (zq1 s.heap l).get? c = some o → (zq5 s.heap l t).get? c = some o := fun h => up2 (Heap.get?_push_of_some _ h)
  have g5 : (zq5 s.heap l t).get? (zq4 s.heap l t).objs.size = some _ := Heap.get?_push_size _ rfl
  have g4 : (zq5 s.heap l t).get? (zq3 s.heap l t).objs.size = some _ := up (Heap.get?_push_size _ rfl)
  have g3 : (zq5 s.heap l t).get? (zq2 s.heap l t).objs.size = some _ := up3 (Heap.get?_push_size _ rfl)
  have g2 : (zq5 s.heap l t).get? (zq1 s.heap l).objs.size = some _ := up2 (Heap.get?_push_size _ rfl)
  have g1 : (zq5 s.heap l t).get? s.heap.objs.size = some _ := up1 (Heap.get?_push_size _ rfl)
  show _ ∧ _
  rw [n2, n3, n4] at g5
  rw [n1, n2] at g3
  rw [n3] at g4
  rw [n1] at g2
  rw [n4]
  exact ⟨⟨_, g5, rfl⟩, q _ g5 g3 g4 ⟨_, g1, rfl, rfl⟩ ⟨_, g2, rfl, rfl⟩ fun c o h => up1 (Heap.get?_push_of_some _ h)⟩
end Hk
end S_Rf
section S_Rg
set_option maxHeartbeats 2000000
/-! a loop over zip of a list or a tuple with a tuple -/
namespace Hk
open PySem PySem.Spec PyProof.Rows L2 RZ
/-- the list at a and the tuple at b as they stand at each turn, the items in new pairs -/
def ItzM (K : PySem.W.Frag) (a b : Addr) : It :=
  ⟨fun i H => ∃ (xs ys : List V) (x y : V), SqL K H a xs ∧ SqT K H b ys ∧ xs[i]? = some x ∧ ys[i]? = some y,
    fun i H v H' => ∃ T x y, v = .ref T ∧ H T = none ∧ H' = upd H T (.tup [x, y]) ∧ (∀ xs, SqL K H a xs → xs[i]? = some x) ∧ ∀ ys, SqT K H b ys → ys[i]? = some y,
    fun i H => ∃ xs ys : List V, SqL K H a xs ∧ SqT K H b ys ∧ (xs.length ≤ i ∨ ys.length ≤ i)⟩
theorem turn_zipM {P : Program} {w : World} {K : PySem.W.Frag} {elts : List Expr} {kk : Nat} {tpos : Pos} {a b z TI TO i1 i2 : Addr} (D : ZipApart z TI TO i1 i2 a b) :
    Turn P w K (.Tuple elts kk tpos) (ItzM K a b) [z, TI, TO, i1, i2] z (fun i h => IsZip h z TI TO .none ∧ IsPair h TI (.ref i1) (.ref i2) ∧ (∃ x y, IsPair h TO x y) ∧ h.IsListIter i1 a i ∧ h.IsTupleIter i2 b i) where
  mem := by simp
  obj := fun i h st c hc => by
    obtain ⟨hz, hTI, ⟨x, y, hTO⟩, ⟨o1, e1, _, d1⟩, ⟨o2, e2, _, d2⟩⟩ := st
    simp only [List.mem_cons, List.not_mem_nil, or_false] at hc
    rcases hc with rfl | rfl | rfl | rfl | rfl
    · exact ⟨_, hz, fun v q => nomatch q⟩
    · exact ⟨_, hTI, fun v q => nomatch q⟩
    · exact ⟨_, hTO, fun v q => nomatch q⟩
    · exact ⟨o1, e1, fun v q => by rw [d1] at q; cases q⟩
    · exact ⟨o2, e2, fun v q => by rw [d2] at q; cases q⟩
  keep := fun i h h' st k => by
    obtain ⟨hz, hTI, ⟨x, y, hTO⟩, h1, h2⟩ := st
    exact ⟨k z (by simp) _ hz, k TI (by simp) _ hTI, ⟨x, y, k TO (by simp) _ hTO⟩, h1.at fun o q => k i1 (by simp) o q, h2.at fun o q => k i2 (by simp) o q⟩
  item := by
    intro X hP hw hK hc i pins s σ H E I hf st hg
    subst hP hw hK
    obtain ⟨hz, hTI, ⟨x0, y0, hTO⟩, h1, h2⟩ := st
    obtain ⟨xs, ys, x, y, hqx, hqy, hx, hy⟩ := hg
    obtain ⟨its, rv, p, _⟩ := I.list hqx
    obtain ⟨its2, rv2, p2, _⟩ := I.tuple hqy
    obtain ⟨u, hu, ru⟩ := rv.get hx
    obtain ⟨u2, hu2, ru2⟩ := rv2.get hy
    have zl : z < s.heap.objs.size := Heap.lt_size hz
    refine nextF_item D (feed_lst D.l1i1) (feed_tup D.l2i2) hz hTI hTO ⟨h1, p.isList⟩ ⟨h2, p2⟩ (x := u) (y := u2) (by simpa using hu) (by simpa using hu2) fun h' z' o' s1 s2 hT hk => ?_
    refine ⟨_, rfl, wpAny_letOwnedTupleGo_zip (s := { s with heap := h' }) z' fun h'' z'' sb => ?_⟩
    have hT2 : h''.get? s.heap.objs.size = some { cls := .type "tuple", data := .seq #[u, u2] } := (sb.2 _ (Nat.ne_of_gt zl)).trans hT
    have new : ObjOk X.prog X.w (upd H s.heap.objs.size (.tup [x, y])) h'' s.heap.objs.size (.tup [x, y]) := ⟨by show 2 ≤ sizeLine; decide, [u, u2], .cons ru (.cons ru2 .nil), ⟨_, hT2, rfl, _, rfl⟩⟩
    have I1 : Inv X pins σ (upd H s.heap.objs.size (.tup [x, y])) { s with heap := h'' } :=
      I.turnedNew (t' := s.toks) (ch := [z, TI, TO, i1, i2]) (fun c o hb q => (sb.2 c (fun e => hb (by simp [e]))).trans (hk c o (fun e => hb (by simp [e])) (fun e => hb (by simp [e])) (fun e => hb (by simp [e])) (fun e => hb (by simp [e])) q)) hf (Nat.le_refl _) new
    refine ⟨.ref s.heap.objs.size, _, I1, rfl, ⟨_, x, y, rfl, I.hok.fresh (Nat.le_refl _), rfl, fun l hl => by rw [I.list_inj hl hqx]; exact hx, fun l hl => by rw [I.tuple_inj hl hqy]; exact hy⟩,
      ⟨z'', (sb.2 _ D.TIz).trans (hk _ _ D.TIz D.TITO D.TIi1 D.TIi2 hTI), ⟨u, u2, (sb.2 _ D.TOz).trans o'⟩, s1.1.at fun o q => (sb.2 _ D.i1z).trans q, s2.1.at fun o q => (sb.2 _ D.i2z).trans q⟩, fun c hcm => ?_⟩
    have hlt : c < s.heap.objs.size := by
      have hcm2 := hcm
      simp only [List.mem_cons, List.not_mem_nil, or_false] at hcm2
      rcases hcm2 with rfl | rfl | rfl | rfl | rfl
      · exact zl
      · exact Heap.lt_size hTI
      · exact Heap.lt_size hTO
      · obtain ⟨_, e1, _⟩ := h1; exact Heap.lt_size e1
      · obtain ⟨_, e2, _⟩ := h2; exact Heap.lt_size e2
    rw [upd_ne (Nat.ne_of_lt hlt)]
    exact (hf c hcm).1
  done := by
    intro X hP hw hK hc i pins s σ H E I hf st hg
    subst hP hw hK
    obtain ⟨hz, hTI, ⟨x0, y0, hTO⟩, h1, h2⟩ := st
    obtain ⟨xs, ys, hqx, hqy, hend⟩ := hg
    obtain ⟨its, rv, p, _⟩ := I.list hqx
    obtain ⟨its2, rv2, p2, _⟩ := I.tuple hqy
    have l1 := rv.length
    have l2 := rv2.length
    have he : its.toArray[i]? = none ∨ its2.toArray[i]? = none := hend.imp (fun q => by simp; omega) fun q => by simp; omega
    exact nextF_end (I.ok.hd hc) D (feed_lst D.l1i1) (feed_tup D.l2i2) hz hTI hTO ⟨h1, p.isList⟩ ⟨h2, p2⟩ he fun h' hk => ⟨rfl, I.turnedL (t' := s.toks) (ch := [z, TI, TO, i1, i2]) (fun c o hb q =>
      hk c o (fun e => hb (by simp [e])) (fun e => hb (by simp [e])) (fun e => hb (by simp [e])) (fun e => hb (by simp [e])) q) hf⟩
  self := fun A i s Q E st h => wpAny_pyIter_zip st.1 h
/-- zip of a list or a tuple with a tuple -/
def iZipM (K : PySem.W.Frag) (ta : TA) : TI := fun σ H R => ta σ H fun vs H1 => ∃ a b xs ys, vs = [.ref a, .ref b] ∧ SqT K H1 b ys ∧ ((SqL K H1 a xs ∧ R (ItzM K a b) H1) ∨ (SqT K H1 a xs ∧ R (ItzT K a b) H1))
theorem pi_zipM {X : Cx} {e e2 : Expr} {ta : TA} {p pos tpos : Pos} {elts : List Expr} {kk : Nat} (hg : Gl X "zip") (hm : X.mg "zip" = none) (ha : PA X [e, e2] ta)
    (hs : starEach [e, e2] X.env = (false, eval e X.env) :: starEach [e2] X.env := by rfl) (hpl : (backTo pos (starEach [e2] X.env)).any (·.1) = false := by rfl) :
    PI X (.Tuple elts kk tpos) (.Call (.Name "zip" p) [e, e2] [] pos) (iZipM X.K ta) := by
  refine ⟨fun pins s σ H R I h => Call_ (ld_blt I hg hm PyProof.Rows.boot_zip (PyProof.Rows.callWith_type1 (thn (ha.run pos pins s σ H _ I h) fun us s1 ⟨vs, H1, I1, r1, q1⟩ => ?_) hs hpl))⟩
  obtain ⟨a, b, xs, ys, rfl, hqy, q1⟩ := q1
  obtain ⟨v1, v2, rfl, r, r'⟩ : ∃ v1 v2, us = [v1, v2] ∧ RelV (.ref a) v1 ∧ RelV (.ref b) v2 := by
    cases r1 with
    | cons r rr =>
      cases rr with
      | cons r' rr => cases rr; exact ⟨_, _, rfl, r, r'⟩
  cases r
  cases r'
  have new : ∀ c, c ∈ [s1.heap.objs.size + 4, s1.heap.objs.size + 2, s1.heap.objs.size + 3, s1.heap.objs.size, s1.heap.objs.size + 1] → FpOk X pins H1 c := fun c hcm => by
    have hle : s1.heap.objs.size ≤ c := by
      simp only [List.mem_cons, List.not_mem_nil, or_false] at hcm
      omega
    exact I1.fpOk hle (I1.hok.fresh hle)
  obtain ⟨its2, rv2, p2, _⟩ := I1.tuple hqy
  obtain ⟨o2, ho2, _⟩ := id p2
  rcases q1 with ⟨hqx, q⟩ | ⟨hqx, q⟩
  · obtain ⟨its, rv, p1, _⟩ := I1.list hqx
    refine call_zipLT p1.isList (show s1.heap.IsTuple b its2.toArray from p2) fun h' hz hTI hTO h1 h2 hk => wpAny_pyIter_zip hz ?_
    exact ⟨s1.heap.objs.size + 4, _, _, _, H1, rfl, I1.kept (t' := s1.toks) hk, turn_zipM (PySem.W.ktu_apart s1.heap.objs.size a b p1.lt (Heap.lt_size ho2)), ⟨hz, hTI, ⟨_, _, hTO⟩, h1, h2⟩, new, q⟩
  · obtain ⟨its, rv, p1, _⟩ := I1.tuple hqx
    obtain ⟨o1, ho1, _⟩ := id p1
    refine call_zipT (show s1.heap.IsTuple a its.toArray from p1) (show s1.heap.IsTuple b its2.toArray from p2) fun h' hz hTI hTO h1 h2 hsz hk => wpAny_pyIter_zip hz ?_
    exact ⟨s1.heap.objs.size + 4, _, _, _, H1, rfl, I1.kept (t' := s1.toks) hk, turn_zipT (PySem.W.ktu_apart s1.heap.objs.size a b (Heap.lt_size ho1) (Heap.lt_size ho2)), ⟨hz, hTI, ⟨_, _, hTO⟩, h1, h2⟩, new, q⟩
end Hk
end S_Rg
section S_Rh
/-! zip of a list or a tuple with a tuple, told -/
namespace Hk
open PySem PySem.Spec PyProof.Rows L2 Tl RZ
theorem walk_zipM {K : PySem.W.Frag} {a b : Addr} {xs ys : List V} {n : Nat} (hn : n = min xs.length ys.length) : Walk (ItzM K a b) n (fun H => SqL K H a xs ∧ SqT K H b ys) (YPair (fun i => xs[i]?) (fun i => ys[i]?)) := by
  subst hn
  refine ⟨fun i _ hi ⟨q1, q2⟩ => ?_, fun _ ⟨q1, q2⟩ => ⟨xs, ys, q1, q2, by omega⟩, fun i H v H' _ ⟨q1, q2⟩ ⟨T, x, z, z1, z2, z3, z4, z5⟩ => ⟨T, x, z, z1, z2, z3, z4 xs q1, z5 ys q2⟩⟩
  have l1 : i < xs.length := by omega
  have l2 : i < ys.length := by omega
  exact ⟨xs, ys, xs[i], ys[i], q1, q2, by simp [l1], by simp [l2]⟩
open Evl
theorem ei_zipM {K : PySem.W.Frag} {σ : L2.St} {H : Hp} {ta tb : TE} {a b : Addr} {xs ys : List V} {n : Nat} (hn : n = min xs.length ys.length) (h : Ev ta σ H (.ref a)) (hx : SqS K H a xs) (h2 : Ev tb σ H (.ref b)) (hy : SqT K H b ys) :
    EvI (iZipM K (tCons ta (tCons tb tNil))) σ H n (YPair (fun i => xs[i]?) (fun i => ys[i]?)) := fun H1 e R k =>
  h H1 e _ fun H2 e2 => h2 H2 (e.trans e2) _ fun H3 e3 => by
    have e03 := (e.trans e2).trans e3
    refine ⟨a, b, xs, ys, rfl, ex_t e03 hy, ?_⟩
    rcases hx with hx | hx
    · exact .inl ⟨ex_l e03 hx, k _ (fun H => SqL K H a xs ∧ SqT K H b ys) H3 (e2.trans e3) (walk_zipM hn) fun A ab s => ⟨ex_l ab hx, ex_t ab hy⟩⟩
    · exact .inr ⟨ex_t e03 hx, k _ (fun H => SqT K H a xs ∧ SqT K H b ys) H3 (e2.trans e3) (walk_zipT hn) fun A ab s => ⟨ex_t ab hx, ex_t ab hy⟩⟩
end Hk
end S_Rh
section S_Bah
namespace P41
open PySem PySem.Spec PyProof.Rows L2 Tl Hk RZ EnL
abbrev nFr : List Str := ["bags", "above", "held", "bag", "piece", "over"]
theorem scFresh : FnScope nFr ["bags", "above"] (defScope sFresh) := ⟨rfl, rfl, rfl, by decide +kernel, rfl, by decide +kernel, by decide +kernel⟩
theorem bkFr : BlkOk nFr { kind := .function, names := [(".0", .local), ("bag", .local), ("over", .cell), ("held", .cell)], isGenerator := false, isCoroutine := false } { kind := .function, names := [(".0", .local), ("piece", .local), ("held", .free), ("over", .free)], isGenerator := false, isCoroutine := false } [("piece", 4)] := blkOk_by (by decide +kernel)
/-- zip of two lists, or of a list or a tuple and a tuple -/
def iZipE (K : PySem.W.Frag) (ta : TA) : TI := fun σ H R => iZipA K ta σ H R ∨ iZipM K ta σ H R
theorem pi_zipE {X : Cx} {e e2 : Expr} {ta : TA} {p pos tpos : Pos} {elts : List Expr} {kk : Nat} (hg : Gl X "zip") (hm : X.mg "zip" = none) (ha : PA X [e, e2] ta) (hs : starEach [e, e2] X.env = (false, eval e X.env) :: starEach [e2] X.env := by rfl) (hpl : (backTo pos (starEach [e2] X.env)).any (·.1) = false := by rfl) : PI X (.Tuple elts kk tpos) (.Call (.Name "zip" p) [e, e2] [] pos) (iZipE X.K ta) :=
  ⟨fun pins s σ H R I h => h.elim (fun h => (pi_zipA hg hm ha (hs := hs) (hpl := hpl)).run pins s σ H R I h) fun h => (pi_zipM hg hm ha (hs := hs) (hpl := hpl)).run pins s σ H R I h⟩
/-- what can be zipped -/
def ZipOk (K : PySem.W.Frag) (H : Hp) (a b : Addr) (xs ys : List V) : Prop := (SqL K H a xs ∧ SqL K H b ys) ∨ (SqS K H a xs ∧ SqT K H b ys)
theorem ZipOk.ex {K : PySem.W.Frag} {H H' : Hp} {a b : Addr} {xs ys : List V} (h : ZipOk K H a b xs ys) (e : Evl.Ex H H') : ZipOk K H' a b xs ys := h.elim (fun h => .inl ⟨Evl.ex_l e h.1, Evl.ex_l e h.2⟩) fun h => .inr ⟨h.1.ex e, Evl.ex_t e h.2⟩
theorem ei_zipE {K : PySem.W.Frag} {σ : L2.St} {H : Hp} {ta tb : TE} {a b : Addr} {xs ys : List V} {n : Nat} (hn : n = min xs.length ys.length) (h : Evl.Ev ta σ H (.ref a)) (h2 : Evl.Ev tb σ H (.ref b)) (hz : ZipOk K H a b xs ys) : EvI (iZipE K (tCons ta (tCons tb tNil))) σ H n (YPair (fun i => xs[i]?) (fun i => ys[i]?)) := fun H1 e R k => by
  rcases hz with ⟨hx, hy⟩ | ⟨hx, hy⟩
  · exact .inl (h H1 e _ fun H2 e2 => h2 H2 (e.trans e2) _ fun H3 e3 => ⟨a, b, xs, ys, rfl, .inl ⟨Evl.ex_l ((e.trans e2).trans e3) hx, Evl.ex_l ((e.trans e2).trans e3) hy, k _ _ H3 (e2.trans e3) (walk_zip hn) fun A ab s => ⟨Evl.ex_l ab hx, Evl.ex_l ab hy⟩⟩⟩)
  · exact .inr (ei_zipM hn h hx h2 hy H1 e R k)
/-- rows of ints -/
def RowsB (K : PySem.W.Frag) (H : Hp) (xs : List V) (bs : List (List Int)) : Prop := xs.length = bs.length ∧ ∀ (i : Nat) (ns : List Int), bs[i]? = some ns → ∃ a, xs[i]? = some (.ref a) ∧ SqS K H a (ns.map V.int)
theorem RowsB.ex {K : PySem.W.Frag} {H H' : Hp} {xs : List V} {bs : List (List Int)} (h : RowsB K H xs bs) (e : Evl.Ex H H') : RowsB K H' xs bs := ⟨h.1, fun i ns hn => (h.2 i ns hn).imp fun a ha => ⟨ha.1, ha.2.ex e⟩⟩
/-- the pieces of a bag that the one above has not -/
def frB (bs : List (List Int)) : Option Nat → Int → Bool
  | none, _ => true
  | some o, p => !decide (p ∈ bs.getD o [])
def freshAt (bs : List (List Int)) (ups : List (Option Nat)) (i : Nat) : List Int := (bs.getD i []).filter (frB bs (ups.getD i none))
def freshL (bs : List (List Int)) (ups : List (Option Nat)) : List (List Int) := (List.range bs.length).map (freshAt bs ups)
theorem given_filter (ns : List Int) (g : Int → Bool) : Evl.given ns.length (fun m => g (ns.getD m 0)) (fun m => V.int (ns.getD m 0)) = (ns.filter g).map V.int := by
  have e : ns = (List.range ns.length).map fun m => ns.getD m 0 := by
    refine List.ext_getElem? fun i => ?_
    rw [List.getElem?_map]
    rcases Nat.lt_or_ge i ns.length with h | h
    · rw [List.getElem?_range h, List.getElem?_eq_getElem h]
      show _ = some (ns.getD i 0)
      rw [List.getD_eq_getElem?_getD, List.getElem?_eq_getElem h]
      rfl
    · rw [List.getElem?_eq_none h, List.getElem?_eq_none (by rw [List.length_range]; exact h)]
      rfl
  unfold Evl.given
  have : ns.filter g = ((List.range ns.length).filter fun m => g (ns.getD m 0)).map fun m => ns.getD m 0 := by
    conv => lhs; rw [e, List.filter_map]
    rfl
  rw [this, List.map_map]
  rfl
/-- lists at addresses -/
def RowsL (H : Hp) (as : List Addr) (bs : List (List Int)) : Prop := as.length = bs.length ∧ ∀ (i : Nat) (a : Addr) (ns : List Int), as[i]? = some a → bs[i]? = some ns → H a = some (.lst (ns.map V.int))
def spFresh (K : PySem.W.Frag) : Sp := fun vs H Q _ => ∃ (A U : Addr) (xs : List V) (bs : List (List Int)) (ups : List (Option Nat)), vs = [.ref A, .ref U] ∧ RowsB K H xs bs ∧ ZipOk K H A U xs (ups.map uv) ∧ ups.length = bs.length ∧ bs.length ≤ 3000 ∧ (∀ (i j : Nat), ups[i]? = some (some j) → j < bs.length) ∧ (∀ ns ∈ bs, ns.length ≤ 3000) ∧
  ∀ R fa H', Evl.Ex H H' → H' R = some (.lst (fa.map V.ref)) → RowsL H' fa (freshL bs ups) → Q (.ref R) H'
abbrev ttFr (K : PySem.W.Frag) : L2.TT := tOr (tTest (tOp rIsN (tVar 5) (tC .non))) (tTest (tDNotIn (tVar 4) (tOp (rIxL K) (tVar 2) (tVar 5))))
abbrev teFr (K : PySem.W.Frag) : TE := tLc (iEi K (tVar 3)) (gName 4) (ttFr K) (tVar 4) [4]
theorem refs_of : ∀ {xs : List V} {R : Nat → Addr → Prop}, (∀ i v, xs[i]? = some v → ∃ r, v = .ref r ∧ R i r) → ∃ rs : List Addr, xs = rs.map V.ref ∧ rs.length = xs.length ∧ ∀ i r, rs[i]? = some r → R i r
  | [], R, _ => ⟨[], rfl, rfl, fun i r h => by simp at h⟩
  | v :: r, R, hx => by
    obtain ⟨a, rfl, ha⟩ := hx 0 v rfl
    obtain ⟨rs, h1, h2, h3⟩ := refs_of (xs := r) (R := fun i => R (i + 1)) fun i u hu => hx (i + 1) u (by simpa using hu)
    refine ⟨a :: rs, by rw [h1]; rfl, by rw [List.length_cons, h2]; rfl, fun i b hb => ?_⟩
    cases i with
    | zero => cases hb; exact ha
    | succ i => exact h3 i b (by simpa using hb)
section
open Evl
theorem go_nl {te : TE} {σ : L2.St} {H : Hp} {L : List V → Hp → Prop} {Q : VK} (h : EvNL te σ H L) (k : ∀ p xs H1, H p = none → Ex H H1 → H1 p = some (.lst xs) → L xs H1 → Q (.ref p) H1) : te σ H Q := h H (Ex.refl H) Q fun p xs H1 hp e h1 hL => k p xs H1 hp e h1 (hL H1 e fun _ _ _ _ h => h)
theorem q_asgNL {te : TE} {tz : TS} {i : Nat} {σ : L2.St} {H : Hp} {D : Ends} {L : List V → Hp → Prop} (h : EvNL te σ H L) (k : ∀ p xs H1, H p = none → Ex H H1 → H1 p = some (.lst xs) → L xs H1 → tz D (σ.set i (some (.ref p))) H1) : tSeq (tAsg te (gName i)) tz D σ H :=
  go_nl h k
variable {K : PySem.W.Frag} {σ : L2.St} {H : Hp} {ty td : TE}
theorem et_dnin {d : Addr} {kvs : List (L2.Key × V)} {x : Int} (h1 : Ev ty σ H (.int x)) (h2 : Ev td σ H (.ref d)) (hd : H d = some (.dK kvs)) : EvT (tTest (tDNotIn ty td)) σ H (!(valV kvs (.inl x)).isSome) := Evl.et_test fun H1 e Q q =>
  h1 H1 e _ fun H2 e2 => h2 H2 (e.trans e2) _ fun H3 e3 => ⟨d, _, rfl, DGet.k (k := Sum.inl x) (((e.trans e2).trans e3) _ _ hd), q H3 (e2.trans e3)⟩
end
theorem dOf_in (ns : List Int) (x : Int) : (valV (dOf (fun j => ns.getD j 0) ns.length) (.inl x)).isSome = decide (x ∈ ns) := by
  rw [Bool.eq_iff_iff, dOf_at, decide_eq_true_iff]
  constructor
  · rintro ⟨i, h1, h2⟩
    rw [← h2, List.getD_eq_getElem?_getD, List.getElem?_eq_getElem h1]
    exact List.getElem_mem h1
  · intro h
    obtain ⟨i, hi, e⟩ := List.mem_iff_getElem.mp h
    exact ⟨i, hi, by rw [List.getD_eq_getElem?_getD, List.getElem?_eq_getElem hi]; exact e⟩
section
variable {P : Program} {w : World} {K : PySem.W.Frag} {mg : Str → Option Value} {base : Heap}
set_option maxHeartbeats 2000000 in
theorem ok_fresh {f : Addr} {fd : FuncData} {k : Nat} (F : Fun K "fresh_in" "fresh_in" sFresh f fd) (mzip : mg "zip" = none) : FnOk P w K mg base CX0 (k + 1) f fd ["bags", "above"] (spFresh K) := by
  refine F.ok scFresh (fun vs H Q E h => ?_) (fun cdv A0 outer s H vs Q E hr h => ?_)
  · obtain ⟨A, U, xs, bs, ups, rfl, _⟩ := h
    rfl
  · obtain ⟨A, U, xs, bs, ups, rfl, hR, hZ, hul, hl, hin, hsz, q⟩ := h
    have nd := scFresh.nd
    have hxl := hR.1
    refine ⟨_, pss_cons (ps_set (i := 2) nd rfl (.inr rfl) (pe_lc (own := [("bag", 3)]) (g := gName 3) (tt := tYes) (te := tDc (iEi K (tVar 3)) (gName 4) tYes (tVar 4) (tC (.bl true)) [4]) rfl nd (pi_ei (pv 0)) (blkOk_by (N := nFr) (sc := defScope sFresh) (by decide +kernel)) (fun _ _ _ _ _ => pg_name (i := 3) nd rfl (Or.inl rfl)) (fun _ _ _ _ _ => pts_nil) (fun _ _ _ _ _ => pe_dc (own := [("piece", 4)]) (wi := iEi K (tVar 3)) (g := gName 4) (tt := tYes) rfl nd (pi_ei (pv 3)) (blkOk_by (N := nFr) (sc := { kind := .function, names := [(".0", .local), ("bag", .local)], isGenerator := false, isCoroutine := false }) (by decide +kernel)) (fun _ _ _ _ _ => pg_name (i := 4) nd rfl (Or.inl rfl)) (fun _ _ _ _ _ => pts_nil) (fun _ _ _ _ _ => pv 4) (fun _ _ _ _ _ => pe_bl)))) (pss_one (ps_ret (pe_lc (own := [("bag", 3), ("over", 5)]) (g := gTup K 2 (gCons (gName 3) (gCons (gName 5) gNil))) (tt := tYes) (te := teFr K) rfl nd (pi_zipE (by rfl) mzip (pa_cons (pv 0) (pa_cons (pv 1) (pa_nil)))) (blkOk_by (N := nFr) (sc := defScope sFresh) (by decide +kernel)) (fun _ _ _ _ _ => pg_tup (by rfl) (pgs_cons (pg_name (i := 3) nd rfl (Or.inl rfl)) (pgs_cons (pg_name (i := 5) nd rfl (Or.inr rfl)) pgs_nil))) (fun _ _ _ _ _ => pts_nil) (fun _ _ _ _ _ => pe_lc (own := [("piece", 4)]) (wi := iEi K (tVar 3)) (g := gName 4) (tt := ttFr K) (te := tVar 4) rfl nd (pi_ei (pv 3)) bkFr (fun _ _ _ _ _ => pg_name (i := 4) nd rfl (Or.inl rfl)) (fun _ _ _ _ _ => pts_one (PW.pt (pw_or (pt_cmpR op_isN (pv 5) (pe_non) (nomark _)) (pw_or1 (pt_cmp (pc_dnotin (hu_of hr) (pv 4) (pe_ix ix_list (pv 2) (pv 5) (fun _ _ => rfl)))))))) (fun _ _ _ _ _ => pv 4))))), ?_⟩
    have hA : SqS K H A xs := hZ.elim (fun h => .inl h.1) fun h => h.1
    have getX : ∀ {i : Nat} {a : Addr}, xs[i]? = some (.ref a) → xs.getD i .non = .ref a := fun h => by rw [List.getD_eq_getElem?_getD, h]; rfl
    refine q_asgNL (L := Holds (fun i v H' => ∃ (ns : List Int) (d : Addr), bs[i]? = some ns ∧ v = .ref d ∧ H' d = some (.dK (dOf (fun j => ns.getD j 0) ns.length))) xs.length) (en_lc (ei_ei (K := K) (Evl.ev_var (i := 0) rfl) hA) (aims_at (j := 3)) (fun _ => rfl) (by omega) _ fun i hi => ?_) fun p ds H1 hp e1 h1 hL => ?_
    · have hb := List.getElem?_eq_getElem (show i < bs.length by omega)
      generalize bs[i] = ns at hb
      obtain ⟨a, ha, hs⟩ := hR.2 i ns hb
      have := hsz ns (List.mem_of_getElem? hb)
      have e0 : (ns.map V.int).length = ns.length := List.length_map ..
      refine fun H5 e5 Q q => en_dc (kf := fun j => ns.getD j 0) (n := (ns.map V.int).length) (ei_ei (K := K) (Evl.ev_is (Evl.ev_var rfl) (getX ha)) hs) aims_at (fun _ => rfl) (by omega) (fun j hj => Evl.ev_is (Evl.ev_var rfl) (gd_int (by omega))) (fun j hj => Evl.ev_c) H5 e5 Q fun v H6 e6 hv => q v H6 e6 fun H7 e7 s7 => ?_
      obtain ⟨d, rfl, hd⟩ := hv H7 e7 s7
      rw [e0] at hd
      exact ⟨ns, d, hb, rfl, hd⟩
    · have hL1 := hL
      obtain ⟨dd, rfl, hdl, hdr⟩ := refs_of (xs := ds) (R := fun i d => ∃ ns, bs[i]? = some ns ∧ H1 d = some (.dK (dOf (fun j => ns.getD j 0) ns.length))) fun i v hv => by
        obtain ⟨ns, d, k1, k2, k3⟩ := hL1.2 i v hv
        exact ⟨d, k2, ns, k1, k3⟩
      have hl2 := hL1.1
      try dsimp only [List.set_cons_zero, List.set_cons_succ]
      have hR1 := hR.ex e1
      refine Go.ret_go ((en_lc (R := fun i v H' => ∃ a, v = .ref a ∧ H' a = some (.lst ((freshAt bs ups i).map V.int))) (ei_zipE (K := K) (n := bs.length) (by rw [List.length_map]; omega) (Evl.ev_var (i := 0) rfl) (Evl.ev_var (i := 1) rfl) (hZ.ex e1)) (aims_pair (K := K) (j1 := 3) (j2 := 5)) (fun _ => rfl) (by omega) fun i hi => ?_) H1 (Evl.Ex.refl _) _ fun R ys H2 hRn e2 h2 hL2 => ?_)
      · have hb := List.getElem?_eq_getElem hi
        have eb : bs.getD i [] = bs[i] := by rw [List.getD_eq_getElem?_getD, hb]; rfl
        generalize bs[i] = ns at hb eb
        obtain ⟨a, ha, hs⟩ := hR1.2 i ns hb
        obtain ⟨u, hu⟩ : ∃ u, ups[i]? = some u := ⟨_, List.getElem?_eq_getElem (by omega)⟩
        have eu : ups.getD i none = u := by rw [List.getD_eq_getElem?_getD, hu]; rfl
        rw [getX ha, uv_at hu]
        have hsz1 := hsz ns (List.mem_of_getElem? hb)
        have item := el_lcI (te := tVar 4) (t := ttFr K) (σ := [some (.ref A), some (.ref U), some (.ref p), some (.ref a), none, some (uv u)]) (H := H1) (vs := [4]) (fun m => frB bs u (ns.getD m 0)) (fun m => V.int (ns.getD m 0)) (ei_ei (K := K) (Evl.ev_var (i := 3) rfl) hs) (aims_at (j := 4)) (fun _ => rfl) (by rw [List.length_map]; omega) (fun m B eB hm => by
          rw [List.length_map] at hm
          rw [gd_int hm]
          cases u with
          | none => exact Evl.et_is (Evl.et_or (a := true) (b := true) (Evl.et_is (Evl.et_test (Evl.ev_op (Evl.ev_var (v := V.non) rfl) Evl.ev_c rv_isN)) rfl) fun z => nomatch z) rfl
          | some o =>
            have ho := hin i o hu
            have hbo := List.getElem?_eq_getElem ho
            have eo : bs.getD o [] = bs[o] := by rw [List.getD_eq_getElem?_getD, hbo]; rfl
            obtain ⟨d, hd⟩ : ∃ d, dd[o]? = some d := ⟨_, List.getElem?_eq_getElem (by omega)⟩
            obtain ⟨ms, k1, k2⟩ := hdr o d hd
            rw [k1] at hbo
            have em : bs.getD o [] = ms := by rw [List.getD_eq_getElem?_getD, k1]; rfl
            refine Evl.et_is (Evl.et_or (a := false) (b := !decide (ns.getD m 0 ∈ ms)) (Evl.et_is (Evl.et_test (Evl.ev_op (Evl.ev_var (v := V.int (o : Int)) rfl) Evl.ev_c rv_isN)) rfl) fun _ => Evl.et_is (et_dnin (Evl.ev_var rfl) (Evl.ev_op (x := .ref p) (y := .int (o : Int)) (z := .ref d) (Evl.ev_var rfl) (Evl.ev_var rfl) (Evl.rv_ixL (Evl.sq_of (eB _ _ h1)) (atI_nat (by rw [List.getElem?_map, hd]; rfl)))) (eB _ _ k2)) (by rw [dOf_in])) ?_
            show _ = !decide (ns.getD m 0 ∈ bs.getD o [])
            rw [em]
            rfl) (fun m B eB hm _ => by
          rw [List.length_map] at hm
          exact Evl.ev_is (Evl.ev_var rfl) (gd_int hm))
        rw [List.length_map, given_filter] at item
        have ef : freshAt bs ups i = ns.filter (frB bs u) := by
          unfold freshAt
          rw [eb, eu]
        rw [ef]
        exact en_l item
      · obtain ⟨fa, rfl, hfl, hfr⟩ := refs_of (xs := ys) (R := fun i a => H2 a = some (.lst ((freshAt bs ups i).map V.int))) fun i v hv => (hL2 H2 e2 fun _ _ _ _ h => h).2 i v hv
        have hl3 := (hL2 H2 e2 fun _ _ _ _ h => h).1
        refine q R fa H2 (e1.trans e2) h2 ⟨by unfold freshL; rw [List.length_map, List.length_range]; omega, fun i a ns ha hn => ?_⟩
        unfold freshL at hn
        rw [List.getElem?_map] at hn
        obtain ⟨j, hj, rfl⟩ := Option.map_eq_some_iff.mp hn
        obtain ⟨j1, j2⟩ := List.getElem?_eq_some_iff.mp hj
        rw [List.getElem_range] at j2
        subst j2
        exact hfr i a ha
end
end P41
end S_Bah
section S_Bai
namespace P41
open PySem PySem.Spec PyProof.Rows L2 Tl Hk RZ EnL
abbrev nHa : List Str := ["bags", "above", "fresh", "row", "piece"]
theorem scHang : FnScope nHa ["bags", "above"] (defScope sHang) := ⟨rfl, rfl, rfl, by decide +kernel, rfl, by decide +kernel, by decide +kernel⟩
theorem scWrong : FnScope ["bags", "above"] ["bags", "above"] (defScope sWrong) := ⟨rfl, rfl, rfl, by decide +kernel, rfl, by decide +kernel, by decide +kernel⟩
theorem rows_flat (L : List (List Int)) : rows (fun i => (L.getD i []).length) (fun _ _ => true) (fun i j => (L.getD i []).getD j 0) L.length = L.flatten := by
  have els_is : ∀ i, els (fun i => (L.getD i []).length) (fun _ _ => true) (fun i j => (L.getD i []).getD j 0) i = L.getD i [] := fun i => by
    unfold els
    dsimp only
    rw [List.filter_eq_self.mpr fun _ _ => rfl]
    generalize L.getD i [] = ns
    refine List.ext_getElem (by simp) fun i h1 h2 => ?_
    rw [List.getElem_map, List.getElem_range, List.getD_eq_getElem?_getD, List.getElem?_eq_getElem h2]
    rfl
  have key : ∀ n, n ≤ L.length → rows (fun i => (L.getD i []).length) (fun _ _ => true) (fun i j => (L.getD i []).getD j 0) n = (L.take n).flatten := fun n => by
    induction n with
    | zero => intro _; simp [rows]
    | succ n ih =>
      intro h
      rw [rows_succ, ih (by omega), els_is, List.take_succ_eq_append_getElem (by omega), List.flatten_append, List.flatten_singleton, List.getD_eq_getElem?_getD, List.getElem?_eq_getElem (show n < L.length by omega)]
      rfl
  rw [key _ (Nat.le_refl _), List.take_length]
def spHang (K : PySem.W.Frag) : Sp := fun vs H Q _ => ∃ (A U : Addr) (xs : List V) (bs : List (List Int)) (ups : List (Option Nat)), vs = [.ref A, .ref U] ∧ RowsB K H xs bs ∧ ZipOk K H A U xs (ups.map uv) ∧ ups.length = bs.length ∧ bs.length ≤ 3000 ∧ (∀ (i j : Nat), ups[i]? = some (some j) → j < bs.length) ∧ (bs.map List.length).sum ≤ 3000 ∧
  ∀ H1, Evl.Ex H H1 → Q (.bl (decide (freshL bs ups).flatten.Nodup)) H1
theorem sum_mem {l : List Nat} {x : Nat} (h : x ∈ l) : x ≤ l.sum := by
  induction l with
  | nil => cases h
  | cons a r ih =>
    rw [List.sum_cons]
    rcases List.mem_cons.mp h with rfl | h
    · omega
    · have := ih h
      omega
theorem fresh_len (bs : List (List Int)) (ups : List (Option Nat)) : (freshL bs ups).flatten.length ≤ (bs.map List.length).sum := by
  rw [List.length_flatten]
  unfold freshL
  rw [List.map_map]
  have e : bs.map List.length = (List.range bs.length).map fun i => (bs.getD i []).length := by
    refine List.ext_getElem? fun i => ?_
    rw [List.getElem?_map, List.getElem?_map]
    rcases Nat.lt_or_ge i bs.length with h | h
    · rw [List.getElem?_range h, List.getElem?_eq_getElem h]
      show _ = some (bs.getD i []).length
      rw [List.getD_eq_getElem?_getD, List.getElem?_eq_getElem h]
      rfl
    · rw [List.getElem?_eq_none h, List.getElem?_eq_none (by rw [List.length_range]; exact h)]
      rfl
  rw [e]
  have : ∀ l : List Nat, (l.map (List.length ∘ freshAt bs ups)).sum ≤ (l.map fun i => (bs.getD i []).length).sum := fun l => by
    induction l with
    | nil => exact Nat.le_refl _
    | cons a r ih =>
      rw [List.map_cons, List.map_cons, List.sum_cons, List.sum_cons]
      have : (freshAt bs ups a).length ≤ (bs.getD a []).length := List.length_filter_le _ _
      exact Nat.add_le_add this ih
  exact this _
section
variable {P : Program} {w : World} {K : PySem.W.Frag} {mg : Str → Option Value} {base : Heap}
theorem lc2_go {te : TE} {g : TG} {tt tt1 : L2.TT} {wi1 : TI} {g1 : TG} {t : TE} {vs vs1 : List Nat} {σ : L2.St} {H : Hp} {Q : VK} (h : te σ H fun v H' => tLc2 (iList K (tC v)) g tt wi1 g1 tt1 t vs vs1 σ H' Q) : tLc2 (iList K te) g tt wi1 g1 tt1 t vs vs1 σ H Q := h
set_option maxHeartbeats 2000000 in
theorem ok_hang {f fF : Addr} {fd fdF : FuncData} {k : Nat} (F : Fun K "hang_together" "hang_together" sHang f fd) (FF : Fun K "fresh_in" "fresh_in" sFresh fF fdF) (GF : FnOk P w K mg base CX0 k fF fdF ["bags", "above"] (spFresh K)) (bF : Binds K fdF ["bags", "above"] []) (gF : mg "fresh_in" = some (.ref fF))
    (mlen : mg "len" = none) (mset : mg "set" = none) : FnOk P w K mg base CX0 (k + 1) f fd ["bags", "above"] (spHang K) := by
  refine F.ok scHang (fun vs H Q E h => ?_) (fun cdv A0 outer s H vs Q E hr h => ?_)
  · obtain ⟨A, U, xs, bs, ups, rfl, _⟩ := h
    rfl
  · obtain ⟨A, U, xs, bs, ups, rfl, hR, hZ, hul, hl, hin, hsz, q⟩ := h
    have nd := scHang.nd
    refine ⟨_, pss_cons (ps_setLc2 (i := 2) (own := [("row", 3), ("piece", 4)]) (vs1 := [4]) (wi1 := iList K (tVar 3)) (g := gName 3) (g1 := gName 4) (tt := tYes) (tt1 := tYes) (te := tVar 4) rfl nd rfl rfl (sw_true rfl rfl rfl (by decide +kernel)) (pi_list (pe_call GF hr (by rfl) gF FF.kp bF .nil pass0 (pa_cons (pv 0) (pa_cons (pv 1) (pa_nil))))) (blkOk_by (N := nHa) (sc := defScope sHang) (by decide +kernel)) (by decide) (fun _ _ _ _ _ => pg_name (i := 3) nd rfl (Or.inl rfl)) (fun _ _ _ _ _ => pts_nil) (fun _ _ _ _ _ => pi_list (pv 3)) (fun _ _ _ _ _ => pg_name (i := 4) nd rfl (Or.inl rfl)) (fun _ _ _ _ _ => pts_nil) (fun _ _ _ _ _ => pv 4)) (pss_one (ps_ret (pe_cmpR op_eq (pe_lenSetN (by rfl) mlen (by rfl) mset (pv 2)) (pe_callB call_len_seq (by rfl) mlen PySem.boot_len (pa_cons (pv 2) (pa_nil))) (nomark _)))), ?_⟩
    refine Go.asg_go (lc2_go (Go.call_raw (Go.cons_any ⟨.ref A, rfl, .ref U, rfl, A, U, xs, bs, ups, rfl, hR, hZ, hul, hl, hin, fun ns hn => by have := sum_mem (List.mem_map.mpr ⟨ns, hn, rfl⟩ : ns.length ∈ bs.map List.length); omega, fun R fa H1 e1 h1 hRL => ?_⟩)))
    have hfl := hRL.1
    have hL : (freshL bs ups).length = bs.length := by unfold freshL; rw [List.length_map, List.length_range]
    have tot := fresh_len bs ups
    have item : ∀ i, i < (freshL bs ups).length → ∃ a, fa[i]? = some a ∧ (fa.map V.ref).getD i .non = .ref a ∧ H1 a = some (.lst (((freshL bs ups).getD i []).map V.int)) := fun i hi => by
      obtain ⟨a, ha⟩ : ∃ a, fa[i]? = some a := ⟨_, List.getElem?_eq_getElem (by omega)⟩
      have hn := List.getElem?_eq_getElem hi
      refine ⟨a, ha, by rw [List.getD_eq_getElem?_getD, List.getElem?_map, ha]; rfl, ?_⟩
      rw [List.getD_eq_getElem?_getD, hn]
      exact hRL.2 i a _ ha hn
    refine (en_lc2 (σ := start nHa [.ref A, .ref U]) (H := H1) (n := (freshL bs ups).length) (m := fun i => ((freshL bs ups).getD i []).length) (f := fun _ _ => true) (b := fun i j => ((freshL bs ups).getD i []).getD j 0) (Rb := fun x v _ => v = .int x) (s := fun i σ => σ.set 3 (some ((fa.map V.ref).getD i .non))) (s1 := fun i j σ => σ.set 4 (some ((((freshL bs ups).getD i []).map V.int).getD j .non)))
      (Y := YAt (fa.map V.ref)) (Y1 := fun i => YAt (((freshL bs ups).getD i []).map V.int)) ?_ ?_ (fun _ => rfl) (fun i hi => ?_) (fun i => ?_) (fun _ _ => rfl) (fun i j _ _ => et_yes) (fun i j hi hj _ => ?_) ?_) H1 (Evl.Ex.refl _) _ fun p ys H2 hp e2 h2 hL2 => ?_
    · have := ei_list (K := K) (σ := start nHa [.ref A, .ref U]) (H := H1) (tl := tC (.ref R)) Evl.ev_c (Evl.sq_of h1)
      rw [List.length_map, show fa.length = (freshL bs ups).length from hfl] at this
      exact this
    · have := aims_at (xs := fa.map V.ref) (j := 3)
      rw [List.length_map, show fa.length = (freshL bs ups).length from hfl] at this
      exact this
    · obtain ⟨a, ha, ea, haH⟩ := item i hi
      have := ei_list (K := K) (σ := wipe ((wipe (start nHa [.ref A, .ref U]) [3, 4]).set 3 (some ((fa.map V.ref).getD i .non))) [4]) (H := H1) (tl := tVar 3) (xs := ((freshL bs ups).getD i []).map V.int) (Evl.ev_is (Evl.ev_var rfl) ea) (Evl.sq_of haH)
      rw [List.length_map] at this
      exact this
    · have := aims_at (xs := ((freshL bs ups).getD i []).map V.int) (j := 4)
      rw [List.length_map] at this
      exact this
    · exact en_v (Evl.ev_is (Evl.ev_var rfl) (gd_int hj))
    · rw [rows_flat]
      omega
    · rw [rows_flat] at hL2
      have hr2 := hL2 H2 e2 fun _ _ _ _ h => h
      have ey : ys = (freshL bs ups).flatten.map V.int := by
        refine List.ext_getElem? fun i => ?_
        rw [List.getElem?_map]
        rcases Nat.lt_or_ge i ys.length with h | h
        · have h3 := List.getElem?_eq_getElem h
          have h4 := List.getElem?_eq_getElem (show i < (freshL bs ups).flatten.length by have := hr2.1; omega)
          rw [h4, h3]
          exact congrArg some (hr2.2 i _ _ h4 h3)
        · rw [List.getElem?_eq_none h, List.getElem?_eq_none (by have := hr2.1; omega)]
          rfl
      rw [ey] at h2
      try dsimp only [List.set_cons_zero, List.set_cons_succ]
      refine Go.ret_go (Go.op_go ⟨.ref p, rfl, p, (freshL bs ups).flatten, rfl, Evl.sq_of h2, by omega, fun c hc => ?_⟩)
      refine (Evl.ev_len (K := K) (Evl.ev_var (i := 2) rfl) (Evl.sq_of h2)) H2 (Evl.Ex.refl _) _ fun H3 e3 => ?_
      have fin := q H3 ((e1.trans e2).trans e3)
      refine (Evl.rv_eq rfl) H3 (Evl.Ex.refl _) _ fun H4 e4 => ?_
      rw [List.length_map]
      have := q H4 (((e1.trans e2).trans e3).trans e4)
      rw [show decide (V.int (c : Int) = V.int ((freshL bs ups).flatten.length : Int)) = decide (freshL bs ups).flatten.Nodup from decide_eq_decide.mpr ⟨fun z => hc.mp (by have := V.int.inj z; omega), fun z => by rw [hc.mpr z]⟩]
      exact this
end
end P41
end S_Bai
section S_Baj
namespace P41
open PySem PySem.Spec PyProof.Rows L2 Tl Hk RZ EnL
/-! ### the first part that is wrong -/
def rowV (ns : List Int) : Option (List V) := some (ns.map V.int)
/-- bags told right: ascending ints from 0 on -/
structure BagsOk (bs : List (List Int)) : Prop where
  asc : ∀ ns ∈ bs, ascI ns = true
  pos : ∀ ns ∈ bs, ∀ i ∈ ns, 0 ≤ i
theorem bagV_row {ns : List Int} (h1 : ascI ns = true) (h2 : ∀ i ∈ ns, 0 ≤ i) : bagV (.int 0) .non (rowV ns) = true := by
  unfold bagV rowV
  dsimp only
  rw [wi0_all h2, intsOf_map]
  show (true && (decide ((0 : Int) ≤ ((ns.map V.int).length : Int)) && true) && ascI ns) = true
  rw [decide_eq_true (by omega), h1]
  rfl
theorem bags_of : ∀ {rs : List (Option (List V))}, rs.all (bagV (.int 0) .non) = true → ∃ bs : List (List Int), rs = bs.map rowV ∧ BagsOk bs
  | [], _ => ⟨[], rfl, ⟨fun _ h => (nomatch h), fun _ h => (nomatch h)⟩⟩
  | r :: rs, h => by
    rw [List.all_cons, Bool.and_eq_true_iff] at h
    obtain ⟨bs, rfl, hb⟩ := bags_of h.2
    have hr := h.1
    cases r with
    | none => cases hr
    | some xs =>
      unfold bagV at hr
      dsimp only at hr
      rw [Bool.and_eq_true_iff, Bool.and_eq_true_iff] at hr
      obtain ⟨ns, rfl, hn⟩ := wi0_ints hr.1.1
      rw [intsOf_map] at hr
      refine ⟨ns :: bs, rfl, ⟨fun ms hm => ?_, fun ms hm => ?_⟩⟩
      · rcases List.mem_cons.mp hm with rfl | hm
        · exact hr.2
        · exact hb.asc ms hm
      · rcases List.mem_cons.mp hm with rfl | hm
        · exact hn
        · exact hb.pos ms hm
theorem bags_all {bs : List (List Int)} (h : BagsOk bs) : (bs.map rowV).all (bagV (.int 0) .non) = true := List.all_eq_true.mpr fun r hr => by
  obtain ⟨ns, hn, rfl⟩ := List.mem_map.mp hr
  exact bagV_row (h.asc ns hn) (h.pos ns hn)
theorem ints_inj : ∀ {a b : List Int}, a.map V.int = b.map V.int → a = b := fun {a b} h => by
  have := congrArg intsOf h
  rw [intsOf_map, intsOf_map] at this
  exact Option.some.inj this
theorem rowV_inj : ∀ {a b : List (List Int)}, a.map rowV = b.map rowV → a = b
  | [], [], _ => rfl
  | [], _ :: _, h => nomatch h
  | _ :: _, [], h => nomatch h
  | x :: a, y :: b, h => by
    rw [List.map_cons, List.map_cons] at h
    rw [ints_inj (Option.some.inj (List.cons.inj h).1), rowV_inj (List.cons.inj h).2]
/-- whether the first part is right: bags -/
def P1 (rb : Option (List (Option (List V)))) : Prop := bagsV (.int 0) .non rb = true ∧ 1 ≤ (rb.getD []).length ∧ (rb.getD []).length ≤ 2000
/-- whether the pieces hang together -/
def P3 (rb : Option (List (Option (List V)))) (ru : Option (List V)) : Prop := ∃ bs ups, rb = some (bs.map rowV) ∧ ru = some (ups.map uv) ∧ (freshL bs ups).flatten.Nodup
noncomputable def wrongV (rb : Option (List (Option (List V)))) (ru : Option (List V)) : V :=
  if pd (P1 rb) = false then .str "bags" else if pd (TellsP (rb.getD []).length ru) = false then .str "above" else if pd (P3 rb ru) = true then .non else .str "pieces"
/-- a tree of bags -/
structure TreeOk (bs : List (List Int)) (ups : List (Option Nat)) : Prop where
  ok : BagsOk bs
  n1 : 1 ≤ bs.length
  n2 : bs.length ≤ 2000
  up : UpsOk bs.length ups
  hg : (freshL bs ups).flatten.Nodup
theorem wrong_none {rb : Option (List (Option (List V)))} {ru : Option (List V)} (h : wrongV rb ru = .non) : ∃ bs ups, rb = some (bs.map rowV) ∧ ru = some (ups.map uv) ∧ TreeOk bs ups := by
  unfold wrongV at h
  split at h
  · cases h
  split at h
  · cases h
  split at h
  · rename_i h1 h2 h3
    have h1 := pd_of (Bool.not_eq_false _ ▸ h1 : pd (P1 rb) = true)
    have h2 := pd_of (Bool.not_eq_false _ ▸ h2 : pd (TellsP _ ru) = true)
    obtain ⟨bs, ups, rfl, rfl, h4⟩ := pd_of h3
    obtain ⟨a1, a2, a3⟩ := h1
    obtain ⟨bs', e, hb⟩ := bags_of (rs := bs.map rowV) a1
    have := rowV_inj e
    subst this
    have el : ((some (bs.map rowV)).getD []).length = bs.length := List.length_map _
    rw [el] at a2 a3 h2
    obtain ⟨us, e2, hu⟩ := h2
    have := uvs_inj (Option.some.inj e2)
    subst this
    exact ⟨bs, ups, rfl, rfl, hb, a2, a3, hu, h4⟩
  · cases h
theorem wrong_ok {bs : List (List Int)} {ups : List (Option Nat)} (h : TreeOk bs ups) : wrongV (some (bs.map rowV)) (some (ups.map uv)) = .non := by
  have el : ((some (bs.map rowV)).getD []).length = bs.length := List.length_map _
  unfold wrongV
  rw [if_neg (by rw [pd_true ⟨bags_all h.ok, by rw [el]; exact h.n1, by rw [el]; exact h.n2⟩]; decide), if_neg (by rw [pd_true (show TellsP _ _ from ⟨ups, rfl, by rw [el]; exact h.up⟩)]; decide), if_pos (pd_true ⟨bs, ups, rfl, rfl, h.hg⟩)]
/-- how bags and what is above them stand, if both are lists or tuples -/
def Zip2 (K : PySem.W.Frag) (H : Hp) (b u : V) (rb : Option (List (Option (List V)))) (ru : Option (List V)) : Prop := ∀ rs ys, rb = some rs → ru = some ys → 1 ≤ rs.length → ∃ A U xs, b = .ref A ∧ u = .ref U ∧ ZipOk K H A U xs ys ∧ xs.length = rs.length ∧ ∀ (i : Nat) (v : V) (r : Option (List V)), xs[i]? = some v → rs[i]? = some r → BagD K H v r
theorem Zip2.ex {K : PySem.W.Frag} {H H' : Hp} {b u : V} {rb : Option (List (Option (List V)))} {ru : Option (List V)} (h : Zip2 K H b u rb ru) (e : Evl.Ex H H') : Zip2 K H' b u rb ru := fun rs ys h1 h2 h3 => by
  obtain ⟨A, U, xs, a1, a2, a3, a4, a5⟩ := h rs ys h1 h2 h3
  exact ⟨A, U, xs, a1, a2, a3.ex e, a4, fun i v r p q => (a5 i v r p q).ex e⟩
/-- what may be handed to a tree of bags -/
structure In2 (K : PySem.W.Frag) (H : Hp) (b u : V) (rb : Option (List (Option (List V)))) (ru : Option (List V)) : Prop where
  hb : BagsD K H b rb
  hu : BagD K H u ru
  hz : Zip2 K H b u rb ru
  sz : ∀ rs, rb = some rs → (rs.map fun r => (r.getD []).length).sum ≤ 3000
theorem In2.ex {K : PySem.W.Frag} {H H' : Hp} {b u : V} {rb : Option (List (Option (List V)))} {ru : Option (List V)} (h : In2 K H b u rb ru) (e : Evl.Ex H H') : In2 K H' b u rb ru := ⟨h.hb.ex e, h.hu.ex e, h.hz.ex e, h.sz⟩
theorem In2.rows {K : PySem.W.Frag} {H : Hp} {b u : V} {bs : List (List Int)} {ys : List V} (h : In2 K H b u (some (bs.map rowV)) (some ys)) (hne : 1 ≤ bs.length) : ∃ A U xs, b = .ref A ∧ u = .ref U ∧ ZipOk K H A U xs ys ∧ RowsB K H xs bs ∧ (bs.map List.length).sum ≤ 3000 := by
  obtain ⟨A, U, xs, a1, a2, a3, a4, a5⟩ := h.hz _ _ rfl rfl (by rw [List.length_map]; exact hne)
  rw [List.length_map] at a4
  refine ⟨A, U, xs, a1, a2, a3, ⟨a4, fun i ns hn => ?_⟩, ?_⟩
  · have hx := List.getElem?_eq_getElem (show i < xs.length by have := (List.getElem?_eq_some_iff.mp hn).1; omega)
    have := a5 i _ (rowV ns) hx (by rw [List.getElem?_map, hn]; rfl)
    obtain ⟨c, e, hs, _⟩ := this.sq
    exact ⟨c, by rw [hx, e], hs⟩
  · have := h.sz _ rfl
    rw [List.map_map] at this
    have e : bs.map List.length = bs.map ((fun r : Option (List V) => (r.getD []).length) ∘ rowV) := List.map_congr_left fun ns _ => (List.length_map _).symm
    rw [e]
    exact this
def spWrong (K : PySem.W.Frag) : Sp := fun vs H Q _ => ∃ (b u : V) (rb : Option (List (Option (List V)))) (ru : Option (List V)), vs = [b, u] ∧ In2 K H b u rb ru ∧ ∀ H1, Evl.Ex H H1 → Q (wrongV rb ru) H1
theorem spv_wrong {K : PySem.W.Frag} {H : Hp} {b u : V} {rb : Option (List (Option (List V)))} {ru : Option (List V)} (h : In2 K H b u rb ru) : Evl.SpV (spWrong K) [b, u] H (wrongV rb ru) := fun H1 e Q q E => ⟨b, u, rb, ru, rfl, h.ex e, q⟩
theorem BagsD.sq {K : PySem.W.Frag} {H : Hp} {x : V} {rs : List (Option (List V))} (h : BagsD K H x (some rs)) : ∃ a xs, x = .ref a ∧ SqS K H a xs ∧ xs.length = rs.length ∧ xs.length ≤ 3000 := by
  cases h with
  | seq h hn hl hi => exact ⟨_, _, rfl, h, hn, hl⟩
section
variable {P : Program} {w : World} {K : PySem.W.Frag} {mg : Str → Option Value} {base : Heap}
set_option maxHeartbeats 2000000 in
theorem ok_wrong {f fB fW fT fG : Addr} {fd fdB fdW fdT fdG : FuncData} {k : Nat} (F : Fun K "_wrong_part" "_wrong_part" sWrong f fd)
    (FB : Fun K "are_bags" "are_bags" sAreBags fB fdB) (GB : FnOk P w K mg base CX0 k fB fdB ["value", "least", "most"] (spAreBags K)) (bB : Binds K fdB ["value", "least", "most"] []) (gB : mg "are_bags" = some (.ref fB))
    (FW : Fun K "is_within" "is_within" sWithin fW fdW) (GW : FnOk P w K mg base CX0 k fW fdW ["value", "least", "most"] (spWithin K)) (bW : Binds K fdW ["value", "least", "most"] []) (gW : mg "is_within" = some (.ref fW))
    (FT : Fun K "tells_above" "tells_above" sTells fT fdT) (GT : FnOk P w K mg base CX0 k fT fdT ["value", "many"] (spTells K)) (bT : Binds K fdT ["value", "many"] []) (gT : mg "tells_above" = some (.ref fT))
    (FG : Fun K "hang_together" "hang_together" sHang fG fdG) (GG : FnOk P w K mg base CX0 k fG fdG ["bags", "above"] (spHang K)) (bG : Binds K fdG ["bags", "above"] []) (gG : mg "hang_together" = some (.ref fG))
    {tM : Tok} (gM : mg "MOST_BAGS" = some (.int 2000 tM)) (mlen : mg "len" = none) : FnOk P w K mg base CX0 (k + 1) f fd ["bags", "above"] (spWrong K) := by
  refine F.ok scWrong (fun vs H Q E h => ?_) (fun cdv A0 outer s H vs Q E hr h => ?_)
  · obtain ⟨b, u, rb, ru, rfl, _⟩ := h
    rfl
  · obtain ⟨b, u, rb, ru, rfl, h, q⟩ := h
    have nd := scWrong.nd
    refine ⟨_, pss_cons (ps_if (PW.pt (pw_or (pt_not (pt_val (pe_call GB hr (by rfl) gB FB.kp bB .nil pass0 (pa_cons (pv 0) (pa_cons (pe_int) (pa_cons (pe_non) (pa_nil))))))) (pw_or1 (pt_not (pt_val (pe_call GW hr (by rfl) gW FW.kp bW .nil pass0 (pa_cons (pe_callB call_len_seq (by rfl) mlen PySem.boot_len (pa_cons (pv 0) (pa_nil))) (pa_cons (pe_int) (pa_cons (pe_glob (v := .int 2000) (by rfl) gM ⟨_, rfl⟩) (pa_nil)))))))))) (pss_one (ps_ret (pe_str))) (pss_nil)) (pss_cons (ps_if (pt_not (pt_val (pe_call GT hr (by rfl) gT FT.kp bT .nil pass0 (pa_cons (pv 1) (pa_cons (pe_callB call_len_seq (by rfl) mlen PySem.boot_len (pa_cons (pv 0) (pa_nil))) (pa_nil)))))) (pss_one (ps_ret (pe_str))) (pss_nil)) (pss_one (ps_ret (pe_ifExp (pt_val (pe_call GG hr (by rfl) gG FG.kp bG .nil pass0 (pa_cons (pv 0) (pa_cons (pv 1) (pa_nil))))) pe_non pe_str)))), ?_⟩
    have t1 : Evl.EvT (tNot (tB (tCall (spAreBags K) [] E0 (tCons (tVar 0) (tCons (tC (.int 0)) (tCons (tC .non) tNil)))))) (start ["bags", "above"] [b, u]) H (!bagsV (.int 0) .non rb) := Evl.et_not (Evl.et_B (Evl.ev_call (Evl.ea_cons (Evl.ev_var rfl) (Evl.ea_cons Evl.ev_c (Evl.ea_cons Evl.ev_c Evl.ea_nil))) (spv_areBags h.hb trivial trivial)))
    refine Evl.q_when (b := !pd (P1 rb)) ?_ (fun hb H1 e1 => ?_) fun hb H1 e1 => ?_
    · cases hbv : bagsV (.int 0) .non rb with
      | false =>
        refine Evl.et_is (Evl.et_or (a := true) (b := true) (Evl.et_is t1 (by rw [hbv]; rfl)) fun z => nomatch z) ?_
        rw [pd_false (fun z => by rw [z.1] at hbv; cases hbv)]
        rfl
      | true =>
        cases rb with
        | none => cases hbv
        | some rs =>
          obtain ⟨a, xs, rfl, hS, hn, hl⟩ := h.hb.sq
          refine Evl.et_is (Evl.et_or (a := false) (b := !wi (.int (xs.length : Int)) (.int 1) (.int 2000)) (Evl.et_is t1 (by rw [hbv]; rfl)) fun _ => Evl.et_not (Evl.et_B (Evl.ev_call (Evl.ea_cons (ev_lenB (K := K) (Evl.ev_var rfl) hS) (Evl.ea_cons Evl.ev_c (Evl.ea_cons Evl.ev_c Evl.ea_nil))) (spv_within (.int _) trivial trivial)))) ?_
          rw [Bool.false_or]
          congr 1
          refine (pd_is ?_).symm
          unfold P1
          rw [hbv]
          show (true = true ∧ 1 ≤ rs.length ∧ rs.length ≤ 2000) ↔ (decide ((1 : Int) ≤ (xs.length : Int)) && decide ((xs.length : Int) ≤ 2000)) = true
          rw [Bool.and_eq_true_iff, decide_eq_true_iff, decide_eq_true_iff]
          exact ⟨fun z => ⟨by omega, by omega⟩, fun z => ⟨rfl, by omega, by omega⟩⟩
    · rw [Bool.not_eq_true'] at hb
      refine Evl.s_ret Evl.ev_c fun H2 e2 => ?_
      have := q H2 (e1.trans e2)
      unfold wrongV at this
      rwa [if_pos hb] at this
    · rw [Bool.not_eq_false'] at hb
      obtain ⟨a1, a2, a3⟩ := pd_of hb
      cases rb with
      | none => cases a1
      | some rs =>
        obtain ⟨a, xs, rfl, hS, hn, hl⟩ := h.hb.sq
        have hr3 : rs.length ≤ 2000 := a3
        have h1 := h.ex e1
        refine Evl.q_when (b := !pd (TellsP rs.length ru)) (Evl.et_not (Evl.et_B (Evl.ev_call (vs := [u, .int (rs.length : Int)]) (Evl.ea_cons (Evl.ev_var rfl) (Evl.ea_cons (Evl.ev_is (ev_lenB (K := K) (Evl.ev_var rfl) (hS.ex e1)) (by rw [hn])) Evl.ea_nil)) (spv_tells h1.hu (by omega))))) (fun hb2 H2 e2 => ?_) fun hb2 H2 e2 => ?_
        · rw [Bool.not_eq_true'] at hb2
          refine Evl.s_ret Evl.ev_c fun H3 e3 => ?_
          have := q H3 ((e1.trans e2).trans e3)
          unfold wrongV at this
          rwa [if_neg (by rw [hb]; decide), if_pos (show pd (TellsP ((some rs).getD []).length ru) = false from hb2)] at this
        · rw [Bool.not_eq_false'] at hb2
          obtain ⟨ups, rfl, hu1, hu2, hu3, hu4⟩ := pd_of hb2
          obtain ⟨bs, rfl, hbo⟩ := bags_of (rs := rs) a1
          obtain ⟨A, U, ys, b1, b2, b3, b4, b5⟩ := (h1.ex e2).rows (by have := a2; rw [show ((some (List.map rowV bs)).getD []).length = bs.length from List.length_map _] at this; exact this)
          cases b1
          subst b2
          rw [List.length_map] at hu1 hu2 hr3
          have ep : pd (P3 (some (bs.map rowV)) (some (ups.map uv))) = decide (freshL bs ups).flatten.Nodup := pd_is (by
            rw [decide_eq_true_iff]
            constructor
            · rintro ⟨bs', ups', z1, z2, z3⟩
              rw [rowV_inj (Option.some.inj z1), uvs_inj (Option.some.inj z2)]
              exact z3
            · exact fun z => ⟨bs, ups, rfl, rfl, z⟩)
          refine Evl.s_ret (v := if decide (freshL bs ups).flatten.Nodup = true then V.non else V.str "pieces") (Evl.ev_if (b := decide (freshL bs ups).flatten.Nodup) (Evl.et_B (Evl.ev_call (vs := [.ref a, .ref U]) (Evl.ea_cons (Evl.ev_var rfl) (Evl.ea_cons (Evl.ev_var rfl) Evl.ea_nil)) fun H3 e3 Q3 q3 E3 => ⟨a, U, ys, bs, ups, rfl, b4.ex e3, b3.ex e3, hu1, by omega, hu2, b5, q3⟩)) (fun hc => Evl.ev_is Evl.ev_c (by rw [if_pos hc])) fun hc => Evl.ev_is Evl.ev_c (by rw [if_neg (by rw [hc]; decide)])) fun H3 e3 => ?_
          have := q H3 ((e1.trans e2).trans e3)
          unfold wrongV at this
          rw [if_neg (by rw [hb]; decide), if_neg (by rw [show ((some (bs.map rowV)).getD []).length = (bs.map rowV).length from rfl, hb2]; decide), ep] at this
          exact this
end
end P41
end S_Baj
section S_Wq
namespace Hk
open PySem PySem.Spec PyProof.Rows L2 Tl
theorem asc_eq : ∀ {xs ys : List Int}, xs.Pairwise (· < ·) → ys.Pairwise (· < ·) → (∀ k, k ∈ xs ↔ k ∈ ys) → xs = ys
  | [], [], _, _, _ => rfl
  | [], y :: r, _, _, h => by have := (h y).mpr List.mem_cons_self; cases this
  | x :: r, [], _, _, h => by have := (h x).mp List.mem_cons_self; cases this
  | x :: r, y :: s, h1, h2, h => by
    obtain ⟨a1, a2⟩ := List.pairwise_cons.mp h1
    obtain ⟨b1, b2⟩ := List.pairwise_cons.mp h2
    have e : x = y := by
      rcases List.mem_cons.mp ((h x).mp List.mem_cons_self) with z | z
      · exact z
      · rcases List.mem_cons.mp ((h y).mpr List.mem_cons_self) with u | u
        · exact u.symm
        · have := a1 y u
          have := b1 x z
          omega
    subst e
    rw [asc_eq a2 b2 fun k => ?_]
    constructor
    · intro hk
      rcases List.mem_cons.mp ((h k).mp (List.mem_cons_of_mem _ hk)) with z | z
      · have := a1 k hk; omega
      · exact z
    · intro hk
      rcases List.mem_cons.mp ((h k).mpr (List.mem_cons_of_mem _ hk)) with z | z
      · have := b1 k hk; omega
      · exact z
theorem in_ints (x : Int) (ns : List Int) : inV (.int x) (ns.map V.int) = decide (x ∈ ns) := by
  unfold inV
  induction ns with
  | nil => rfl
  | cons a r ih =>
    rw [List.map_cons, List.any_cons, ih]
    have e : eqV (.int a) (.int x) = decide (x = a) := by
      show decide (a = x) = decide (x = a)
      exact decide_eq_decide.mpr eq_comm
    rw [e, ← Bool.decide_or]
    exact decide_eq_decide.mpr List.mem_cons.symm
theorem flat_ints (ns : List Int) : (ns.map V.int).all flatV = true := by
  rw [List.all_eq_true]
  intro v hv
  obtain ⟨i, _, rfl⟩ := List.mem_map.mp hv
  rfl
section
open Evl
variable {K : PySem.W.Frag} {σ : L2.St} {H : Hp} {ta tb te : TE}
theorem el_from1 {tl : TO} {a : Addr} {xs : List V} (h : Ev te σ H (.ref a)) (h2 : EvO tl σ H (some (1 : Int))) (hs : SqL K H a xs) : EvL (tSl (rSlL K) te tl tNoPart) σ H (xs.drop 1) := by
  rw [← cutFrom]
  exact el_sl h h2 eo_none hs
theorem el_sortedSet {w : World} {ns : List Int} (h : EvL ta σ H (ns.map V.int)) (hp : ns.Pairwise (· < ·)) (hl : ns.length < 60) : EvL (tCB (rSortedSet w) (tCons (tCB (rSetL K w) (tCons ta tNil)) tNil)) σ H (ns.map V.int) := fun H1 e Q q =>
  h H1 e _ fun l H2 hl' e2 h2 => ⟨l, ns, rfl, sq_of h2, by omega, fun p c hp' hc => ⟨p, _, c, rfl, upd_same, by omega, fun ms r hpw hmem hlen hr => by
    obtain rfl : ms = ns := asc_eq hpw hp fun k => (hmem k).trans decide_eq_true_iff
    exact q r _ (fresh_back (e2.trans (Ex.new hp')) hr) ((e2.trans (Ex.new hp')).trans (Ex.new hr)) upd_same⟩⟩
theorem ev_notIn {x : Int} {ns : List Int} (h : Ev ta σ H (.int x)) (h2 : EvL tb σ H (ns.map V.int)) : Ev (tOp (rIn K true) ta tb) σ H (.bl !decide (x ∈ ns)) := fun H1 e Q q =>
  h H1 e _ fun H2 e2 => h2 H2 (e.trans e2) _ fun p H3 hp e3 h3 => ⟨p, _, rfl, .inl (sq_of h3), rfl, flat_ints ns, by
    show Q (.bl !inV (.int x) (ns.map V.int)) H3
    rw [in_ints]
    exact q H3 (e2.trans e3)⟩
end
section
open Evl
variable {K : PySem.W.Frag} {σ : L2.St} {H : Hp} {ta tb : TE}
/-- a new list of ints is the sorted set of the same -/
theorem ev_eqSS {w : World} {ns : List Int} (h : EvL ta σ H (ns.map V.int)) (h2 : EvL tb σ H (ns.map V.int)) (hl : ns.length < 60) : Ev (tOp (rEqD K) ta (tCB (rSortedSet w) (tCons (tCB (rSetL K w) (tCons tb tNil)) tNil))) σ H (.bl (pd (ns.Pairwise (· < ·)))) := fun H1 e Q q =>
  h H1 e _ fun l1 H2 hl1 e2 hh1 => h2 H2 (e.trans e2) _ fun l H3 hl' e3 hh2 => ⟨l, ns, rfl, sq_of hh2, by omega, fun p c hp' hc => ⟨p, _, c, rfl, upd_same, by omega, fun ms r hpw hmem hlen hr => by
    have e4 : Ex H3 (upd (upd H3 p _) r (.lst (ms.map V.int))) := (Ex.new hp').trans (Ex.new hr)
    refine ⟨.list (zD ns), .list (zD ms), .lst (sq_of (e4 _ _ (e3 _ _ hh1))) (dp_zD ns), .lst (sq_of upd_same) (dp_zD ms), PySem.W.ke_shaped_ints ns, PySem.W.ke_shaped_ints ms, ?_⟩
    rw [eqv_zD]
    have hm : ∀ k, k ∈ ms ↔ k ∈ ns := fun k => (hmem k).trans decide_eq_true_iff
    have hp : decide (ns = ms) = pd (ns.Pairwise (· < ·)) := by
      by_cases z : ns.Pairwise (· < ·)
      · rw [pd_true z, decide_eq_true (asc_eq z hpw fun k => (hm k).symm)]
      · rw [pd_false z, decide_eq_false (fun y : ns = ms => z (by rw [y]; exact hpw))]
    rw [hp]
    exact q _ ((e2.trans e3).trans e4)⟩⟩
end
end Hk
end S_Wq
section S_Rj
namespace L2
open PySem PySem.Spec PyProof.Rows
section
variable {P : Program} {w : World} {A : Around} {E : Value → Shared → Prop} {s : Shared} {a : Addr}
set_option maxHeartbeats 1600000 in
/-- sorted of a set of ints of any size that is read -/
theorem sorted_setAny {S : Int → Bool} {n : Nat} {Q : Value → Shared → Prop} (R : SetR w s.heap a S n) (hh : A.handled = none)
    (hQ : ∀ s' p (out : Array Value) (c : Nat) (ns : List Int), (∀ b o, s.heap.get? b = some o → s'.heap.get? b = some o) → s'.gens = s.gens → s'.os = s.os → s.heap.objs.size ≤ p →
      s'.heap.get? p = some (seqObj "list" out c) → IntsAre out.toList ns → ns.Pairwise (· < ·) → (∀ k, k ∈ ns ↔ S k = true) → ns.length = n → n < scanBound → Q (.ref p) s') :
    wpAny (model P w) A (call (.builtin "sorted") [.ref a]) Q E s := by
  obtain ⟨ob, ents, epo, tb, at_, exd, dat, ints_, dist, mem_, few, fit, cnt, ris, led⟩ := R
  have hb' : n < scanBound := by rw [← cnt]; exact few
  have room : n ≤ sizeLine := fits_of_scanBound hb'
  have len_es : (ents.toList.map (·.2)).length = n := by rw [List.length_map, Array.length_toList, cnt]
  refine Calls.call_function_entry kind_sorted plain_sorted entry_sorted (args_sorted1 _) ?_
  unfold Builtin.«sorted»
  refine wpAny_bind (m := checkCount "sorted" 1 1 _) (wpAny_pure ?_)
  refine wpAny_bind (collect_set (A := A.in1) hh ⟨ob, at_, exd.1, dat⟩ fit few ris led fun t1 got kp szs gn osk perm => ?_)
  have lg : got.length = n := perm.length_eq.trans len_es
  have key : (got.map Builtin.Re.reRawOf).Perm (ents.toList.map keyOf) := by
    have := perm.map Builtin.Re.reRawOf
    rwa [List.map_map] at this
  have whole : IntsAre got (got.map Builtin.Re.reRawOf) := ints_of got fun v hv => by
    obtain ⟨en, hen, rfl⟩ := List.mem_map.mp (perm.mem_iff.mp hv)
    obtain ⟨i, tk, hi, _⟩ := ints_ en hen
    exact ⟨i, tk, hi⟩
  have hnew : (t1.heap.push (seqObj "list" got.toArray 0)).get? t1.heap.objs.size = some (seqObj "list" got.toArray 0) := Heap.get?_push_size _ rfl
  have fitG : got.length ≤ sizeLine := by rw [lg]; exact room
  refine wpAny_bind (wpAny_newList ?_ fitG)
  refine wpAny_bind (wpAny_holding (wpAny_call_entry slot_list_sort ⟨_, hnew, rfl⟩ entry_list_sort (list_sort_treeAny hnew whole fitG fun res ms b1 b2 b3 => ⟨_, rfl, ?_⟩) (args_list_sort _)))
  have pms : ms.Perm (ents.toList.map keyOf) := b2.trans key
  obtain ⟨cc, hcc⟩ := sortedHeap_at (vs := got) (out := res) hnew
  refine wpAny_pure ⟨_, rfl, hQ _ t1.heap.objs.size res cc ms (fun b u e => ?_) gn osk szs hcc b1 (lt_of_le_nodup ms b3 (pms.nodup_iff.mpr dist)) (fun k => pms.mem_iff.trans (mem_ k).symm) (pms.length_eq.trans (by rw [List.length_map, Array.length_toList, cnt])) hb'⟩
  have old := kp b u e
  have lt1 := Heap.lt_size old
  show (sortedHeap (t1.heap.push (seqObj "list" got.toArray 0)) t1.heap.objs.size got res).get? b = some u
  exact (sortedHeap_old (Nat.ne_of_lt lt1) (by rw [size_push']; exact Nat.lt_succ_of_lt lt1)).trans (Heap.get?_push_of_some _ old)
end
end L2
namespace Hk
open PySem PySem.Spec PyProof.Rows L2 Tl
/-- sorted(found), a set of ints -/
def rSortedSetA (w : World) : List V → Hp → VK → Prop := fun vs H Q => ∃ (a : Addr) (S : Int → Bool) (n : Nat), vs = [V.ref a] ∧ H a = some (SetO w a S n) ∧
  ∀ (ns : List Int) (p : Addr), ns.Pairwise (· < ·) → (∀ k : Int, k ∈ ns ↔ S k = true) → ns.length = n → H p = none → Q (.ref p) (upd H p (.lst (ns.map V.int)))
theorem cr_sortedSetA {X : Cx} (hc : X.calm = true) : CallR X (.builtin "sorted") (rSortedSetA X.w) := by
  intro pins s σ H vs us Q I r h
  obtain ⟨a, S, n, rfl, ha, q⟩ := h
  have R := setO_get I ha
  rw [Vals.ref1 r]
  refine sorted_setAny R (I.ok.hd hc) fun s' p out c ns k g o hp hg hi hs hm hl hb => ?_
  have hlen : (ns.map V.int).length ≤ sizeLine := by rw [List.length_map, hl]; exact fits_of_scanBound hb
  have hn : H p = none := I.hok.fresh hp
  have J : Inv X pins σ (upd H p (.lst (ns.map V.int))) { s with heap := s'.heap, gens := s'.gens, drawn := s'.drawn, toks := s'.toks } :=
    I.call (ch := []) (Un.laid k hp hn) (I.hok.laid k hp ⟨hlen, out.toList, c, vals_of_ints hi, hg⟩) (by rw [g]; exact I.bare) (fun _ z => nomatch z)
  have e : s' = { s with heap := s'.heap, gens := s'.gens, drawn := s'.drawn, toks := s'.toks } := by
    cases s'
    cases s
    cases o
    rfl
  rw [e]
  exact ⟨.ref p, _, J, rfl, q ns p hs hm hl hn⟩
/-- set(l) of a list of ints, up to 3,000 -/
def rSetLA (K : PySem.W.Frag) (w : World) : List V → Hp → VK → Prop := fun xs H Q => ∃ (l : Addr) (ns : List Int), xs = [.ref l] ∧ SqL K H l (ns.map V.int) ∧ ns.length ≤ 3000 ∧ ∀ p c, H p = none → c ≤ ns.length → Q (.ref p) (upd H p (SetO w p (fun j => decide (j ∈ ns)) c))
theorem cr_setLA {X : Cx} (hc : X.calm = true) : CallR X (.type "set") (rSetLA X.K X.w) := by
  intro pins s σ H xs us Q I r h
  obtain ⟨l, ns, rfl, hq, hz, q⟩ := h
  rw [Vals.ref1 r]
  obtain ⟨its, rv, pl, _⟩ := I.list hq
  refine set_of_list (ns := ns) (I.ok.hd hc) pl.isList (by simpa using RZ.intsAre_vals rv) (by unfold scanBound; omega) fun u s2 ⟨e1, h', tk, c, e2, R, hc', kp⟩ => ?_
  subst e1 e2
  have hn : H s.heap.objs.size = none := I.hok.fresh (Nat.le_refl _)
  exact ⟨.ref s.heap.objs.size, _, I.laid (t' := tk) kp (Nat.le_refl _) (setO_new R), rfl, q _ c hn hc'⟩
section
open Evl
variable {K : PySem.W.Frag} {σ : L2.St} {H : Hp} {ta tb te : TE}
/-- tuple(sorted(set(l))), l just made -/
theorem en_tupSet {w : World} {L : List V → Hp → Prop} (h : EvNL ta σ H L) (hL : ∀ xs H', Ex H H' → L xs H' → ∃ ns : List Int, xs = ns.map V.int ∧ ns.length ≤ 3000) :
    EvN (tCB (fun xs H Q => ∃ p ys, xs = [V.ref p] ∧ ((SqL K H p ys ∧ ∀ l, H l = none → Q (V.ref l) (upd H l (HO.tup ys))) ∨ (SqT K H p ys ∧ Q (V.ref p) H))) (tCons (tCB (rSortedSetA w) (tCons (tCB (rSetLA K w) (tCons ta tNil)) tNil)) tNil)) σ H
    (fun u H' => ∃ (t : Addr) (ns ms : List Int), u = .ref t ∧ L (ns.map V.int) H' ∧ H' t = some (.tup (ms.map V.int)) ∧ ms.Pairwise (· < ·) ∧ ∀ k : Int, k ∈ ms ↔ k ∈ ns) := fun H1 e Q q =>
  h H1 e _ fun p xs H2 hp e2 h2 hL2 => by
    obtain ⟨ns, rfl, hz⟩ := hL xs H2 (e.trans e2) (hL2 H2 (e.trans e2) fun _ _ _ _ h => h)
    refine ⟨p, ns, rfl, sq_of h2, hz, fun z c hz' hc => ⟨z, _, c, rfl, upd_same, fun ms r hpw hmem hlen hr => ?_⟩⟩
    refine ⟨r, _, rfl, .inl ⟨sq_of upd_same, fun t ht => q _ _ (((e2.trans (Ex.new hz')).trans (Ex.new hr)).trans (Ex.new ht)) fun H3 h3 s3 => ?_⟩⟩
    have f3 : ∀ b o, H2 b = some o → (upd (upd (upd H2 z (SetO w z (fun j => decide (j ∈ ns)) c)) r (.lst (ms.map V.int))) t (.tup (ms.map V.int))) b = some o := fun b o hb =>
      ((Ex.new hz').trans (Ex.new hr)).trans (Ex.new ht) _ _ hb
    have z2 : H1 t = none := fresh_back (e2.trans ((Ex.new hz').trans (Ex.new hr))) ht
    exact ⟨t, ns, ms, rfl, hL2 H3 h3 fun a o _ ha hb => s3 a o ha (f3 a o hb), s3 _ _ z2 upd_same, hpw, fun k => (hmem k).trans decide_eq_true_iff⟩
end
end Hk
end S_Rj
section S_Bak
namespace P41
open PySem PySem.Spec PyProof.Rows L2 Tl Hk RZ EnL
/-! ### a tree of bags made -/
abbrev sTreeI : Stmt := inClass sBt 0
abbrev sTreeE : Stmt := inClass sBt 1
abbrev rTup (K : PySem.W.Frag) : List V → Hp → VK → Prop := fun xs H Q => ∃ p ys, xs = [V.ref p] ∧ ((SqL K H p ys ∧ ∀ l, H l = none → Q (V.ref l) (upd H l (HO.tup ys))) ∨ (SqT K H p ys ∧ Q (V.ref p) H))
abbrev nTi : List Str := ["self", "bags", "above", "part", "bag", "piece"]
theorem scTreeI : FnScope nTi ["self", "bags", "above"] (defScope sTreeI) := ⟨rfl, rfl, rfl, by decide +kernel, rfl, by decide +kernel, by decide +kernel⟩
/-- the attributes, in the order of their stores -/
def bf (t u p : Addr) (n : Int) : List (Str × V) := putF "width" (.int n) (putF "pieces" (.ref p) (putF "above" (.ref u) (putF "bags" (.ref t) [])))
theorem kWP : ¬ (("width" : Str) = "pieces") := by decide +kernel
theorem kWA : ¬ (("width" : Str) = "above") := by decide +kernel
theorem kWB : ¬ (("width" : Str) = "bags") := by decide +kernel
theorem kPA : ¬ (("pieces" : Str) = "above") := by decide +kernel
theorem kPB : ¬ (("pieces" : Str) = "bags") := by decide +kernel
theorem kAB : ¬ (("above" : Str) = "bags") := by decide +kernel
theorem kBA : ¬ (("bags" : Str) = "above") := by decide +kernel
theorem kBP : ¬ (("bags" : Str) = "pieces") := by decide +kernel
theorem kBW : ¬ (("bags" : Str) = "width") := by decide +kernel
theorem kAP : ¬ (("above" : Str) = "pieces") := by decide +kernel
theorem kAW : ¬ (("above" : Str) = "width") := by decide +kernel
theorem kPW : ¬ (("pieces" : Str) = "width") := by decide +kernel
theorem bf_b (t u p : Addr) (n : Int) : (bf t u p n).lookup ("bags" : Str) = some (.ref t) := by
  unfold bf
  rw [lookup_putF, if_neg kBW, lookup_putF, if_neg kBP, lookup_putF, if_neg kBA, lookup_putF, if_pos rfl]
theorem bf_a (t u p : Addr) (n : Int) : (bf t u p n).lookup ("above" : Str) = some (.ref u) := by
  unfold bf
  rw [lookup_putF, if_neg kAW, lookup_putF, if_neg kAP, lookup_putF, if_pos rfl]
theorem bf_p (t u p : Addr) (n : Int) : (bf t u p n).lookup ("pieces" : Str) = some (.ref p) := by
  unfold bf
  rw [lookup_putF, if_neg kPW, lookup_putF, if_pos rfl]
theorem bf_w (t u p : Addr) (n : Int) : (bf t u p n).lookup ("width" : Str) = some (.int n) := by
  unfold bf
  rw [lookup_putF, if_pos rfl]
/-- a tuple of tuples of ints -/
def TTu (K : PySem.W.Frag) (H : Hp) (t : Addr) (bs : List (List Int)) : Prop := ∃ as : List Addr, SqT K H t (as.map V.ref) ∧ as.length = bs.length ∧ ∀ (i : Nat) (a : Addr) (ns : List Int), as[i]? = some a → bs[i]? = some ns → SqT K H a (ns.map V.int)
theorem TTu.ex {K : PySem.W.Frag} {A B : Hp} {t : Addr} {bs : List (List Int)} (h : TTu K A t bs) (e : Evl.Ex A B) : TTu K B t bs := by
  obtain ⟨as, h1, h2, h3⟩ := h
  exact ⟨as, Evl.ex_t e h1, h2, fun i a ns h4 h5 => Evl.ex_t e (h3 i a ns h4 h5)⟩
/-- the pieces, in order -/
def PcOk (ps : List Int) (bs : List (List Int)) : Prop := ps.Pairwise (· < ·) ∧ ∀ k : Int, k ∈ ps ↔ ∃ ns ∈ bs, k ∈ ns
theorem pc_one {ps qs : List Int} {bs : List (List Int)} (h1 : PcOk ps bs) (h2 : PcOk qs bs) : ps = qs := asc_eq h1.1 h2.1 fun k => (h1.2 k).trans (h2.2 k).symm
def longest (bs : List (List Int)) : Nat := (bs.map List.length).foldr max 0
theorem longest_le {bs : List (List Int)} {ns : List Int} (h : ns ∈ bs) : ns.length ≤ longest bs := by
  unfold longest
  induction bs with
  | nil => cases h
  | cons b r ih =>
    rw [List.map_cons, List.foldr_cons]
    rcases List.mem_cons.mp h with rfl | h
    · omega
    · have := ih h
      omega
theorem longest_in {bs : List (List Int)} (h : 1 ≤ bs.length) : ∃ ns ∈ bs, ns.length = longest bs := by
  unfold longest
  induction bs with
  | nil => simp at h
  | cons b r ih =>
    rw [List.map_cons, List.foldr_cons]
    by_cases hr : 1 ≤ r.length
    · obtain ⟨ns, h1, h2⟩ := ih hr
      by_cases hb : b.length ≤ ((r.map List.length).foldr max 0)
      · exact ⟨ns, List.mem_cons_of_mem _ h1, by omega⟩
      · exact ⟨b, List.mem_cons_self, by omega⟩
    · have : r = [] := List.eq_nil_of_length_eq_zero (by omega)
      subst this
      exact ⟨b, List.mem_cons_self, by simp⟩
def widthV (bs : List (List Int)) : Int := ((longest bs - 1 : Nat) : Int)
/-- a BagTree stands at x -/
def TreeAt (K : PySem.W.Frag) (C : Addr) (H : Hp) (x : Addr) (bs : List (List Int)) (ups : List (Option Nat)) : Prop := ∃ dx t u p ps, H x = some (.ins C dx (bf t u p (widthV bs))) ∧ TTu K H t bs ∧ SqT K H u (ups.map uv) ∧ SqT K H p (ps.map V.int) ∧ PcOk ps bs
theorem TreeAt.ex {K : PySem.W.Frag} {C : Addr} {A B : Hp} {x : Addr} {bs : List (List Int)} {ups : List (Option Nat)} (h : TreeAt K C A x bs ups) (e : Evl.Ex A B) : TreeAt K C B x bs ups := by
  obtain ⟨dx, t, u, p, ps, h1, h2, h3, h4, h5⟩ := h
  exact ⟨dx, t, u, p, ps, e _ _ h1, h2.ex e, Evl.ex_t e h3, Evl.ex_t e h4, h5⟩
/-- the heap without x -/
def less (H : Hp) (x : Addr) : Hp := fun a => if a = x then none else H a
theorem less_ex (H : Hp) (x : Addr) : Evl.Ex (less H x) H := fun a o h => by
  unfold less at h
  by_cases e : a = x
  · rw [if_pos e] at h; cases h
  · rw [if_neg e] at h; exact h
theorem less_none (H : Hp) (x : Addr) : less H x x = none := if_pos rfl
theorem less_of {H : Hp} {x a : Addr} {o : HO} (h : H a = some o) (hn : a ≠ x) : less H x a = some o := by
  unfold less
  rw [if_neg hn]
  exact h
theorem less_at {H : Hp} {x a : Addr} {o : HO} (h : less H x a = some o) : a ≠ x := fun e => by
  rw [e, less_none] at h
  cases h
theorem less_upd (H : Hp) (x : Addr) (o : HO) : less (upd H x o) x = less H x := by
  funext a
  unfold less
  by_cases e : a = x
  · rw [if_pos e, if_pos e]
  · rw [if_neg e, if_neg e, upd_ne e]
theorem less_mono {A B : Hp} {x : Addr} (e : Evl.Ex A B) : Evl.Ex (less A x) (less B x) := fun a o h => less_of (e _ _ (less_ex A x _ _ h)) (less_at h)
/-- what is new between A and B, x apart, stands in B without x -/
theorem less_since {A B : Hp} {x : Addr} (hx : A x ≠ none) : Since A B (less B x) := fun a o h1 h2 => less_of h2 fun z => hx (z ▸ h1)
structure TTree (K : PySem.W.Frag) (mg : Str → Option Value) (C : Addr) : Prop where
  cl : Cls K C
  nB : NoAttr K C "bags"
  nA : NoAttr K C "above"
  nP : NoAttr K C "pieces"
  nW : NoAttr K C "width"
  mgC : mg "BagTree" = some (.ref C)
abbrev Rz (C : Addr) (H : Hp) (E : XK) (part : Str) : Prop := ∀ H1 d, Evl.Ex H H1 → H1 d = none → E (.ref C) (some d) (upd H1 d (.xd [(("part" : Str), .str part)]))
def spTreeI (K : PySem.W.Frag) (C CE : Addr) : Sp := fun vs H Q E => ∃ (x dx : Addr) (b u : V) (rb : Option (List (Option (List V)))) (ru : Option (List V)), vs = [.ref x, b, u] ∧ H x = some (.ins C dx []) ∧ In2 K (less H x) b u rb ru ∧
  (∀ s : Str, wrongV rb ru = .str s → Rz CE H E s) ∧
  (∀ bs ups, rb = some (bs.map rowV) → ru = some (ups.map uv) → TreeOk bs ups → ∀ H', Evl.Ex (less H x) (less H' x) → TreeAt K C H' x bs ups → Q .non H')
theorem wrongV_cases (rb : Option (List (Option (List V)))) (ru : Option (List V)) : wrongV rb ru = .non ∨ ∃ s : Str, wrongV rb ru = .str s := by
  unfold wrongV
  split
  · exact .inr ⟨_, rfl⟩
  split
  · exact .inr ⟨_, rfl⟩
  split
  · exact .inl rfl
  · exact .inr ⟨_, rfl⟩
theorem sqt_less {K : PySem.W.Frag} {H : Hp} {x a C dx : Addr} {fs : List (Str × V)} {xs : List V} (hx : H x = some (.ins C dx fs)) (h : SqT K H a xs) : SqT K (less H x) a xs := by
  rcases h with (h | ⟨o, h⟩) | h
  · exact .inl (.inl (less_of h fun z => by rw [z, hx] at h; cases h))
  · exact .inl (.inr ⟨o, less_of h fun z => by rw [z, hx] at h; cases h⟩)
  · exact .inr h
theorem ttu_less {K : PySem.W.Frag} {H : Hp} {x t C dx : Addr} {fs : List (Str × V)} {bs : List (List Int)} (hx : H x = some (.ins C dx fs)) (h : TTu K H t bs) : TTu K (less H x) t bs := by
  obtain ⟨as, h1, h2, h3⟩ := h
  exact ⟨as, sqt_less hx h1, h2, fun i a ns h4 h5 => sqt_less hx (h3 i a ns h4 h5)⟩
theorem row2_ints {bs : List Int} {xs : List V} {H : Hp} (h : Row2 (fun x v _ => v = V.int x) bs xs H) : xs = bs.map V.int := by
  refine List.ext_getElem? fun i => ?_
  rw [List.getElem?_map]
  rcases Nat.lt_or_ge i xs.length with h1 | h1
  · have h3 := List.getElem?_eq_getElem h1
    have h4 := List.getElem?_eq_getElem (show i < bs.length by have := h.1; omega)
    rw [h4, h3]
    exact congrArg some (h.2 i _ _ h4 h3)
  · rw [List.getElem?_eq_none h1, List.getElem?_eq_none (by have := h.1; omega)]
    rfl
section
open Evl
variable {K : PySem.W.Frag} {σ : L2.St} {B : Hp}
theorem q_fldN {ta te : TE} {tz : TS} {D : Ends} {R : V → Hp → Prop} {B H : Hp} {f : Str} (hB : Ex B H) (h : EvN te σ B R) (k : ∀ v H1, Ex H H1 → (∀ H3, Ex B H3 → Since H H1 H3 → R v H3) →
    ta σ H1 fun x H2 => ∃ a C dx fs, x = .ref a ∧ H2 a = some (.ins C dx fs) ∧ Cls K C ∧ NoAttr K C f ∧ fs.length < 1000 ∧ tz D σ (upd H2 a (.ins C dx (putF f v fs)))) : tSeq (sFld K ta te f) tz D σ H := h H hB _ k
theorem enl_mono {te : TE} {L L' : List V → Hp → Prop} (h : EvNL te σ B L) (m : ∀ xs H, L xs H → L' xs H) : EvNL te σ B L' := fun H1 e Q q =>
  h H1 e Q fun p xs H2 h1 h2 h3 h4 => q p xs H2 h1 h2 h3 fun H3 h5 h6 => m _ _ (h4 H3 h5 h6)
theorem ev_fld {ta : TE} {C x dx : Addr} {fs : List (Str × V)} {f : Str} {v : V} (h : Ev ta σ B (.ref x)) (hx : B x = some (.ins C dx fs)) (cl : Cls K C) (na : NoAttr K C f) (hl : fs.lookup f = some v) : Ev (tFld K ta f) σ B v := fun H1 e Q q =>
  h H1 e _ fun H2 e2 => ⟨x, C, dx, fs, v, rfl, e2 _ _ (e _ _ hx), cl, na, hl, q H2 e2⟩
theorem en_tupS {ta : TE} {a : Addr} {xs : List V} (h : Ev ta σ B (.ref a)) (hs : SqS K B a xs) : EvN (tCB (rTup K) (tCons ta tNil)) σ B (fun u H' => ∃ t, u = .ref t ∧ SqT K H' t xs) := fun H1 e Q q =>
  h H1 e _ fun H2 e2 => hs.elim (fun hs => ⟨a, xs, rfl, .inl ⟨Evl.ex_l (e.trans e2) hs, fun t ht => q _ _ (e2.trans (Ex.new ht)) fun H3 _ s3 => ⟨t, rfl, Evl.st_of (s3 _ _ (fresh_back e2 ht) upd_same)⟩⟩⟩)
    fun hs => ⟨a, xs, rfl, .inr ⟨Evl.ex_t (e.trans e2) hs, q _ _ e2 fun H3 h3 _ => ⟨a, rfl, Evl.ex_t h3 hs⟩⟩⟩
theorem ev_longest {ta : TE} {bs : List (List Int)} (h : EvL ta σ B ((bs.map fun ns => (ns.length : Int)).map V.int)) (h1 : 1 ≤ bs.length) : Ev (tCB (rMax K) (tCons ta tNil)) σ B (.int (longest bs : Int)) := fun H1 e Q q =>
  h H1 e _ fun p H7 hp e7 h7 => ⟨p, _, rfl, sq_of h7, by rw [List.length_map]; omega, fun m h2 h3 => by
    obtain ⟨ns, hn, rfl⟩ := List.mem_map.mp h2
    obtain ⟨ms, hm, em⟩ := longest_in h1
    have a1 := longest_le hn
    have a2 := h3 _ (List.mem_map.mpr ⟨ms, hm, rfl⟩)
    rw [show (ns.length : Int) = (longest bs : Int) from by omega]
    exact q H7 e7⟩
theorem en_tuplesB {i j : Nat} {A : Addr} {xs : List V} {bs : List (List Int)} (hs2 : σ[i]? = some (some (.ref A))) (hw : ∀ x, wipe ((wipe σ [j]).set j (some x)) [j] = wipe σ [j]) (hj : ∀ x, ((wipe σ [j]).set j (some x))[j]? = some (some x))
    (hA : SqS K B A xs) (hR : RowsB K B xs bs) (hz : bs.length ≤ 40000) : EvN (tCB (rTup K) (tCons (tLc (iEi K (tVar i)) (gName j) tYes (tCB (rTup K) (tCons (tVar j) tNil)) [j]) tNil)) σ B (fun u H' => ∃ t, u = .ref t ∧ TTu K H' t bs) := by
  have h1 : EvN (tCB (rTup K) (tCons (tLc (iEi K (tVar i)) (gName j) tYes (tCB (rTup K) (tCons (tVar j) tNil)) [j]) tNil)) σ B (fun u H' => ∃ t xs2, u = .ref t ∧ H' t = some (.tup xs2) ∧ Holds (fun i v H' => ∃ ns, bs[i]? = some ns ∧ ∃ a, v = .ref a ∧ SqT K H' a (ns.map V.int)) xs.length xs2 H') := by
    refine en_tupNL (en_lc (ei_ei (K := K) (Evl.ev_var hs2) hA) aims_at (fun _ => hw _) (by have := hR.1; omega) _ fun k hk => ?_)
    have hk2 : k < bs.length := by have := hR.1; omega
    obtain ⟨a, h1, h2⟩ := hR.2 k _ (List.getElem?_eq_getElem hk2)
    have ex : xs.getD k .non = .ref a := by rw [List.getD_eq_getElem?_getD, h1]; rfl
    exact fun H5 e5 Q q => en_tupS (K := K) (Evl.ev_is (Evl.ev_var (hj _)) ex) h2 H5 e5 Q fun v H6 e6 hv => q v H6 e6 fun H7 e7 s7 => ⟨_, List.getElem?_eq_getElem hk2, hv H7 e7 s7⟩
  exact fun H5 e5 Q q => h1 H5 e5 Q fun v H6 e6 hv => q v H6 e6 fun H7 e7 s7 => by
    obtain ⟨t, xs2, rfl, k1, k2, k3⟩ := hv H7 e7 s7
    obtain ⟨rs, rfl, r2, r3⟩ := refs_of (xs := xs2) (R := fun i a => ∃ ns, bs[i]? = some ns ∧ SqT K H7 a (ns.map V.int)) fun i v h => by
      obtain ⟨ns, h1, a, h2, h3⟩ := k3 i v h
      exact ⟨a, h2, ns, h1, h3⟩
    refine ⟨t, rfl, rs, Evl.st_of k1, by have := hR.1; omega, fun i a ns h1 h2 => ?_⟩
    obtain ⟨ns2, h3, h4⟩ := r3 i a h1
    rw [h2] at h3
    cases h3
    exact h4
end
section
variable {P : Program} {w : World} {K : PySem.W.Frag} {mg : Str → Option Value} {base : Heap}
set_option maxHeartbeats 2000000 in
theorem ok_treeI {qI : Str} {C CE f fW fE : Addr} {fd fdW : FuncData} {k : Nat} (F : Fun K "__init__" "BagTree.__init__" sTreeI f fd) (T : TTree K mg C)
    (FW : Fun K "_wrong_part" "_wrong_part" sWrong fW fdW) (GW : FnOk P w K mg base CX0 (k + 2) fW fdW ["bags", "above"] (spWrong K)) (bW : Binds K fdW ["bags", "above"] []) (gW : mg "_wrong_part" = some (.ref fW))
    (TP : PySem.PartX.PartTxt K mg "BadTree" qI CE fE) (mtup : mg "tuple" = none) (mlen : mg "len" = none) (mset : mg "set" = none) (msort : mg "sorted" = none) (mmax : mg "max" = none) :
    FnOk P w K mg base (L2.CX P w) (k + 3) f fd ["self", "bags", "above"] (spTreeI K C CE) := by
  refine F.okX scTreeI (fun vs H Q E h => ?_) (fun cdv A outer s H vs Q E hr h => ?_)
  · obtain ⟨x, dx, b, u, rb, ru, rfl, _⟩ := h
    rfl
  · obtain ⟨x, dx, b, u, rb, ru, rfl, hx, hIn, hno, hyes⟩ := h
    have nd := scTreeI.nd
    refine ⟨_, pss_cons (ps_set (i := 3) nd rfl (.inl rfl) (pe_call GW hr (by rfl) gW FW.kp bW .nil pass0 (pa_cons (pv 1) (pa_cons (pv 2) (pa_nil))))) (pss_cons (ps_if (pt_cmpR op_notN (pv 3) (pe_non) (nomark _)) (pss_one (ps_raisePart rfl TP (k := k + 2) hr (takes_of rfl rfl rfl rfl) (pa_cons (pv 3) pa_nil) (by rfl) (by decide))) pss_nil) (PSs.nox (pss_cons (ps_fld (pv 0) (pe_callTy call_tuple_of (by rfl) mtup (by decide +kernel) (pa_cons (pe_lc (own := [("bag", 4)]) (g := gName 4) (tt := tYes) (te := tCB (rTup K) (tCons (tVar 4) tNil)) rfl nd (pi_ei (pv 1)) (blkOk_by (N := nTi) (sc := defScope sTreeI) (by decide +kernel)) (fun _ _ _ _ _ => pg_name (i := 4) nd rfl (Or.inl rfl)) (fun _ _ _ _ _ => pts_nil) (fun _ _ _ _ _ => pe_callTy call_tuple_of (by rfl) mtup (by decide +kernel) (pa_cons (pv 4) (pa_nil)))) (pa_nil))) rfl) (pss_cons (ps_fld (pv 0) (pe_callTy call_tuple_of (by rfl) mtup (by decide +kernel) (pa_cons (pv 2) (pa_nil))) rfl) (pss_cons (ps_fld (pv 0) (pe_callTy call_tuple_of (by rfl) mtup (by decide +kernel) (pa_cons (pe_callB (cr_sortedSetA rfl) (by rfl) msort (by decide +kernel) (pa_cons (pe_callTy (cr_setLA rfl) (by rfl) mset (by decide +kernel) (pa_cons (pe_lc2 (own := [("bag", 4), ("piece", 5)]) (vs1 := [5]) (wi1 := iTup K (tVar 4)) (g := gName 4) (g1 := gName 5) (tt := tYes) (tt1 := tYes) (te := tVar 5) rfl nd (pi_tup (pe_fld (pv 0) rfl)) (blkOk_by (N := nTi) (sc := defScope sTreeI) (by decide +kernel)) (by decide) (fun _ _ _ _ _ => pg_name (i := 4) nd rfl (Or.inl rfl)) (fun _ _ _ _ _ => pts_nil) (fun _ _ _ _ _ => pi_tup (pv 4)) (fun _ _ _ _ _ => pg_name (i := 5) nd rfl (Or.inl rfl)) (fun _ _ _ _ _ => pts_nil) (fun _ _ _ _ _ => pv 5)) (pa_nil))) (pa_nil))) (pa_nil))) rfl) (pss_one (ps_fld (pv 0) (pe_callB (call_max2 rfl) (by rfl) mmax (by decide +kernel) (pa_cons (pe_int) (pa_cons (pe_op op_sub (pe_callB (cr_max rfl) (by rfl) mmax (by decide +kernel) (pa_cons (pe_lc (own := [("bag", 4)]) (g := gName 4) (tt := tYes) (te := tCB (Evl.rLenS K) (tCons (tVar 4) tNil)) rfl nd (pi_tup (pe_fld (pv 0) rfl)) (blkOk_by (N := nTi) (sc := defScope sTreeI) (by decide +kernel)) (fun _ _ _ _ _ => pg_name (i := 4) nd rfl (Or.inl rfl)) (fun _ _ _ _ _ => pts_nil) (fun _ _ _ _ _ => pe_callB call_len_seq (by rfl) mlen PySem.boot_len (pa_cons (pv 4) (pa_nil)))) (pa_nil))) (pe_int)) (pa_nil)))) rfl))))))), ?_⟩
    refine Evl.q_asg (Evl.ev_call (vs := [b, u]) (Evl.ea_cons (Evl.ev_var rfl) (Evl.ea_cons (Evl.ev_var rfl) Evl.ea_nil)) (spv_wrong (hIn.ex (less_ex H x)))) fun H1 e1 => ?_
    have hx1 := e1 _ _ hx
    try dsimp only [List.set_cons_zero, List.set_cons_succ]
    refine Evl.q_when (b := !decide (wrongV rb ru = .non)) (Evl.et_test (Evl.ev_op (Evl.ev_var rfl) Evl.ev_c fun H2 e2 Q q => ⟨rfl, q H2 (Evl.Ex.refl _)⟩)) (fun hb H2 e2 => ?_) fun hb H2 e2 => ?_
    · rw [Bool.not_eq_true'] at hb
      rcases wrongV_cases rb ru with h | ⟨s, h⟩
      · exact absurd h (of_decide_eq_false hb)
      · exact ⟨.str s, by rw [← h] <;> rfl, .str s, rfl, fun d hd => hno s h H2 d (e1.trans e2) hd⟩
    rw [Bool.not_eq_false'] at hb
    obtain ⟨bs, ups, rfl, rfl, hT⟩ := wrong_none (of_decide_eq_true hb)
    have q := hyes bs ups rfl rfl hT
    obtain ⟨A, U, xs, rfl, rfl, hZ, hR, hsz⟩ := hIn.rows hT.n1
    have n2 := hT.n2
    have hx2 := e2 _ _ hx1
    have sA : ∀ {G : Hp}, ZipOk K G A U xs (ups.map uv) → SqS K G A xs := fun h => h.elim (fun h => .inl h.1) fun h => h.1
    have sU : ∀ {G : Hp}, ZipOk K G A U xs (ups.map uv) → SqS K G U (ups.map uv) := fun h => h.elim (fun h => .inl h.2) fun h => .inr h.2
    have l2 : Evl.Ex (less H x) (less H2 x) := less_mono (e1.trans e2)
    have hb2 : Evl.Ex (less H2 x) H2 := less_ex H2 x
    -- self.bags
    refine q_fldN (B := H2) (Evl.Ex.refl _) (en_tuplesB (K := K) (i := 1) (j := 4) rfl (fun _ => rfl) (fun _ => rfl) (sA (hZ.ex (l2.trans hb2))) (hR.ex (l2.trans hb2)) (by omega)) fun v H3 e3 hv => ?_
    obtain ⟨t, rfl, tt⟩ := hv H3 e3 fun _ _ _ h => h
    have hx3 := e3 _ _ hx2
    refine ⟨_, rfl, x, C, dx, [], rfl, hx3, T.cl, T.nB, (by show 0 < 1000; decide), ?_⟩
    have tt3 := ttu_less hx3 tt
    have l3 : Evl.Ex (less H x) (less (upd H3 x (.ins C dx (putF "bags" (.ref t) []))) x) := by rw [less_upd]; exact l2.trans (less_mono e3)
    rw [← less_upd H3 x (.ins C dx (putF "bags" (.ref t) []))] at tt3
    generalize hG : upd H3 x (.ins C dx (putF "bags" (.ref t) [])) = G at l3 tt3 ⊢
    have hxG : G x = some (.ins C dx (putF "bags" (.ref t) [])) := by rw [← hG]; exact upd_same
    -- self.above
    refine q_fldN (B := G) (Evl.Ex.refl _) (en_tupS (K := K) (Evl.ev_var rfl) (sU (hZ.ex (l3.trans (less_ex G x))))) fun v H4 e4 hv => ?_
    obtain ⟨ua, rfl, ta⟩ := hv H4 e4 fun _ _ _ h => h
    have hx4 := e4 _ _ hxG
    refine ⟨_, rfl, x, C, dx, _, rfl, hx4, T.cl, T.nA, (by show 1 < 1000; decide), ?_⟩
    have ta4 := sqt_less hx4 ta
    have tt4 := tt3.ex (less_mono (x := x) e4)
    have l4 := l3.trans (less_mono (x := x) e4)
    rw [← less_upd H4 x (.ins C dx (putF "above" (.ref ua) (putF "bags" (.ref t) [])))] at ta4 tt4 l4
    generalize hG2 : upd H4 x (.ins C dx (putF "above" (.ref ua) (putF "bags" (.ref t) []))) = G2 at l4 tt4 ta4 ⊢
    have hxG2 : G2 x = some (.ins C dx (putF "above" (.ref ua) (putF "bags" (.ref t) []))) := by rw [← hG2]; exact upd_same
    obtain ⟨as, ht, hal, hrow⟩ := tt4.ex (less_ex G2 x)
    have hself : Evl.Ev (tVar 0) ((start nTi [V.ref x, .ref A, .ref U]).set 3 (some (wrongV (some (bs.map rowV)) (some (ups.map uv))))) G2 (.ref x) := Evl.ev_var rfl
    have hmap : (as.map V.ref).length = bs.length := by rw [List.length_map, hal]
    have item : ∀ i, i < bs.length → ∃ a, (as.map V.ref).getD i .non = .ref a ∧ SqT K G2 a ((bs.getD i []).map V.int) := fun i hi => by
      have h1 := List.getElem?_eq_getElem (show i < as.length by omega)
      refine ⟨_, by rw [List.getD_eq_getElem?_getD, List.getElem?_map, h1]; rfl, ?_⟩
      rw [List.getD_eq_getElem?_getD, List.getElem?_eq_getElem hi]
      exact hrow i _ _ h1 (List.getElem?_eq_getElem hi)
    -- self.pieces
    refine q_fldN (B := G2) (Evl.Ex.refl _) (en_tupSet (K := K) (L := fun xs _ => xs = bs.flatten.map V.int) (enl_mono (en_lc2 (n := bs.length) (m := fun i => (bs.getD i []).length) (f := fun _ _ => true) (b := fun i j => (bs.getD i []).getD j 0) (Rb := fun x v _ => v = .int x) (s := fun i σ => σ.set 4 (some ((as.map V.ref).getD i .non))) (s1 := fun i j σ => σ.set 5 (some (((bs.getD i []).map V.int).getD j .non)))
      (Y := YAt (as.map V.ref)) (Y1 := fun i => YAt ((bs.getD i []).map V.int)) ?_ ?_ (fun _ => rfl) (fun i hi => ?_) (fun i => ?_) (fun _ _ => rfl) (fun i j _ _ => et_yes) (fun i j hi hj _ => ?_) ?_) fun xs H' h => row2_ints (rows_flat bs ▸ h)) fun xs H' _ h => ⟨bs.flatten, h, ?_⟩) fun v H5 e5 hv => ?_
    · have := ei_tup (K := K) (ev_fld hself hxG2 T.cl T.nB (by rw [lookup_putF, if_neg kBA, lookup_putF, if_pos rfl])) ht
      rw [hmap] at this
      exact this
    · have := aims_at (xs := as.map V.ref) (j := 4)
      rw [hmap] at this
      exact this
    · obtain ⟨a, ea, haH⟩ := item i hi
      have := ei_tup (K := K) (σ := wipe ((wipe ((start nTi [V.ref x, .ref A, .ref U]).set 3 (some (wrongV (some (bs.map rowV)) (some (ups.map uv))))) [4, 5]).set 4 (some ((as.map V.ref).getD i .non))) [5]) (H := G2) (tl := tVar 4) (xs := (bs.getD i []).map V.int) (Evl.ev_is (Evl.ev_var rfl) ea) haH
      rw [List.length_map] at this
      exact this
    · have := aims_at (xs := (bs.getD i []).map V.int) (j := 5)
      rw [List.length_map] at this
      exact this
    · exact en_v (Evl.ev_is (Evl.ev_var rfl) (gd_int hj))
    · rw [rows_flat, List.length_flatten]
      omega
    · rw [List.length_flatten]
      omega
    obtain ⟨pa, ns, ps, rfl, p1, p2, p3, p4⟩ := hv H5 e5 fun _ _ _ h => h
    have p1 := ints_inj p1
    subst p1
    have hx5 := e5 _ _ hxG2
    refine ⟨_, rfl, x, C, dx, _, rfl, hx5, T.cl, T.nP, (by show 2 < 1000; decide), ?_⟩
    have pp5 := sqt_less (K := K) hx5 (Evl.st_of p2)
    have tt5 := tt4.ex (less_mono (x := x) e5)
    have ta5 := Evl.ex_t (less_mono (x := x) e5) ta4
    have l5 := l4.trans (less_mono (x := x) e5)
    rw [← less_upd H5 x (.ins C dx (putF "pieces" (.ref pa) (putF "above" (.ref ua) (putF "bags" (.ref t) []))))] at ta5 tt5 l5 pp5
    generalize hG3 : upd H5 x (.ins C dx (putF "pieces" (.ref pa) (putF "above" (.ref ua) (putF "bags" (.ref t) [])))) = G3 at l5 tt5 ta5 pp5 ⊢
    have hxG3 : G3 x = some (.ins C dx (putF "pieces" (.ref pa) (putF "above" (.ref ua) (putF "bags" (.ref t) [])))) := by rw [← hG3]; exact upd_same
    obtain ⟨as3, ht3, hal3, hrow3⟩ := tt5.ex (less_ex G3 x)
    have hself3 : Evl.Ev (tVar 0) (wipe ((start nTi [V.ref x, .ref A, .ref U]).set 3 (some (wrongV (some (bs.map rowV)) (some (ups.map uv))))) []) G3 (.ref x) := Evl.ev_var rfl
    -- self.width
    have hmap3 : (as3.map V.ref).length = bs.length := by rw [List.length_map, hal3]
    have item3 : ∀ (i : Nat) (v : V), (as3.map V.ref)[i]? = some v → ∃ (a : Addr) (ns : List Int), v = .ref a ∧ bs[i]? = some ns ∧ SqT K G3 a (ns.map V.int) := fun i v h => by
      rw [List.getElem?_map] at h
      obtain ⟨a, h1, rfl⟩ := Option.map_eq_some_iff.mp h
      have h2 := List.getElem?_eq_getElem (show i < bs.length by have := (List.getElem?_eq_some_iff.mp h1).1; omega)
      exact ⟨a, _, rfl, h2, hrow3 i a _ h1 h2⟩
    have hlens : Evl.EvL (tLc (iTup K (tFld K (tVar 0) "bags")) (gName 4) tYes (tCB (Evl.rLenS K) (tCons (tVar 4) tNil)) [4]) ((start nTi [V.ref x, .ref A, .ref U]).set 3 (some (wrongV (some (bs.map rowV)) (some (ups.map uv))))) G3 ((bs.map fun ns => (ns.length : Int)).map V.int) := by
      have := el_lcT (K := K) (σ := (start nTi [V.ref x, .ref A, .ref U]).set 3 (some (wrongV (some (bs.map rowV)) (some (ups.map uv))))) (H := G3) (j := 4) (vs := [4]) (t := tYes) (te := tCB (Evl.rLenS K) (tCons (tVar 4) tNil)) (xs := as3.map V.ref) (fun _ => true) (fun i => .int ((bs.getD i []).length : Int)) (ev_fld (Evl.ev_var (i := 0) rfl) hxG3 T.cl T.nB (by rw [lookup_putF, if_neg kBP, lookup_putF, if_neg kBA, lookup_putF, if_pos rfl])) ht3 (by omega) (fun _ => rfl) (fun _ _ _ _ _ => et_yes) fun i v H6 e6 hv _ => by
        obtain ⟨a, ns, rfl, h1, h2⟩ := item3 i v hv
        have := ev_lenB (K := K) (σ := (wipe ((start nTi [V.ref x, .ref A, .ref U]).set 3 (some (wrongV (some (bs.map rowV)) (some (ups.map uv))))) [4]).set 4 (some (.ref a))) (H := H6) (Evl.ev_var (i := 4) rfl) (.inr (Evl.ex_t e6 h2))
        rw [List.length_map] at this
        rw [List.getD_eq_getElem?_getD, h1]
        exact this
      rw [hmap3] at this
      have eL : Evl.given bs.length (fun _ => true) (fun i => V.int ((bs.getD i []).length : Int)) = (bs.map fun ns => (ns.length : Int)).map V.int := ?_
      · rw [eL] at this
        exact this
      unfold Evl.given
      rw [List.filter_eq_self.mpr fun _ _ => rfl, List.map_map]
      refine List.ext_getElem (by simp) fun i h1 h2 => ?_
      have hi : i < bs.length := by simpa using h1
      rw [List.getElem_map, List.getElem_range, List.getElem_map, List.getD_eq_getElem?_getD, List.getElem?_eq_getElem hi]
      rfl
    have hmax : Evl.Ev (tCB (rMax K) (tCons (tLc (iTup K (tFld K (tVar 0) "bags")) (gName 4) tYes (tCB (Evl.rLenS K) (tCons (tVar 4) tNil)) [4]) tNil)) ((start nTi [V.ref x, .ref A, .ref U]).set 3 (some (wrongV (some (bs.map rowV)) (some (ups.map uv))))) G3 (.int (longest bs : Int)) := ev_longest hlens hT.n1
    refine Evl.ev_max2 (Evl.ev_c) (Evl.ev_op hmax Evl.ev_c Evl.rv_I0) G3 (Evl.Ex.refl _) _ fun H6 e6 => ?_
    have hx6 := e6 _ _ hxG3
    refine ⟨_, rfl, x, C, dx, _, rfl, hx6, T.cl, T.nW, (by show 3 < 1000; decide), ?_⟩
    refine q _ (by rw [less_upd]; exact l5.trans (less_mono (x := x) e6)) ?_
    have lx : Evl.Ex (less G3 x) (upd H6 x (.ins C dx (putF "width" (.int (widthV bs)) (putF "pieces" (.ref pa) (putF "above" (.ref ua) (putF "bags" (.ref t) [])))))) := (((less_ex G3 x).trans e6).mut (less_none G3 x))
    have ew : (if (longest bs : Int) - 1 > 0 then (longest bs : Int) - 1 else 0) = widthV bs := by
      unfold widthV
      split <;> omega
    rw [ew]
    exact ⟨dx, t, ua, pa, ps, upd_same, tt5.ex lx, Evl.ex_t lx ta5, Evl.ex_t lx pp5, p3, fun k => (p4 k).trans ⟨fun h => by
      obtain ⟨ns, h1, h2⟩ := List.mem_flatten.mp h
      exact ⟨ns, h1, h2⟩, fun ⟨ns, h1, h2⟩ => List.mem_flatten.mpr ⟨ns, h1, h2⟩⟩⟩
end
end P41
end S_Bak
section S_Bal
namespace P41
open PySem PySem.Spec PyProof.Rows L2 Tl Hk RZ EnL
/-! ### trees of bags compared -/
def dT (ts : List (List Int)) : PyData := .tuple (ts.map fun ns => .tuple (ns.map PyData.int))
theorem dT_lay : ∀ ts : List (List Int), PyData.canLayAll0 (ts.map fun ns => .tuple (ns.map PyData.int)) = true
  | [] => rfl
  | ns :: r => by
    show (PyData.canLay0 (.tuple (ns.map PyData.int)) && PyData.canLayAll0 (r.map fun ns => .tuple (ns.map PyData.int))) = true
    rw [dT_lay r, Bool.and_true]
    exact PySem.W.ke_canLayAll0 ns
theorem dT_deep : ∀ ts : List (List Int), PyData.depthAll (ts.map fun ns => .tuple (ns.map PyData.int)) ≤ 1
  | [] => Nat.zero_le _
  | ns :: r => by
    show max (PyData.depth (.tuple (ns.map PyData.int))) (PyData.depthAll (r.map fun ns => .tuple (ns.map PyData.int))) ≤ 1
    have h1 : PyData.depth (.tuple (ns.map PyData.int)) = 1 := by
      show PyData.depthAll (ns.map PyData.int) + 1 = 1
      rw [PySem.W.ke_depthAll]
    have := dT_deep r
    omega
theorem dT_shaped (ts : List (List Int)) : SeqAt.shaped (dT ts) = true := by
  unfold SeqAt.shaped
  rw [Bool.and_eq_true_iff]
  refine ⟨dT_lay ts, decide_eq_true ?_⟩
  show PyData.depthAll (ts.map fun ns => .tuple (ns.map PyData.int)) + 1 ≤ 64
  have := dT_deep ts
  omega
theorem dpAll_of {K : PySem.W.Frag} {H : Hp} : ∀ {vs : List V} {ds : List PyData}, vs.length = ds.length → (∀ (i : Nat) (v : V) (d : PyData), vs[i]? = some v → ds[i]? = some d → Dp K H v d) → DpAll K H vs ds
  | [], [], _, _ => .nil
  | v :: vs, d :: ds, hl, h => .cons (h 0 v d rfl rfl) (dpAll_of (by simpa using hl) fun i v d h1 h2 => h (i + 1) v d (by simpa using h1) (by simpa using h2))
theorem dpa_ints {K : PySem.W.Frag} {H : Hp} : ∀ ns : List Int, DpAll K H (ns.map V.int) (ns.map PyData.int)
  | [] => .nil
  | n :: r => .cons (.int n) (dpa_ints r)
theorem TTu.dp {K : PySem.W.Frag} {H : Hp} {t : Addr} {ts : List (List Int)} (h : TTu K H t ts) : Dp K H (.ref t) (dT ts) := by
  obtain ⟨as, h1, h2, h3⟩ := h
  refine .tup h1 (dpAll_of (by simp [h2]) fun i v d hv hd => ?_)
  rw [List.getElem?_map] at hv hd
  cases ha : as[i]? with
  | none => rw [ha] at hv; cases hv
  | some a =>
    cases hn : ts[i]? with
    | none => rw [hn] at hd; cases hd
    | some ns =>
      rw [ha] at hv
      rw [hn] at hd
      cases hv
      cases hd
      exact .tup (h3 i a ns ha hn) (dpa_ints ns)
theorem eqv_rowI (ns ms : List Int) : PyData.eqv (.tuple (ns.map PyData.int)) (.tuple (ms.map PyData.int)) = decide (ns = ms) := PySem.W.Datum.eqv (α := List Int) ns ms
theorem eqv_dT : ∀ ts us : List (List Int), PyData.eqv (dT ts) (dT us) = decide (ts = us)
  | [], [] => rfl
  | [], _ :: _ => rfl
  | _ :: _, [] => rfl
  | t :: ts, u :: us => by
    have h : PyData.eqv (dT (t :: ts)) (dT (u :: us)) = (PyData.eqv (.tuple (t.map PyData.int)) (.tuple (u.map PyData.int)) && PyData.eqv (dT ts) (dT us)) := rfl
    refine h.trans ?_
    rw [eqv_rowI, eqv_dT ts us]
    by_cases a : t = u <;> by_cases b : ts = us <;> simp [a, b]
/-- what is above, as data -/
def uD : Option Nat → PyData
  | none => .none
  | some j => .int (j : Int)
def dU (us : List (Option Nat)) : PyData := .tuple (us.map uD)
theorem uD_eqv : ∀ a b : Option Nat, PyData.eqv (uD a) (uD b) = decide (a = b)
  | none, none => rfl
  | none, some _ => rfl
  | some _, none => rfl
  | some i, some j => by
    show decide ((i : Int) = (j : Int)) = decide (some i = some j)
    exact decide_eq_decide.mpr ⟨fun h => by rw [Int.ofNat.inj h], fun h => by rw [Option.some.inj h]⟩
theorem eqv_dU : ∀ ts us : List (Option Nat), PyData.eqv (dU ts) (dU us) = decide (ts = us)
  | [], [] => rfl
  | [], _ :: _ => rfl
  | _ :: _, [] => rfl
  | t :: ts, u :: us => by
    have h : PyData.eqv (dU (t :: ts)) (dU (u :: us)) = (PyData.eqv (uD t) (uD u) && PyData.eqv (dU ts) (dU us)) := rfl
    refine h.trans ?_
    rw [uD_eqv, eqv_dU ts us]
    by_cases a : t = u <;> by_cases b : ts = us <;> simp [a, b]
theorem dU_lay : ∀ us : List (Option Nat), PyData.canLayAll0 (us.map uD) = true
  | [] => rfl
  | none :: r => by
    show (true && PyData.canLayAll0 (r.map uD)) = true
    rw [dU_lay r]
    rfl
  | some j :: r => by
    show (true && PyData.canLayAll0 (r.map uD)) = true
    rw [dU_lay r]
    rfl
theorem dU_deep : ∀ us : List (Option Nat), PyData.depthAll (us.map uD) = 0
  | [] => rfl
  | none :: r => by
    show max 0 (PyData.depthAll (r.map uD)) = 0
    rw [dU_deep r]
    rfl
  | some j :: r => by
    show max 0 (PyData.depthAll (r.map uD)) = 0
    rw [dU_deep r]
    rfl
theorem dU_shaped (us : List (Option Nat)) : SeqAt.shaped (dU us) = true := by
  unfold SeqAt.shaped
  rw [Bool.and_eq_true_iff]
  refine ⟨dU_lay us, decide_eq_true ?_⟩
  show PyData.depthAll (us.map uD) + 1 ≤ 64
  rw [dU_deep us]
  omega
theorem dpa_us {K : PySem.W.Frag} {H : Hp} : ∀ us : List (Option Nat), DpAll K H (us.map uv) (us.map uD)
  | [] => .nil
  | none :: r => .cons .non (dpa_us r)
  | some j :: r => .cons (.int (j : Int)) (dpa_us r)
/-- what isinstance asks of the class -/
structure TIns (K : PySem.W.Frag) (C : Addr) : Prop where
  ha : PySem.W.findIn K (.ref C) "__class__" = some (some (.builtin "object.__class__"))
  hn : PySem.W.specialIn K (.builtin "object.__class__") "__get__" = some (some (.builtin "getset_descriptor.__get__"))
  ht : PySem.W.takesIn K (.builtin "object.__class__") = some true
  hm : PySem.W.mroIn K C (.type "object") = some true
  kit : PySem.W.kitOne K (.ref C) (.ref C) = some true
  kL : PySem.W.kitOne K (.type "list") (.ref C) = some false
  kT : PySem.W.kitOne K (.type "tuple") (.ref C) = some false
theorem rc_tree {K : PySem.W.Frag} {mg : Str → Option Value} {C : Addr} {H : Hp} {x : Addr} {bs : List (List Int)} {ups : List (Option Nat)} (T : TTree K mg C) (I : TIns K C) (h : TreeAt K C H x bs ups) : Evl.RC (rIsi K) [.ref x, .ref C] H (.bl true) := fun H1 e _ q => by
  obtain ⟨dx, _, _, _, _, h1, _⟩ := h.ex e
  exact ⟨.ref x, .ref C, .ref C, .ref C, true, rfl, .own C, .base (.ins h1 T.cl I.ha I.hn I.ht I.hm), I.kit, q H1 (Evl.Ex.refl H1)⟩
theorem rc_notTree {K : PySem.W.Frag} {C : Addr} {H : Hp} {x : Addr} {xs : List V} (I : TIns K C) (h : SqS K H x xs) : Evl.RC (rIsi K) [.ref x, .ref C] H (.bl false) := fun H1 e _ q => by
  rcases h.ex e with h | h
  · exact ⟨.ref x, .ref C, .type "list", .ref C, false, rfl, .own C, (Ty7.lst h).tyx, I.kL, q H1 (Evl.Ex.refl H1)⟩
  · exact ⟨.ref x, .ref C, .type "tuple", .ref C, false, rfl, .own C, (Ty7.tup h).tyx, I.kT, q H1 (Evl.Ex.refl H1)⟩
theorem scTreeE : FnScope ["self", "other"] ["self", "other"] (defScope sTreeE) := ⟨rfl, rfl, rfl, by decide +kernel, rfl, by decide +kernel, by decide +kernel⟩
def spEqT (K : PySem.W.Frag) (C : Addr) : Sp := fun vs H Q _ => ∃ (x y : Addr) (bs : List (List Int)) (us : List (Option Nat)), vs = [.ref x, .ref y] ∧ TreeAt K C H x bs us ∧
  ((∃ cs ws, TreeAt K C H y cs ws ∧ ∀ H1, Evl.Ex H H1 → Q (.bl (decide (bs = cs) && decide (us = ws))) H1) ∨ (∃ xs, SqS K H y xs ∧ ∀ H1, Evl.Ex H H1 → Q (.bl false) H1))
section
variable {P : Program} {w : World} {K : PySem.W.Frag} {mg : Str → Option Value} {base : Heap}
theorem ok_treeE {C f : Addr} {fd : FuncData} {k : Nat} (F : Fun K "__eq__" "BagTree.__eq__" sTreeE f fd) (T : TTree K mg C) (I : TIns K C) (mi : mg "isinstance" = none) :
    FnOk P w K mg base CX0 (k + 1) f fd ["self", "other"] (spEqT K C) := by
  refine F.ok scTreeE (fun vs H Q E h => ?_) (fun cdv A outer s H vs Q E hr h => ?_)
  · obtain ⟨x, y, bs, us, rfl, _⟩ := h
    rfl
  · obtain ⟨x, y, bs, us, rfl, ha, h⟩ := h
    refine ⟨_, pss_one (ps_ret (pe_and (pe_callB call_isi (by rfl) mi (by decide +kernel) (pa_cons (pv 1) (pa_cons (pe_glob (v := .ref C) (by rfl) T.mgC rfl) pa_nil))) (pe_and (pe_cmpR (op_eqD hr.units) (pe_fld (pv 0) rfl) (pe_fld (pv 1) rfl) (nomark _)) (pe_one (pe_cmpR (op_eqD hr.units) (pe_fld (pv 0) rfl) (pe_fld (pv 1) rfl) (nomark _)))))), ?_⟩
    obtain ⟨da, ta, ua, pa, psa, a1, a2, a3, a4, a5⟩ := id ha
    rcases h with ⟨cs, ws, hb, q⟩ | ⟨xs, hb, q⟩
    · have isw : Evl.Ev (tCB (rIsi K) (tCons (tVar 1) (tCons (tC (.ref C)) tNil))) (start ["self", "other"] [.ref x, .ref y]) H (.bl true) := Evl.ev_cb (Evl.ea_cons (Evl.ev_var rfl) (Evl.ea_cons Evl.ev_c Evl.ea_nil)) (rc_tree T I hb)
      obtain ⟨db, tb, ub, pb, psb, b1, b2, b3, b4, b5⟩ := id hb
      refine Evl.s_ret (v := .bl (decide (bs = cs) && decide (us = ws))) (Evl.ev_is (Evl.ev_andV (a := true) (b := decide (bs = cs) && decide (us = ws)) isw fun _ => Evl.ev_andV (a := decide (bs = cs)) (b := decide (us = ws)) ?_ fun _ => ?_) (by rw [Bool.true_and])) fun H1 e1 => q H1 e1
      · refine Evl.ev_op (ev_fld (Evl.ev_var rfl) a1 T.cl T.nB (bf_b _ _ _ _)) (ev_fld (Evl.ev_var rfl) b1 T.cl T.nB (bf_b _ _ _ _)) fun H2 e2 Q q => ⟨dT bs, dT cs, (a2.ex e2).dp, (b2.ex e2).dp, dT_shaped bs, dT_shaped cs, ?_⟩
        rw [eqv_dT]
        exact q H2 (Evl.Ex.refl H2)
      · refine Evl.ev_op (ev_fld (Evl.ev_var rfl) a1 T.cl T.nA (bf_a _ _ _ _)) (ev_fld (Evl.ev_var rfl) b1 T.cl T.nA (bf_a _ _ _ _)) fun H2 e2 Q q => ⟨dU us, dU ws, .tup (Evl.ex_t e2 a3) (dpa_us us), .tup (Evl.ex_t e2 b3) (dpa_us ws), dU_shaped us, dU_shaped ws, ?_⟩
        rw [eqv_dU]
        exact q H2 (Evl.Ex.refl H2)
    · have isw : Evl.Ev (tCB (rIsi K) (tCons (tVar 1) (tCons (tC (.ref C)) tNil))) (start ["self", "other"] [.ref x, .ref y]) H (.bl false) := Evl.ev_cb (Evl.ea_cons (Evl.ev_var rfl) (Evl.ea_cons Evl.ev_c Evl.ea_nil)) (rc_notTree I hb)
      exact Evl.s_ret (v := .bl false) (Evl.ev_is (Evl.ev_andV (a := false) (b := true) isw fun z => nomatch z) rfl) fun H1 e1 => q H1 e1
end
end P41
end S_Bal
section S_Rm
namespace Hk
open PySem PySem.Spec PyProof.Rows L2 Tl PySem.SeqAt
/-! ### a list of whatever items, against [] -/
def rNil (K : PySem.W.Frag) (neg : Bool) : R2 := fun x y H Q => ∃ a b xs, x = .ref a ∧ y = .ref b ∧ SqL K H a xs ∧ SqL K H b [] ∧ Q (.bl (xs.isEmpty != neg)) H
section
variable {X : Cx}
theorem op_eqNil (hu : X.A.units + 64 < cLine) : OpR X (compareOp .Eq) (rNil X.K false) := by
  intro pins s σ H x y v u Q I rx ry h
  obtain ⟨a, b, xs, rfl, rfl, ha, hb, q⟩ := h
  cases (show v = Value.ref a from rx)
  cases (show u = Value.ref b from ry)
  obtain ⟨its, r, pl, _⟩ := I.list ha
  obtain ⟨its2, r2, pl2, _⟩ := I.list hb
  cases r2
  show wpAny (model X.prog X.w) X.A (richCompare .Eq (.ref a) (.ref b)) (EP X pins σ Q) X.xe s
  cases r with
  | nil => exact RcAt.lists (e := fun _ => true) pl.isList pl2.isList rfl (by omega) (fun j h1 _ => absurd h1 (Nat.not_lt_zero _)) X.prog X.w X.xe _ ⟨.bl _, H, I, rfl, q⟩
  | cons h t => exact RcAt.lists_lengths pl.isList pl2.isList (by simp) (by omega) X.prog X.w X.xe _ ⟨.bl _, H, I, rfl, q⟩
theorem op_neNil (hu : X.A.units + 64 < cLine) : OpR X (compareOp .NotEq) (rNil X.K true) := by
  intro pins s σ H x y v u Q I rx ry h
  obtain ⟨a, b, xs, rfl, rfl, ha, hb, q⟩ := h
  cases (show v = Value.ref a from rx)
  cases (show u = Value.ref b from ry)
  obtain ⟨its, r, pl, _⟩ := I.list ha
  obtain ⟨its2, r2, pl2, _⟩ := I.list hb
  cases r2
  show wpAny (model X.prog X.w) X.A (richCompare .NotEq (.ref a) (.ref b)) (EP X pins σ Q) X.xe s
  cases r with
  | nil => exact RcNeAt.lists (e := fun _ => true) pl.isList pl2.isList rfl (by omega) (fun j h1 _ => absurd h1 (Nat.not_lt_zero _)) X.prog X.w X.xe _ ⟨.bl _, H, I, rfl, q⟩
  | cons h t => exact RcNeAt.lists_lengths pl.isList pl2.isList (by simp) (by omega) X.prog X.w X.xe _ ⟨.bl _, H, I, rfl, q⟩
end
section
open Evl
variable {K : PySem.W.Frag} {σ : L2.St} {H : Hp} {ta tb : TE}
theorem ev_nil {xs : List V} {neg : Bool} (ha : EvL ta σ H xs) : Ev (tOp (rNil K neg) ta (tLst tNil)) σ H (.bl (xs.isEmpty != neg)) := fun H1 e Q q =>
  ha H1 e _ fun p H2 _ e2 h2 => (el_lst (vs := []) ea_nil (Nat.zero_le _)) H2 (e.trans e2) _ fun z H4 hz e4 h4 => ⟨p, z, xs, rfl, rfl, sq_of (e4 _ _ h2), sq_of h4, q H4 (e2.trans e4)⟩

end
end Hk
end S_Rm
section S_Bam
namespace P41
open PySem PySem.Spec PyProof.Rows L2 Tl Hk RZ EnL
/-! ### climbing: from one bag to the one above it -/
def up1 (ups : List (Option Nat)) : Option Nat → Option Nat
  | none => none
  | some i => ups.getD i none
def climb (ups : List (Option Nat)) : Nat → Option Nat → Option Nat
  | 0, o => o
  | n + 1, o => up1 ups (climb ups n o)
theorem climb_none (ups : List (Option Nat)) : ∀ n, climb ups n none = none
  | 0 => rfl
  | n + 1 => by rw [climb, climb_none ups n]; rfl
theorem climb_add (ups : List (Option Nat)) (a : Nat) (o : Option Nat) : ∀ b, climb ups (a + b) o = climb ups b (climb ups a o)
  | 0 => rfl
  | b + 1 => by
    show up1 ups (climb ups (a + b) o) = up1 ups (climb ups b (climb ups a o))
    rw [climb_add ups a o b]
theorem climb_le {ups : List (Option Nat)} {a b : Nat} {o : Option Nat} (h : climb ups a o = none) (hl : a ≤ b) : climb ups b o = none := by
  obtain ⟨c, rfl⟩ := Nat.exists_eq_add_of_le hl
  rw [climb_add, h, climb_none]
theorem top_climb {ups : List (Option Nat)} {i : Nat} (h : Top ups i) : ∃ n, climb ups n (some i) = none := by
  induction h with
  | @top i h => exact ⟨1, by show up1 ups (some i) = none; show ups.getD i none = none; rw [List.getD_eq_getElem?_getD, h]; rfl⟩
  | @up i j h _ ih =>
    obtain ⟨n, hn⟩ := ih
    refine ⟨1 + n, ?_⟩
    rw [climb_add]
    have : climb ups 1 (some i) = some j := by
      show ups.getD i none = some j
      rw [List.getD_eq_getElem?_getD, h]
      rfl
    rw [this, hn]
theorem climb_top {ups : List (Option Nat)} (hin : ∀ (i j : Nat), ups[i]? = some (some j) → j < ups.length) : ∀ (n i : Nat), i < ups.length → climb ups n (some i) = none → Top ups i
  | 0, i, _, h => nomatch h
  | n + 1, i, hi, h => by
    rw [show n + 1 = 1 + n by omega, climb_add] at h
    have hu := List.getElem?_eq_getElem hi
    have e : climb ups 1 (some i) = ups[i] := by
      show ups.getD i none = ups[i]
      rw [List.getD_eq_getElem?_getD, hu]
      rfl
    rw [e] at h
    cases hc : ups[i] with
    | none => exact .top (by rw [hu, hc])
    | some j =>
      rw [hc] at h
      exact .up (by rw [hu, hc]) (climb_top hin n j (hin i j (by rw [hu, hc])) h)
theorem least_n {p : Nat → Prop} (hd : ∀ n, p n ∨ ¬ p n) : ∀ n, p n → ∃ m, m ≤ n ∧ p m ∧ ∀ k, k < m → ¬ p k
  | 0, h => ⟨0, Nat.le_refl _, h, fun k hk => absurd hk (Nat.not_lt_zero _)⟩
  | n + 1, h => by
    by_cases hz : ∃ k, k < n + 1 ∧ p k
    · obtain ⟨k, hk, hp⟩ := hz
      have key : ∀ j, j ≤ n → p j → ∃ m, m ≤ j ∧ p m ∧ ∀ k, k < m → ¬ p k := by
        intro j
        induction j using Nat.strongRecOn with
        | _ j ih =>
          intro hj hpj
          by_cases hy : ∃ l, l < j ∧ p l
          · obtain ⟨l, hl, hpl⟩ := hy
            obtain ⟨m, h1, h2, h3⟩ := ih l hl (by omega) hpl
            exact ⟨m, by omega, h2, h3⟩
          · exact ⟨j, Nat.le_refl _, hpj, fun k hk hpk => hy ⟨k, hk, hpk⟩⟩
      obtain ⟨m, h1, h2, h3⟩ := key k (by omega) hp
      exact ⟨m, by omega, h2, h3⟩
    · exact ⟨n + 1, Nat.le_refl _, h, fun k hk hp => hz ⟨k, hk, hp⟩⟩
/-- many steps are enough -/
theorem climb_enough {ups : List (Option Nat)} (hin : ∀ (i j : Nat), ups[i]? = some (some j) → j < ups.length) {i : Nat} (hi : i < ups.length) (h : Top ups i) : climb ups ups.length (some i) = none := by
  obtain ⟨n0, hn0⟩ := top_climb h
  obtain ⟨h0, _, h1, h2⟩ := least_n (p := fun n => climb ups n (some i) = none) (fun n => Classical.em _) n0 hn0
  have at' : ∀ k, k < h0 → ∃ x, climb ups k (some i) = some x := fun k hk => by
    cases hc : climb ups k (some i) with
    | none => exact absurd hc (h2 k hk)
    | some x => exact ⟨x, rfl⟩
  have lt' : ∀ k x, climb ups k (some i) = some x → x < ups.length := fun k => by
    induction k with
    | zero => intro x hx; cases hx; exact hi
    | succ k ih =>
      intro x hx
      have hx : up1 ups (climb ups k (some i)) = some x := hx
      cases hc : climb ups k (some i) with
      | none => rw [hc] at hx; cases hx
      | some y =>
        rw [hc] at hx
        have hy := ih y hc
        have hx : ups.getD y none = some x := hx
        rw [List.getD_eq_getElem?_getD, List.getElem?_eq_getElem hy] at hx
        exact hin y x (by rw [List.getElem?_eq_getElem hy]; exact congrArg some hx)
  have inj : ∀ a b x, a < b → b < h0 → climb ups a (some i) = some x → climb ups b (some i) = some x → False := fun a b x hab hb ha hbx => by
    have e : climb ups (b + (h0 - b)) (some i) = none := by rw [show b + (h0 - b) = h0 by omega]; exact h1
    rw [climb_add, hbx, ← ha, ← climb_add] at e
    exact h2 (a + (h0 - b)) (by omega) e
  have nd : ((List.range h0).map fun k => (climb ups k (some i)).getD 0).Nodup := by
    refine List.Pairwise.map _ (R := fun a b => a < b ∧ b < h0) (fun a b hab hz => ?_) ?_
    · obtain ⟨x, hx⟩ := at' a (by omega)
      obtain ⟨y, hy⟩ := at' b hab.2
      rw [hx, hy] at hz
      have hz : x = y := hz
      subst hz
      exact inj a b x hab.1 hab.2 hx hy
    · have := (List.pairwise_lt_range (n := h0))
      exact List.Pairwise.imp_of_mem (fun {a b} _ hb h => ⟨h, List.mem_range.mp hb⟩) this
  have := nd_le nd (m := List.range ups.length) fun x hx => by
    obtain ⟨k, hk, rfl⟩ := List.mem_map.mp hx
    obtain ⟨y, hy⟩ := at' k (List.mem_range.mp hk)
    rw [hy]
    exact List.mem_range.mpr (lt' k y hy)
  rw [List.length_map, List.length_range, List.length_range] at this
  exact climb_le h1 this
theorem climb_iff {ups : List (Option Nat)} (hin : ∀ (i j : Nat), ups[i]? = some (some j) → j < ups.length) {i : Nat} (hi : i < ups.length) : climb ups ups.length (some i) = none ↔ Top ups i := ⟨climb_top hin _ i hi, climb_enough hin hi⟩
end P41
end S_Bam
section S_Ban
namespace P41
open PySem PySem.Spec PyProof.Rows L2 Tl Hk RZ EnL
abbrev nLB : List Str := ["value", "each", "one", "other"]
abbrev nLA : List Str := ["value", "many", "first", "at", "turn", "each"]
theorem scLIsCount : FnScope ["value"] ["value"] (defScope sLIsCount) := ⟨rfl, rfl, rfl, by decide +kernel, rfl, by decide +kernel, by decide +kernel⟩
theorem scLIsBag : FnScope nLB ["value"] (defScope sLIsBag) := ⟨rfl, rfl, rfl, by decide +kernel, rfl, by decide +kernel, by decide +kernel⟩
theorem scLAreAbove : FnScope nLA ["value", "many"] (defScope sLAreAbove) := ⟨rfl, rfl, rfl, by decide +kernel, rfl, by decide +kernel, by decide +kernel⟩
def spLIsCount (K : PySem.W.Frag) : Sp := fun vs H Q _ => ∃ (x : V) (n : String), vs = [x] ∧ Ty7 K H x n ∧ ∀ H1, Evl.Ex H H1 → Q (.bl (wi x (.int 0) .non)) H1
theorem spv_lIsCount {K : PySem.W.Frag} {H : Hp} {x : V} {n : String} (h : Ty7 K H x n) : Evl.SpV (spLIsCount K) [x] H (.bl (wi x (.int 0) .non)) := fun H1 e Q q E => ⟨x, n, rfl, h.ex e, q⟩
def spLIsBag (K : PySem.W.Frag) : Sp := fun vs H Q _ => ∃ (x : V) (r : Option (List V)), vs = [x] ∧ BagD K H x r ∧ ∀ H1, Evl.Ex H H1 → Q (.bl (bagV (.int 0) .non r)) H1
theorem spv_lIsBag {K : PySem.W.Frag} {H : Hp} {x : V} {r : Option (List V)} (h : BagD K H x r) : Evl.SpV (spLIsBag K) [x] H (.bl (bagV (.int 0) .non r)) := fun H1 e Q q E => ⟨x, r, rfl, h.ex e, q⟩
def spLAreAbove (K : PySem.W.Frag) : Sp := fun vs H Q _ => ∃ (v : V) (m : Nat) (r : Option (List V)), vs = [v, .int (m : Int)] ∧ BagD K H v r ∧ m ≤ 3000 ∧ ∀ H1, Evl.Ex H H1 → Q (.bl (pd (TellsP m r))) H1
theorem spv_lAreAbove {K : PySem.W.Frag} {H : Hp} {v : V} {m : Nat} {r : Option (List V)} (h : BagD K H v r) (hm : m ≤ 3000) : Evl.SpV (spLAreAbove K) [v, .int (m : Int)] H (.bl (pd (TellsP m r))) := fun H1 e Q q E => ⟨v, m, r, rfl, h.ex e, hm, q⟩
section
open Evl
variable {K : PySem.W.Frag} {σ : L2.St} {H : Hp} {te : TE}
abbrev tLT (K : PySem.W.Frag) (te : TE) : TE := tCB (rIsiT K) (tCons te (tCons (tTup (tCons (tC (.ty "list")) (tCons (tC (.ty "tuple")) tNil))) tNil))
theorem ev_isLT {x : V} {n : String} (h : Ev te σ H x) (h7 : Ty7 K H x n) : Ev (tLT K te) σ H (.bl (is7 n "list" || is7 n "tuple")) := fun H1 e Q q =>
  h H1 e _ fun H2 e2 => ⟨(by show 2 ≤ sizeLine; decide), fun T hT => ⟨x, T, [.ty "list", .ty "tuple"], .type n, [.type "list", .type "tuple"], is7 n "list" || is7 n "tuple", rfl, upd_same, .cons (.ty _) (.cons (.ty _) .nil), (h7.ex ((e.trans e2).trans (Ex.new hT))).tyx, by
    refine kitAny_cons (h7.kit (.inr (.inr (.inl rfl)))) (fun hb => kitAny_cons (h7.kit (.inr (.inr (.inr rfl)))) (fun hb2 => ?_) fun hb2 => ?_) fun hb => ?_
    · rw [hb, hb2]; exact kitAny_nil
    · rw [hb2, Bool.or_true]
    · rw [hb, Bool.true_or], q _ (e2.trans (Ex.new hT))⟩⟩
theorem ev_isLTb {x : V} {r : Option (List V)} (h : Ev te σ H x) (hb : BagD K H x r) : Ev (tLT K te) σ H (.bl r.isSome) := by
  cases hb with
  | @no x n h7 h1 h2 => exact Evl.ev_is (ev_isLT h h7) (by rw [h7.isSeq]; simp [h1, h2])
  | lst hs hl hi => exact Evl.ev_is (ev_isLT h (.lst hs)) rfl
  | tup hs hl hi => exact Evl.ev_is (ev_isLT h (.tup hs)) rfl
theorem given_empty {n : Nat} {f : Nat → Bool} {g : Nat → V} : (Evl.given n f g).isEmpty = (List.range n).all fun i => !f i := by
  unfold Evl.given
  rw [Bool.eq_iff_iff, List.isEmpty_iff, List.map_eq_nil_iff, List.filter_eq_nil_iff, List.all_eq_true]
  exact ⟨fun h x hx => by have := h x hx; simpa using this, fun h x hx => by have := h x hx; simpa using this⟩
theorem all_getD (xs : List V) (g : V → Bool) : ((List.range xs.length).all fun i => g (xs.getD i .non)) = xs.all g := by
  have e : xs = (List.range xs.length).map fun m => xs.getD m .non := by
    refine List.ext_getElem? fun i => ?_
    rw [List.getElem?_map]
    rcases Nat.lt_or_ge i xs.length with h | h
    · rw [List.getElem?_range h, List.getElem?_eq_getElem h]
      show _ = some (xs.getD i .non)
      rw [List.getD_eq_getElem?_getD, List.getElem?_eq_getElem h]
      rfl
    · rw [List.getElem?_eq_none h, List.getElem?_eq_none (by rw [List.length_range]; exact h)]
      rfl
  conv => rhs; rw [e, List.all_map]
  rfl
end
section
variable {P : Program} {w : World} {K : PySem.W.Frag} {mg : Str → Option Value} {base : Heap}
theorem ok_lIsCount {f : Addr} {fd : FuncData} {k : Nat} (F : Fun K "_law_is_count" "_law_is_count" sLIsCount f fd) (mi : mg "isinstance" = none) (mint : mg "int" = none) (mbool : mg "bool" = none) : FnOk P w K mg base CX0 (k + 1) f fd ["value"] (spLIsCount K) := by
  refine F.ok scLIsCount (fun vs H Q E h => ?_) (fun cdv A outer s H vs Q E hr h => ?_)
  · obtain ⟨x, n, rfl, _⟩ := h
    rfl
  · obtain ⟨x, n, rfl, h, q⟩ := h
    refine ⟨_, pss_one (ps_ret (pe_and (pe_callB call_isi (by rfl) mi (by decide +kernel) (pa_cons (pv 0) (pa_cons (pe_bltn (v := .ty "int") (by rfl) mint (by decide +kernel) rfl) (pa_nil)))) (pe_and (pe_not (pe_callB call_isi (by rfl) mi (by decide +kernel) (pa_cons (pv 0) (pa_cons (pe_bltn (v := .ty "bool") (by rfl) mbool (by decide +kernel) rfl) (pa_nil))))) (pe_one (pe_cmpR op_ge (pv 0) (pe_int) (nomark _)))))), ?_⟩
    have e1 : Evl.Ev (tCB (rIsi K) (tCons (tVar 0) (tCons (tC (.ty "int")) tNil))) (start ["value"] [x]) H (.bl (is7 n "int")) := Evl.ev_cb (Evl.ea_cons (Evl.ev_var rfl) (Evl.ea_cons Evl.ev_c Evl.ea_nil)) (rc_isi h (.inl rfl))
    have e2 : Evl.Ev (tCB (rIsi K) (tCons (tVar 0) (tCons (tC (.ty "bool")) tNil))) (start ["value"] [x]) H (.bl (is7 n "bool")) := Evl.ev_cb (Evl.ea_cons (Evl.ev_var rfl) (Evl.ea_cons Evl.ev_c Evl.ea_nil)) (rc_isi h (.inr (.inl rfl)))
    have hi := h.isInt
    by_cases hn : n = "int"
    · cases h with
      | int i =>
        refine Evl.s_ret (v := .bl (true && (true && decide (0 ≤ i)))) (Evl.ev_andV e1 fun _ => Evl.ev_andV (Evl.ev_notV e2) fun _ => Evl.ev_op (Evl.ev_var rfl) Evl.ev_c Evl.rv_I0) fun H1 e => ?_
        have := q H1 e
        rw [Bool.true_and, Bool.true_and]
        show Q (.bl (decide (0 ≤ i))) H1
        have ew : wi (V.int i) (.int 0) .non = decide (0 ≤ i) := by
          show (decide ((0 : Int) ≤ i) && true) = _
          rw [Bool.and_true]
        rwa [ew] at this
      | _ => exact absurd hn (by decide)
    · have ew : wi x (.int 0) .non = false := by
        cases h with
        | int i => exact absurd rfl hn
        | _ => rfl
      rw [ew] at q
      have hb : (is7 n "int" && !is7 n "bool") = false := by rw [hi]; exact decide_eq_false hn
      refine Evl.s_ret (v := .bl false) (Evl.ev_is (Evl.ev_andV (b := !is7 n "bool") e1 fun hz => Evl.ev_is (Evl.ev_andV (b := false) (Evl.ev_notV e2) fun hz2 => ?_) ?_) (by rw [hb])) fun H1 e => q H1 e
      · rw [hz, hz2] at hb; cases hb
      · rw [hz, Bool.true_and] at hb
        rw [hb]
        rfl
set_option maxHeartbeats 2000000 in
theorem ok_lIsBag {f fC : Addr} {fd fdC : FuncData} {k : Nat} (F : Fun K "_law_is_bag" "_law_is_bag" sLIsBag f fd)
    (FC : Fun K "_law_is_count" "_law_is_count" sLIsCount fC fdC) (GC : FnOk P w K mg base CX0 k fC fdC ["value"] (spLIsCount K)) (bC : Binds K fdC ["value"] []) (gC : mg "_law_is_count" = some (.ref fC))
    (mi : mg "isinstance" = none) (ml : mg "list" = none) (mt : mg "tuple" = none) (mzip : mg "zip" = none) : FnOk P w K mg base CX0 (k + 1) f fd ["value"] (spLIsBag K) := by
  refine F.ok scLIsBag (fun vs H Q E h => ?_) (fun cdv A outer s H vs Q E hr h => ?_)
  · obtain ⟨x, r, rfl, _⟩ := h
    rfl
  · obtain ⟨x, r, rfl, h, q⟩ := h
    have nd := scLIsBag.nd
    have isl : Evl.EvT (tNot (tB (tLT K (tVar 0)))) (start nLB [x]) H (!r.isSome) := Evl.et_not (Evl.et_B (ev_isLTb (Evl.ev_var rfl) h))
    have fin : ∀ {xs : List V}, ∀ ns : List Int, xs = ns.map V.int → (∀ i ∈ ns, 0 ≤ i) → bagV (.int 0) .non (some xs) = ascI ns := fun ns hx hp => by
      subst hx
      unfold bagV
      dsimp only
      rw [wi0_all hp, intsOf_map]
      show (true && (decide ((0 : Int) ≤ ((ns.map V.int).length : Int)) && true) && ascI ns) = _
      rw [decide_eq_true (by omega)]
      rfl
    have wrong : ∀ {xs : List V}, (xs.all fun v => wi v (.int 0) .non) = false → bagV (.int 0) .non (some xs) = false := fun hx => by
      unfold bagV
      dsimp only
      rw [hx]
      rfl
    have count : ∀ {a : Addr} {xs : List V} {H1 : Hp}, SqS K H1 a xs → xs.length ≤ 3000 → (∀ v ∈ xs, ∃ n, Ty7 K H1 v n) → Evl.EvT (tTest (tOp (rNil K true) (tLc (iEi K (tVar 0)) (gName 1) (tNot (tB (tCall (spLIsCount K) [] E0 (tCons (tVar 1) tNil)))) (tVar 1) [1]) (tLst tNil))) (start nLB [.ref a]) H1 (!(xs.all fun v => wi v (.int 0) .non)) := fun {a xs H1} hS hl hi => by
      have := el_lcI (te := tVar 1) (t := tNot (tB (tCall (spLIsCount K) [] E0 (tCons (tVar 1) tNil)))) (σ := start nLB [.ref a]) (H := H1) (vs := [1]) (fun i => !wi (xs.getD i .non) (.int 0) .non) (fun i => xs.getD i .non) (ei_ei (K := K) (Evl.ev_var (i := 0) rfl) hS) (aims_at (j := 1)) (fun _ => rfl) (by omega) (fun i A eA hi2 => by
        have hm : xs.getD i .non ∈ xs := by
          rw [List.getD_eq_getElem?_getD, List.getElem?_eq_getElem hi2]
          exact List.getElem_mem hi2
        obtain ⟨n, hn⟩ := hi _ hm
        exact Evl.et_not (Evl.et_B (Evl.ev_call (Evl.ea_cons (Evl.ev_var rfl) Evl.ea_nil) (spv_lIsCount (hn.ex eA))))) fun i A eA hi2 _ => Evl.ev_var rfl
      have h2 := ev_nil (neg := true) (K := K) this
      rw [given_empty] at h2
      refine Evl.et_is (Evl.et_test h2) ?_
      rw [show (fun i => !!wi (xs.getD i .non) (.int 0) .non) = fun i => wi (xs.getD i .non) (.int 0) .non from funext fun i => Bool.not_not _, all_getD xs fun v => wi v (.int 0) .non]
      cases (xs.all fun v => wi v (.int 0) .non) <;> rfl
    have asc : ∀ ns : List Int, ((List.range (ns.length - 1)).all fun i => !decide (ns.getD (i + 1) 0 ≤ ns.getD i 0)) = ascI ns := fun ns => by
      rw [asc_pairs, List.all_map]
      congr 1
      funext i
      show (!decide (ns.getD (i + 1) 0 ≤ ns.getD i 0)) = decide (ns.getD i 0 < ns.getD (i + 1) 0)
      rw [← decide_not]
      exact decide_eq_decide.mpr (by omega)
    cases h with
    | @no x n h7 h1 h2 =>
      refine ⟨_, pss_cons (ps_if (PW.pt (pw_or (pt_not (pt_val (pe_callB call_isiT (by rfl) mi (by decide +kernel) (pa_cons (pv 0) (pa_cons (pe_tup (pa_cons (pe_bltn (v := .ty "list") (by rfl) ml (by decide +kernel) rfl) (pa_cons (pe_bltn (v := .ty "tuple") (by rfl) mt (by decide +kernel) rfl) (pa_nil)))) (pa_nil)))))) (pw_or1 (pt_cmpR (op_neNil hr.units) (pe_lc (own := [("each", 1)]) (g := gName 1) (tt := _) (te := tVar 1) rfl nd (pi_ei (pv 0)) (blkOk_by (N := nLB) (sc := defScope sLIsBag) (by decide +kernel)) (fun _ _ _ _ _ => pg_name (i := 1) nd rfl (Or.inl rfl)) (fun _ _ _ _ _ => pts_one (pt_not (pt_val (pe_call GC hr (by rfl) gC FC.kp bC .nil pass0 (pa_cons (pv 1) (pa_nil)))))) (fun _ _ _ _ _ => pv 1)) (pe_lst (pa_nil)) (nomark _))))) (pss_one (ps_ret (pe_bl))) (pss_nil)) (pss_one (ps_ret (pe_cmpR (op_eqNil hr.units) (pe_lc (own := [("one", 2), ("other", 3)]) (g := gTup K 2 (gCons (gName 2) (gCons (gName 3) gNil))) (tt := _) (te := tC (.int 1)) rfl nd (pi_zipA (by rfl) mzip (pa_cons (pv 0) (pa_cons (pe_slice sl_list (pv 0) (po_some (pe_int)) (po_none)) (pa_nil)))) (blkOk_by (N := nLB) (sc := defScope sLIsBag) (by decide +kernel)) (fun _ _ _ _ _ => pg_tup (by rfl) (pgs_cons (pg_name (i := 2) nd rfl (Or.inl rfl)) (pgs_cons (pg_name (i := 3) nd rfl (Or.inl rfl)) pgs_nil))) (fun _ _ _ _ _ => pts_one (pt_cmpR op_ge (pv 2) (pv 3) (nomark _))) (fun _ _ _ _ _ => pe_int)) (pe_lst (pa_nil)) (nomark _)))), ?_⟩
      exact Evl.q_when (b := true) (Evl.et_is (Evl.et_or (a := true) (b := true) isl fun z => nomatch z) rfl) (fun _ H1 e1 => Evl.s_ret Evl.ev_c fun H2 e2 => q H2 (e1.trans e2)) fun z => nomatch z
    | @lst a xs hS hl hi =>
      refine ⟨_, pss_cons (ps_if (PW.pt (pw_or (pt_not (pt_val (pe_callB call_isiT (by rfl) mi (by decide +kernel) (pa_cons (pv 0) (pa_cons (pe_tup (pa_cons (pe_bltn (v := .ty "list") (by rfl) ml (by decide +kernel) rfl) (pa_cons (pe_bltn (v := .ty "tuple") (by rfl) mt (by decide +kernel) rfl) (pa_nil)))) (pa_nil)))))) (pw_or1 (pt_cmpR (op_neNil hr.units) (pe_lc (own := [("each", 1)]) (g := gName 1) (tt := _) (te := tVar 1) rfl nd (pi_ei (pv 0)) (blkOk_by (N := nLB) (sc := defScope sLIsBag) (by decide +kernel)) (fun _ _ _ _ _ => pg_name (i := 1) nd rfl (Or.inl rfl)) (fun _ _ _ _ _ => pts_one (pt_not (pt_val (pe_call GC hr (by rfl) gC FC.kp bC .nil pass0 (pa_cons (pv 1) (pa_nil)))))) (fun _ _ _ _ _ => pv 1)) (pe_lst (pa_nil)) (nomark _))))) (pss_one (ps_ret (pe_bl))) (pss_nil)) (pss_one (ps_ret (pe_cmpR (op_eqNil hr.units) (pe_lc (own := [("one", 2), ("other", 3)]) (g := gTup K 2 (gCons (gName 2) (gCons (gName 3) gNil))) (tt := _) (te := tC (.int 1)) rfl nd (pi_zipA (by rfl) mzip (pa_cons (pv 0) (pa_cons (pe_slice sl_list (pv 0) (po_some (pe_int)) (po_none)) (pa_nil)))) (blkOk_by (N := nLB) (sc := defScope sLIsBag) (by decide +kernel)) (fun _ _ _ _ _ => pg_tup (by rfl) (pgs_cons (pg_name (i := 2) nd rfl (Or.inl rfl)) (pgs_cons (pg_name (i := 3) nd rfl (Or.inl rfl)) pgs_nil))) (fun _ _ _ _ _ => pts_one (pt_cmpR op_ge (pv 2) (pv 3) (nomark _))) (fun _ _ _ _ _ => pe_int)) (pe_lst (pa_nil)) (nomark _)))), ?_⟩
      refine Evl.q_when (Evl.et_or (a := false) isl fun _ => count (.inl hS) hl hi) (fun hb H1 e1 => Evl.s_ret Evl.ev_c fun H2 e2 => ?_) fun hb H1 e1 => ?_
      · rw [Bool.false_or, Bool.not_eq_true'] at hb
        rw [← wrong hb]
        exact q H2 (e1.trans e2)
      · rw [Bool.false_or, Bool.not_eq_false'] at hb
        obtain ⟨ns, rfl, hp⟩ := wi0_ints hb
        have := el_lcI (te := tC (.int 1)) (t := tTest (tOp (rI0 fun i j => V.bl (decide (j ≤ i))) (tVar 2) (tVar 3))) (σ := start nLB [.ref a]) (H := H1) (vs := [2, 3]) (fun i => decide (ns.getD (i + 1) 0 ≤ ns.getD i 0)) (fun _ => V.int 1) (ei_zipOwnL (K := K) (Evl.ev_var (i := 0) rfl) (Evl.ex_l e1 hS)) (aims_pair (K := K) (j1 := 2) (j2 := 3)) (fun _ => rfl) (by omega) (fun i A eA hi => by
          rw [List.length_map] at hi
          exact Evl.et_test (Evl.ev_op (Evl.ev_is (Evl.ev_var rfl) (gd_int (by omega))) (Evl.ev_is (Evl.ev_var rfl) (gd_int1 hi)) Evl.rv_I0)) fun i A eA hi _ => Evl.ev_c
        have h2 := ev_nil (neg := false) (K := K) this
        rw [given_empty, List.length_map, asc] at h2
        refine Evl.s_ret (Evl.ev_is h2 (by rw [Bool.bne_false])) fun H2 e2 => ?_
        rw [← fin ns rfl hp]
        exact q H2 (e1.trans e2)
    | @tup a xs hS hl hi =>
      refine ⟨_, pss_cons (ps_if (PW.pt (pw_or (pt_not (pt_val (pe_callB call_isiT (by rfl) mi (by decide +kernel) (pa_cons (pv 0) (pa_cons (pe_tup (pa_cons (pe_bltn (v := .ty "list") (by rfl) ml (by decide +kernel) rfl) (pa_cons (pe_bltn (v := .ty "tuple") (by rfl) mt (by decide +kernel) rfl) (pa_nil)))) (pa_nil)))))) (pw_or1 (pt_cmpR (op_neNil hr.units) (pe_lc (own := [("each", 1)]) (g := gName 1) (tt := _) (te := tVar 1) rfl nd (pi_ei (pv 0)) (blkOk_by (N := nLB) (sc := defScope sLIsBag) (by decide +kernel)) (fun _ _ _ _ _ => pg_name (i := 1) nd rfl (Or.inl rfl)) (fun _ _ _ _ _ => pts_one (pt_not (pt_val (pe_call GC hr (by rfl) gC FC.kp bC .nil pass0 (pa_cons (pv 1) (pa_nil)))))) (fun _ _ _ _ _ => pv 1)) (pe_lst (pa_nil)) (nomark _))))) (pss_one (ps_ret (pe_bl))) (pss_nil)) (pss_one (ps_ret (pe_cmpR (op_eqNil hr.units) (pe_lc (own := [("one", 2), ("other", 3)]) (g := gTup K 2 (gCons (gName 2) (gCons (gName 3) gNil))) (tt := _) (te := tC (.int 1)) rfl nd (pi_zipA (by rfl) mzip (pa_cons (pv 0) (pa_cons (pe_slice sl_tupA (pv 0) (po_some (pe_int)) (po_none)) (pa_nil)))) (blkOk_by (N := nLB) (sc := defScope sLIsBag) (by decide +kernel)) (fun _ _ _ _ _ => pg_tup (by rfl) (pgs_cons (pg_name (i := 2) nd rfl (Or.inl rfl)) (pgs_cons (pg_name (i := 3) nd rfl (Or.inl rfl)) pgs_nil))) (fun _ _ _ _ _ => pts_one (pt_cmpR op_ge (pv 2) (pv 3) (nomark _))) (fun _ _ _ _ _ => pe_int)) (pe_lst (pa_nil)) (nomark _)))), ?_⟩
      refine Evl.q_when (Evl.et_or (a := false) isl fun _ => count (.inr hS) hl hi) (fun hb H1 e1 => Evl.s_ret Evl.ev_c fun H2 e2 => ?_) fun hb H1 e1 => ?_
      · rw [Bool.false_or, Bool.not_eq_true'] at hb
        rw [← wrong hb]
        exact q H2 (e1.trans e2)
      · rw [Bool.false_or, Bool.not_eq_false'] at hb
        obtain ⟨ns, rfl, hp⟩ := wi0_ints hb
        have := el_lcI (te := tC (.int 1)) (t := tTest (tOp (rI0 fun i j => V.bl (decide (j ≤ i))) (tVar 2) (tVar 3))) (σ := start nLB [.ref a]) (H := H1) (vs := [2, 3]) (fun i => decide (ns.getD (i + 1) 0 ≤ ns.getD i 0)) (fun _ => V.int 1) (ei_zipOwnT (K := K) (Evl.ev_var (i := 0) rfl) (Evl.ex_t e1 hS)) (aims_pair (K := K) (j1 := 2) (j2 := 3)) (fun _ => rfl) (by omega) (fun i A eA hi => by
          rw [List.length_map] at hi
          exact Evl.et_test (Evl.ev_op (Evl.ev_is (Evl.ev_var rfl) (gd_int (by omega))) (Evl.ev_is (Evl.ev_var rfl) (gd_int1 hi)) Evl.rv_I0)) fun i A eA hi _ => Evl.ev_c
        have h2 := ev_nil (neg := false) (K := K) this
        rw [given_empty, List.length_map, asc] at h2
        refine Evl.s_ret (Evl.ev_is h2 (by rw [Bool.bne_false])) fun H2 e2 => ?_
        rw [← fin ns rfl hp]
        exact q H2 (e1.trans e2)
theorem ev_lenN {σ : L2.St} {H : Hp} {ta : TE} {xs : List V} (h : Evl.EvL ta σ H xs) : Evl.Ev (tCB (Evl.rLenS K) (tCons ta tNil)) σ H (.int (xs.length : Int)) := fun H1 e Q q =>
  h H1 e _ fun p H2 _ e2 h2 => ⟨p, xs, rfl, .inl (Evl.sq_of h2), q H2 e2⟩
theorem uv_tops {ups : List (Option Nat)} : ((List.range (ups.map uv).length).filter fun i => decide ((ups.map uv).getD i .non = .non)).length = (tops ups ups.length).length := by
  unfold tops
  rw [List.length_map]
  congr 1
  refine List.filter_congr fun i hi => ?_
  have hi := List.mem_range.mp hi
  obtain ⟨u, hu⟩ : ∃ u, ups[i]? = some u := ⟨_, List.getElem?_eq_getElem hi⟩
  rw [uv_at hu, hu]
  refine decide_eq_decide.mpr ⟨fun z => by rw [show u = none from uv_inj (b := none) z], fun z => by rw [Option.some.inj z]; rfl⟩
set_option maxHeartbeats 2000000 in
theorem ok_lAreAbove {f fC : Addr} {fd fdC : FuncData} {k : Nat} (F : Fun K "_law_are_above" "_law_are_above" sLAreAbove f fd)
    (FC : Fun K "_law_is_count" "_law_is_count" sLIsCount fC fdC) (GC : FnOk P w K mg base CX0 k fC fdC ["value"] (spLIsCount K)) (bC : Binds K fdC ["value"] []) (gC : mg "_law_is_count" = some (.ref fC))
    (mi : mg "isinstance" = none) (ml : mg "list" = none) (mt : mg "tuple" = none) (mlen : mg "len" = none) (mrange : mg "range" = none) : FnOk P w K mg base CX0 (k + 1) f fd ["value", "many"] (spLAreAbove K) := by
  refine F.ok scLAreAbove (fun vs H Q E h => ?_) (fun cdv A outer s H vs Q E hr h => ?_)
  · obtain ⟨v, m, r, rfl, _⟩ := h
    rfl
  · obtain ⟨v, m, r, rfl, h, hm, q⟩ := h
    have nd := scLAreAbove.nd
    refine ⟨_, pss_cons (ps_if (PW.pt (pw_or (pt_not (pt_val (pe_callB call_isiT (by rfl) mi (by decide +kernel) (pa_cons (pv 0) (pa_cons (pe_tup (pa_cons (pe_bltn (v := .ty "list") (by rfl) ml (by decide +kernel) rfl) (pa_cons (pe_bltn (v := .ty "tuple") (by rfl) mt (by decide +kernel) rfl) (pa_nil)))) (pa_nil)))))) (pw_or (pt_cmpR op_ne (pe_callB call_len_seq (by rfl) mlen PySem.boot_len (pa_cons (pv 0) (pa_nil))) (pv 1) (nomark _)) (pw_or1 (pt_cmpR op_ne (pe_callB call_len_seq (by rfl) mlen PySem.boot_len (pa_cons (pe_lc (own := [("each", 5)]) (g := gName 5) (tt := _) (te := tVar 5) rfl nd (pi_ei (pv 0)) (blkOk_by (N := nLA) (sc := defScope sLAreAbove) (by decide +kernel)) (fun _ _ _ _ _ => pg_name (i := 5) nd rfl (Or.inl rfl)) (fun _ _ _ _ _ => pts_one (pt_cmpR op_isN (pv 5) (pe_non) (nomark _))) (fun _ _ _ _ _ => pv 5)) (pa_nil))) (pe_int) (nomark _)))))) (pss_one (ps_ret (pe_bl))) (pss_nil)) (pss_cons (ps_if (pt_cmpR (op_neNil hr.units) (pe_lc (own := [("each", 5)]) (g := gName 5) (tt := _) (te := tVar 5) rfl nd (pi_ei (pv 0)) (blkOk_by (N := nLA) (sc := defScope sLAreAbove) (by decide +kernel)) (fun _ _ _ _ _ => pg_name (i := 5) nd rfl (Or.inl rfl)) (fun _ _ _ _ _ => pts_one (PW.pt (pw_and (pt_cmpR op_notN (pv 5) (pe_non) (nomark _)) (pw_and1 (PW.pt (pw_or (pt_not (pt_val (pe_call GC hr (by rfl) gC FC.kp bC .nil pass0 (pa_cons (pv 5) (pa_nil))))) (pw_or1 (pt_cmpR op_ge (pv 5) (pv 1) (nomark _))))))))) (fun _ _ _ _ _ => pv 5)) (pe_lst (pa_nil)) (nomark _)) (pss_one (ps_ret (pe_bl))) (pss_nil)) (pss_cons (ps_for PassesOwn.never rfl (pi_range1 (by rfl) mrange (pa_cons (pv 1) (pa_nil))) (pg_name (i := 2) nd rfl (Or.inl rfl)) (pss_cons (ps_set (i := 3) nd rfl (.inl rfl) (pv 2)) (pss_cons (ps_for PassesOwn.never rfl (pi_range1 (by rfl) mrange (pa_cons (pv 1) (pa_nil))) (pg_name (i := 4) nd rfl (Or.inl rfl)) (pss_one (ps_set (i := 3) nd rfl (.inl rfl) (pe_ifExp (pt_cmpR op_isN (pv 3) (pe_non) (nomark _)) (pe_non) (pe_ix ix_any2 (pv 0) (pv 3) (fun _ _ => rfl)))))) (pss_one (ps_if (pt_cmpR op_notN (pv 3) (pe_non) (nomark _)) (pss_one (ps_ret (pe_bl))) (pss_nil)))))) (pss_one (ps_ret (pe_bl))))), ?_⟩
    have isl : Evl.EvT (tNot (tB (tLT K (tVar 0)))) (start nLA [v, .int (m : Int)]) H (!r.isSome) := Evl.et_not (Evl.et_B (ev_isLTb (Evl.ev_var rfl) h))
    have no : ¬ TellsP m r → ∀ H1, Evl.Ex H H1 → Q (.bl false) H1 := fun hn H1 e => by
      have := q H1 e
      rwa [pd_false hn] at this
    cases r with
    | none => exact Evl.q_when (b := true) (Evl.et_is (Evl.et_or (a := true) (b := true) isl fun z => nomatch z) rfl) (fun _ H1 e1 => Evl.s_ret Evl.ev_c fun H2 e2 => no (fun ⟨ups, z, _⟩ => nomatch z) H2 (e1.trans e2)) fun z => nomatch z
    | some xs =>
      obtain ⟨a, rfl, hS, hl, hi0⟩ := h.sq
      have nones := ev_lenN (K := K) (el_lcI (te := tVar 5) (t := tTest (tOp rIsN (tVar 5) (tC .non))) (σ := start nLA [.ref a, .int (m : Int)]) (H := H) (vs := [5]) (fun i => decide (xs.getD i .non = .non)) (fun i => xs.getD i .non) (ei_ei (K := K) (Evl.ev_var (i := 0) rfl) hS) (aims_at (j := 5)) (fun _ => rfl) (by omega) (fun i A eA hi => Evl.et_test (Evl.ev_op (Evl.ev_var rfl) Evl.ev_c rv_isN)) fun i A eA hi _ => Evl.ev_var rfl)
      generalize hcnt : (Evl.given xs.length (fun i => decide (xs.getD i .non = .non)) fun i => xs.getD i .non).length = cnt at nones
      have hcnt : ((List.range xs.length).filter fun i => decide (xs.getD i .non = .non)).length = cnt := by
        rw [← hcnt]
        unfold Evl.given
        rw [List.length_map]
      refine Evl.q_when (b := !decide (xs.length = m) || !decide (cnt = 1)) (Evl.et_is (Evl.et_or (a := false) (b := !decide (xs.length = m) || !decide (cnt = 1)) isl fun _ => Evl.et_or (Evl.et_is (Evl.et_test (Evl.ev_op (ev_lenB (K := K) (Evl.ev_var rfl) hS) (Evl.ev_var rfl) (Evl.rv_ne rfl))) (by
        congr 1
        exact decide_eq_decide.mpr ⟨fun z => by have := V.int.inj z; omega, fun z => by rw [z]⟩)) fun _ => Evl.et_is (Evl.et_test (Evl.ev_op nones Evl.ev_c (Evl.rv_ne rfl))) (by
        congr 1
        exact decide_eq_decide.mpr ⟨fun z => by have := V.int.inj z; omega, fun z => by rw [z]; rfl⟩)) rfl) (fun hb H1 e1 => ?_) fun hb H1 e1 => ?_
      · refine Evl.s_ret Evl.ev_c fun H2 e2 => no (fun ⟨ups, z, hu⟩ => ?_) H2 (e1.trans e2)
        cases z
        rw [uv_tops] at hcnt
        rw [List.length_map] at hb
        have h1 := hu.1
        have h3 := hu.2.2.1
        rw [← h1] at h3
        rw [decide_eq_true h1, decide_eq_true (show cnt = 1 by omega)] at hb
        cases hb
      rw [Bool.or_eq_false_iff, Bool.not_eq_false', decide_eq_true_iff, Bool.not_eq_false', decide_eq_true_iff] at hb
      obtain ⟨hb, hc1⟩ := hb
      have hS1 := hS.ex e1
      have outs := ev_nil (neg := true) (K := K) (el_lcI (te := tVar 5) (t := tAnd (tTest (tOp (fun x y H Q => y = .non ∧ Q (.bl (!decide (x = .non))) H) (tVar 5) (tC .non))) (tOr (tNot (tB (tCall (spLIsCount K) [] E0 (tCons (tVar 5) tNil)))) (tTest (tOp (rI0 fun i j => V.bl (decide (j ≤ i))) (tVar 5) (tVar 1))))) (σ := start nLA [.ref a, .int (m : Int)]) (H := H1) (vs := [5]) (fun i => !upV m (xs.getD i .non)) (fun i => xs.getD i .non) (ei_ei (K := K) (Evl.ev_var (i := 0) rfl) hS1) (aims_at (j := 5)) (fun _ => rfl) (by omega) (fun i A eA hi => by
        have hmem : xs.getD i .non ∈ xs := by
          rw [List.getD_eq_getElem?_getD, List.getElem?_eq_getElem hi]
          exact List.getElem_mem hi
        obtain ⟨n7, h7⟩ := hi0 _ hmem
        generalize xs.getD i .non = x at h7 ⊢
        have h7 := (h7.ex e1).ex eA
        have t1 : Evl.EvT (tTest (tOp (fun x y H Q => y = .non ∧ Q (.bl (!decide (x = .non))) H) (tVar 5) (tC .non))) ((wipe (start nLA [.ref a, .int (m : Int)]) [5]).set 5 (some x)) A (!decide (x = .non)) := Evl.et_test (Evl.ev_op (Evl.ev_var rfl) Evl.ev_c fun H2 e2 Q q => ⟨rfl, q H2 (Evl.Ex.refl _)⟩)
        have t2 : Evl.EvT (tNot (tB (tCall (spLIsCount K) [] E0 (tCons (tVar 5) tNil)))) ((wipe (start nLA [.ref a, .int (m : Int)]) [5]).set 5 (some x)) A (!wi x (.int 0) .non) := Evl.et_not (Evl.et_B (Evl.ev_call (Evl.ea_cons (Evl.ev_var rfl) Evl.ea_nil) (spv_lIsCount h7)))
        refine Evl.et_is (Evl.et_and (b := !wi x (.int 0) (.int ((m : Int) - 1))) t1 fun _ => ?_) (by unfold upV; rw [Bool.not_or])
        cases x with
        | int z =>
          have ew : wi (V.int z) (.int 0) .non = decide (0 ≤ z) := by
            show (decide ((0 : Int) ≤ z) && true) = _
            rw [Bool.and_true]
          rw [ew] at t2
          refine Evl.et_is (Evl.et_or t2 fun _ => Evl.et_test (Evl.ev_op (Evl.ev_var rfl) (Evl.ev_var rfl) Evl.rv_I0)) ?_
          show (!decide ((0 : Int) ≤ z) || decide ((m : Int) ≤ z)) = !(decide ((0 : Int) ≤ z) && decide (z ≤ (m : Int) - 1))
          rw [Bool.not_and]
          congr 1
          rw [← decide_not]
          exact decide_eq_decide.mpr (by omega)
        | _ => exact Evl.et_is (Evl.et_or (a := true) (b := true) t2 fun z => nomatch z) rfl) fun i A eA hi _ => Evl.ev_var rfl)
      rw [given_empty, show (fun i => !!upV m (xs.getD i .non)) = fun i => upV m (xs.getD i .non) from funext fun i => Bool.not_not _, all_getD xs (upV m)] at outs
      refine Evl.q_when (b := !xs.all (upV m)) (Evl.et_is (Evl.et_test outs) (by cases xs.all (upV m) <;> rfl)) (fun hb2 H2 e2 => ?_) fun hb2 H2 e2 => ?_
      · rw [Bool.not_eq_true'] at hb2
        refine Evl.s_ret Evl.ev_c fun H3 e3 => no (fun ⟨ups, z, hu⟩ => ?_) H3 ((e1.trans e2).trans e3)
        cases z
        rw [List.all_map, List.all_eq_true.mpr fun u hu' => ?_] at hb2
        · cases hb2
        · obtain ⟨i, hi⟩ := List.mem_iff_getElem?.mp hu'
          exact upV_uv fun j z => by subst z; exact hu.2.1 i j hi
      rw [Bool.not_eq_false'] at hb2
      obtain ⟨ups, rfl, hu⟩ := ups_of hb2
      rw [List.length_map] at hb hl
      have hin : ∀ (i j : Nat), ups[i]? = some (some j) → j < ups.length := fun i j h => by rw [hb]; exact hu _ (List.mem_of_getElem? h) j rfl
      have hS2 := hS1.ex e2
      have htop1 : (tops ups m).length = 1 := by
        rw [← hb, ← uv_tops, hcnt, hc1]
      have rng : ∀ {σ : L2.St} {B : Hp}, σ[1]? = some (some (.int (m : Int))) → EvI (iRng1 (tCons (tVar 1) tNil)) σ B m (YFn fun i => .int (0 + i)) := fun {σ B} hσ => ei_rng1 (σ := σ) (H := B) (j := (m : Int)) (Evl.ea_cons (Evl.ev_var hσ) Evl.ea_nil) (by omega) (by omega)
      refine q_forI (B := H2) (n := m) (s := fun i σ => σ.set 2 (some (.int (0 + i)))) (rng rfl) aims_fn (Evl.Ex.refl _) (fun G i σ' H' => Evl.Ex G H' ∧ (∃ x y z, σ' = [some (.ref a), some (.int (m : Int)), x, y, z, none]) ∧ ∀ x, x < i → climb ups m (some x) = none) (fun G eG => ⟨Evl.Ex.refl _, ⟨_, _, _, rfl⟩, fun x hx => absurd hx (Nat.not_lt_zero _)⟩) (fun G i σ' H' eG hi p => ⟨eG.trans p.1, fun b o _ h => p.1 _ _ h⟩) (fun G i σ' H' H'' eG hi p e => ?_) fun G σ' H' eG p => ?_
      · obtain ⟨p1, ⟨x, y, z, rfl⟩, p3⟩ := p
        have eH := ((eG.trans p1).trans e)
        refine Evl.q_asg (v := .int (i : Int)) (Evl.ev_is (Evl.ev_var rfl) (by show V.int (0 + (i : Int)) = _; rw [Int.zero_add])) fun H3 e3 => ?_
        refine q_forI (B := H3) (n := m) (s := fun i σ => σ.set 4 (some (.int (0 + i)))) (rng rfl) aims_fn (Evl.Ex.refl _) (fun G2 j σ' H' => Evl.Ex G2 H' ∧ ∃ z, σ' = [some (.ref a), some (.int (m : Int)), some (.int (0 + (i : Int))), some (uv (climb ups j (some i))), z, none]) (fun G2 e2 => ⟨Evl.Ex.refl _, _, rfl⟩) (fun G2 j σ' H' e2 hj p => ⟨e2.trans p.1, fun b o _ h => p.1 _ _ h⟩) (fun G2 j σ' H' H4 eG2 hj p e => ?_) fun G2 σ' H' eG2 p => ?_
        · obtain ⟨p1', z', rfl⟩ := p
          have eH4 := (((eH.trans e3).trans eG2).trans p1').trans e
          refine Evl.s_asg (v := uv (climb ups (j + 1) (some i))) (Evl.ev_if (b := decide (uv (climb ups j (some i)) = .non)) (Evl.et_test (Evl.ev_op (Evl.ev_var rfl) Evl.ev_c rv_isN)) (fun hc => ?_) fun hc => ?_) fun H5 e5 => ⟨(p1'.trans e).trans e5, _, rfl⟩
          · have hc : climb ups j (some i) = none := uv_inj (b := none) (of_decide_eq_true hc)
            refine Evl.ev_is Evl.ev_c ?_
            show V.non = uv (up1 ups (climb ups j (some i)))
            rw [hc]
            rfl
          · cases hcl : climb ups j (some i) with
            | none => rw [hcl] at hc; cases hc
            | some y =>
              have hy : y < ups.length := by
                cases j with
                | zero => cases hcl; omega
                | succ j =>
                  have hcl : up1 ups (climb ups j (some i)) = some y := hcl
                  cases hcj : climb ups j (some i) with
                  | none => rw [hcj] at hcl; cases hcl
                  | some y' =>
                    rw [hcj] at hcl
                    have hcl : ups.getD y' none = some y := hcl
                    rw [List.getD_eq_getElem?_getD] at hcl
                    cases hq : ups[y']? with
                    | none => rw [hq] at hcl; cases hcl
                    | some o => rw [hq] at hcl; cases hcl; exact hin y' y hq
              have hv : (ups.map uv)[y]? = some (uv (climb ups (j + 1) (some i))) := by
                rw [List.getElem?_map, List.getElem?_eq_getElem hy]
                show some (uv ups[y]) = some (uv (up1 ups (climb ups j (some i))))
                rw [hcl]
                show _ = some (uv (ups.getD y none))
                rw [List.getD_eq_getElem?_getD, List.getElem?_eq_getElem hy]
                rfl
              exact Evl.ev_op (x := .ref a) (y := .int (y : Int)) (Evl.ev_var rfl) (Evl.ev_is (Evl.ev_var rfl) rfl) (rv_ixB (hS2.ex eH4) (atI_nat hv))
        · obtain ⟨p1', z', rfl⟩ := p
          refine Evl.s_when (b := !decide (uv (climb ups m (some i)) = .non)) (Evl.et_test (Evl.ev_op (Evl.ev_var rfl) Evl.ev_c fun H2 e2 Q q => ⟨rfl, q H2 (Evl.Ex.refl _)⟩)) (fun hc H5 e5 => ?_) fun hc H5 e5 => ?_
          · rw [Bool.not_eq_true', decide_eq_false_iff_not] at hc
            refine Evl.s_ret Evl.ev_c fun H6 e6 => no (fun ⟨us, z, hus⟩ => ?_) H6 ((((((e1.trans e2).trans eH).trans e3).trans eG2).trans p1').trans (e5.trans e6))
            have := uvs_inj (Option.some.inj z)
            subst this
            have ht := climb_enough hin (show i < ups.length by omega) (hus.2.2.2 i hi)
            rw [hb] at ht
            exact hc (by rw [ht]; rfl)
          · rw [Bool.not_eq_false', decide_eq_true_iff] at hc
            have hc : climb ups m (some i) = none := uv_inj (b := none) hc
            refine ⟨((((p1.trans e).trans e3).trans eG2).trans p1').trans e5, ⟨_, _, _, rfl⟩, fun x hx => ?_⟩
            rcases Nat.lt_succ_iff_lt_or_eq.mp hx with hx | rfl
            · exact p3 x hx
            · exact hc
      · obtain ⟨p1, _, p3⟩ := p
        refine Evl.s_ret Evl.ev_c fun H6 e6 => ?_
        have := q H6 (((e1.trans e2).trans (eG.trans p1)).trans e6)
        rwa [pd_true ⟨ups, rfl, hb, fun i j h => by rw [← hb]; exact hin i j h, htop1, fun x hx => (climb_iff hin (by omega)).mp (by rw [hb]; exact p3 x hx)⟩] at this
end
end P41
end S_Ban
section S_Wr
namespace Hk
open PySem PySem.Spec PyProof.Rows L2 Tl
theorem refs_of {H : Hp} : ∀ {xs : List V} {P : Nat → Addr → Hp → Prop}, (∀ i v, xs[i]? = some v → ∃ r, v = .ref r ∧ P i r H) → ∃ rs : List Addr, xs = rs.map V.ref ∧ rs.length = xs.length ∧ ∀ i r, rs[i]? = some r → P i r H
  | [], P, hx => ⟨[], rfl, rfl, fun i r z => by simp at z⟩
  | v :: r, P, hx => by
    obtain ⟨a, rfl, ha⟩ := hx 0 v rfl
    obtain ⟨rs, h1, h2, h3⟩ := refs_of (xs := r) (P := fun i => P (i + 1)) fun i u hu => hx (i + 1) u (by simpa using hu)
    refine ⟨a :: rs, by rw [h1, List.map_cons], by rw [List.length_cons, List.length_cons, h2], fun i u hu => ?_⟩
    cases i with
    | zero => cases hu; exact ha
    | succ i => exact h3 i u (by simpa using hu)
theorem holds_refs {P : Nat → Addr → Hp → Prop} {n : Nat} {xs : List V} {H : Hp} (h : Holds (fun i v H => ∃ r, v = .ref r ∧ P i r H) n xs H) : ∃ rs : List Addr, xs = rs.map V.ref ∧ rs.length = n ∧ ∀ i r, rs[i]? = some r → P i r H := by
  obtain ⟨hl, hx⟩ := h
  subst hl
  exact refs_of hx
theorem eu_tupL {K : PySem.W.Frag} {σ : L2.St} {H : Hp} {ta : TE} {xs : List V} (h : Evl.EvL ta σ H xs) : Evl.EvU (tCB (fun xs H Q => ∃ p ys, xs = [V.ref p] ∧ ((SqL K H p ys ∧ ∀ l, H l = none → Q (V.ref l) (upd H l (HO.tup ys))) ∨ (SqT K H p ys ∧ Q (V.ref p) H))) (tCons ta tNil)) σ H xs := fun H1 e Q q =>
  h H1 e _ fun p H2 hp e2 h2 => ⟨p, xs, rfl, .inl ⟨Evl.sq_of h2, fun t ht => q t _ (Evl.fresh_back e2 ht) (e2.trans (Evl.Ex.new ht)) upd_same⟩⟩
theorem sum_le {ps : List Str} {m : Nat} (h : ∀ s ∈ ps, s.length ≤ m) : (ps.map (·.length)).sum ≤ m * ps.length := by
  induction ps with
  | nil => simp
  | cons a r ih =>
    have := h a List.mem_cons_self
    have := ih fun s hs => h s (List.mem_cons_of_mem _ hs)
    rw [List.map_cons, List.sum_cons, List.length_cons, Nat.mul_add, Nat.mul_one]
    omega
end Hk
namespace Hk
open PySem PySem.Spec PyProof.Rows L2 Tl
theorem cons_any {te : TE} {tr : TA} {σ : L2.St} {H : Hp} {Q : List V → Hp → Prop} (h : te σ H fun v H1 => tr σ H1 fun vs H2 => Q (v :: vs) H2) : tCons te tr σ H Q := h
theorem asg_go {te : TE} {tz : TS} {i : Nat} {D : Ends} {σ : L2.St} {H : Hp} (h : te σ H fun v H1 => tz D (σ.set i (some v)) H1) : tSeq (tAsg te (gName i)) tz D σ H := h
theorem sl_go {r : V → Option Int → Option Int → Hp → VK → Prop} {te : TE} {tl th : TO} {σ : L2.St} {H : Hp} {Q : VK} (h : te σ H fun x H1 => tl σ H1 fun lo H2 => th σ H2 fun hi H3 => r x lo hi H3 Q) : tSl r te tl th σ H Q := h
theorem op_go {r : R2} {ta tb : TE} {σ : L2.St} {H : Hp} {Q : VK} (h : ta σ H fun x H1 => tb σ H1 fun y H2 => r x y H2 Q) : tOp r ta tb σ H Q := h
theorem tup_go {ta : TA} {σ : L2.St} {H : Hp} {Q : VK} (h : ta σ H fun xs H1 => xs.length ≤ sizeLine ∧ ∀ p, H1 p = none → Q (.ref p) (upd H1 p (.tup xs))) : tTup ta σ H Q := h
theorem lst_go {ta : TA} {σ : L2.St} {H : Hp} {Q : VK} (h : ta σ H fun xs H1 => xs.length ≤ sizeLine ∧ ∀ p, H1 p = none → Q (.ref p) (upd H1 p (.lst xs))) : tLst ta σ H Q := h
theorem ret_go {te : TE} {D : Ends} {σ : L2.St} {H : Hp} (h : te σ H D.rt) : tRet te D σ H := h
theorem call_go {sp : Sp} {dvs vs : List V} {E : XK} {ta : TA} {σ : L2.St} {H : Hp} {Q : VK} (h : Evl.EvA ta σ H vs) (k : ∀ H1, Evl.Ex H H1 → sp (vs ++ dvs) H1 Q E) : tCall sp dvs E ta σ H Q := h H (Evl.Ex.refl H) _ k
theorem cons_c {v : V} {tr : TA} {σ : L2.St} {H : Hp} {Q : List V → Hp → Prop} (h : tr σ H fun vs H2 => Q (v :: vs) H2) : tCons (tC v) tr σ H Q := h
theorem call_raw {sp : Sp} {dvs : List V} {E : XK} {ta : TA} {σ : L2.St} {H : Hp} {Q : VK} (h : ta σ H fun vs H1 => sp (vs ++ dvs) H1 Q E) : tCall sp dvs E ta σ H Q := h
theorem cb_go {r : List V → Hp → VK → Prop} {ta : TA} {σ : L2.St} {H : Hp} {Q : VK} (h : ta σ H fun vs H1 => r vs H1 Q) : tCB r ta σ H Q := h
theorem par_go {i j : Nat} {ta : TA} {tz : TS} {D : Ends} {σ : L2.St} {H : Hp} (h : ta σ H fun vs H1 => ∃ v w, vs = [v, w] ∧ tz D ((σ.set i (some v)).set j (some w)) H1) : tSeq (tPar i j ta) tz D σ H := h
theorem ev_slS {σ : L2.St} {H : Hp} {te : TE} {tl th : TO} {z : Str} {lo hi : Option Int} (h : Evl.Ev te σ H (.str z)) (h1 : Evl.EvO tl σ H lo) (h2 : Evl.EvO th σ H hi) (hz : z.length ≤ sizeLine) : Evl.Ev (tSl rSlS te tl th) σ H (.str (cutS z lo hi)) := fun H1 e Q q =>
  h H1 e _ fun H2 e2 => h1 H2 (e.trans e2) _ fun H3 e3 => h2 H3 ((e.trans e2).trans e3) _ fun H4 e4 => ⟨z, rfl, hz, q H4 ((e2.trans e3).trans e4)⟩
theorem rv_cat {H : Hp} {x y : Str} (h : x.length + y.length ≤ sizeLine) : Evl.RV (fun x y H Q => ∃ i j, x = V.str i ∧ y = V.str j ∧ i.length + j.length ≤ sizeLine ∧ Q (.str (i ++ j)) H) (.str x) (.str y) H (.str (x ++ y)) := fun H1 e Q q => ⟨x, y, rfl, rfl, h, q H1 (Evl.Ex.refl _)⟩
theorem ev_callN {sp : Sp} {gV : List V → List V → List V} {E : XK} {tk : TA} {σ : L2.St} {H : Hp} {zs : List V} {m : Nat} {v : V} (h : Evl.EvA tk σ H zs) (hm : zs.length = m) (hs : Evl.SpV sp (gV [] zs) H v) : Evl.Ev (tCallN 0 m sp gV E tNil tk) σ H v := fun H1 e Q q =>
  h H1 e _ fun H2 e2 => ⟨rfl, hm, hs H2 (e.trans e2) Q (fun H3 e3 => q H3 (e2.trans e3)) E⟩
theorem et_chain {σ : L2.St} {H : Hp} {ta tb tc : TE} {i j k : Int} (h1 : Evl.Ev ta σ H (.int i)) (h2 : Evl.Ev tb σ H (.int j)) (h3 : Evl.Ev tc σ H (.int k)) : Evl.EvT (tTest (tChain (rI0 fun i j => .bl (decide (i ≤ j))) (rI0 fun i j => .bl (decide (i ≤ j))) ta tb tc)) σ H (decide (i ≤ j) && decide (j ≤ k)) := fun H1 e Q q =>
  h1 H1 e _ fun H2 e2 => h2 H2 (e.trans e2) _ fun H3 e3 => ⟨i, j, rfl, rfl, decide (i ≤ j), rfl, if_go (fun hb => h3 H3 ((e.trans e2).trans e3) _ fun H4 e4 => ⟨j, k, rfl, rfl, decide (j ≤ k), rfl, by rw [hb, Bool.true_and] at q; exact q H4 ((e2.trans e3).trans e4)⟩) (fun hb => ⟨false, rfl, by rw [hb, Bool.false_and] at q; exact q H3 (e2.trans e3)⟩)⟩
theorem _root_.Evl.SpV.is {sp : Sp} {vs : List V} {H : Hp} {v w : V} (h : Evl.SpV sp vs H v) (e : v = w) : Evl.SpV sp vs H w := e ▸ h
end Hk
namespace Hk
open PySem PySem.Spec PyProof.Rows L2 Tl
open Evl
theorem ei_rowsN {K : PySem.W.Frag} {σ : L2.St} {H : Hp} {te : TE} {xs : List V} {n : Nat} {W : Hp → Prop} (h : EvL te σ H xs) (hn : n = xs.length) (hW : ∀ A, Ex H A → W A) : EvI (iList K te) σ H n (YRow xs W) := fun H1 e R k => by
  subst hn
  exact h H1 e _ fun a H2 ha e2 hx => ⟨a, rfl, ⟨xs, sq_of hx⟩, k _ (fun A => SqL K A a xs ∧ W A) H2 e2 (walk_list.mono (fun _ q => q.1) fun i A v A' hi q y => ⟨y.1, y.2, q.2⟩) fun A ab s => ⟨sq_of (s _ _ ha hx), hW A ab⟩⟩
/-- a list of ints that stands is not the sorted set of the same -/
theorem ev_neSS {K : PySem.W.Frag} {σ : L2.St} {H : Hp} {ta tb : TE} {w : World} {a : Addr} {ns : List Int} (h : Ev ta σ H (.ref a)) (h2 : Ev tb σ H (.ref a)) (hs : H a = some (.lst (ns.map V.int))) (hl : ns.length < 60) : Ev (tOp (rNeD K) ta (tCB (rSortedSet w) (tCons (tCB (rSetL K w) (tCons tb tNil)) tNil))) σ H (.bl (!pd (ns.Pairwise (· < ·)))) := fun H1 e Q q =>
  h H1 e _ fun H2 e2 => h2 H2 (e.trans e2) _ fun H3 e3 => ⟨a, ns, rfl, sq_of (e3 _ _ (e2 _ _ (e _ _ hs))), by omega, fun p c hp' hc => ⟨p, _, c, rfl, upd_same, by omega, fun ms r hpw hmem hlen hr => by
    have e4 : Ex H3 (upd (upd H3 p _) r (.lst (ms.map V.int))) := (Ex.new hp').trans (Ex.new hr)
    refine ⟨.list (zD ns), .list (zD ms), .lst (sq_of (e4 _ _ (e3 _ _ (e2 _ _ (e _ _ hs))))) (dp_zD ns), .lst (sq_of upd_same) (dp_zD ms), PySem.W.ke_shaped_ints ns, PySem.W.ke_shaped_ints ms, ?_⟩
    rw [eqv_zD]
    have hm : ∀ k, k ∈ ms ↔ k ∈ ns := fun k => (hmem k).trans decide_eq_true_iff
    have hp : decide (ns = ms) = pd (ns.Pairwise (· < ·)) := by
      by_cases z : ns.Pairwise (· < ·)
      · rw [pd_true z, decide_eq_true (asc_eq z hpw fun k => (hm k).symm)]
      · rw [pd_false z, decide_eq_false (fun y : ns = ms => z (by rw [y]; exact hpw))]
    rw [hp]
    exact q _ ((e2.trans e3).trans e4)⟩⟩
end Hk
end S_Wr
section S_Rl
namespace Hk
open PySem PySem.Spec PyProof.Rows L2 Tl
/-! ### d.update(l) of a list of pairs -/
section
variable {X : Cx}
theorem pairs_upd {pins : List (Addr × Obj)} {σ : L2.St} {H : Hp} {s : Shared} (I : Inv X pins σ H s) : ∀ {ps : List Addr} {kvs : List (L2.Key × V)}, Paired (fun p kv => SqT X.K H p [kV kv.1, kv.2]) ps kvs →
    ∃ (prs : List (L2.Key × Value)) (pv : List (Value × Value)), KV kvs prs ∧ prs.length = ps.length ∧ pv.length = ps.length ∧ ∀ (j : Nat) (k v : Value), pv[j]? = some (k, v) → ∃ (b : Addr) (key : L2.Key), ps[j]? = some b ∧ IsTup s.heap b #[k, v] ∧ prs[j]? = some (key, v) ∧ keyIs key k = true
  | _, _, .nil => ⟨[], [], .nil, rfl, rfl, fun j k v e => by simp at e⟩
  | _, _, .cons (a := p) (b := kv) h t => by
    obtain ⟨prs, pv, r, hl, hl2, hp⟩ := pairs_upd I t
    obtain ⟨its, rv, ht, _⟩ := I.tuple h
    obtain ⟨u, y, ei, ru, ry⟩ := vals2 rv
    subst ei
    refine ⟨(kv.1, y) :: prs, (u, y) :: pv, .cons ⟨rfl, ry⟩ r, by rw [List.length_cons, List.length_cons, hl], by rw [List.length_cons, List.length_cons, hl2], fun j k v e => ?_⟩
    cases j with
    | zero =>
      have e' : (u, y) = (k, v) := Option.some.inj e
      cases e'
      exact ⟨p, kv.1, rfl, ht, rfl, kV_is (P := X.prog) (w := X.w) ru⟩
    | succ j =>
      obtain ⟨b, key, e1, e2, e3, e4⟩ := hp j k v (by simpa using e)
      exact ⟨b, key, by simpa using e1, e2, by simpa using e3, e4⟩
/-- d.update(l), l a list of pairs (key, value) -/
def rUpdP (K : PySem.W.Frag) : V → List V → Hp → VK → Prop := fun x xs H Q => ∃ (d a : Addr) (ps : List Addr) (old kvs : List (L2.Key × V)), x = .ref d ∧ xs = [.ref a] ∧ H d = some (.dK old) ∧ SqL K H a (ps.map V.ref) ∧ Paired (fun p kv => SqT K H p [kV kv.1, kv.2]) ps kvs ∧ old.length + kvs.length ≤ 10000 ∧
  Q .non (upd H d (.dK (mergeK old kvs)))
theorem mt_updP (hcalm : X.calm = true) : MtR X "dict.update" (rUpdP X.K) := by
  intro pins s σ H x xs v us Q I rx rxs h
  obtain ⟨d, a, ps, old, kvs, rfl, rfl, hd, hq, hp, hsz, q⟩ := h
  cases rx
  obtain ⟨u, rfl, ru⟩ := vals1 rxs
  cases ru
  obtain ⟨its, rv, pl, hz⟩ := I.list hq
  have ei := refs_at rv
  subst ei
  obtain ⟨prs, pv, rel, hl, hl2, hpr⟩ := pairs_upd I hp
  obtain ⟨o, n, ho, hc, hdd, hdat⟩ := pl
  obtain ⟨z, lo, vs, rel0, dd⟩ := dk_of I.hok hd
  obtain ⟨od, hod, odc, _⟩ := id dd
  have lk : kvs.length = ps.length := rel.length.trans hl
  have dne : ∀ (b : Addr) (ob : Obj), s.heap.get? b = some ob → ob.cls ≠ .type "dict" → d ≠ b := fun b ob hb hcl e => by
    subst e
    obtain ⟨o2, h2, h3⟩ := dd.typeIs
    rw [hb] at h2
    cases h2
    exact hcl h3
  refine PySem.call_update_pairs (knd := mixKind X.prog X.w) (acc := vs) (kvs := prs) (d := d) (PySem.PairArg.list a (ps.map Value.ref).toArray (fun j => ps.getD j 0) pv) (I.ok.hd hcalm)
    ⟨⟨o, n, ho, hc, hdd, hdat⟩, by rw [List.size_toArray, List.length_map, hl2], fun j k v e => ?_⟩ (fun hm => ?_) ⟨by rw [hl, hl2], fun i key v e => ?_⟩ dd (by rw [hl2, ← lk, ← rel0.length]; rw [sizeLine_eq]; omega) fun h' tk hd' kp => ?_
  · obtain ⟨b, key, e1, e2, e3, e4⟩ := hpr j k v e
    have eb : ps.getD j 0 = b := by rw [List.getD_eq_getElem?_getD, e1]; rfl
    refine ⟨by rw [List.getElem?_toArray, List.getElem?_map, e1]; exact congrArg (fun z => some (Value.ref z)) eb.symm, .inl ?_⟩
    show s.heap.IsTuple (ps.getD j 0) _
    rw [eb]
    exact e2
  · rcases List.mem_cons.mp hm with e | e
    · exact dne a o ho (by rw [hc]; decide) e
    · obtain ⟨j, hj, e⟩ := List.mem_map.mp e
      have hj := List.mem_range.mp hj
      obtain ⟨⟨k, v⟩, ev⟩ : ∃ p, pv[j]? = some p := ⟨_, List.getElem?_eq_getElem hj⟩
      obtain ⟨b, key, e1, ⟨ob, e2, e3, _⟩, _, _⟩ := hpr j k v ev
      have eb : ps.getD j 0 = b := by rw [List.getD_eq_getElem?_getD, e1]; rfl
      exact dne b ob e2 (by rw [e3]; decide) (by rw [← e, eb])
  · obtain ⟨b, k, e1, e2, e3, e4⟩ := hpr i key v e
    exact ⟨k, e3, e4⟩
  · have hlen : (mergeK old kvs).length ≤ sizeLine := by
      refine Nat.le_trans (length_mergeK kvs old) ?_
      rw [sizeLine_eq]
      omega
    obtain ⟨o', _, _, ho', _⟩ := id hd'
    exact ⟨.non, upd H d (.dK (mergeK old kvs)), I.write (x := d) (e := d) (t' := tk) (by rw [hd]; trivial) (.inl rfl) (fun b ob hb e => kp b ob hb (fun z => nomatch z) e) ⟨o', ho'⟩ (dk_new hlen lo (KV.merge rel rel0) hd'), rfl, q⟩
end
end Hk
end S_Rl
section S_Xn
namespace EnL
open PySem PySem.Spec PyProof.Rows L2 Tl Hk
/-! ### a walk over what stands at B: the body may write whatever is not of B -/
def EvB (wi : TI) (σ : L2.St) (B : Hp) (n : Nat) (Y : Nat → Hp → V → Hp → Prop) : Prop := ∀ H1, Evl.Ex B H1 → ∀ R : It → Hp → Prop,
  (∀ (J : It) (G : Hp → Prop) H2, Evl.Ex H1 H2 → Walk J n G Y → (∀ A, Evl.Ex B A → G A) → R J H2) → wi σ H1 R
theorem eb_enum {K : PySem.W.Frag} {σ : L2.St} {B : Hp} {a : Addr} {xs : List V} {ta : TA} (h : Evl.EvA ta σ B [.ref a]) (hx : SqL K B a xs) : EvB (iEnum K ta) σ B xs.length (YPair (fun i => some (.int (i : Nat))) (fun i => xs[i]?)) := fun H1 e R k =>
  h H1 e _ fun H2 e2 => ⟨a, xs, rfl, Evl.ex_l (e.trans e2) hx, k _ _ H2 e2 walk_enum fun A ab => Evl.ex_l ab hx⟩
theorem s_forB {wi : TI} {g : TG} {tb : TS} {D : Ends} {σ : L2.St} {H B : Hp} {n : Nat} {Y : Nat → Hp → V → Hp → Prop} {s : Nat → L2.St → L2.St} (hw : EvB wi σ B n Y) (aim : Aims g n Y s) (e : Evl.Ex B H) (Pv : Nat → L2.St → Hp → Prop) (h0 : ∀ H2, Evl.Ex H H2 → Pv 0 σ H2)
    (hk : ∀ i σ' H', i ≤ n → Pv i σ' H' → Evl.Ex B H') (hs : ∀ i σ' H' H'', i < n → Pv i σ' H' → Evl.Ex H' H'' → tb { D with nx := Pv (i + 1), ct := Pv (i + 1), bk := D.nx } (s i σ') H'')
    (hd : ∀ σ' H', Pv n σ' H' → D.nx σ' H') : tFor wi g tb D σ H :=
  hw H e _ fun J G H2 e2 w sG => for_it w Pv (h0 H2 e2) (fun i σ' H' hi p => sG H' (hk i σ' H' hi p))
    (fun i x σ' H' H'' hi p y => by
      obtain ⟨ab, k⟩ := aim i σ' H' x H'' hi y
      exact k _ (hs i σ' H' H'' hi p ab)) (fun σ' H' p => hd σ' H' p)
theorem q_forB {wi : TI} {g : TG} {tb tz : TS} {D : Ends} {σ : L2.St} {H B : Hp} {n : Nat} {Y : Nat → Hp → V → Hp → Prop} {s : Nat → L2.St → L2.St} (hw : EvB wi σ B n Y) (aim : Aims g n Y s) (e : Evl.Ex B H) (Pv : Nat → L2.St → Hp → Prop) (h0 : ∀ H2, Evl.Ex H H2 → Pv 0 σ H2)
    (hk : ∀ i σ' H', i ≤ n → Pv i σ' H' → Evl.Ex B H') (hs : ∀ i σ' H' H'', i < n → Pv i σ' H' → Evl.Ex H' H'' → tb { D with nx := Pv (i + 1), ct := Pv (i + 1), bk := tz D } (s i σ') H'')
    (hd : ∀ σ' H', Pv n σ' H' → tz D σ' H') : tSeq (tFor wi g tb) tz D σ H := s_forB (D := { D with nx := tz D }) hw aim e Pv h0 hk hs hd
/-! ### a new list of new lists of ints, all unlike -/
structure Tw (H0 H : Hp) (A : Addr) (as : List Addr) (ts : List (List Int)) : Prop where
  ex : Evl.Ex H0 H
  lst : H A = some (.lst (as.map V.ref))
  nA : H0 A = none
  len : as.length = ts.length
  nd : as.Nodup
  row : ∀ (i : Nat) (a : Addr) (ns : List Int), as[i]? = some a → ts[i]? = some ns → a ≠ A ∧ H0 a = none ∧ H a = some (.lst (ns.map V.int))
variable {H0 H H' : Hp} {A a : Addr} {as : List Addr} {ts : List (List Int)} {i : Nat} {ns : List Int}
theorem Tw.up (w : Tw H0 H A as ts) (e : Evl.Ex H H') : Tw H0 H' A as ts := ⟨w.ex.trans e, e _ _ w.lst, w.nA, w.len, w.nd, fun i a ns p q => by
  obtain ⟨r1, r2, r3⟩ := w.row i a ns p q
  exact ⟨r1, r2, e _ _ r3⟩⟩
theorem Tw.set (w : Tw H0 H A as ts) (ha : as[i]? = some a) (hi : i < ts.length) : Tw H0 (upd H a (.lst (ns.map V.int))) A as (ts.set i ns) := by
  obtain ⟨r1, r2, r3⟩ := w.row i a _ ha (List.getElem?_eq_getElem hi)
  refine ⟨fun b o h => ?_, by rw [upd_ne r1.symm]; exact w.lst, w.nA, by rw [w.len, List.length_set], w.nd, fun j b ms hj hm => ?_⟩
  · rw [upd_ne (fun z => by rw [z, r2] at h; cases h)]
    exact w.ex b o h
  · by_cases z : j = i
    · subst z
      rw [ha] at hj
      cases hj
      rw [List.getElem?_set_self hi] at hm
      cases hm
      exact ⟨r1, r2, upd_same⟩
    · rw [List.getElem?_set_ne (Ne.symm z)] at hm
      obtain ⟨q1, q2, q3⟩ := w.row j b ms hj hm
      refine ⟨q1, q2, ?_⟩
      rw [upd_ne (fun e => z ?_)]
      · exact q3
      · subst e
        obtain ⟨l1, e1⟩ := List.getElem?_eq_some_iff.mp hj
        obtain ⟨l2, e2⟩ := List.getElem?_eq_some_iff.mp ha
        exact (List.getElem_inj w.nd).mp (e1.trans e2.symm)
/-- a row that stands is put behind -/
theorem Tw.put (w : Tw H0 H A as ts) (ha : H a = some (.lst (ns.map V.int))) (h0 : H0 a = none) (hA : a ≠ A) (hn : a ∉ as) : Tw H0 (upd H A (.lst (as.map V.ref ++ [.ref a]))) A (as ++ [a]) (ts ++ [ns]) := by
  refine ⟨fun b o h => ?_, by rw [upd_same, List.map_append]; rfl, w.nA, by rw [List.length_append, List.length_append, w.len]; rfl, ?_, fun j b ms hj hm => ?_⟩
  · rw [upd_ne (fun z => by rw [z, w.nA] at h; cases h)]
    exact w.ex b o h
  · rw [List.nodup_append]
    refine ⟨w.nd, by simp, fun x hx y hy e => ?_⟩
    rw [List.mem_singleton.mp hy] at e
    subst e
    exact hn hx
  · rcases Nat.lt_or_ge j as.length with z | z
    · rw [List.getElem?_append_left z] at hj
      rw [List.getElem?_append_left (by rw [← w.len]; exact z)] at hm
      obtain ⟨q1, q2, q3⟩ := w.row j b ms hj hm
      exact ⟨q1, q2, by rw [upd_ne q1]; exact q3⟩
    · rw [List.getElem?_append_right z] at hj
      rw [List.getElem?_append_right (by rw [← w.len]; exact z), ← w.len] at hm
      have : j - as.length = 0 := by
        have := (List.getElem?_eq_some_iff.mp hj).1
        simp at this
        omega
      rw [this] at hj hm
      cases hj
      cases hm
      exact ⟨hA, h0, by rw [upd_ne hA]; exact ha⟩
theorem Tw.notin (w : Tw H0 H A as ts) (ha : H a = none) : a ≠ A ∧ a ∉ as := ⟨(fun z => by rw [z, w.lst] at ha; cases ha), fun hm => by
  obtain ⟨i, hi, rfl⟩ := List.mem_iff_getElem.mp hm
  have := (w.row i _ _ (List.getElem?_eq_getElem hi) (List.getElem?_eq_getElem (by rw [← w.len]; exact hi))).2.2
  rw [this] at ha
  cases ha⟩
theorem Tw.app (w : Tw H0 H A as ts) (ha : H a = none) : Tw H0 (upd (upd H a (.lst [])) A (.lst (as.map V.ref ++ [.ref a]))) A (as ++ [a]) (ts ++ [[]]) := by
  obtain ⟨n1, n2⟩ := w.notin ha
  exact (w.up (Evl.Ex.new (o := .lst []) ha)).put (ns := []) upd_same (Evl.fresh_back w.ex ha) n1 n2
end EnL
end S_Xn
section S_Bao
namespace P41
open PySem PySem.Spec PyProof.Rows L2 Tl Hk RZ EnL
/-! ### the pieces -/
abbrev nPc : List Str := ["bags", "found", "bag", "piece"]
theorem scPieces : FnScope nPc ["bags"] (defScope sPieces) := ⟨rfl, rfl, rfl, by decide +kernel, rfl, by decide +kernel, by decide +kernel⟩
def addK (ks : List Int) (k : Int) : List Int := if k ∈ ks then ks else ks ++ [k]
def tg (ks : List Int) : List (L2.Key × V) := ks.map fun k => (Sum.inl k, V.bl true)
theorem tg_len (ks : List Int) : (tg ks).length = ks.length := List.length_map _
theorem tg_any (ks : List Int) (k : Int) : ((tg ks).any fun kv => decide (kv.1 = Sum.inl k)) = decide (k ∈ ks) := by
  rw [Bool.eq_iff_iff, List.any_eq_true, decide_eq_true_iff]
  constructor
  · rintro ⟨kv, h1, h2⟩
    obtain ⟨j, hj, rfl⟩ := List.mem_map.mp h1
    have := Sum.inl.inj (of_decide_eq_true h2)
    rw [← this]
    exact hj
  · intro h
    exact ⟨_, List.mem_map.mpr ⟨k, h, rfl⟩, decide_eq_true rfl⟩
theorem put_tg (ks : List Int) (k : Int) : putK (tg ks) (Sum.inl k) (V.bl true) = tg (addK ks k) := by
  unfold putK addK
  rw [tg_any]
  by_cases h : k ∈ ks
  · rw [if_pos (decide_eq_true h), if_pos h]
    unfold tg
    rw [List.map_map]
    refine List.map_congr_left fun j _ => ?_
    show (if (Sum.inl j : L2.Key) = Sum.inl k then ((Sum.inl j : L2.Key), V.bl true) else (Sum.inl j, V.bl true)) = _
    split <;> rfl
  · rw [if_neg (by rw [decide_eq_false h]; decide), if_neg h]
    unfold tg
    rw [List.map_append]
    rfl
theorem merge_tg : ∀ (ns ks : List Int), mergeK (tg ks) (tg ns) = tg (ns.foldl addK ks)
  | [], _ => rfl
  | n :: r, ks => by
    show mergeK (putK (tg ks) (Sum.inl n) (V.bl true)) (tg r) = tg (r.foldl addK (addK ks n))
    rw [put_tg, merge_tg r]
theorem addK_mem {ks : List Int} {k j : Int} : j ∈ addK ks k ↔ j ∈ ks ∨ j = k := by
  unfold addK
  split
  · exact ⟨.inl, fun h => h.elim id fun e => by subst e; assumption⟩
  · rw [List.mem_append, List.mem_singleton]
theorem addK_nd {ks : List Int} {k : Int} (h : ks.Nodup) : (addK ks k).Nodup := by
  unfold addK
  split
  · exact h
  · rename_i hk
    exact List.nodup_append.mpr ⟨h, List.nodup_cons.mpr ⟨fun z => (nomatch z), List.nodup_nil⟩, fun a ha b hb e => hk (by rw [← List.mem_singleton.mp hb, ← e]; exact ha)⟩
theorem fold_mem : ∀ {ns ks : List Int} {j : Int}, j ∈ ns.foldl addK ks ↔ j ∈ ks ∨ j ∈ ns
  | [], ks, j => by simp
  | n :: r, ks, j => by
    rw [List.foldl_cons, fold_mem, addK_mem, List.mem_cons]
    exact or_assoc
theorem fold_nd : ∀ {ns ks : List Int}, ks.Nodup → (ns.foldl addK ks).Nodup
  | [], ks, h => h
  | n :: r, ks, h => fold_nd (ns := r) (addK_nd h)
theorem ndI_le : ∀ {l m : List Int}, l.Nodup → (∀ x ∈ l, x ∈ m) → l.length ≤ m.length
  | [], _, _, _ => Nat.zero_le _
  | a :: r, m, h1, h2 => by
    obtain ⟨n1, n2⟩ := List.nodup_cons.mp h1
    have ha := h2 a (by simp)
    have := ndI_le (m := m.erase a) n2 fun x hx => (List.mem_erase_of_ne (fun (z : x = a) => n1 (by rw [← z]; exact hx))).mpr (h2 x (by simp [hx]))
    rw [List.length_erase_of_mem ha] at this
    have hp := List.length_pos_of_mem ha
    rw [List.length_cons]
    omega
/-- few pieces: fewer than 64 -/
def Few (bs : List (List Int)) : Prop := ∃ us : List Int, us.length < 64 ∧ ∀ ns ∈ bs, ∀ k ∈ ns, k ∈ us
def spPieces (K : PySem.W.Frag) : Sp := fun vs H Q _ => ∃ (A : Addr) (xs : List V) (bs : List (List Int)), vs = [.ref A] ∧ SqS K H A xs ∧ RowsB K H xs bs ∧ bs.length ≤ 3000 ∧ (∀ ns ∈ bs, ns.length ≤ 3000) ∧ Few bs ∧
  ∀ (p : Addr) (ps : List Int) (H' : Hp), Evl.Ex H H' → H p = none → H' p = some (.lst (ps.map V.int)) → PcOk ps bs → Q (.ref p) H'
theorem eb_ei {K : PySem.W.Frag} {σ : L2.St} {B : Hp} {te : TE} {a : Addr} {xs : List V} (h : Evl.Ev te σ B (.ref a)) (hs : SqS K B a xs) : EvB (iEi K te) σ B xs.length (YAt xs) := fun H1 e R k =>
  hs.elim (fun hs => .inl (h H1 e _ fun H2 e2 => ⟨a, rfl, ⟨xs, Evl.ex_l (e.trans e2) hs⟩, k _ _ H2 e2 walk_list fun A ab => Evl.ex_l ab hs⟩))
    fun hs => .inr (h H1 e _ fun H2 e2 => ⟨a, rfl, ⟨xs, Evl.ex_t (e.trans e2) hs⟩, k _ _ H2 e2 walk_tup fun A ab => Evl.ex_t ab hs⟩)
section
variable {P : Program} {w : World} {K : PySem.W.Frag} {mg : Str → Option Value} {base : Heap}
set_option maxHeartbeats 2000000 in
theorem ok_pieces {f : Addr} {fd : FuncData} {k : Nat} (F : Fun K "_law_pieces" "_law_pieces" sPieces f fd) (msort : mg "sorted" = none) : FnOk P w K mg base CX0 (k + 1) f fd ["bags"] (spPieces K) := by
  refine F.ok scPieces (fun vs H Q E h => ?_) (fun cdv A0 outer s H vs Q E hr h => ?_)
  · obtain ⟨A, xs, bs, rfl, _⟩ := h
    rfl
  · obtain ⟨A, xs, bs, rfl, hS, hR, hl, hrl, hfew, q⟩ := h
    have nd := scPieces.nd
    refine ⟨_, pss_cons (ps_set (i := 1) nd rfl (.inl rfl) (pe_dnewK)) (pss_cons (ps_for PassesOwn.never rfl (pi_ei (pv 0)) (pg_name (i := 2) nd rfl (Or.inl rfl)) (pss_one (ps_expr (pe_bm PySem.F.plainAttrs_dict PySem.F.slot_dict_update PySem.F.type_dict_update (mt_updP rfl) (pv 1) (pa_cons (pe_lc (own := [("piece", 3)]) (g := gName 3) (tt := tYes) (te := tTup (tCons (tVar 3) (tCons (tC (.bl true)) tNil))) rfl nd (pi_ei (pv 2)) (blkOk_by (N := nPc) (sc := defScope sPieces) (by decide +kernel)) (fun _ _ _ _ _ => pg_name (i := 3) nd rfl (Or.inl rfl)) (fun _ _ _ _ _ => pts_nil) (fun _ _ _ _ _ => pe_tup (pa_cons (pv 3) (pa_cons (pe_bl) (pa_nil))))) (pa_nil)))))) (pss_one (ps_ret (pe_callB (call_sortedDI rfl) (by rfl) msort (by decide +kernel) (pa_cons (pv 1) (pa_nil)))))), ?_⟩
    refine fun d nd0 => ?_
    have hd0 : (upd H d (.dK [])) d = some (.dK (tg [])) := upd_same
    have ed : Evl.Ex H (upd H d (.dK [])) := Evl.Ex.new nd0
    have full : ∀ {i : Nat} {ns : List Int}, bs[i]? = some ns → ∀ j, (∃ ms ∈ bs.take (i + 1), j ∈ ms) ↔ (∃ ms ∈ bs.take i, j ∈ ms) ∨ j ∈ ns := fun {i ns} hn j => by
      have hi := (List.getElem?_eq_some_iff.mp hn)
      obtain ⟨hi, e⟩ := hi
      rw [List.take_succ_eq_append_getElem hi, e]
      constructor
      · rintro ⟨ms, h1, h2⟩
        rcases List.mem_append.mp h1 with h1 | h1
        · exact .inl ⟨ms, h1, h2⟩
        · rw [List.mem_singleton.mp h1] at h2
          exact .inr h2
      · rintro (⟨ms, h1, h2⟩ | h)
        · exact ⟨ms, List.mem_append_left _ h1, h2⟩
        · exact ⟨ns, List.mem_append_right _ (List.mem_singleton.mpr rfl), h⟩
    obtain ⟨us, hus, hall⟩ := hfew
    have few : ∀ {i : Nat} {ks : List Int}, ks.Nodup → (∀ j, j ∈ ks ↔ ∃ ns ∈ bs.take i, j ∈ ns) → ks.length < 64 := fun hn hm => by
      have := ndI_le hn (m := us) fun x hx => by
        obtain ⟨ns, h1, h2⟩ := (hm x).mp hx
        exact hall ns (List.mem_of_mem_take h1) x h2
      omega
    refine q_forB (B := H) (n := xs.length) (s := fun i σ => σ.set 2 (some (xs.getD i .non))) (eb_ei (Evl.ev_var rfl) hS) (aims_at (j := 2)) ed (fun i σ' H' => Evl.Ex H H' ∧ (∃ b, σ' = [some (.ref A), some (.ref d), b, none]) ∧ ∃ ks, H' d = some (.dK (tg ks)) ∧ ks.Nodup ∧ ∀ j, j ∈ ks ↔ ∃ ns ∈ bs.take i, j ∈ ns) (fun G eG => ⟨ed.trans eG, ⟨_, rfl⟩, [], eG _ _ hd0, List.nodup_nil, fun j => ⟨(fun z => nomatch z), fun ⟨ns, z, _⟩ => by rw [List.take_zero] at z; cases z⟩⟩) (fun i σ' H' _ p => p.1) (fun i σ' H' H'' hi p e => ?_) fun σ' H' p => ?_
    · obtain ⟨p1, ⟨b, rfl⟩, ks, p2, p3, p4⟩ := p
      have hi2 : i < bs.length := by have := hR.1; omega
      obtain ⟨a, h1, h2⟩ := hR.2 i _ (List.getElem?_eq_getElem hi2)
      have hn := List.getElem?_eq_getElem hi2
      generalize bs[i] = ns at h2 hn
      have hnl := hrl ns (List.mem_of_getElem? hn)
      have exa : xs.getD i .non = .ref a := by rw [List.getD_eq_getElem?_getD, h1]; rfl
      have eH := p1.trans e
      have hd2 := e _ _ p2
      rw [exa]
      refine ⟨.ref d, rfl, .inr (.inr (.inl ⟨rfl, .inl ⟨_, hd2⟩⟩)), ?_⟩
      refine Go.cons_any (go_lcD (H := H'') (n := (ns.map V.int).length) (o := fun j => .tup [.int (ns.getD j 0), .bl true]) (ei_ei (K := K) (Evl.ev_var rfl) (h2.ex eH)) (aims_at (j := 3)) (fun _ => rfl) (by rw [List.length_map]; omega) (fun j hj G eG Q1 q1 => ?_) H'' (Evl.Ex.refl _) _ fun D as H3 nD e3 hD hal hand hrow => ?_)
      · rw [List.length_map] at hj
        refine ⟨_, rfl, (by show 2 ≤ sizeLine; decide), fun T hT => ?_⟩
        rw [gd_int hj]
        exact q1 T _ hT (Evl.Ex.new hT) upd_same
      · rw [List.length_map] at hal
        have pr : Paired (fun p kv => SqT K H3 p [kV kv.1, kv.2]) as (tg ns) := by
          have key : ∀ (as : List Addr) (ns : List Int), as.length = ns.length → (∀ (j : Nat) (a : Addr), as[j]? = some a → SqT K H3 a [.int (ns.getD j 0), .bl true]) → Paired (fun p kv => SqT K H3 p [kV kv.1, kv.2]) as (tg ns) := by
            intro as
            induction as with
            | nil =>
              intro ns hl _
              cases ns with
              | nil => exact .nil
              | cons n r => cases hl
            | cons a r ih =>
              intro ns hl hh
              cases ns with
              | nil => cases hl
              | cons n ns =>
                exact .cons (hh 0 a rfl) (ih ns (by simpa using hl) fun j b hb => hh (j + 1) b (by simpa using hb))
          exact key as ns hal fun j a ha => Evl.st_of (hrow j a ha).2.2
        have hd3 := e3 _ _ hd2
        have l1 := few p3 p4
        refine ⟨d, D, as, tg ks, tg ns, rfl, rfl, hd3, Evl.sq_of hD, pr, by rw [tg_len, tg_len]; omega, ?_⟩
        rw [merge_tg]
        refine ⟨(eH.trans e3).mut nd0, ⟨_, rfl⟩, _, upd_same, fold_nd p3, fun j => ?_⟩
        rw [fold_mem, p4, full hn]
    · obtain ⟨p1, ⟨b, rfl⟩, ks, p2, p3, p4⟩ := p
      have hx : bs.take xs.length = bs := by rw [hR.1, List.take_length]
      have l1 := few p3 p4
      rw [hx] at p4
      refine ⟨.ref d, rfl, d, tg ks, ks, rfl, .of p2, by unfold tg; rw [List.map_map]; rfl, l1, fun ys p hp hs hn => ?_⟩
      refine q p ys _ (p1.trans (Evl.Ex.new hn)) (Evl.fresh_back p1 hn) upd_same ⟨lt_of_le_nodup ys hs (hp.nodup_iff.mpr p3), fun j => hp.mem_iff.trans (p4 j)⟩
end
end P41
end S_Bao
section S_Bap
namespace P41
open PySem PySem.Spec PyProof.Rows L2 Tl Hk RZ EnL
/-! ### bags that hold a piece afresh -/
def cntR (L : List (List Int)) (p : Int) : Nat := (L.filter fun r => decide (p ∈ r)).length
theorem cntR_zero {L : List (List Int)} {p : Int} : cntR L p = 0 ↔ p ∉ L.flatten := by
  unfold cntR
  rw [List.length_eq_zero_iff, List.filter_eq_nil_iff, List.mem_flatten]
  constructor
  · rintro h ⟨r, h1, h2⟩
    exact h r h1 (decide_eq_true h2)
  · intro h r h1 h2
    exact h ⟨r, h1, of_decide_eq_true h2⟩
theorem one_fresh : ∀ {L : List (List Int)}, (∀ r ∈ L, r.Nodup) → (L.flatten.Nodup ↔ ∀ p, cntR L p ≤ 1)
  | [], _ => ⟨fun _ p => Nat.zero_le _, fun _ => List.nodup_nil⟩
  | r :: L, h => by
    have ih := one_fresh (L := L) fun s hs => h s (List.mem_cons_of_mem _ hs)
    have hc : ∀ p, cntR (r :: L) p = (if p ∈ r then 1 else 0) + cntR L p := fun p => by
      unfold cntR
      rw [List.filter_cons]
      by_cases hp : p ∈ r
      · rw [if_pos (decide_eq_true hp), if_pos hp, List.length_cons]; omega
      · rw [if_neg (by rw [decide_eq_false hp]; decide), if_neg hp]; omega
    rw [List.flatten_cons, List.nodup_append, ih]
    constructor
    · rintro ⟨h1, h2, h3⟩ p
      rw [hc]
      by_cases hp : p ∈ r
      · have : cntR L p = 0 := cntR_zero.mpr fun hz => h3 p hp p hz rfl
        rw [if_pos hp, this]
        exact Nat.le_refl _
      · rw [if_neg hp, Nat.zero_add]
        exact h2 p
    · intro hh
      refine ⟨h r List.mem_cons_self, fun p => ?_, fun a ha b hb e => ?_⟩
      · have := hh p
        rw [hc] at this
        omega
      · subst e
        have h1 := hh a
        rw [hc, if_pos ha] at h1
        have : cntR L a = 0 := by omega
        exact cntR_zero.mp this hb
theorem cntR_range (L : List (List Int)) (p : Int) : ((List.range L.length).filter fun i => decide (p ∈ L.getD i [])).length = cntR L p := by
  have e : L = (List.range L.length).map fun m => L.getD m [] := by
    refine List.ext_getElem? fun i => ?_
    rw [List.getElem?_map]
    rcases Nat.lt_or_ge i L.length with h | h
    · rw [List.getElem?_range h, List.getElem?_eq_getElem h]
      show _ = some (L.getD i [])
      rw [List.getD_eq_getElem?_getD, List.getElem?_eq_getElem h]
      rfl
    · rw [List.getElem?_eq_none h, List.getElem?_eq_none (by rw [List.length_range]; exact h)]
      rfl
  unfold cntR
  conv => rhs; rw [e, List.filter_map, List.length_map]
  rfl
/-- a piece of some bag is held afresh by one at least -/
theorem fresh_some {bs : List (List Int)} {ups : List (Option Nat)} (hl : ups.length = bs.length) {i : Nat} (ht : Top ups i) {p : Int} (hp : p ∈ bs.getD i []) : p ∈ (freshL bs ups).flatten := by
  have put : ∀ {i : Nat}, i < bs.length → p ∈ bs.getD i [] → frB bs (ups.getD i none) p = true → p ∈ (freshL bs ups).flatten := fun {i} hi hp hf => List.mem_flatten.mpr ⟨freshAt bs ups i, List.mem_map.mpr ⟨i, List.mem_range.mpr hi, rfl⟩, List.mem_filter.mpr ⟨hp, hf⟩⟩
  induction ht with
  | @top i h => exact put (by rw [← hl]; exact (List.getElem?_eq_some_iff.mp h).1) hp (by rw [List.getD_eq_getElem?_getD, h]; rfl)
  | @up i j h t ih =>
    by_cases hj : p ∈ bs.getD j []
    · exact ih hj
    · refine put (by rw [← hl]; exact (List.getElem?_eq_some_iff.mp h).1) hp ?_
      rw [List.getD_eq_getElem?_getD, h]
      show (!decide (p ∈ bs.getD j [])) = true
      rw [decide_eq_false hj]
      rfl
theorem asc_nd : ∀ {ns : List Int}, ascI ns = true → ns.Nodup := fun {ns} h => by
  have key : ∀ (ns : List Int), ascI ns = true → ns.Pairwise (· < ·) := by
    intro ns
    induction ns with
    | nil => exact fun _ => List.Pairwise.nil
    | cons a r ih =>
      intro h
      cases r with
      | nil => exact List.pairwise_singleton _ _
      | cons b r =>
        have h : (decide (a < b) && ascI (b :: r)) = true := h
        rw [Bool.and_eq_true_iff] at h
        have h1 := of_decide_eq_true h.1
        have h2 := ih h.2
        refine List.pairwise_cons.mpr ⟨fun x hx => ?_, h2⟩
        rcases List.mem_cons.mp hx with rfl | hx
        · exact h1
        · have := (List.pairwise_cons.mp h2).1 x hx
          omega
  exact (key ns h).imp fun h => by omega
/-- whether the pieces hang together: each piece has one bag that holds it afresh -/
theorem hang_iff {bs : List (List Int)} {ups : List (Option Nat)} {ps : List Int} (hb : BagsOk bs) (hu : UpsOk bs.length ups) (hp : PcOk ps bs) : (freshL bs ups).flatten.Nodup ↔ ∀ p ∈ ps, cntR (freshL bs ups) p = 1 := by
  rw [one_fresh fun r hr => by
    obtain ⟨i, hi, rfl⟩ := List.mem_map.mp hr
    have hi := List.mem_range.mp hi
    refine List.Pairwise.filter _ (asc_nd ?_)
    rw [List.getD_eq_getElem?_getD, List.getElem?_eq_getElem hi]
    exact hb.asc _ (List.getElem_mem hi)]
  constructor
  · intro h p hpp
    obtain ⟨ns, h1, h2⟩ := (hp.2 p).mp hpp
    obtain ⟨i, hi⟩ := List.mem_iff_getElem?.mp h1
    have hil := (List.getElem?_eq_some_iff.mp hi).1
    have hin := fresh_some hu.1 (hu.2.2.2 i hil) (p := p) (by rw [List.getD_eq_getElem?_getD, hi]; exact h2)
    have h3 := h p
    have h4 : cntR (freshL bs ups) p ≠ 0 := fun z => cntR_zero.mp z hin
    omega
  · intro h p
    by_cases hz : cntR (freshL bs ups) p = 0
    · omega
    · have hin : p ∈ (freshL bs ups).flatten := Classical.byContradiction fun z => hz (cntR_zero.mpr z)
      obtain ⟨r, h1, h2⟩ := List.mem_flatten.mp hin
      obtain ⟨i, hi, rfl⟩ := List.mem_map.mp h1
      have hi := List.mem_range.mp hi
      have h3 := (List.mem_filter.mp h2).1
      rw [List.getD_eq_getElem?_getD, List.getElem?_eq_getElem hi] at h3
      exact Nat.le_of_eq (h p ((hp.2 p).mpr ⟨_, List.getElem_mem hi, h3⟩))
theorem pcs_ex (bs : List (List Int)) : ∃ ps, PcOk ps bs := by
  have hp := List.mergeSort_perm (bs.flatten.foldl addK []) (fun a b => decide (a ≤ b))
  refine ⟨(bs.flatten.foldl addK []).mergeSort (fun a b => decide (a ≤ b)), lt_of_le_nodup _ ?_ (hp.nodup_iff.mpr (fold_nd List.nodup_nil)), fun k => ?_⟩
  · have := List.pairwise_mergeSort (le := fun (a b : Int) => decide (a ≤ b)) (fun a b c h1 h2 => by
      have := of_decide_eq_true h1
      have := of_decide_eq_true h2
      exact decide_eq_true (by omega)) (fun a b => by
      rw [Bool.or_eq_true, decide_eq_true_iff, decide_eq_true_iff]
      omega) (bs.flatten.foldl addK [])
    exact this.imp fun h => of_decide_eq_true h
  · rw [hp.mem_iff, fold_mem, List.mem_flatten]
    exact ⟨fun h => h.elim (fun z => nomatch z) id, .inr⟩
theorem freshL_at {bs : List (List Int)} {ups : List (Option Nat)} {i : Nat} (hi : i < bs.length) : (freshL bs ups).getD i [] = freshAt bs ups i := by
  unfold freshL
  rw [List.getD_eq_getElem?_getD, List.getElem?_map, List.getElem?_range hi]
  rfl
theorem fresh_dec (bs : List (List Int)) (ups : List (Option Nat)) (i : Nat) (p : Int) : decide (p ∈ freshAt bs ups i) = (decide (p ∈ bs.getD i []) && frB bs (ups.getD i none) p) := by
  rw [Bool.eq_iff_iff, decide_eq_true_iff, Bool.and_eq_true_iff, decide_eq_true_iff]
  exact List.mem_filter
abbrev nLP : List Str := ["bags", "above", "piece", "tops", "bag", "at"]
theorem scLPart : FnScope nLP ["bags", "above"] (defScope sLPart) := ⟨rfl, rfl, rfl, by decide +kernel, rfl, by decide +kernel, by decide +kernel⟩
/-- what may be handed to the law's own judge -/
structure In3 (K : PySem.W.Frag) (H : Hp) (b u : V) (rb : Option (List (Option (List V)))) (ru : Option (List V)) : Prop where
  in2 : In2 K H b u rb ru
  few : ∀ bs, rb = some (bs.map rowV) → Few bs
theorem In3.ex {K : PySem.W.Frag} {H H' : Hp} {b u : V} {rb : Option (List (Option (List V)))} {ru : Option (List V)} (h : In3 K H b u rb ru) (e : Evl.Ex H H') : In3 K H' b u rb ru := ⟨h.in2.ex e, h.few⟩
def spLPart (K : PySem.W.Frag) : Sp := fun vs H Q _ => ∃ (b u : V) (rb : Option (List (Option (List V)))) (ru : Option (List V)), vs = [b, u] ∧ In3 K H b u rb ru ∧ ∀ H1, Evl.Ex H H1 → Q (wrongV rb ru) H1
theorem spv_lPart {K : PySem.W.Frag} {H : Hp} {b u : V} {rb : Option (List (Option (List V)))} {ru : Option (List V)} (h : In3 K H b u rb ru) : Evl.SpV (spLPart K) [b, u] H (wrongV rb ru) := fun H1 e Q q E => ⟨b, u, rb, ru, rfl, h.ex e, q⟩
abbrev ttP (K : PySem.W.Frag) : L2.TT := tAnd (tTest (tOp (rIn K false) (tVar 2) (tVar 4))) (tOr (tTest (tOp rIsN (tOp (rIxB K) (tVar 1) (tVar 5)) (tC .non))) (tTest (tOp (rIn K true) (tVar 2) (tOp (rIxB K) (tVar 0) (tOp (rIxB K) (tVar 1) (tVar 5))))))
theorem BagsD.sqi {K : PySem.W.Frag} {H : Hp} {x : V} {rs : List (Option (List V))} (h : BagsD K H x (some rs)) : ∃ a xs, x = .ref a ∧ SqS K H a xs ∧ xs.length = rs.length ∧ xs.length ≤ 3000 ∧ ∀ (i : Nat) (v : V) (r : Option (List V)), xs[i]? = some v → rs[i]? = some r → BagD K H v r := by
  cases h with
  | seq h hn hl hi => exact ⟨_, _, rfl, h, hn, hl, hi⟩
theorem BagsD.isLT {K : PySem.W.Frag} {σ : L2.St} {H : Hp} {te : TE} {x : V} {r : Option (List (Option (List V)))} (h : Evl.Ev te σ H x) (hb : BagsD K H x r) : Evl.Ev (tLT K te) σ H (.bl r.isSome) := by
  cases hb with
  | @no x n h7 h1 h2 => exact Evl.ev_is (ev_isLT h h7) (by rw [h7.isSeq]; simp [h1, h2])
  | seq hs hn hl hi =>
    rcases hs with hs | hs
    · exact Evl.ev_is (ev_isLT h (.lst hs)) rfl
    · exact Evl.ev_is (ev_isLT h (.tup hs)) rfl
section
open Evl
variable {K : PySem.W.Frag} {σ : L2.St} {H : Hp} {ta tb te : TE}
theorem et_inI {x : Int} {a : Addr} {ns : List Int} (h1 : Ev ta σ H (.int x)) (h2 : Ev tb σ H (.ref a)) (hs : SqS K H a (ns.map V.int)) : EvT (tTest (tOp (rIn K false) ta tb)) σ H (decide (x ∈ ns)) := Evl.et_test fun H1 e Q q =>
  h1 H1 e _ fun H2 e2 => h2 H2 (e.trans e2) _ fun H3 e3 => ⟨a, _, rfl, hs.ex ((e.trans e2).trans e3), rfl, flat_ints ns, by
    show Q (.bl (inV (.int x) (ns.map V.int))) H3
    rw [in_ints]
    exact q H3 (e2.trans e3)⟩
theorem et_ninI {x : Int} {a : Addr} {ns : List Int} (h1 : Ev ta σ H (.int x)) (h2 : Ev tb σ H (.ref a)) (hs : SqS K H a (ns.map V.int)) : EvT (tTest (tOp (rIn K true) ta tb)) σ H (!decide (x ∈ ns)) := Evl.et_test fun H1 e Q q =>
  h1 H1 e _ fun H2 e2 => h2 H2 (e.trans e2) _ fun H3 e3 => ⟨a, _, rfl, hs.ex ((e.trans e2).trans e3), rfl, flat_ints ns, by
    show Q (.bl !(inV (.int x) (ns.map V.int))) H3
    rw [in_ints]
    exact q H3 (e2.trans e3)⟩
end
section
variable {P : Program} {w : World} {K : PySem.W.Frag} {mg : Str → Option Value} {base : Heap}
set_option maxHeartbeats 2000000 in
theorem ok_lPart {f fB fA fP : Addr} {fd fdB fdA fdP : FuncData} {k : Nat} (F : Fun K "_law_part" "_law_part" sLPart f fd)
    (FB : Fun K "_law_is_bag" "_law_is_bag" sLIsBag fB fdB) (GB : FnOk P w K mg base CX0 k fB fdB ["value"] (spLIsBag K)) (bB : Binds K fdB ["value"] []) (gB : mg "_law_is_bag" = some (.ref fB))
    (FA : Fun K "_law_are_above" "_law_are_above" sLAreAbove fA fdA) (GA : FnOk P w K mg base CX0 k fA fdA ["value", "many"] (spLAreAbove K)) (bA : Binds K fdA ["value", "many"] []) (gA : mg "_law_are_above" = some (.ref fA))
    (FP : Fun K "_law_pieces" "_law_pieces" sPieces fP fdP) (GP : FnOk P w K mg base CX0 k fP fdP ["bags"] (spPieces K)) (bP : Binds K fdP ["bags"] []) (gP : mg "_law_pieces" = some (.ref fP))
    (mi : mg "isinstance" = none) (ml : mg "list" = none) (mt : mg "tuple" = none) (mlen : mg "len" = none) (menum : mg "enumerate" = none) : FnOk P w K mg base CX0 (k + 1) f fd ["bags", "above"] (spLPart K) := by
  refine F.ok scLPart (fun vs H Q E h => ?_) (fun cdv A0 outer s H vs Q E hr h => ?_)
  · obtain ⟨b, u, rb, ru, rfl, _⟩ := h
    rfl
  · obtain ⟨b, u, rb, ru, rfl, ⟨h, hfew⟩, q⟩ := h
    have nd := scLPart.nd
    refine ⟨_, pss_cons (ps_if (PW.pt (pw_or (pt_not (pt_val (pe_callB call_isiT (by rfl) mi (by decide +kernel) (pa_cons (pv 0) (pa_cons (pe_tup (pa_cons (pe_bltn (v := .ty "list") (by rfl) ml (by decide +kernel) rfl) (pa_cons (pe_bltn (v := .ty "tuple") (by rfl) mt (by decide +kernel) rfl) (pa_nil)))) (pa_nil)))))) (pw_or (pt_not (pt_chain op_le op_le (pe_int) (pe_callB call_len_seq (by rfl) mlen PySem.boot_len (pa_cons (pv 0) (pa_nil))) (pe_int))) (pw_or1 (pt_cmpR (op_neNil hr.units) (pe_lc (own := [("bag", 4)]) (g := gName 4) (tt := _) (te := tVar 4) rfl nd (pi_ei (pv 0)) (blkOk_by (N := nLP) (sc := defScope sLPart) (by decide +kernel)) (fun _ _ _ _ _ => pg_name (i := 4) nd rfl (Or.inl rfl)) (fun _ _ _ _ _ => pts_one (pt_not (pt_val (pe_call GB hr (by rfl) gB FB.kp bB .nil pass0 (pa_cons (pv 4) (pa_nil)))))) (fun _ _ _ _ _ => pv 4)) (pe_lst (pa_nil)) (nomark _)))))) (pss_one (ps_ret (pe_str))) (pss_nil)) (pss_cons (ps_if (pt_not (pt_val (pe_call GA hr (by rfl) gA FA.kp bA .nil pass0 (pa_cons (pv 1) (pa_cons (pe_callB call_len_seq (by rfl) mlen PySem.boot_len (pa_cons (pv 0) (pa_nil))) (pa_nil)))))) (pss_one (ps_ret (pe_str))) (pss_nil)) (pss_cons (ps_for PassesOwn.never rfl (pi_list (pe_call GP hr (by rfl) gP FP.kp bP .nil pass0 (pa_cons (pv 0) (pa_nil)))) (pg_name (i := 2) nd rfl (Or.inr rfl)) (pss_cons (ps_setLc (i := 3) (own := [("at", 5), ("bag", 4)]) (g := gTup K 2 (gCons (gName 5) (gCons (gName 4) gNil))) (tt := ttP K) (te := tVar 5) rfl nd rfl rfl (sw_true rfl rfl rfl (by decide +kernel)) (pi_enE (by rfl) menum (pa_cons (pv 0) pa_nil)) (blkOk_by (N := nLP) (sc := defScope sLPart) (by decide +kernel)) (fun _ _ _ _ _ => pg_tup (by rfl) (pgs_cons (pg_name (i := 5) nd rfl (Or.inl rfl)) (pgs_cons (pg_name (i := 4) nd rfl (Or.inl rfl)) pgs_nil))) (fun _ _ _ _ _ => pts_one (PW.pt (pw_and (pt_cmpR op_in_seq (pv 2) (pv 4) (by with_unfolding_all rfl)) (pw_and1 (PW.pt (pw_or (pt_cmpR op_isN (pe_ix ix_any2 (pv 1) (pv 5) (fun _ _ => rfl)) (pe_non) (nomark _)) (pw_or1 (pt_cmpR op_notIn_seq (pv 2) (pe_ix ix_any2 (pv 0) (pe_ix ix_any2 (pv 1) (pv 5) (fun _ _ => rfl)) (fun _ _ => rfl)) (by with_unfolding_all rfl))))))))) (fun _ _ _ _ _ => pv 5)) (pss_one (ps_if (pt_cmpR op_ne (pe_callB call_len_seq (by rfl) mlen PySem.boot_len (pa_cons (pv 3) (pa_nil))) (pe_int) (nomark _)) (pss_one (ps_ret (pe_str))) (pss_nil))))) (pss_one (ps_ret (pe_non))))), ?_⟩
    have t1 : Evl.EvT (tNot (tB (tLT K (tVar 0)))) (start nLP [b, u]) H (!rb.isSome) := Evl.et_not (Evl.et_B (h.hb.isLT (Evl.ev_var rfl)))
    refine Evl.q_when (b := !pd (P1 rb)) ?_ (fun hb H1 e1 => ?_) fun hb H1 e1 => ?_
    · cases rb with
      | none =>
        refine Evl.et_is (Evl.et_or (a := true) (b := true) t1 fun z => nomatch z) ?_
        rw [pd_false (fun z => by have := z.1; cases this)]
        rfl
      | some rs =>
        obtain ⟨a, xs, rfl, hS, hn, hl, hi⟩ := h.hb.sqi
        have t2 := et_chain (σ := start nLP [.ref a, u]) (H := H) (i := 1) (k := 2000) (ta := tC (.int 1)) (tb := tCB (Evl.rLenS K) (tCons (tVar 0) tNil)) (tc := tC (.int 2000)) Evl.ev_c (ev_lenB (K := K) (Evl.ev_var rfl) hS) Evl.ev_c
        have t3 := ev_nil (neg := true) (K := K) (el_lcI (te := tVar 4) (t := tNot (tB (tCall (spLIsBag K) [] E0 (tCons (tVar 4) tNil)))) (σ := start nLP [.ref a, u]) (H := H) (vs := [4]) (fun i => !bagV (.int 0) .non (rs.getD i none)) (fun i => xs.getD i .non) (ei_ei (K := K) (Evl.ev_var (i := 0) rfl) hS) (aims_at (j := 4)) (fun _ => rfl) (by omega) (fun i A eA hi2 => by
          have hx := List.getElem?_eq_getElem hi2
          have hr2 := List.getElem?_eq_getElem (show i < rs.length by omega)
          rw [show xs.getD i .non = xs[i] from by rw [List.getD_eq_getElem?_getD, hx]; rfl, show rs.getD i none = rs[i]'(by omega) from by rw [List.getD_eq_getElem?_getD, hr2]; rfl]
          exact Evl.et_not (Evl.et_B (Evl.ev_call (Evl.ea_cons (Evl.ev_var rfl) Evl.ea_nil) (spv_lIsBag ((hi i _ _ hx hr2).ex eA))))) fun i A eA hi _ => Evl.ev_var rfl)
        have eall : ((List.range xs.length).all fun i => !!bagV (.int 0) .non (rs.getD i none)) = rs.all (bagV (.int 0) .non) := by
          rw [hn, Bool.eq_iff_iff, List.all_eq_true, List.all_eq_true]
          constructor
          · intro hh r hr2
            obtain ⟨i, hi3⟩ := List.mem_iff_getElem?.mp hr2
            have := hh i (List.mem_range.mpr (List.getElem?_eq_some_iff.mp hi3).1)
            rw [Bool.not_not, List.getD_eq_getElem?_getD, hi3] at this
            exact this
          · intro hh i hi3
            have hi3 := List.mem_range.mp hi3
            rw [Bool.not_not, List.getD_eq_getElem?_getD, List.getElem?_eq_getElem hi3]
            exact hh _ (List.getElem_mem hi3)
        rw [given_empty, eall] at t3
        refine Evl.et_is (Evl.et_or t1 fun _ => Evl.et_or (Evl.et_not t2) fun _ => Evl.et_test t3) ?_
        have ep : pd (P1 (some rs)) = (decide ((1 : Int) ≤ (xs.length : Int)) && decide ((xs.length : Int) ≤ 2000) && rs.all (bagV (.int 0) .non)) := pd_is (by
          unfold P1
          show (rs.all (bagV (.int 0) .non) = true ∧ 1 ≤ rs.length ∧ rs.length ≤ 2000) ↔ _
          rw [Bool.and_eq_true_iff, Bool.and_eq_true_iff, decide_eq_true_iff, decide_eq_true_iff]
          exact ⟨fun z => ⟨⟨by omega, by omega⟩, z.1⟩, fun z => ⟨z.2, by omega, by omega⟩⟩)
        rw [ep]
        cases (decide ((1 : Int) ≤ (xs.length : Int)) && decide ((xs.length : Int) ≤ 2000)) <;> cases rs.all (bagV (.int 0) .non) <;> rfl
    · rw [Bool.not_eq_true'] at hb
      refine Evl.s_ret Evl.ev_c fun H2 e2 => ?_
      have := q H2 (e1.trans e2)
      unfold wrongV at this
      rwa [if_pos hb] at this
    · rw [Bool.not_eq_false'] at hb
      obtain ⟨a1, a2, a3⟩ := pd_of hb
      cases rb with
      | none => cases a1
      | some rs =>
        obtain ⟨a, xs, rfl, hS, hn, hl⟩ := h.hb.sq
        have hr3 : rs.length ≤ 2000 := a3
        have h1 := h.ex e1
        refine Evl.q_when (b := !pd (TellsP rs.length ru)) (Evl.et_not (Evl.et_B (Evl.ev_call (vs := [u, .int (rs.length : Int)]) (Evl.ea_cons (Evl.ev_var rfl) (Evl.ea_cons (Evl.ev_is (ev_lenB (K := K) (Evl.ev_var rfl) (hS.ex e1)) (by rw [hn])) Evl.ea_nil)) (spv_lAreAbove h1.hu (by omega))))) (fun hb2 H2 e2 => ?_) fun hb2 H2 e2 => ?_
        · rw [Bool.not_eq_true'] at hb2
          refine Evl.s_ret Evl.ev_c fun H3 e3 => ?_
          have := q H3 ((e1.trans e2).trans e3)
          unfold wrongV at this
          rwa [if_neg (by rw [hb]; decide), if_pos (show pd (TellsP ((some rs).getD []).length ru) = false from hb2)] at this
        · rw [Bool.not_eq_false'] at hb2
          obtain ⟨ups, rfl, hu⟩ := pd_of hb2
          obtain ⟨bs, rfl, hbo⟩ := bags_of (rs := rs) a1
          obtain ⟨A, U, ys, b1, b2, b3, b4, b5⟩ := (h1.ex e2).rows (by have := a2; rw [show ((some (List.map rowV bs)).getD []).length = bs.length from List.length_map _] at this; exact this)
          cases b1
          subst b2
          rw [List.length_map] at hu hr3
          have fewb := hfew bs rfl
          obtain ⟨ps, hps⟩ := pcs_ex bs
          have sA : SqS K H2 a ys := b3.elim (fun h => .inl h.1) fun h => h.1
          have sU : SqS K H2 U (ups.map uv) := b3.elim (fun h => .inl h.2) fun h => .inr h.2
          have ep : wrongV (some (bs.map rowV)) (some (ups.map uv)) = if pd ((freshL bs ups).flatten.Nodup) = true then V.non else .str "pieces" := by
            unfold wrongV
            rw [if_neg (by rw [hb]; decide), if_neg (by rw [show ((some (bs.map rowV)).getD []).length = (bs.map rowV).length from rfl, hb2]; decide)]
            have : pd (P3 (some (bs.map rowV)) (some (ups.map uv))) = pd ((freshL bs ups).flatten.Nodup) := by
              congr 1
              refine propext ⟨?_, fun z => ⟨bs, ups, rfl, rfl, z⟩⟩
              rintro ⟨bs', ups', z1, z2, z3⟩
              rw [rowV_inj (Option.some.inj z1), uvs_inj (Option.some.inj z2)]
              exact z3
            rw [this]
          rw [ep] at q
          have lps : ps.length < 64 := by
            obtain ⟨us, h1, h2⟩ := fewb
            have := ndI_le (hps.1.imp (fun {a b} (h : a < b) => (by omega : a ≠ b))) (m := us) fun x hx => by
              obtain ⟨ns, h3, h4⟩ := (hps.2 x).mp hx
              exact h2 ns h3 x h4
            omega
          have pieces : Evl.EvL (tCall (spPieces K) [] E0 (tCons (tVar 0) tNil)) (start nLP [.ref a, .ref U]) H2 (ps.map V.int) := fun G eG Q1 q1 => call_go (Evl.ea_cons (Evl.ev_var rfl) Evl.ea_nil) fun G2 eG2 => ⟨a, ys, bs, rfl, sA.ex (eG.trans eG2), b4.ex (eG.trans eG2), by omega, fun ns hn2 => by have := sum_mem (List.mem_map.mpr ⟨ns, hn2, rfl⟩ : ns.length ∈ bs.map List.length); omega, fewb, fun p ps' G3 eG3 np hp hpc => by
            rw [pc_one hpc hps] at hp
            exact q1 p G3 (Evl.fresh_back eG2 np) (eG2.trans eG3) hp⟩
          refine q_forI (B := H2) (n := (ps.map V.int).length) (s := fun i σ => σ.set 2 (some ((ps.map V.int).getD i .non))) (ei_listN pieces) (aims_at (j := 2)) (Evl.Ex.refl _) (fun G i σ' H' => Evl.Ex G H' ∧ (∃ x y, σ' = [some (.ref a), some (.ref U), x, y, none, none]) ∧ ∀ p ∈ ps.take i, cntR (freshL bs ups) p = 1) (fun G eG => ⟨Evl.Ex.refl _, ⟨_, _, rfl⟩, fun p hp => by rw [List.take_zero] at hp; cases hp⟩) (fun G i σ' H' eG hi p => ⟨eG.trans p.1, fun b o _ h => p.1 _ _ h⟩) (fun G i σ' H' H'' eG hi p e => ?_) fun G σ' H' eG p => ?_
          · obtain ⟨p1, ⟨x, y, rfl⟩, p3⟩ := p
            rw [List.length_map] at hi
            have eH := ((eG.trans p1).trans e)
            have hpi := List.getElem?_eq_getElem hi
            have exi : (ps.map V.int).getD i .non = .int ps[i] := by rw [gd_int hi, List.getD_eq_getElem?_getD, hpi]; rfl
            rw [exi]
            have hmem : ps[i] ∈ ps := List.getElem_mem hi
            generalize hpp : ps[i] = pc at hmem hpi
            have hS3 := sA.ex eH
            have hU3 := sU.ex eH
            have hR3 := b4.ex eH
            have hyl : ys.length = bs.length := hR3.1
            have rowAt : ∀ j, j < bs.length → ∃ r, ys[j]? = some (.ref r) ∧ SqS K H'' r ((bs.getD j []).map V.int) := fun j hj => by
              obtain ⟨r, h1, h2⟩ := hR3.2 j _ (List.getElem?_eq_getElem hj)
              exact ⟨r, h1, by rw [List.getD_eq_getElem?_getD, List.getElem?_eq_getElem hj]; exact h2⟩
            have tp := el_lcI (te := tVar 5) (t := ttP K) (σ := [some (.ref a), some (.ref U), some (.int pc), y, none, none]) (H := H'') (vs := [5, 4]) (fun i => decide (pc ∈ (freshL bs ups).getD i [])) (fun i => V.int (i : Int)) (ei_enE (K := K) (Evl.ea_cons (Evl.ev_var (i := 0) rfl) Evl.ea_nil) hS3) (aims_enumE (K := K) (j1 := 5) (j2 := 4)) (fun _ => rfl) (by omega) (fun j G2 eG2 hj => by
              rw [hyl] at hj
              obtain ⟨r, hr1, hr2⟩ := rowAt j hj
              have exr : ys.getD j .non = .ref r := by rw [List.getD_eq_getElem?_getD, hr1]; rfl
              rw [exr, freshL_at hj, fresh_dec]
              refine Evl.et_and (et_inI (ns := bs.getD j []) (Evl.ev_var rfl) (Evl.ev_var rfl) (hr2.ex eG2)) fun _ => ?_
              obtain ⟨o, ho⟩ : ∃ o, ups[j]? = some o := ⟨_, List.getElem?_eq_getElem (by rw [hu.1]; exact hj)⟩
              have above : Evl.Ev (tOp (rIxB K) (tVar 1) (tVar 5)) (((wipe [some (.ref a), some (.ref U), some (.int pc), y, none, none] [5, 4]).set 5 (some (.int (j : Nat)))).set 4 (some (.ref r))) G2 (uv o) := Evl.ev_op (x := .ref U) (y := .int (j : Int)) (Evl.ev_var rfl) (Evl.ev_var rfl) (rv_ixB (hU3.ex eG2) (atI_nat (by rw [List.getElem?_map, ho]; rfl)))
              have eo : ups.getD j none = o := by rw [List.getD_eq_getElem?_getD, ho]; rfl
              rw [eo]
              have isn := Evl.et_test (Evl.ev_op above Evl.ev_c rv_isN)
              cases o with
              | none => exact Evl.et_is (Evl.et_or (a := true) (b := true) isn fun z => nomatch z) rfl
              | some l =>
                have hl2 := hu.2.1 j l ho
                obtain ⟨r2, hr3, hr4⟩ := rowAt l hl2
                exact Evl.et_is (Evl.et_or (a := false) isn fun _ => et_ninI (ns := bs.getD l []) (Evl.ev_var rfl) (Evl.ev_op (x := .ref a) (y := .int (l : Int)) (Evl.ev_var rfl) above (rv_ixB (hS3.ex eG2) (atI_nat hr3))) (hr4.ex eG2)) rfl) fun i A eA hi _ => Evl.ev_var rfl
            refine Evl.q_asgL tp fun Tp H5 nT e5 hT => ?_
            try dsimp only [List.set_cons_zero, List.set_cons_succ]
            have hcnt : (Evl.given ys.length (fun i => decide (pc ∈ (freshL bs ups).getD i [])) fun i => V.int (i : Int)).length = cntR (freshL bs ups) pc := by
              unfold Evl.given
              rw [List.length_map, hyl, ← cntR_range, show (freshL bs ups).length = bs.length from by unfold freshL; rw [List.length_map, List.length_range]]
            refine Evl.s_when (b := !decide (cntR (freshL bs ups) pc = 1)) (Evl.et_is (Evl.et_test (Evl.ev_op (Evl.ev_len (K := K) (Evl.ev_var (i := 3) rfl) (Evl.sq_of hT)) Evl.ev_c (Evl.rv_ne rfl))) (by
              rw [hcnt]
              congr 1
              exact decide_eq_decide.mpr ⟨fun z => by have := V.int.inj z; omega, fun z => by rw [z]; rfl⟩)) (fun hc H6 e6 => ?_) fun hc H6 e6 => ?_
            · rw [Bool.not_eq_true', decide_eq_false_iff_not] at hc
              refine Evl.s_ret Evl.ev_c fun H7 e7 => ?_
              have := q H7 (((((e1.trans e2).trans eH).trans e5).trans e6).trans e7)
              rwa [pd_false (fun z => hc ((hang_iff hbo hu hps).mp z pc hmem)), if_neg (by decide)] at this
            · rw [Bool.not_eq_false', decide_eq_true_iff] at hc
              refine ⟨((p1.trans e).trans e5).trans e6, ⟨_, _, rfl⟩, fun p hp => ?_⟩
              rw [List.take_succ_eq_append_getElem hi, hpp] at hp
              rcases List.mem_append.mp hp with hp | hp
              · exact p3 p hp
              · rw [List.mem_singleton.mp hp]; exact hc
          · obtain ⟨p1, _, p3⟩ := p
            rw [List.length_map, List.take_length] at p3
            refine Evl.s_ret Evl.ev_c fun H7 e7 => ?_
            have := q H7 (((e1.trans e2).trans (eG.trans p1)).trans e7)
            rwa [pd_true ((hang_iff hbo hu hps).mpr p3), if_pos rfl] at this
end
end P41
end S_Bap
section S_Baq
namespace P41
open PySem PySem.Spec PyProof.Rows L2 Tl Hk RZ EnL
/-! ### ints in some order -/
abbrev nSt : List Str := ["nest", "some", "left", "found"]
theorem scStirred : FnScope nSt ["nest", "some"] (defScope sStirred) := ⟨rfl, rfl, rfl, by decide +kernel, rfl, by decide +kernel, by decide +kernel⟩
theorem erase_perm : ∀ {l : List Int} {k : Nat} {y : Int}, l[k]? = some y → l.Perm (y :: l.eraseIdx k)
  | [], k, y, h => by simp at h
  | a :: r, 0, y, h => by cases h; exact List.Perm.refl _
  | a :: r, k + 1, y, h => ((erase_perm (l := r) (k := k) (by simpa using h)).cons a).trans (List.Perm.swap y a _)
def spStirred (K : PySem.W.Frag) : Sp := fun vs H Q _ => ∃ (t c l : Addr) (ls0 : List Int) (n : Nat), vs = [.ref t, .ref l] ∧ Tub H t c n ∧ n ≤ 900000 ∧ SqL K H l (ls0.map V.int) ∧ ls0.length ≤ 60 ∧
  ∀ (F : Addr) (ns : List Int) (H' : Hp), Kept t H H' → Tub H' t c (n + ls0.length) → H F = none → H' F = some (.lst (ns.map V.int)) → ns.Perm ls0 → Q (.ref F) H'
section
variable {K : PySem.W.Frag} {σ : L2.St} {H : Hp} {ta : TE}
theorem go_lstC {a : Addr} {xs : List V} {tr : TA} {Q : List V → Hp → Prop} (h : Evl.Ev ta σ H (.ref a)) (hs : SqL K H a xs) (k : ∀ p H1, H p = none → Evl.Ex H H1 → H1 p = some (.lst xs) → tr σ H1 fun vs H2 => Q (.ref p :: vs) H2) : tCons (tCB (Evl.rListS K) (tCons ta tNil)) tr σ H Q :=
  h H (Evl.Ex.refl _) _ fun H1 e1 => ⟨a, xs, rfl, .inl (Evl.ex_l e1 hs), fun p hp => k p _ (Evl.fresh_back e1 hp) (e1.trans (Evl.Ex.new hp)) upd_same⟩
theorem ev_nilV {a : Addr} {xs : List V} {neg : Bool} (h : Evl.Ev ta σ H (.ref a)) (hs : SqL K H a xs) : Evl.Ev (tOp (rNil K neg) ta (tLst tNil)) σ H (.bl (xs.isEmpty != neg)) := fun H1 e Q q =>
  h H1 e _ fun H2 e2 => (Evl.el_lst (vs := []) Evl.ea_nil (Nat.zero_le _)) H2 (e.trans e2) _ fun z H4 hz e4 h4 => ⟨a, z, xs, rfl, rfl, Evl.ex_l ((e.trans e2).trans e4) hs, Evl.sq_of h4, q H4 (e2.trans e4)⟩
theorem q_par2 {i j : Nat} {ta : TA} {tz : TS} {D : Ends} {σ : L2.St} {H : Hp} (h : ta σ H fun vs H1 => ∃ v w, vs = [v, w] ∧ tz D ((σ.set i (some v)).set j (some w)) H1) : tSeq (tPar i j ta) tz D σ H := h
end
section
variable {P : Program} {w : World} {K : PySem.W.Frag} {mg : Str → Option Value} {base : Heap}
set_option maxHeartbeats 2000000 in
theorem ok_stirred {f fS : Addr} {fd fdS : FuncData} {k : Nat} (F : Fun K "_law_stirred" "_law_stirred" sStirred f fd)
    (FS : Fun K "_law_perch" "_law_perch" sScoop fS fdS) (GS : FnOk P w K mg base CX0 k fS fdS ["nest", "many"] spScoop) (bS : Binds K fdS ["nest", "many"] []) (gS : mg "_law_perch" = some (.ref fS))
    (mlen : mg "len" = none) (mlist : mg "list" = none) : FnOk P w K mg base CX0 (k + 1) f fd ["nest", "some"] (spStirred K) := by
  refine F.ok scStirred (fun vs H Q E h => ?_) (fun cdv A0 outer s H vs Q E hr h => ?_)
  · obtain ⟨t, c, l, ls0, n, rfl, _⟩ := h
    rfl
  · obtain ⟨t, c, l, ls0, n, rfl, T0, hn, hl, l60, q⟩ := h
    have nd := scStirred.nd
    refine ⟨_, pss_cons (ps_par (i := 2) (j := 3) (by rfl) nd rfl rfl (by decide) rfl rfl (pa_cons (pe_callTy call_list_of (by rfl) mlist (by decide +kernel) (pa_cons (pv 1) (pa_nil))) (pa_cons (pe_lst (pa_nil)) (pa_nil))) (by rfl)) (pss_cons (ps_while PassesOwn.never (pt_cmpR (op_neNil hr.units) (pv 2) (pe_lst (pa_nil)) (nomark _)) (pss_one (ps_expr (pe_bm PySem.F.plainAttrs_list PySem.F.slot_list_append PySem.F.type_list_append mt_append (pv 3) (pa_cons (pe_bm PySem.F.plainAttrs_list PySem.F.slot_list_pop PySem.F.type_list_pop mt_popAt (pv 2) (pa_cons (pe_call GS hr (by rfl) gS FS.kp bS .nil pass0 (pa_cons (pv 0) (pa_cons (pe_callB call_len_seq (by rfl) mlen PySem.boot_len (pa_cons (pv 2) (pa_nil))) (pa_nil)))) (pa_nil))) (pa_nil)))))) (pss_one (ps_ret (pv 3)))), ?_⟩
    obtain ⟨cs, turn, rest, ht, _⟩ := id T0
    show tSeq (tPar 2 3 (tCons _ (tCons _ tNil))) _ _ _ _
    refine q_par2 (go_lstC (K := K) (Evl.ev_var (i := 1) rfl) hl fun L H1 hL1 e1 h1 => (Evl.el_lst (vs := []) Evl.ea_nil (Nat.zero_le _)) H1 (Evl.Ex.refl _) _ fun Nm H7 hNm e2 h2 => ⟨_, _, rfl, ?_⟩)
    have e07 := e1.trans e2
    have nNm : H Nm = none := Evl.fresh_back e1 hNm
    have nL := hL1
    have h7 := e2 _ _ h1
    have hN7 := h2
    have LN : L ≠ Nm := fun z => by rw [← z, h1] at hNm; cases hNm
    have T7 := T0.ex e07
    obtain ⟨Lt, Lc⟩ := T0.ne nL
    obtain ⟨Nt, Nc⟩ := T0.ne nNm
    have aN : ∀ {z : Addr} {o : HO}, H z = some o → z ≠ Nm := fun h e => by rw [e, nNm] at h; cases h
    have aL : ∀ {z : Addr} {o : HO}, H z = some o → z ≠ L := fun h e => by rw [e, nL] at h; cases h
    dsimp only [List.set_cons_zero, List.set_cons_succ]
    refine Evl.q_while (fun x σ' H' => ∃ (ns ls : List Int), σ' = [some (.ref t), some (.ref l), some (.ref L), some (.ref Nm)] ∧ H' Nm = some (.lst (ns.map V.int)) ∧ H' L = some (.lst (ls.map V.int)) ∧ (ns ++ ls).Perm ls0 ∧ x = ls.length ∧ Tub H' t c (n + ns.length) ∧ (∀ b o, b ≠ t → b ≠ Nm → b ≠ L → H7 b = some o → H' b = some o)) ls0.length
      ⟨[], ls0, rfl, hN7, h7, List.Perm.refl _, rfl, T7, fun _ _ _ _ _ h => h⟩ ?_
    rintro x σ' H' ⟨ns, ls, rfl, g1, g2, g3, rfl, g5, g6⟩
    have glen := g3.length_eq
    rw [List.length_append] at glen
    refine ⟨!ls.isEmpty, Evl.et_is (Evl.et_test (ev_nilV (neg := true) (K := K) (Evl.ev_var rfl) (Evl.sq_of g2))) (by cases ls <;> rfl), fun hb H8 e8 => ?_, fun hb H8 e8 => ?_⟩
    · have hpos : 1 ≤ ls.length := by
        cases ls with
        | nil => cases hb
        | cons a b => exact Nat.succ_le_succ (Nat.zero_le _)
      refine ⟨fun σ2 H2 => ∃ (ns ls' : List Int), σ2 = [some (.ref t), some (.ref l), some (.ref L), some (.ref Nm)] ∧ H2 Nm = some (.lst (ns.map V.int)) ∧ H2 L = some (.lst (ls'.map V.int)) ∧ (ns ++ ls').Perm ls0 ∧ ls'.length < ls.length ∧ Tub H2 t c (n + ns.length) ∧ (∀ b o, b ≠ t → b ≠ Nm → b ≠ L → H7 b = some o → H2 b = some o), fun σ2 H2 ⟨ns, ls', k1, k2, k3, k4, k5, k6, k7⟩ => ⟨ls'.length, k5, ns, ls', k1, k2, k3, k4, rfl, k6, k7⟩, ?_⟩
      have g28 := e8 _ _ g2
      have g18 := e8 _ _ g1
      refine ⟨.ref Nm, rfl, .inl ⟨rfl, _, Evl.sq_of g18⟩, .ref L, rfl, .inl ⟨rfl, _, Evl.sq_of g28⟩, .ref t, rfl, (Evl.ev_len (K := K) (Evl.ev_var (i := 2) rfl) (Evl.sq_of g28)) H8 (Evl.Ex.refl _) _ fun H9 e9 => ⟨t, c, _, n + ns.length, rfl, (g5.ex e8).ex e9, by omega, by rw [List.length_map]; omega, by rw [List.length_map]; omega, fun r H10 r0 r1 k10 T10 => ?_⟩⟩
      rw [List.length_map] at r1
      have g210 := k10 _ _ Lt (e9 _ _ g28)
      have g110 := k10 _ _ Nt (e9 _ _ g18)
      obtain ⟨y, hy⟩ : ∃ y, ls[r.toNat]? = some y := ⟨_, List.getElem?_eq_getElem (by omega)⟩
      refine ⟨L, ls.map V.int, r, r.toNat, .int y, rfl, rfl, g210, by omega, by omega, PySem.StrLaws.seqIndex_nonneg r0 (by rw [List.length_map]; omega), by rw [List.getElem?_map, hy]; rfl, Nm, ns.map V.int, .int y, rfl, rfl, by rw [upd_ne LN.symm]; exact g110, by rw [List.length_map, sizeLine_eq]; omega, ?_⟩
      have hperm := erase_perm hy
      have hel : (ls.eraseIdx r.toNat).length + 1 = ls.length := by have := hperm.length_eq; rw [List.length_cons] at this; omega
      refine ⟨ns ++ [y], ls.eraseIdx r.toNat, rfl, by rw [upd_same, List.map_append]; rfl, ?_, ?_, by omega, ?_, fun b o hb1 hb2 hb3 h => ?_⟩
      · rw [upd_ne LN, upd_same]
        congr 2
        have : ∀ (l : List Int) (k : Nat), (l.map V.int).eraseIdx k = (l.eraseIdx k).map V.int := fun l => by
          induction l with
          | nil => intro k; rfl
          | cons a r ih =>
            intro k
            cases k with
            | zero => rfl
            | succ k => show _ :: (r.map V.int).eraseIdx k = _ :: (r.eraseIdx k).map V.int; rw [ih]
        exact this _ _
      · refine List.Perm.trans ?_ g3
        rw [List.append_assoc]
        exact (hperm.symm).append_left ns
      · rw [List.length_append]
        exact ((T10.upd Lt Lc).upd Nt Nc).mono (by show n + ns.length + 1 ≤ n + (ns.length + 1); omega)
      · rw [upd_ne hb2, upd_ne hb3]
        exact k10 _ _ hb1 (e9 _ _ (e8 _ _ (g6 b o hb1 hb2 hb3 h)))
    obtain rfl : ls = [] := by
      cases ls with
      | nil => rfl
      | cons a b => cases hb
    rw [List.append_nil] at g3
    have hnl := g3.length_eq
    refine ⟨_, rfl, ?_⟩
    exact q Nm ns H8 (fun b o hb h => e8 _ _ (g6 b o hb (aN h) (aL h) (e07 _ _ h))) ((g5.ex e8).mono (by omega)) nNm (e8 _ _ g1) g3
end
end P41
end S_Baq
section S_Bar
namespace P41
open PySem PySem.Spec PyProof.Rows L2 Tl Hk RZ EnL
/-! ### a drawn tree of bags -/
def rngI (f m : Nat) : List Int := (List.range m).map fun i : Nat => ((f + i : Nat) : Int)
theorem rngI_mem {f m : Nat} {x : Int} : x ∈ rngI f m ↔ (f : Int) ≤ x ∧ x < ((f + m : Nat) : Int) := by
  unfold rngI
  rw [List.mem_map]
  constructor
  · rintro ⟨i, hi, rfl⟩
    have := List.mem_range.mp hi
    omega
  · rintro ⟨h1, h2⟩
    exact ⟨(x - f).toNat, List.mem_range.mpr (by omega), by omega⟩
theorem rngI_nd (f m : Nat) : (rngI f m).Nodup := by
  refine List.Pairwise.map _ (R := (· < ·)) (fun a b h => ?_) List.pairwise_lt_range
  omega
/-- a raw tree: the first bag on top, each other below an earlier one -/
structure Wd (B : List (List Int)) (U : List (Option Nat)) (fresh : Nat) : Prop where
  len : U.length = B.length
  pos : 1 ≤ B.length
  top : U[0]? = some none
  up : ∀ (i j : Nat), U[i]? = some (some j) → j < i
  one : ∀ i : Nat, U[i]? = some none → i = 0
  nd : ∀ ns ∈ B, ns.Nodup
  rng : ∀ ns ∈ B, ∀ k ∈ ns, (0 : Int) ≤ k ∧ k < (fresh : Int)
  fr : (freshL B U).flatten.Nodup
theorem Wd.lt {B : List (List Int)} {U : List (Option Nat)} {fresh : Nat} (w : Wd B U fresh) {i j : Nat} (h : U[i]? = some (some j)) : j < B.length := by
  have := w.up i j h
  have := (List.getElem?_eq_some_iff.mp h).1
  have := w.len
  omega
theorem wd_start (m : Nat) : Wd [rngI 0 m] [none] m := by
  refine ⟨rfl, Nat.le_refl _, rfl, fun i j h => ?_, fun i h => ?_, fun ns h => ?_, fun ns h k hk => ?_, ?_⟩
  · cases i with
    | zero => cases h
    | succ i => cases h
  · cases i with
    | zero => rfl
    | succ i => cases h
  · rw [List.mem_singleton.mp h]
    exact rngI_nd _ _
  · rw [List.mem_singleton.mp h] at hk
    have := rngI_mem.mp hk
    omega
  · show ((rngI 0 m).filter _ ++ []).Nodup
    rw [List.append_nil]
    exact List.Pairwise.filter _ (rngI_nd _ _)
theorem fresh_sub {B : List (List Int)} {U : List (Option Nat)} {p : Int} (h : p ∈ (freshL B U).flatten) : ∃ ns ∈ B, p ∈ ns := by
  obtain ⟨r, h1, h2⟩ := List.mem_flatten.mp h
  obtain ⟨i, hi, rfl⟩ := List.mem_map.mp h1
  have hi := List.mem_range.mp hi
  have h3 := (List.mem_filter.mp h2).1
  rw [List.getD_eq_getElem?_getD, List.getElem?_eq_getElem hi] at h3
  exact ⟨_, List.getElem_mem hi, h3⟩
theorem fresh_snoc {B : List (List Int)} {U : List (Option Nat)} {b : List Int} {j : Nat} (hl : U.length = B.length) (hin : ∀ (i j : Nat), U[i]? = some (some j) → j < B.length) (hj : j < B.length) : freshL (B ++ [b]) (U ++ [some j]) = freshL B U ++ [b.filter (frB B (some j))] := by
  unfold freshL
  rw [List.length_append, List.length_singleton, List.range_succ, List.map_append, List.map_singleton]
  have old : ∀ k, k < B.length → (B ++ [b]).getD k [] = B.getD k [] := fun k hk => by
    rw [List.getD_eq_getElem?_getD, List.getD_eq_getElem?_getD, List.getElem?_append_left hk]
  have frO : ∀ o : Option Nat, (∀ j, o = some j → j < B.length) → frB (B ++ [b]) o = frB B o := fun o ho => by
    cases o with
    | none => rfl
    | some j =>
      funext p
      show (!decide (p ∈ (B ++ [b]).getD j [])) = !decide (p ∈ B.getD j [])
      rw [old j (ho j rfl)]
  congr 1
  · refine List.map_congr_left fun i hi => ?_
    have hi := List.mem_range.mp hi
    unfold freshAt
    have eu : (U ++ [some j]).getD i none = U.getD i none := by rw [List.getD_eq_getElem?_getD, List.getD_eq_getElem?_getD, List.getElem?_append_left (by omega)]
    rw [old i hi, eu, frO _ fun k hk => ?_]
    rw [List.getD_eq_getElem?_getD, List.getElem?_eq_getElem (show i < U.length by omega)] at hk
    exact hin i k (by rw [List.getElem?_eq_getElem (show i < U.length by omega)]; exact congrArg some hk)
  · unfold freshAt
    have e1 : (B ++ [b]).getD B.length [] = b := by rw [List.getD_eq_getElem?_getD, List.getElem?_append_right (Nat.le_refl _), Nat.sub_self]; rfl
    have e2 : (U ++ [some j]).getD B.length none = some j := by rw [List.getD_eq_getElem?_getD, ← hl, List.getElem?_append_right (Nat.le_refl _), Nat.sub_self]; rfl
    rw [e1, e2, frO _ fun k hk => by cases hk; exact hj]
theorem wd_step {B : List (List Int)} {U : List (Option Nat)} {f m j : Nat} {kept : List Int} (w : Wd B U f) (hj : j < B.length) (hs : ∀ k ∈ kept, k ∈ B.getD j []) (hn : kept.Nodup) : Wd (B ++ [kept ++ rngI f m]) (U ++ [some j]) (f + m) := by
  have hjm : B.getD j [] ∈ B := by
    rw [List.getD_eq_getElem?_getD, List.getElem?_eq_getElem hj]
    exact List.getElem_mem hj
  have lt : ∀ k ∈ kept, (0 : Int) ≤ k ∧ k < (f : Int) := fun k hk => w.rng _ hjm k (hs k hk)
  have ndn : (kept ++ rngI f m).Nodup := List.nodup_append.mpr ⟨hn, rngI_nd _ _, fun a ha b hb e => by
    have h1 := (lt a ha).2
    have h2 := (rngI_mem.mp hb).1
    omega⟩
  have snoc : ∀ {α : Type} (l : List α) (x : α) (i : Nat) (y : α), (l ++ [x])[i]? = some y → (i < l.length ∧ l[i]? = some y) ∨ (i = l.length ∧ x = y) := fun l x i y h => by
    rcases Nat.lt_or_ge i l.length with hi | hi
    · rw [List.getElem?_append_left hi] at h
      exact .inl ⟨hi, h⟩
    · rw [List.getElem?_append_right hi] at h
      have hz := (List.getElem?_eq_some_iff.mp h).1
      rw [List.length_singleton] at hz
      have e : i = l.length := by omega
      subst e
      rw [Nat.sub_self] at h
      exact .inr ⟨rfl, by simpa using h⟩
  refine ⟨by rw [List.length_append, List.length_append, w.len]; rfl, by rw [List.length_append]; have := w.pos; omega, ?_, fun i k h => ?_, fun i h => ?_, fun ns h => ?_, fun ns h k hk => ?_, ?_⟩
  · rw [List.getElem?_append_left (by have := w.len; have := w.pos; omega)]
    exact w.top
  · rcases snoc _ _ _ _ h with ⟨h1, h2⟩ | ⟨h1, h2⟩
    · exact w.up i k h2
    · cases h2
      rw [h1, w.len]
      exact hj
  · rcases snoc _ _ _ _ h with ⟨h1, h2⟩ | ⟨h1, h2⟩
    · exact w.one i h2
    · cases h2
  · rcases List.mem_append.mp h with h | h
    · exact w.nd ns h
    · rw [List.mem_singleton.mp h]
      exact ndn
  · rcases List.mem_append.mp h with h | h
    · have := w.rng ns h k hk
      omega
    · rw [List.mem_singleton.mp h] at hk
      rcases List.mem_append.mp hk with hk | hk
      · have := lt k hk
        omega
      · have := rngI_mem.mp hk
        omega
  · rw [fresh_snoc w.len (fun i j h => w.lt h) hj, List.flatten_append, List.flatten_singleton]
    refine List.nodup_append.mpr ⟨w.fr, List.Pairwise.filter _ ndn, fun a ha b hb e => ?_⟩
    subst e
    obtain ⟨ns, h1, h2⟩ := fresh_sub ha
    have h3 := (w.rng ns h1 a h2).2
    obtain ⟨h4, h5⟩ := List.mem_filter.mp hb
    rcases List.mem_append.mp h4 with h4 | h4
    · have h5 : (!decide (a ∈ B.getD j [])) = true := h5
      rw [decide_eq_true (hs a h4)] at h5
      cases h5
    · have := (rngI_mem.mp h4).1
      omega
theorem wd_top {B : List (List Int)} {U : List (Option Nat)} {f : Nat} (w : Wd B U f) : ∀ i, i < B.length → Top U i := by
  intro i
  induction i using Nat.strongRecOn with
  | _ i ih =>
    intro hi
    have hu := List.getElem?_eq_getElem (show i < U.length by have := w.len; omega)
    cases hc : U[i]'(by have := w.len; omega) with
    | none => exact .top (by rw [hu, hc])
    | some j =>
      have h : U[i]? = some (some j) := by rw [hu, hc]
      exact .up h (ih j (w.up i j h) (w.lt h))
/-- one at a place only -/
theorem uniq_iff {L : List (List Int)} (h : ∀ r ∈ L, r.Nodup) : L.flatten.Nodup ↔ ∀ (i j : Nat) (p : Int), p ∈ L.getD i [] → p ∈ L.getD j [] → i = j := by
  have lt' : ∀ {i : Nat} {p : Int}, p ∈ L.getD i [] → i < L.length := fun {i p} hp => by
    rcases Nat.lt_or_ge i L.length with hi | hi
    · exact hi
    · rw [List.getD_eq_getElem?_getD, List.getElem?_eq_none hi] at hp
      cases hp
  unfold List.Nodup at h ⊢
  rw [List.pairwise_flatten]
  constructor
  · rintro ⟨_, h2⟩ i j p hi hj
    have l1 := lt' hi
    have l2 := lt' hj
    have pw := List.pairwise_iff_getElem.mp h2
    rw [List.getD_eq_getElem?_getD, List.getElem?_eq_getElem l1] at hi
    rw [List.getD_eq_getElem?_getD, List.getElem?_eq_getElem l2] at hj
    rcases Nat.lt_trichotomy i j with hz | hz | hz
    · exact absurd rfl (pw i j l1 l2 hz p hi p hj)
    · exact hz
    · exact absurd rfl (pw j i l2 l1 hz p hj p hi)
  · intro hh
    refine ⟨h, List.pairwise_iff_getElem.mpr fun i j l1 l2 hz a ha b hb e => ?_⟩
    subst e
    have := hh i j a (by rw [List.getD_eq_getElem?_getD, List.getElem?_eq_getElem l1]; exact ha) (by rw [List.getD_eq_getElem?_getD, List.getElem?_eq_getElem l2]; exact hb)
    omega
end P41
end S_Bar
section S_Bas
namespace P41
open PySem PySem.Spec PyProof.Rows L2 Tl Hk RZ EnL
/-! ### other names, other places -/
def nmF (nm : List Int) (p : Int) : Int := nm.getD p.toNat 0
def srtI (l : List Int) : List Int := l.mergeSort (fun a b => decide (a ≤ b))
theorem srtI_perm (l : List Int) : (srtI l).Perm l := List.mergeSort_perm _ _
theorem srtI_le (l : List Int) : (srtI l).Pairwise (· ≤ ·) := by
  have := List.pairwise_mergeSort (le := fun (a b : Int) => decide (a ≤ b)) (fun a b c h1 h2 => by
    have := of_decide_eq_true h1
    have := of_decide_eq_true h2
    exact decide_eq_true (by omega)) (fun a b => by
    rw [Bool.or_eq_true, decide_eq_true_iff, decide_eq_true_iff]
    omega) l
  exact this.imp fun h => of_decide_eq_true h
theorem srtI_of {a b : List Int} (p : a.Perm b) (h : a.Pairwise (· ≤ ·)) : a = srtI b := by
  unfold srtI
  exact PySem.W.os_sorted_mergeSort p h
theorem asc_of : ∀ {ns : List Int}, ns.Pairwise (· < ·) → ascI ns = true
  | [], _ => rfl
  | [_], _ => rfl
  | a :: b :: r, h => by
    show (decide (a < b) && ascI (b :: r)) = true
    rw [asc_of (List.pairwise_cons.mp h).2, decide_eq_true ((List.pairwise_cons.mp h).1 b List.mem_cons_self)]
    rfl
def bagR (nm : List Int) (B : List (List Int)) (s : Nat) : List Int := srtI ((B.getD s []).map (nmF nm))
def bsR (nm : List Int) (sp : List Nat) (B : List (List Int)) : List (List Int) := sp.map (bagR nm B)
def usR (sp : List Nat) (U : List (Option Nat)) : List (Option Nat) := sp.map fun s => (U.getD s none).map sp.idxOf
theorem one_len {l : List Nat} {a : Nat} (hn : l.Nodup) (h : ∀ x, x ∈ l ↔ x = a) : l.length = 1 := by
  cases l with
  | nil => exact absurd ((h a).mpr rfl) (fun z => nomatch z)
  | cons x r =>
    cases r with
    | nil => rfl
    | cons y r =>
      have h1 := (h x).mp List.mem_cons_self
      have h2 := (h y).mp (List.mem_cons_of_mem _ List.mem_cons_self)
      have := (List.nodup_cons.mp hn).1
      rw [h1, h2] at this
      exact absurd List.mem_cons_self this
structure Sp8 (sp : List Nat) (n : Nat) : Prop where
  perm : sp.Perm (List.range n)
theorem Sp8.nd {sp : List Nat} {n : Nat} (h : Sp8 sp n) : sp.Nodup := h.perm.nodup_iff.mpr List.nodup_range
theorem Sp8.mem {sp : List Nat} {n x : Nat} (h : Sp8 sp n) : x ∈ sp ↔ x < n := h.perm.mem_iff.trans List.mem_range
theorem Sp8.len {sp : List Nat} {n : Nat} (h : Sp8 sp n) : sp.length = n := by rw [h.perm.length_eq, List.length_range]
theorem Sp8.idx {sp : List Nat} {n x : Nat} (h : Sp8 sp n) (hx : x < n) : sp.idxOf x < n ∧ sp[sp.idxOf x]? = some x := by
  have hm := h.mem.mpr hx
  have hl := List.idxOf_lt_length_of_mem hm
  refine ⟨by rw [← h.len]; exact hl, ?_⟩
  rw [List.getElem?_eq_getElem hl]
  exact congrArg some (List.getElem_idxOf hl)
theorem Sp8.back {sp : List Nat} {n i x : Nat} (h : Sp8 sp n) (hi : sp[i]? = some x) : sp.idxOf x = i := by
  obtain ⟨hl, e⟩ := List.getElem?_eq_some_iff.mp hi
  have hx : x < n := h.mem.mp (List.mem_of_getElem? hi)
  have h2 := (h.idx hx).2
  obtain ⟨hl2, e2⟩ := List.getElem?_eq_some_iff.mp h2
  exact (List.getElem_inj h.nd).mp (e2.trans e.symm)
variable {B : List (List Int)} {U : List (Option Nat)} {f : Nat} {nm : List Int} {sp : List Nat}
theorem nmF_inj (hn : nm.Nodup) (hl : f ≤ nm.length) {p q : Int} (h1 : 0 ≤ p ∧ p < (f : Int)) (h2 : 0 ≤ q ∧ q < (f : Int)) (e : nmF nm p = nmF nm q) : p = q := by
  unfold nmF at e
  have l1 : p.toNat < nm.length := by omega
  have l2 : q.toNat < nm.length := by omega
  rw [List.getD_eq_getElem?_getD, List.getD_eq_getElem?_getD, List.getElem?_eq_getElem l1, List.getElem?_eq_getElem l2] at e
  have := (List.getElem_inj hn).mp (show nm[p.toNat] = nm[q.toNat] from e)
  omega
theorem bagR_mem (s : Nat) (q : Int) : q ∈ bagR nm B s ↔ ∃ p ∈ B.getD s [], nmF nm p = q := by
  unfold bagR
  rw [(srtI_perm _).mem_iff, List.mem_map]
theorem Wd.at (w : Wd B U f) {s : Nat} {p : Int} (h : p ∈ B.getD s []) : s < B.length ∧ 0 ≤ p ∧ p < (f : Int) := by
  rcases Nat.lt_or_ge s B.length with hs | hs
  · rw [List.getD_eq_getElem?_getD, List.getElem?_eq_getElem hs] at h
    exact ⟨hs, w.rng _ (List.getElem_mem hs) p h⟩
  · rw [List.getD_eq_getElem?_getD, List.getElem?_eq_none hs] at h
    cases h
theorem bagR_nd (w : Wd B U f) (hn : nm.Nodup) (hl : f ≤ nm.length) {s : Nat} (hs : s < B.length) : (bagR nm B s).Nodup := by
  unfold bagR
  rw [(srtI_perm _).nodup_iff]
  have hm : (B.getD s []).Nodup := by
    rw [List.getD_eq_getElem?_getD, List.getElem?_eq_getElem hs]
    exact w.nd _ (List.getElem_mem hs)
  refine List.Pairwise.map _ (R := fun a b => a ≠ b ∧ a ∈ B.getD s [] ∧ b ∈ B.getD s []) (fun a b h e => h.1 (nmF_inj hn hl (w.at h.2.1).2 (w.at h.2.2).2 e)) ?_
  exact List.Pairwise.imp_of_mem (fun ha hb h => ⟨h, ha, hb⟩) hm
theorem bagR_lt (w : Wd B U f) (hn : nm.Nodup) (hl : f ≤ nm.length) {s : Nat} (hs : s < B.length) : (bagR nm B s).Pairwise (· < ·) := lt_of_le_nodup _ (srtI_le _) (bagR_nd w hn hl hs)
theorem bsR_get {i s : Nat} (h : sp[i]? = some s) : (bsR nm sp B).getD i [] = bagR nm B s := by
  unfold bsR
  rw [List.getD_eq_getElem?_getD, List.getElem?_map, h]
  rfl
theorem usR_get {i s : Nat} (h : sp[i]? = some s) : (usR sp U).getD i none = (U.getD s none).map sp.idxOf := by
  unfold usR
  rw [List.getD_eq_getElem?_getD, List.getElem?_map, h]
  rfl
theorem usR_get? {i s : Nat} (h : sp[i]? = some s) : (usR sp U)[i]? = some ((U.getD s none).map sp.idxOf) := by
  unfold usR
  rw [List.getElem?_map, h]
  rfl
theorem fresh_back' (w : Wd B U f) (hp : Sp8 sp B.length) {i s : Nat} (hi : sp[i]? = some s) {q : Int} (h : q ∈ freshAt (bsR nm sp B) (usR sp U) i) : ∃ p, nmF nm p = q ∧ p ∈ freshAt B U s := by
  obtain ⟨h1, h2⟩ := List.mem_filter.mp h
  rw [bsR_get hi, bagR_mem] at h1
  obtain ⟨p, h3, h4⟩ := h1
  refine ⟨p, h4, List.mem_filter.mpr ⟨h3, ?_⟩⟩
  rw [usR_get hi] at h2
  cases hu : U.getD s none with
  | none => rfl
  | some k =>
    rw [hu] at h2
    have h2 : (!decide (q ∈ (bsR nm sp B).getD (sp.idxOf k) [])) = true := h2
    have hU : U[s]? = some (some k) := by
      rw [List.getD_eq_getElem?_getD] at hu
      cases hz : U[s]? with
      | none => rw [hz] at hu; cases hu
      | some o => rw [hz] at hu; exact congrArg some hu
    rw [bsR_get (hp.idx (w.lt hU)).2, Bool.not_eq_true', decide_eq_false_iff_not, bagR_mem] at h2
    show (!decide (p ∈ B.getD k [])) = true
    rw [decide_eq_false (fun z => h2 ⟨p, z, h4⟩)]
    rfl
theorem wood_ok (w : Wd B U f) (hp : Sp8 sp B.length) (hn : nm.Nodup) (hl : f ≤ nm.length) (h0 : ∀ x ∈ nm, 0 ≤ x) (hB : B.length ≤ 2000) : TreeOk (bsR nm sp B) (usR sp U) ∧ ∀ ns ∈ bsR nm sp B, ∀ k ∈ ns, k ∈ nm := by
  have lb : (bsR nm sp B).length = B.length := by unfold bsR; rw [List.length_map, hp.len]
  have lu : (usR sp U).length = B.length := by unfold usR; rw [List.length_map, hp.len]
  have inn : ∀ ns ∈ bsR nm sp B, ∀ k ∈ ns, k ∈ nm := fun ns h k hk => by
    obtain ⟨s, hs, rfl⟩ := List.mem_map.mp h
    obtain ⟨p, h1, rfl⟩ := (bagR_mem s k).mp hk
    have := w.at h1
    unfold nmF
    rw [List.getD_eq_getElem?_getD, List.getElem?_eq_getElem (show p.toNat < nm.length by omega)]
    exact List.getElem_mem _
  have row : ∀ ns ∈ bsR nm sp B, ns.Pairwise (· < ·) := fun ns h => by
    obtain ⟨s, hs, rfl⟩ := List.mem_map.mp h
    exact bagR_lt w hn hl (hp.mem.mp hs)
  have atI : ∀ {i : Nat}, i < B.length → ∃ s, sp[i]? = some s ∧ s < B.length := fun {i} hi => by
    have h := List.getElem?_eq_getElem (show i < sp.length by rw [hp.len]; exact hi)
    exact ⟨_, h, hp.mem.mp (List.mem_of_getElem? h)⟩
  have up : UpsOk (bsR nm sp B).length (usR sp U) := by
    rw [lb]
    refine ⟨lu, fun i j h => ?_, ?_, fun x hx => ?_⟩
    · obtain ⟨s, hs, hs2⟩ := atI (show i < B.length by rw [← lu]; exact (List.getElem?_eq_some_iff.mp h).1)
      rw [usR_get? hs] at h
      cases hu : U.getD s none with
      | none => rw [hu] at h; cases h
      | some k =>
        rw [hu] at h
        have h : sp.idxOf k = j := Option.some.inj (Option.some.inj h)
        rw [← h]
        have hU : U[s]? = some (some k) := by
          rw [List.getD_eq_getElem?_getD] at hu
          cases hz : U[s]? with
          | none => rw [hz] at hu; cases hu
          | some o => rw [hz] at hu; exact congrArg some hu
        exact (hp.idx (w.lt hU)).1
    · refine one_len (a := sp.idxOf 0) (tops_nd _ _) fun x => ?_
      rw [tops_mem]
      have z0 := hp.idx (x := 0) (by have := w.pos; omega)
      constructor
      · rintro ⟨h1, h2⟩
        obtain ⟨s, hs, hs2⟩ := atI h1
        rw [usR_get? hs] at h2
        cases hu : U[s]? with
        | none =>
          have := List.getElem?_eq_none_iff.mp hu
          have := w.len
          omega
        | some o =>
          rw [List.getD_eq_getElem?_getD, hu] at h2
          cases o with
          | none =>
            have := w.one s hu
            subst this
            exact (hp.back hs).symm
          | some k => cases h2
      · rintro rfl
        refine ⟨z0.1, ?_⟩
        rw [usR_get? z0.2, List.getD_eq_getElem?_getD, w.top]
        rfl
    · have key : ∀ s, Top U s → Top (usR sp U) (sp.idxOf s) := fun s h => by
        induction h with
        | @top s h =>
          have hs : s < B.length := by rw [← w.len]; exact (List.getElem?_eq_some_iff.mp h).1
          refine .top ?_
          rw [usR_get? (hp.idx hs).2, List.getD_eq_getElem?_getD, h]
          rfl
        | @up s k h _ ih =>
          have hs : s < B.length := by rw [← w.len]; exact (List.getElem?_eq_some_iff.mp h).1
          refine .up (j := sp.idxOf k) ?_ ih
          rw [usR_get? (hp.idx hs).2, List.getD_eq_getElem?_getD, h]
          rfl
      obtain ⟨s, hs, hs2⟩ := atI hx
      rw [← hp.back hs]
      exact key s (wd_top w s hs2)
  refine ⟨⟨⟨fun ns h => asc_of (row ns h), fun ns h i hi => h0 i (inn ns h i hi)⟩, by rw [lb]; exact w.pos, by rw [lb]; exact hB, up, ?_⟩, inn⟩
  have fr := (uniq_iff fun r hr => by
    obtain ⟨i, hi, rfl⟩ := List.mem_map.mp hr
    have hi := List.mem_range.mp hi
    refine List.Pairwise.filter _ ?_
    rw [List.getD_eq_getElem?_getD, List.getElem?_eq_getElem hi]
    exact w.nd _ (List.getElem_mem hi)).mp w.fr
  have frl : (freshL B U).length = B.length := by unfold freshL; rw [List.length_map, List.length_range]
  refine (uniq_iff fun r hr => ?_).mpr fun i j q hi hj => ?_
  · obtain ⟨i, hi, rfl⟩ := List.mem_map.mp hr
    have hi := List.mem_range.mp hi
    refine List.Pairwise.filter _ ?_
    rw [List.getD_eq_getElem?_getD, List.getElem?_eq_getElem hi]
    exact (row _ (List.getElem_mem hi)).imp fun h => by omega
  · have lt' : ∀ {i : Nat}, q ∈ (freshL (bsR nm sp B) (usR sp U)).getD i [] → i < B.length := fun {i} hp => by
      rcases Nat.lt_or_ge i B.length with h | h
      · exact h
      · rw [List.getD_eq_getElem?_getD, List.getElem?_eq_none (by unfold freshL; rw [List.length_map, List.length_range, lb]; exact h)] at hp
        cases hp
    obtain ⟨s, hs, hs2⟩ := atI (lt' hi)
    obtain ⟨s', hs', hs2'⟩ := atI (lt' hj)
    have li := lt' hi
    have lj := lt' hj
    rw [freshL_at (by rw [lb]; exact li)] at hi
    rw [freshL_at (by rw [lb]; exact lj)] at hj
    obtain ⟨p, hp1, hp2⟩ := fresh_back' w hp hs hi
    obtain ⟨p', hp1', hp2'⟩ := fresh_back' w hp hs' hj
    have r1 := w.at (List.mem_filter.mp hp2).1
    have r2 := w.at (List.mem_filter.mp hp2').1
    have e := nmF_inj hn hl r1.2 r2.2 (hp1.trans hp1'.symm)
    subst e
    have := fr s s' p (by rw [freshL_at hs2]; exact hp2) (by rw [freshL_at hs2']; exact hp2')
    subst this
    exact (hp.back hs).symm.trans (hp.back hs')
end P41
end S_Bas
section S_Bat
namespace P41
open PySem PySem.Spec PyProof.Rows L2 Tl Hk RZ EnL
/-! ### a tree drawn -/
abbrev nWo : List Str := ["nest", "most", "bags", "above", "fresh", "turn", "up", "more", "kept", "far", "names", "spots", "told", "piece", "name", "spot"]
theorem scWood : FnScope nWo ["nest", "most"] (defScope sWood) := ⟨rfl, rfl, rfl, by decide +kernel, rfl, by decide +kernel, by decide +kernel⟩
theorem bkWo : BlkOk nWo { kind := .function, names := [(".0", .local), ("spot", .local), ("tuple", .globalImplicit), ("sorted", .globalImplicit), ("bags", .cell), ("names", .cell)], isGenerator := false, isCoroutine := false } { kind := .function, names := [(".0", .local), ("piece", .local), ("names", .free)], isGenerator := false, isCoroutine := false } [("piece", 13)] := blkOk_by (by decide +kernel)
abbrev ttKept : L2.TT := tTest (tOp (rI0 fun i j => V.bl (decide (i < j))) (tCall spScoop [] E0 (tCons (tVar 0) (tCons (tC (.int 4)) tNil))) (tC (.int 3)))
abbrev teTold (K : PySem.W.Frag) : TE := tCB (rTup K) (tCons (tCB (rSortedU K) (tCons (tLc (iList K (tOp (rIxL K) (tVar 2) (tVar 15))) (gName 13) tYes (tOp (rIxL K) (tVar 10) (tVar 13)) [13]) tNil)) tNil)
abbrev teUps (K : PySem.W.Frag) : TE := tIf (tTest (tOp rIsN (tOp (rIxL K) (tVar 3) (tVar 15)) (tC .non))) (tC .non) (tBM K "list" (rIndex K) (tVar 11) (tCons (tOp (rIxL K) (tVar 3) (tVar 15)) tNil))
section
variable {P : Program} {w : World} {K : PySem.W.Frag} {mg : Str → Option Value} {base : Heap}
theorem el_listRg {σ : L2.St} {H : Hp} {ta tb : TE} {a b : Int} (h1 : Evl.Ev ta σ H (.int a)) (h2 : Evl.Ev tb σ H (.int b)) (ok : RgOk a b) : Evl.EvL (tLstRg (tRg2 ta tb)) σ H (rgV a b) := fun H1 e Q q =>
  h1 H1 e _ fun H2 e2 => h2 H2 (e.trans e2) _ fun H3 e3 => ⟨a, b, rfl, rfl, ok, fun p hp => q p _ (Evl.fresh_back (e2.trans e3) hp) ((e2.trans e3).trans (Evl.Ex.new hp)) upd_same⟩
theorem rgV_rng (f m : Nat) : rgV (f : Int) ((f : Int) + (m : Int)) = (rngI f m).map V.int := by
  unfold rgV rngI
  rw [List.map_map, show ((f : Int) + (m : Int) - (f : Int)).toNat = m by omega]
  refine List.map_congr_left fun i _ => ?_
  show V.int ((f : Int) + (i : Int)) = V.int ((f + i : Nat) : Int)
  congr 1
theorem rgV_zero (m : Nat) : rgV 0 (m : Int) = (rngI 0 m).map V.int := by
  have := rgV_rng 0 m
  rw [show ((0 : Nat) : Int) = 0 from rfl, Int.zero_add] at this
  exact this
theorem rngI_len (f m : Nat) : (rngI f m).length = m := by unfold rngI; rw [List.length_map, List.length_range]
/-- the tree as it grows: bags at BA, rows at rs, above at UA -/
structure Wo (K : PySem.W.Frag) (H : Hp) (t c BA UA : Addr) (B : List (List Int)) (U : List (Option Nat)) (rs : List Addr) (n : Nat) (H' : Hp) : Prop where
  kp : Kept t H H'
  T : Tub H' t c n
  hB : H' BA = some (.lst (rs.map V.ref))
  hU : H' UA = some (.lst (U.map uv))
  nB : H BA = none
  nU : H UA = none
  BU : BA ≠ UA
  Bt : BA ≠ t ∧ BA ≠ c
  Ut : UA ≠ t ∧ UA ≠ c
  len : rs.length = B.length
  row : ∀ (i : Nat) (a : Addr) (ns : List Int), rs[i]? = some a → B[i]? = some ns → H' a = some (.lst (ns.map V.int)) ∧ a ≠ t ∧ a ≠ BA ∧ a ≠ UA
theorem Wo.kept {K : PySem.W.Frag} {H H' H'' : Hp} {t c BA UA : Addr} {B : List (List Int)} {U : List (Option Nat)} {rs : List Addr} {n m : Nat} (w : Wo K H t c BA UA B U rs n H') (k : Kept t H' H'') (T : Tub H'' t c m) : Wo K H t c BA UA B U rs m H'' :=
  ⟨w.kp.trans k, T, k _ _ w.Bt.1 w.hB, k _ _ w.Ut.1 w.hU, w.nB, w.nU, w.BU, w.Bt, w.Ut, w.len, fun i a ns h1 h2 => ⟨k _ _ (w.row i a ns h1 h2).2.1 (w.row i a ns h1 h2).1, (w.row i a ns h1 h2).2⟩⟩
theorem Wo.ex {K : PySem.W.Frag} {H H' H'' : Hp} {t c BA UA : Addr} {B : List (List Int)} {U : List (Option Nat)} {rs : List Addr} {n : Nat} (w : Wo K H t c BA UA B U rs n H') (e : Evl.Ex H' H'') : Wo K H t c BA UA B U rs n H'' := w.kept (kept_ex e) (w.T.ex e)
theorem Wo.mono {K : PySem.W.Frag} {H H' : Hp} {t c BA UA : Addr} {B : List (List Int)} {U : List (Option Nat)} {rs : List Addr} {n m : Nat} (w : Wo K H t c BA UA B U rs n H') (h : n ≤ m) : Wo K H t c BA UA B U rs m H' := ⟨w.kp, w.T.mono h, w.hB, w.hU, w.nB, w.nU, w.BU, w.Bt, w.Ut, w.len, w.row⟩
/-- drawing in a raw place -/
theorem scoop_go {σ : L2.St} {H : Hp} {t c : Addr} {n : Nat} {many : Int} {te : TE} {E : XK} {Q : VK} (h0 : σ[0]? = some (some (.ref t))) (he : Evl.Ev te σ H (.int many)) (T : Tub H t c n) (hn : n ≤ 1000000) (h1 : 1 ≤ many) (h2 : many ≤ 100000)
    (k : ∀ (r : Nat) H', (r : Int) < many → Kept t H H' → Tub H' t c (n + 1) → Q (.int (r : Int)) H') : tCall spScoop [] E (tCons (tVar 0) (tCons te tNil)) σ H Q :=
  ⟨.ref t, h0, he H (Evl.Ex.refl _) _ fun H1 e1 => ⟨t, c, many, n, rfl, T.ex e1, hn, h1, h2, fun r H' r0 r1 k1 T1 => by
    have := k r.toNat H' (by omega) ((kept_ex e1).trans k1) T1
    rwa [Int.toNat_of_nonneg r0] at this⟩⟩
theorem rng_go {te : TE} {g : TG} {tb tz : TS} {D : Ends} {σ : L2.St} {H : Hp} (h : te σ H fun v H' => tSeq (tFor (iRng1 (tCons (tC v) tNil)) g tb) tz D σ H') : tSeq (tFor (iRng1 (tCons te tNil)) g tb) tz D σ H := h
theorem eb_rng1 {ta : TA} {σ : L2.St} {B : Hp} {j : Int} (h : Evl.EvA ta σ B [.int j]) (h0 : 0 ≤ j) (h1 : j ≤ 100000) : EvB (iRng1 ta) σ B j.toNat (YFn fun i => .int (0 + i)) := fun H1 e R k =>
  h H1 e _ fun H2 e2 => ⟨j, rfl, by omega, by omega, k _ _ H2 e2 walk_range fun _ _ => trivial⟩
theorem Wo.bag {K : PySem.W.Frag} {H H' : Hp} {t c BA UA : Addr} {B : List (List Int)} {U : List (Option Nat)} {rs : List Addr} {n : Nat} (w : Wo K H t c BA UA B U rs n H') {i : Nat} (hi : i < B.length) : ∃ a, rs[i]? = some a ∧ (rs.map V.ref)[i]? = some (.ref a) ∧ H' a = some (.lst ((B.getD i []).map V.int)) ∧ a ≠ t ∧ a ≠ BA ∧ a ≠ UA := by
  have h1 := List.getElem?_eq_getElem (show i < rs.length by rw [w.len]; exact hi)
  have h2 := List.getElem?_eq_getElem hi
  refine ⟨_, h1, by rw [List.getElem?_map, h1]; rfl, ?_⟩
  rw [List.getD_eq_getElem?_getD, h2]
  exact w.row i _ _ h1 h2
theorem far_go {F : V → Hp → Prop} {H : Hp} {k : Int} (hk : 0 ≤ k) (h : ∀ far : Int, 0 ≤ far → F (.int far) H) : F (.int k) H := h k hk
theorem rg1_go {te : TE} {σ : L2.St} {H : Hp} {m : Nat} {Q : VK} (h : Evl.Ev te σ H (.int (m : Int))) (hm : m ≤ 10000) (k : ∀ L H1, H1 L = none → Evl.Ex H H1 → Q (.ref L) (upd H1 L (.lst ((rngI 0 m).map V.int)))) : tLstRg (tRg1 te) σ H Q :=
  h H (Evl.Ex.refl _) _ fun H1 e1 => ⟨_, rfl, RgOk.of_le (by omega) (by omega) (by omega) (by omega), fun L hL => by
    rw [rgV_zero]
    exact k L H1 hL e1⟩
theorem gdm {l : List Int} {k : Nat} (h : k < l.length) : l.getD k 0 ∈ l := by
  rw [List.getD_eq_getElem?_getD, List.getElem?_eq_getElem h]
  exact List.getElem_mem h
theorem nmF_at {nm : List Int} {p : Int} (h : p.toNat < nm.length) : (nm.map V.int)[p.toNat]? = some (V.int (nmF nm p)) := by
  unfold nmF
  rw [List.getElem?_map, List.getD_eq_getElem?_getD, List.getElem?_eq_getElem h]
  rfl
theorem c_go {v : V} {σ : L2.St} {H : Hp} {Q : VK} (h : Q v H) : tC v σ H Q := h
theorem lc_go {te te1 : TE} {g : TG} {tt : L2.TT} {vs : List Nat} {σ : L2.St} {H : Hp} {Q : VK} (h : te σ H fun v H' => tLc (iList K (tC v)) g tt te1 vs σ H' Q) : tLc (iList K te) g tt te1 vs σ H Q := h
def spWood (K : PySem.W.Frag) : Sp := fun vs H Q _ => ∃ (t c : Addr) (n : Nat), vs = [.ref t, .int 8] ∧ Tub H t c n ∧ n ≤ 800000 ∧
  ∀ (T A U : Addr) (as : List Addr) (bs : List (List Int)) (us : List (Option Nat)) (H' : Hp), Kept t H H' → Tub H' t c (n + 1000) → H' T = some (.tup [.ref A, .ref U]) → H' A = some (.lst (as.map V.ref)) → H' U = some (.lst (us.map uv)) → as.length = bs.length →
    (∀ (i : Nat) (a : Addr) (ns : List Int), as[i]? = some a → bs[i]? = some ns → H a = none ∧ H' a = some (.tup (ns.map V.int))) → H T = none → H A = none → H U = none → TreeOk bs us → bs.length ≤ 8 → (∃ nm : List Int, nm.length ≤ 20 ∧ (∀ ns ∈ bs, ∀ k ∈ ns, k ∈ nm) ∧ ∀ k ∈ nm, (0 : Int) ≤ k ∧ k < 10 ^ 40) → Q (.ref T) H'
set_option maxHeartbeats 4000000 in
theorem ok_wood {f fS fT : Addr} {fd fdS fdT : FuncData} {k : Nat} (F : Fun K "_law_wood" "_law_wood" sWood f fd)
    (FS : Fun K "_law_perch" "_law_perch" sScoop fS fdS) (GS : FnOk P w K mg base CX0 k fS fdS ["nest", "many"] spScoop) (bS : Binds K fdS ["nest", "many"] []) (gS : mg "_law_perch" = some (.ref fS))
    (FT : Fun K "_law_stirred" "_law_stirred" sStirred fT fdT) (GT : FnOk P w K mg base CX0 k fT fdT ["nest", "some"] (spStirred K)) (bT : Binds K fdT ["nest", "some"] []) (gT : mg "_law_stirred" = some (.ref fT))
    (mlen : mg "len" = none) (mlist : mg "list" = none) (mrange : mg "range" = none) (mint : mg "int" = none) (mtup : mg "tuple" = none) (msort : mg "sorted" = none) : FnOk P w K mg base CX0 (k + 1) f fd ["nest", "most"] (spWood K) := by
  refine F.ok scWood (fun vs H Q E h => ?_) (fun cdv A0 outer s H vs Q E hr h => ?_)
  · obtain ⟨t, c, n, rfl, _⟩ := h
    rfl
  · obtain ⟨t, c, n, rfl, T0, hn, q⟩ := h
    have nd := scWood.nd
    refine ⟨_, pss_cons (ps_asg (pe_tup (pa_cons (pe_lst (pa_cons (pe_listRg rfl (by rfl) mlist (prg_1 (by rfl) mrange (pe_call GS hr (by rfl) gS FS.kp bS .nil pass0 (pa_cons (pv 0) (pa_cons (pe_int) (pa_nil)))))) (pa_nil))) (pa_cons (pe_lst (pa_cons (pe_non) (pa_nil))) (pa_nil)))) (pg_tup (by rfl) (pgs_cons (pg_name (i := 2) nd rfl (Or.inr rfl)) (pgs_cons (pg_name (i := 3) nd rfl (Or.inr rfl)) pgs_nil)))) (pss_cons (ps_set (i := 4) nd rfl (.inl rfl) (pe_callB call_len_seq (by rfl) mlen PySem.boot_len (pa_cons (pe_ix ix_list (pv 2) (pe_int) (fun _ _ => rfl)) (pa_nil)))) (pss_cons (ps_for PassesOwn.never rfl (pi_range1 (by rfl) mrange (pa_cons (pe_call GS hr (by rfl) gS FS.kp bS .nil pass0 (pa_cons (pv 0) (pa_cons (pv 1) (pa_nil)))) (pa_nil))) (pg_name (i := 5) nd rfl (Or.inl rfl)) (pss_cons (ps_par (i := 6) (j := 7) (by rfl) nd rfl rfl (by decide) rfl rfl (pa_cons (pe_call GS hr (by rfl) gS FS.kp bS .nil pass0 (pa_cons (pv 0) (pa_cons (pe_callB call_len_seq (by rfl) mlen PySem.boot_len (pa_cons (pv 2) (pa_nil))) (pa_nil)))) (pa_cons (pe_call GS hr (by rfl) gS FS.kp bS .nil pass0 (pa_cons (pv 0) (pa_cons (pe_int) (pa_nil)))) (pa_nil))) (by rfl)) (pss_cons (ps_setLc (i := 8) (own := [("piece", 13)]) (g := gName 13) (tt := ttKept) (te := tVar 13) rfl nd rfl rfl (sw_true rfl rfl rfl (by decide +kernel)) (pi_list (pe_ix ix_list (pv 2) (pv 6) (fun _ _ => rfl))) (blkOk_by (N := nWo) (sc := defScope sWood) (by decide +kernel)) (fun _ _ _ _ _ => pg_name (i := 13) nd rfl (Or.inl rfl)) (fun _ _ _ _ _ => pts_one (pt_cmpR op_lt (pe_call GS hr (by rfl) gS FS.kp bS .nil pass0 (pa_cons (pv 0) (pa_cons (pe_int) (pa_nil)))) (pe_int) (nomark _))) (fun _ _ _ _ _ => pv 13)) (pss_cons (ps_expr (pe_bm PySem.F.plainAttrs_list PySem.F.slot_list_append PySem.F.type_list_append mt_append (pv 2) (pa_cons (pe_op op_cat (pv 8) (pe_listRg rfl (by rfl) mlist (prg_2 (by rfl) mrange (pv 4) (pe_op op_add (pv 4) (pv 7))))) (pa_nil)))) (pss_cons (ps_expr (pe_bm PySem.F.plainAttrs_list PySem.F.slot_list_append PySem.F.type_list_append mt_append (pv 3) (pa_cons (pv 6) (pa_nil)))) (pss_one (ps_set (i := 4) nd rfl (.inl rfl) (pe_op op_add (pv 4) (pv 7))))))))) (pss_cons (ps_set (i := 9) nd rfl (.inr rfl) (pe_op op_mul (pe_op op_pow (pe_int) (pe_int)) (pe_callTy call_int1 (by rfl) mint (by decide +kernel) (pa_cons (pe_cmpR op_eq (pe_call GS hr (by rfl) gS FS.kp bS .nil pass0 (pa_cons (pv 0) (pa_cons (pe_int) (pa_nil)))) (pe_int) (nomark _)) (pa_nil))))) (pss_cons (ps_set (i := 10) nd rfl (.inr rfl) (pe_lc (own := [("name", 14)]) (g := gName 14) (tt := tYes) (te := tOp (rI0 fun i j => V.int (i + j)) (tVar 9) (tVar 14)) rfl nd (pi_list (pe_call GT hr (by rfl) gT FT.kp bT .nil pass0 (pa_cons (pv 0) (pa_cons (pe_listRg rfl (by rfl) mlist (prg_1 (by rfl) mrange (pe_op op_add (pv 4) (pe_call GS hr (by rfl) gS FS.kp bS .nil pass0 (pa_cons (pv 0) (pa_cons (pe_int) (pa_nil))))))) (pa_nil))))) (blkOk_by (N := nWo) (sc := defScope sWood) (by decide +kernel)) (fun _ _ _ _ _ => pg_name (i := 14) nd rfl (Or.inl rfl)) (fun _ _ _ _ _ => pts_nil) (fun _ _ _ _ _ => pe_op op_add (pv 9) (pv 14)))) (pss_cons (ps_set (i := 11) nd rfl (.inr rfl) (pe_call GT hr (by rfl) gT FT.kp bT .nil pass0 (pa_cons (pv 0) (pa_cons (pe_listRg rfl (by rfl) mlist (prg_1 (by rfl) mrange (pe_callB call_len_seq (by rfl) mlen PySem.boot_len (pa_cons (pv 2) (pa_nil))))) (pa_nil))))) (pss_cons (ps_setLc (i := 12) (own := [("spot", 15)]) (g := gName 15) (tt := tYes) (te := teTold K) rfl nd rfl rfl (sw_true rfl rfl rfl (by decide +kernel)) (pi_list (pv 11)) (blkOk_by (N := nWo) (sc := defScope sWood) (by decide +kernel)) (fun _ _ _ _ _ => pg_name (i := 15) nd rfl (Or.inl rfl)) (fun _ _ _ _ _ => pts_nil) (fun _ _ _ _ _ => pe_callTy call_tuple_of (by rfl) mtup (by decide +kernel) (pa_cons (pe_callB cr_sortedU (by rfl) msort (by decide +kernel) (pa_cons (pe_lc (own := [("piece", 13)]) (g := gName 13) (tt := tYes) (te := tOp (rIxL K) (tVar 10) (tVar 13)) rfl nd (pi_list (pe_ix ix_list (pv 2) (pv 15) (fun _ _ => rfl))) bkWo (fun _ _ _ _ _ => pg_name (i := 13) nd rfl (Or.inl rfl)) (fun _ _ _ _ _ => pts_nil) (fun _ _ _ _ _ => pe_ix ix_list (pv 10) (pv 13) (fun _ _ => rfl))) (pa_nil))) (pa_nil)))) (pss_one (ps_ret (pe_tup (pa_cons (pv 12) (pa_cons (pe_lc (own := [("spot", 15)]) (g := gName 15) (tt := tYes) (te := teUps K) rfl nd (pi_list (pv 11)) (blkOk_by (N := nWo) (sc := defScope sWood) (by decide +kernel)) (fun _ _ _ _ _ => pg_name (i := 15) nd rfl (Or.inl rfl)) (fun _ _ _ _ _ => pts_nil) (fun _ _ _ _ _ => pe_ifExp (pt_cmpR op_isN (pe_ix ix_list (pv 3) (pv 15) (fun _ _ => rfl)) (pe_non) (nomark _)) (pe_non) (pe_bm PySem.F.plainAttrs_list PySem.F.slot_list_index PySem.F.type_list_index mt_index (pv 11) (pa_cons (pe_ix ix_list (pv 3) (pv 15) (fun _ _ => rfl)) (pa_nil))))) (pa_nil)))))))))))), ?_⟩
    obtain ⟨cs0, turn0, rest0, ht0, hc0, hct0, _⟩ := id T0
    -- bags, above
    refine Go.q_asg1 (Go.tup_go (Go.cons_any (Go.lst_go (Go.cons_any ?_))))
    refine scoop_go (c := c) rfl Evl.ev_c T0 (by omega) (by decide) (by decide) fun m H1 hm k1 T1 => ?_
    refine ⟨(m : Int), rfl, RgOk.of_le (by omega) (by omega) (by omega) (by omega), fun R hR => ⟨(by show 1 ≤ sizeLine; decide), fun BA hBA => ⟨(by show 1 ≤ sizeLine; decide), fun UA hUA => ⟨(by show 2 ≤ sizeLine; decide), fun Tp hTp => ⟨Tp, _, rfl, Evl.st_of upd_same, rfl, _, _, rfl, _, _, rfl, rfl, ?_⟩⟩⟩⟩⟩
    rw [rgV_zero] at *
    try dsimp only [List.set_cons_zero, List.set_cons_succ]
    have w0 : Wo K H t c BA UA [rngI 0 m] [none] [R] (n + 1) (upd (upd (upd (upd H1 R (.lst ((rngI 0 m).map V.int))) BA (.lst [.ref R])) UA (.lst [.non])) Tp (.tup [.ref BA, .ref UA])) := by
      have eR := Evl.Ex.new (o := .lst ((rngI 0 m).map V.int)) hR
      have eB := Evl.Ex.new (o := .lst [V.ref R]) hBA
      have eU := Evl.Ex.new (o := .lst [V.non]) hUA
      have eT := Evl.Ex.new (o := .tup [V.ref BA, V.ref UA]) hTp
      have nB1 := Evl.fresh_back eR hBA
      have nU1 := Evl.fresh_back (eR.trans eB) hUA
      have hk : ∀ a : Addr, H1 a = none → H a = none := fun a ha => by
        cases hz : H a with
        | none => rfl
        | some o =>
          by_cases e : a = t
          · subst e
            obtain ⟨_, _, _, hz1, _⟩ := id T1
            rw [hz1] at ha; cases ha
          · rw [k1 _ _ e hz] at ha; cases ha
      obtain ⟨r1, r2⟩ := T1.ne hR
      obtain ⟨b1, b2⟩ := T1.ne nB1
      obtain ⟨u1, u2⟩ := T1.ne nU1
      refine ⟨k1.trans (kept_ex (((eR.trans eB).trans eU).trans eT)), T1.ex (((eR.trans eB).trans eU).trans eT), eT _ _ (eU _ _ upd_same), eT _ _ upd_same, hk _ nB1, hk _ nU1, fun z => ?_, ⟨b1, b2⟩, ⟨u1, u2⟩, rfl, fun i a ns h1 h2 => ?_⟩
      · rw [← z, upd_same] at hUA; cases hUA
      · cases i with
        | succ i => cases h1
        | zero =>
          cases h1
          cases h2
          refine ⟨eT _ _ (eU _ _ (eB _ _ upd_same)), r1, fun z => ?_, fun z => ?_⟩
          · rw [← z, upd_same] at hBA; cases hBA
          · rw [← z, eB _ _ upd_same] at hUA; cases hUA
    generalize (upd (upd (upd (upd H1 R (.lst ((rngI 0 m).map V.int))) BA (.lst [.ref R])) UA (.lst [.non])) Tp (.tup [.ref BA, .ref UA])) = H2 at w0 ⊢
    clear hR hBA hUA hTp
    -- fresh
    refine Evl.q_asg (v := .int (m : Int)) (Evl.ev_is (Evl.ev_len (K := K) (Evl.ev_op (x := .ref BA) (y := .int ((0 : Nat) : Int)) (Evl.ev_var rfl) Evl.ev_c (Evl.rv_ixL (Evl.sq_of w0.hB) (atI_nat rfl))) (Evl.sq_of (w0.row 0 R _ rfl rfl).1)) (by rw [List.length_map, rngI_len])) fun H3 e3 => ?_
    try dsimp only [List.set_cons_zero, List.set_cons_succ]
    have w3 := w0.ex e3
    refine rng_go (scoop_go (c := c) rfl (Evl.ev_var rfl) w3.T (by omega) (by decide) (by decide) fun turns H4 htn k4 T4 => ?_)
    have w4 := w3.kept k4 T4
    refine q_forB (B := fun _ => none) (n := turns) (s := fun i σ => σ.set 5 (some (.int (0 + i)))) (eb_rng1 (j := (turns : Int)) (Evl.ea_cons Evl.ev_c Evl.ea_nil) (by omega) (by omega)) aims_fn (fun _ _ h => nomatch h) (fun i σ' H' => ∃ (B : List (List Int)) (U : List (Option Nat)) (rs : List Addr) (f : Nat) (x5 x6 x7 x8 : Option V), σ' = [some (.ref t), some (.int 8), some (.ref BA), some (.ref UA), some (.int (f : Int)), x5, x6, x7, x8, none, none, none, none, none, none, none] ∧ Wo K H t c BA UA B U rs (n + 2 + 25 * i) H' ∧ Wd B U f ∧ f ≤ 3 + 2 * i ∧ B.length = 1 + i)
      (fun G eG => ⟨_, _, _, m, _, _, _, _, rfl, w4.ex eG, wd_start m, by omega, rfl⟩) (fun _ _ _ _ _ _ _ h => nomatch h) (fun i σ' H' G hi p eG => ?_) fun σ' H' p => ?_
    · obtain ⟨B, U, rs, f, x5, x6, x7, x8, rfl, w, wd, hf, hBl⟩ := p
      have w := w.ex eG
      have hrl := w.len
      refine Go.par_go (Go.cons_any (scoop_go (c := c) (n := n + 2 + 25 * i) rfl (Evl.ev_len (K := K) (Evl.ev_var rfl) (Evl.sq_of w.hB)) w.T (by omega) (by rw [List.length_map]; omega) (by rw [List.length_map]; omega) fun j H5 hj k5 T5 => Go.cons_any (scoop_go (c := c) rfl Evl.ev_c T5 (by omega) (by decide) (by decide) fun mm H6 hmm k6 T6 => ⟨_, _, rfl, ?_⟩)))
      try dsimp only [List.set_cons_zero, List.set_cons_succ]
      rw [List.length_map, hrl] at hj
      have w6 := w.kept (k5.trans k6) T6
      obtain ⟨a, ha1, ha2, ha3, ha4, ha5, ha6⟩ := w6.bag (show j < B.length by omega)
      generalize hns : B.getD j [] = ns at ha3
      have hnsm : ns ∈ B := by
        rw [← hns, List.getD_eq_getElem?_getD, List.getElem?_eq_getElem (show j < B.length by omega)]
        exact List.getElem_mem _
      have hnl : ns.length ≤ 17 := by
        have := ndI_le (wd.nd ns hnsm) (m := rngI 0 f) fun x hx => rngI_mem.mpr (by have := wd.rng ns hnsm x hx; omega)
        rw [rngI_len] at this
        omega
      obtain ⟨cs, tn, rt, ht6, hc6, hct6, _⟩ := id w6.T
      have bt : ∀ {z : Addr} {o : HO}, H6 z = some o → z ≠ t → but t H6 z = some o := fun h hz => by
        unfold but
        rw [if_neg hz]
        exact h
      refine Go.asg_go (go_lcT (t := t) ht6 (n := (ns.map V.int).length) (s := fun i σ => σ.set 13 (some ((ns.map V.int).getD i .non))) (ei_list (K := K) (xs := ns.map V.int) (Evl.ev_op (x := .ref BA) (y := .int (j : Int)) (Evl.ev_var rfl) (Evl.ev_var rfl) (Evl.rv_ixL (Evl.sq_of (bt w6.hB w6.Bt.1)) (atI_nat ha2))) (Evl.sq_of (bt ha3 ha4))) (aims_at (j := 13)) (fun _ => rfl) (by rw [List.length_map]; omega)
        (fun k acc A => (∃ ks : List Int, acc = ks.map V.int ∧ ks.Sublist (ns.take k)) ∧ Tub A t c (n + 2 + 25 * i + 1 + 1 + k)) (fun A eA => ⟨⟨[], rfl, List.nil_sublist _⟩, w6.T.ex eA⟩) (fun k acc A A' p e => ⟨p.1, p.2.ex e⟩)
        (fun k acc A D l l' nD hD _ p => ⟨p.1, p.2.upd hD fun z => by rw [z, hc6] at nD; cases nD⟩) (fun k acc A F1 F2 hk kp _ p k1' k2' => ?_) fun D acc A nD hDt hD hal kp p => ?_)
      · obtain ⟨⟨ks, rfl, hs⟩, Tk⟩ := p
        rw [List.length_map] at hk
        refine scoop_go (c := c) rfl Evl.ev_c Tk (by omega) (by decide) (by decide) fun r A2 hr kk TT => ⟨(r : Int), 3, rfl, rfl, decide ((r : Int) < 3), rfl, if_go (fun _ => ?_) fun _ => ?_⟩
        · rw [gd_int hk]
          refine ⟨_, rfl, k1' _ _ kk ⟨⟨ks ++ [ns.getD k 0], by rw [List.map_append]; rfl, ?_⟩, TT⟩⟩
          rw [List.take_succ_eq_append_getElem hk, List.getD_eq_getElem?_getD, List.getElem?_eq_getElem hk]
          exact List.Sublist.append hs (List.Sublist.refl _)
        · refine k2' _ kk ⟨⟨ks, rfl, hs.trans ?_⟩, TT⟩
          rw [List.take_succ_eq_append_getElem hk]
          exact List.sublist_append_left _ _
      · obtain ⟨⟨ks, rfl, hs⟩, TA⟩ := p
        rw [List.length_map] at hs TA
        rw [List.take_length] at hs
        have hkn := hs.length_le
        have wA := w6.kept kp TA
        try dsimp only [List.set_cons_zero, List.set_cons_succ]
        have DB : D ≠ BA := fun z => by rw [z, w6.hB] at nD; cases nD
        have DU : D ≠ UA := fun z => by rw [z, w6.hU] at nD; cases nD
        refine Evl.q_appL (ys := (ks ++ rngI f mm).map V.int) wA.hB (Evl.ev_var rfl) (by
          have h1 := el_listRg (σ := [some (.ref t), some (.int 8), some (.ref BA), some (.ref UA), some (.int (f : Int)), some (.int (0 + (i : Int))), some (.int (j : Int)), some (.int (mm : Int)), some (.ref D), none, none, none, none, none, none, none]) (H := A) (ta := tVar 4) (tb := tOp (rI0 fun i j => V.int (i + j)) (tVar 4) (tVar 7)) (a := (f : Int)) (b := (f : Int) + (mm : Int)) (Evl.ev_var rfl) (Evl.ev_op (Evl.ev_var rfl) (Evl.ev_var rfl) Evl.rv_I0) (RgOk.of_le (by omega) (by omega) (by omega) (by omega))
          rw [rgV_rng] at h1
          rw [List.map_append]
          exact el_catVN (Evl.ev_var rfl) hD h1 (by rw [List.length_map, List.length_map, rngI_len]; omega)) (by rw [List.length_map, hrl]; omega) fun N H8 nN e8 hN => ?_
        have w8 := wA.ex e8
        obtain ⟨nt, nc⟩ := wA.T.ne nN
        have NB : N ≠ BA := fun z => by rw [z, wA.hB] at nN; cases nN
        have NU : N ≠ UA := fun z => by rw [z, wA.hU] at nN; cases nN
        refine Evl.q_app (l := UA) (v := .int (j : Int)) (by rw [upd_ne w8.BU.symm]; exact w8.hU) (Evl.ev_var rfl) (Evl.ev_var rfl) (by rw [List.length_map, wd.len, hBl]; omega) fun H9 e9 => ?_
        refine Evl.s_asg (v := .int ((f + mm : Nat) : Int)) (Evl.ev_op (Evl.ev_var rfl) (Evl.ev_var rfl) Evl.rv_I0) fun H10 e10 => ?_
        try dsimp only [List.set_cons_zero, List.set_cons_succ]
        refine ⟨B ++ [ks ++ rngI f mm], U ++ [some j], rs ++ [N], f + mm, _, _, _, _, rfl, Wo.ex ?_ e10, wd_step wd (show j < B.length by omega) (fun k hk => by rw [hns]; exact hs.subset hk) (hs.nodup (wd.nd ns hnsm)), by omega, by rw [List.length_append, hBl, List.length_singleton]; omega⟩
        have hB9 : H9 BA = some (.lst (rs.map V.ref ++ [.ref N])) := e9 _ _ upd_same
        have k89 : ∀ z o, z ≠ BA → H8 z = some o → H9 z = some o := fun z o hz h => e9 _ _ (by rw [upd_ne hz]; exact h)
        have k8 : ∀ z o, z ≠ BA → z ≠ UA → H8 z = some o → (upd H9 UA (.lst (U.map uv ++ [.int (j : Int)]))) z = some o := fun z o h1 h2 h => by rw [upd_ne h2]; exact k89 z o h1 h
        have T9 : Tub H9 t c (n + 2 + 25 * i + 1 + 1 + ns.length) := (w8.T.upd w8.Bt.1 w8.Bt.2).ex e9
        refine ⟨fun z o hz h => k8 z o (fun q => by rw [q, w.nB] at h; cases h) (fun q => by rw [q, w.nU] at h; cases h) (w8.kp _ _ hz h), (T9.upd w8.Ut.1 w8.Ut.2).mono (by omega), by rw [upd_ne w8.BU, hB9, List.map_append]; rfl, by rw [upd_same, List.map_append]; rfl, w.nB, w.nU, w.BU, w.Bt, w.Ut, by rw [List.length_append, List.length_append, hrl]; rfl, fun i' a' ns' h1 h2 => ?_⟩
        rcases Nat.lt_or_ge i' rs.length with hi' | hi'
        · rw [List.getElem?_append_left hi'] at h1
          rw [List.getElem?_append_left (by omega)] at h2
          obtain ⟨r1, r2, r3, r4⟩ := w8.row i' a' ns' h1 h2
          exact ⟨k8 _ _ r3 r4 r1, r2, r3, r4⟩
        · rw [List.getElem?_append_right hi'] at h1
          rw [List.getElem?_append_right (by omega)] at h2
          have hz := (List.getElem?_eq_some_iff.mp h1).1
          rw [List.length_singleton] at hz
          have e0 : i' - rs.length = 0 := by omega
          rw [e0] at h1
          rw [show i' - B.length = 0 by omega] at h2
          cases h1
          cases h2
          exact ⟨k8 _ _ NB NU hN, nt, NB, NU⟩
    · obtain ⟨B, U, rs, f, x5, x6, x7, x8, rfl, w, wd, hf, hBl⟩ := p
      have htn : turns ≤ 7 := by omega
      have hrl := w.len
      -- far
      refine Go.asg_go (Go.op_go (Go.go (Evl.ev_op Evl.ev_c Evl.ev_c (Evl.rv_I ⟨by decide, by decide, by decide⟩)) fun H5 e5 => Go.cb_go (Go.cons_any (Go.op_go (scoop_go (c := c) rfl Evl.ev_c (w.ex e5).T (by omega) (by decide) (by decide) fun r H6 hr k6 T6 => c_go ?_)))))
      have w6 := (w.ex e5).kept k6 T6
      refine (Evl.rv_eq (x := V.int (r : Int)) (y := V.int 3) rfl) H6 (Evl.Ex.refl _) _ fun H7 e7 => ?_
      have w7 := w6.ex e7
      refine .inr ⟨_, rfl, _, _, rfl, rfl, .inr (by split <;> exact ⟨by decide, by decide⟩), ?_⟩
      dsimp only
      have hfg : (0 : Int) ≤ (10 : Int) ^ Int.toNat 30 * (if decide (V.int (r : Int) = V.int 3) = true then 1 else 0) := by split <;> decide
      have hfg2 : (10 : Int) ^ Int.toNat 30 * (if decide (V.int (r : Int) = V.int 3) = true then 1 else 0) ≤ 10 ^ 30 := by split <;> decide
      generalize (10 : Int) ^ Int.toNat 30 * (if decide (V.int (r : Int) = V.int 3) = true then 1 else 0) = far at hfg hfg2 ⊢
      try dsimp only [List.set_cons_zero, List.set_cons_succ]
      -- names
      refine Go.asg_go (lc_go (Go.call_raw (Go.cons_any ⟨.ref t, rfl, Go.cons_any ⟨.int (f : Int), rfl, scoop_go (c := c) rfl Evl.ev_c w7.T (by omega) (by decide) (by decide) fun r8 H8 hr8 k8 T8 => ⟨_, _, rfl, rfl, _, rfl, RgOk.of_le (by omega) (by omega) (by omega) (by omega), fun L hL => ?_⟩⟩⟩)))
      have w8 := w7.kept k8 T8
      have hfr : (f : Int) + (r8 : Int) = ((f + r8 : Nat) : Int) := rfl
      rw [hfr, rgV_zero]
      obtain ⟨Lt, Lc⟩ := w8.T.ne hL
      have eL := Evl.Ex.new (o := .lst ((rngI 0 (f + r8)).map V.int)) hL
      have w9 := w8.ex eL
      refine ⟨t, c, L, rngI 0 (f + r8), _, rfl, w9.T, by omega, Evl.sq_of upd_same, by rw [rngI_len]; omega, fun F ns H10 k10 T10 nF hF hperm => ?_⟩
      rw [rngI_len] at T10
      have w10 := w9.kept k10 T10
      have nsl : ns.length = f + r8 := by rw [hperm.length_eq, rngI_len]
      have hnames := el_lcI (te := tOp (rI0 fun i j => V.int (i + j)) (tVar 9) (tVar 14)) (t := tYes) (σ := [some (.ref t), some (.int 8), some (.ref BA), some (.ref UA), some (.int (f : Int)), x5, x6, x7, x8, some (.int far), none, none, none, none, none, none]) (H := H10) (vs := [14]) (fun _ => true) (fun i => V.int (far + ns.getD i 0)) (ei_list (K := K) (tl := tC (.ref F)) Evl.ev_c (Evl.sq_of hF)) (aims_at (j := 14)) (fun _ => rfl) (by rw [List.length_map]; omega) (fun _ _ _ _ => et_yes) fun i A eA hi _ => by
        rw [List.length_map] at hi
        exact Evl.ev_op (Evl.ev_var rfl) (Evl.ev_is (Evl.ev_var rfl) (gd_int hi)) Evl.rv_I0
      rw [List.length_map, given_all ns 0 fun z => V.int (far + z), show (fun z => V.int (far + z)) = V.int ∘ (fun z => far + z) from rfl, ← List.map_map] at hnames
      refine hnames H10 (Evl.Ex.refl _) _ fun NM H11 nNM e11 hNM => ?_
      try dsimp only [List.set_cons_zero, List.set_cons_succ]
      have w11 := w10.ex e11
      generalize hnm : ns.map (fun z => far + z) = nm at hNM
      have nml : nm.length = f + r8 := by rw [← hnm, List.length_map, nsl]
      have nmn : nm.Nodup := by
        rw [← hnm]
        refine List.Pairwise.map _ (R := (· ≠ ·)) (fun a b h e => h (by omega)) (hperm.nodup_iff.mpr (rngI_nd _ _))
      have nm1 : ∀ x ∈ nm, 0 ≤ x ∧ x < (10 : Int) ^ 40 := fun x hx => by
        rw [← hnm] at hx
        obtain ⟨z, hz, rfl⟩ := List.mem_map.mp hx
        have := rngI_mem.mp (hperm.mem_iff.mp hz)
        omega
      have nm0 : ∀ x ∈ nm, 0 ≤ x := fun x hx => (nm1 x hx).1
      -- spots
      refine Go.asg_go (Go.call_raw (Go.cons_any ⟨.ref t, rfl, Go.cons_any (rg1_go (m := B.length) (Evl.ev_is (Evl.ev_len (K := K) (Evl.ev_var rfl) (Evl.sq_of w11.hB)) (by rw [List.length_map, hrl])) (by omega) fun L2 H12 hL2 e12 => ?_)⟩))
      have w12 := w11.ex e12
      have eL2 := Evl.Ex.new (o := .lst ((rngI 0 B.length).map V.int)) hL2
      have w13 := w12.ex eL2
      refine ⟨t, c, L2, rngI 0 B.length, _, rfl, w13.T, by omega, Evl.sq_of upd_same, by rw [rngI_len]; omega, fun SP spI H14 k14 T14 nSP hSP hperm2 => ?_⟩
      rw [rngI_len] at T14
      try dsimp only [List.set_cons_zero, List.set_cons_succ]
      have w14 := w13.kept k14 T14
      obtain ⟨NMt, NMc⟩ := w10.T.ne nNM
      have hNM14 : H14 NM = some (.lst (nm.map V.int)) := k14 _ _ NMt (eL2 _ _ (e12 _ _ hNM))
      obtain ⟨sp, rfl, hsp⟩ : ∃ sp : List Nat, spI = sp.map (fun z : Nat => (z : Int)) ∧ Sp8 sp B.length := by
        refine ⟨spI.map Int.toNat, ?_, ⟨?_⟩⟩
        · rw [List.map_map]
          have : ∀ x ∈ spI, ((fun z : Nat => (z : Int)) ∘ Int.toNat) x = x := fun x hx => by
            have := rngI_mem.mp (hperm2.mem_iff.mp hx)
            show ((x.toNat : Nat) : Int) = x
            omega
          conv => lhs; rw [← List.map_id spI]
          exact (List.map_congr_left this).symm
        · have h1 := hperm2.map Int.toNat
          have h2 : (rngI 0 B.length).map Int.toNat = List.range B.length := by
            unfold rngI
            rw [List.map_map]
            have : ∀ x ∈ List.range B.length, (Int.toNat ∘ fun i : Nat => ((0 + i : Nat) : Int)) x = x := fun x _ => by
              show Int.toNat ((0 + x : Nat) : Int) = x
              omega
            conv => rhs; rw [← List.map_id (List.range B.length)]
            exact List.map_congr_left this
          rw [h2] at h1
          exact h1
      have ok := wood_ok wd hsp nmn (by omega : f ≤ nm.length) nm0 (by omega)
      -- told
      have spAt : ∀ {i : Nat} (hi : i < B.length), ∃ s, sp[i]? = some s ∧ s < B.length ∧ ((sp.map fun z : Nat => (z : Int)).map V.int).getD i .non = .int (s : Int) := fun {i} hi => by
        have h1 := List.getElem?_eq_getElem (show i < sp.length by rw [hsp.len]; exact hi)
        refine ⟨_, h1, hsp.mem.mp (List.mem_of_getElem? h1), ?_⟩
        rw [List.getD_eq_getElem?_getD, List.getElem?_map, List.getElem?_map, h1]
        rfl
      have spl : ((sp.map fun z : Nat => (z : Int)).map V.int).length = B.length := by rw [List.length_map, List.length_map, hsp.len]
      refine Go.asg_go (go_lcD (H := H14) (n := ((sp.map fun z : Nat => (z : Int)).map V.int).length) (o := fun i => .tup (((bsR nm sp B).getD i []).map V.int)) (ei_list (K := K) (Evl.ev_var (i := 11) rfl) (Evl.sq_of hSP)) (aims_at (j := 15)) (fun _ => rfl) (by rw [spl]; omega) (fun i hi G eG Q1 q1 => ?_) H14 (Evl.Ex.refl _) _ fun D as H15 nD e15 hD hal hand hrow => ?_)
      · rw [spl] at hi
        obtain ⟨s, hs, hs2, exs⟩ := spAt hi
        rw [exs]
        rw [bsR_get hs] at q1
        obtain ⟨a, ha1, ha2, ha3, ha4, ha5, ha6⟩ := (w14.ex eG).bag hs2
        have inner := el_lcI (te := tOp (rIxL K) (tVar 10) (tVar 13)) (t := tYes) (σ := (wipe [some (.ref t), some (.int 8), some (.ref BA), some (.ref UA), some (.int (f : Int)), x5, x6, x7, x8, some (.int far), some (.ref NM), some (.ref SP), none, none, none, none] [15]).set 15 (some (.int (s : Int)))) (H := G) (vs := [13]) (fun _ => true) (fun i => V.int (nmF nm ((B.getD s []).getD i 0))) (ei_list (K := K) (tl := tOp (rIxL K) (tVar 2) (tVar 15)) (xs := (B.getD s []).map V.int) (Evl.ev_op (x := .ref BA) (y := .int (s : Int)) (Evl.ev_var rfl) (Evl.ev_var rfl) (Evl.rv_ixL (Evl.sq_of (w14.ex eG).hB) (atI_nat ha2))) (Evl.sq_of ha3)) (aims_at (j := 13)) (fun _ => rfl) (by
            rw [List.length_map]
            have hm : B.getD s [] ∈ B := by
              rw [List.getD_eq_getElem?_getD, List.getElem?_eq_getElem hs2]
              exact List.getElem_mem hs2
            have := ndI_le (wd.nd _ hm) (m := rngI 0 f) fun x hx => rngI_mem.mpr (by have := wd.rng _ hm x hx; omega)
            rw [rngI_len] at this
            omega) (fun _ _ _ _ => et_yes) fun k A eA hk _ => by
          rw [List.length_map] at hk
          have hp : (B.getD s []).getD k 0 ∈ B.getD s [] := gdm hk
          have hr := wd.at hp
          refine Evl.ev_op (x := .ref NM) (y := .int ((((B.getD s []).getD k 0).toNat : Nat) : Int)) (Evl.ev_var rfl) (Evl.ev_is (Evl.ev_var rfl) (by show ((B.getD s []).map V.int).getD k .non = _; rw [gd_int hk]; congr 1; omega)) (Evl.rv_ixL (Evl.sq_of (eA _ _ (eG _ _ hNM14))) (atI_nat (nmF_at (by omega))))
        rw [List.length_map, given_all (B.getD s []) 0 fun z => V.int (nmF nm z), show (fun z => V.int (nmF nm z)) = V.int ∘ nmF nm from rfl, ← List.map_map] at inner
        refine Go.cb_go (Go.cons_any (Go.cb_go (Go.cons_any (inner G (Evl.Ex.refl _) _ fun p G2 hp eG2 hG2 => ⟨p, (B.getD s []).map (nmF nm), rfl, .inl (Evl.sq_of hG2), fun ms z hpm hle hz => ?_⟩))))
        rw [srtI_of hpm hle]
        exact ⟨z, _, rfl, .inl ⟨Evl.sq_of upd_same, fun l hl => q1 l _ (Evl.fresh_back (eG2.trans (Evl.Ex.new hz)) hl) ((eG2.trans (Evl.Ex.new hz)).trans (Evl.Ex.new hl)) upd_same⟩⟩
      · rw [spl] at hal
        try dsimp only [List.set_cons_zero, List.set_cons_succ]
        have w15 := w14.ex e15
        have uUp := el_lcI (te := teUps K) (t := tYes) (σ := [some (.ref t), some (.int 8), some (.ref BA), some (.ref UA), some (.int (f : Int)), x5, x6, x7, x8, some (.int far), some (.ref NM), some (.ref SP), some (.ref D), none, none, none]) (H := H15) (vs := [15]) (fun _ => true) (fun i => uv ((usR sp U).getD i none)) (ei_list (K := K) (Evl.ev_var (i := 11) rfl) (Evl.sq_of (e15 _ _ hSP))) (aims_at (j := 15)) (fun _ => rfl) (by rw [spl]; omega) (fun _ _ _ _ => et_yes) fun i A eA hi _ => by
          rw [spl] at hi
          obtain ⟨s, hs, hs2, exs⟩ := spAt hi
          rw [exs, usR_get hs]
          obtain ⟨o, ho⟩ : ∃ o, U[s]? = some o := ⟨_, List.getElem?_eq_getElem (by rw [wd.len]; exact hs2)⟩
          have above : Evl.Ev (tOp (rIxL K) (tVar 3) (tVar 15)) ((wipe [some (.ref t), some (.int 8), some (.ref BA), some (.ref UA), some (.int (f : Int)), x5, x6, x7, x8, some (.int far), some (.ref NM), some (.ref SP), some (.ref D), none, none, none] [15]).set 15 (some (.int (s : Int)))) A (uv o) := Evl.ev_op (x := .ref UA) (y := .int (s : Int)) (Evl.ev_var rfl) (Evl.ev_var rfl) (Evl.rv_ixL (Evl.sq_of (eA _ _ w15.hU)) (atI_nat (by rw [List.getElem?_map, ho]; rfl)))
          have eo : U.getD s none = o := by rw [List.getD_eq_getElem?_getD, ho]; rfl
          rw [eo]
          refine Evl.ev_if (b := decide (uv o = .non)) (Evl.et_test (Evl.ev_op above Evl.ev_c rv_isN)) (fun hc => ?_) fun hc => ?_
          · have : o = none := uv_inj (b := none) (of_decide_eq_true hc)
            subst this
            exact Evl.ev_c
          · cases o with
            | none => cases hc
            | some k =>
              have hk := hsp.idx (wd.lt ho)
              have hSPA := Evl.sq_of (K := K) (eA _ _ (e15 _ _ hSP))
              refine fun A1 eA1 Q1 q1 => ⟨.ref SP, rfl, .inl ⟨rfl, _, Evl.ex_l eA1 hSPA⟩, above A1 eA1 _ fun A2 eA2 => ⟨SP, _, .int (k : Int), sp.idxOf k, .int (k : Int), rfl, rfl, Evl.ex_l (eA1.trans eA2) hSPA, rfl, flat_ints _, ?_, ?_, fun m z' hm hz => ?_, q1 A2 eA2⟩⟩
              · rw [List.getElem?_map, List.getElem?_map, hk.2]
                rfl
              · show decide ((k : Int) = (k : Int)) = true
                exact decide_eq_true rfl
              · rw [List.getElem?_map, List.getElem?_map] at hz
                cases hq : sp[m]? with
                | none => rw [hq] at hz; cases hz
                | some y =>
                  rw [hq] at hz
                  cases hz
                  show decide ((y : Int) = (k : Int)) = false
                  refine decide_eq_false fun e => ?_
                  have e : y = k := by omega
                  subst e
                  have := hsp.back hq
                  omega
        rw [spl] at uUp
        have usl : (usR sp U).length = B.length := by unfold usR; rw [List.length_map, hsp.len]
        have bsl : (bsR nm sp B).length = B.length := by unfold bsR; rw [List.length_map, hsp.len]
        rw [← usl, given_all (usR sp U) none uv] at uUp
        refine Go.ret_go (Go.tup_go (Go.cons_any ⟨_, rfl, Go.cons_any (uUp H15 (Evl.Ex.refl _) _ fun UU H16 nUU e16 hUU => ⟨(by show 2 ≤ sizeLine; decide), fun TT hTT => ?_⟩)⟩))
        have eT := Evl.Ex.new (o := .tup [V.ref D, V.ref UU]) hTT
        have w16 := (w15.ex e16).ex eT
        have back : ∀ {z : Addr} {G : Hp} {n' : Nat}, Wo K H t c BA UA B U rs n' G → G z = none → H z = none := fun {z G n'} w hz => by
          cases hq : H z with
          | none => rfl
          | some o =>
            by_cases e : z = t
            · subst e
              obtain ⟨_, _, _, hz1, _⟩ := id w.T
              rw [hz1] at hz; cases hz
            · rw [w.kp _ _ e hq] at hz; cases hz
        refine q TT D UU as (bsR nm sp B) (usR sp U) _ w16.kp (w16.T.mono (by omega)) upd_same (eT _ _ (e16 _ _ hD)) (eT _ _ hUU) (by rw [hal, bsl]) (fun i a ns h1 h2 => ?_) (back (w15.ex e16) hTT) (back w14 nD) (back w15 nUU) ok.1 (by rw [bsl]; omega) ⟨nm, by omega, ok.2, nm1⟩
        obtain ⟨r1, r2, r3⟩ := hrow i a h1
        rw [List.getD_eq_getElem?_getD, h2] at r3
        exact ⟨back w14 r1, eT _ _ (e16 _ _ r3)⟩
end
end P41
end S_Bat
section S_Xj
namespace EnL
open PySem PySem.Spec PyProof.Rows L2 Tl Hk
/-! ### what can be shown -/
structure Sh (c k : Nat) (d : PyData) : Prop where
  ok : d.showable = true
  nd : d.hasDict = false
  deep : d.depth ≤ k
  len : d.shown.length ≤ c
theorem pile_le : ∀ {ts : List Str} {c : Nat}, (∀ t ∈ ts, t.length ≤ c) → piled ts ≤ ts.length * (c + 2)
  | [], c, _ => Nat.zero_le _
  | t :: r, c, h => by
    have h1 := h t List.mem_cons_self
    have h2 := pile_le (ts := r) (c := c) fun u hu => h u (List.mem_cons_of_mem _ hu)
    rw [List.length_cons, Nat.succ_mul]
    show t.length + 2 + piled r ≤ _
    omega
theorem tup_le {ts : List Str} {c : Nat} (h : ∀ t ∈ ts, t.length ≤ c) : (tupleText ts).length ≤ ts.length * (c + 2) + 3 := by
  unfold tupleText
  rw [strLen_append, strLen_append]
  have e1 : (("(" : String) : Str).length = 1 := rfl
  have e2 : (((if ts.length == 1 then ",)" else ")" : String)) : Str).length ≤ 2 := by split <;> decide
  have e3 : (Str.join ", " ts).length ≤ piled ts := by
    cases ts with
    | nil => exact Nat.le_refl _
    | cons t r => have := join_length_add (t :: r) (by simp); omega
  have := pile_le h
  omega
theorem show_all : ∀ {ds : List PyData}, (∀ d ∈ ds, d.showable = true) → PyData.showableAll ds = true
  | [], _ => rfl
  | d :: r, h => by
    show (d.showable && PyData.showableAll r) = true
    rw [h d List.mem_cons_self, show_all fun x hx => h x (List.mem_cons_of_mem _ hx)] <;> rfl
theorem nd_all : ∀ {ds : List PyData}, (∀ d ∈ ds, d.hasDict = false) → PyData.hasDictAll ds = false
  | [], _ => rfl
  | d :: r, h => by
    show (d.hasDict || PyData.hasDictAll r) = false
    rw [h d List.mem_cons_self, nd_all fun x hx => h x (List.mem_cons_of_mem _ hx)] <;> rfl
theorem deepAll : ∀ {ds : List PyData} {k : Nat}, (∀ d ∈ ds, d.depth ≤ k) → PyData.depthAll ds ≤ k
  | [], k, _ => Nat.zero_le _
  | d :: r, k, h => by
    unfold PyData.depthAll
    have h1 := h d List.mem_cons_self
    have h2 := deepAll (ds := r) (k := k) fun x hx => h x (List.mem_cons_of_mem _ hx)
    omega
theorem Sh.le {c k c' k' : Nat} {d : PyData} (h : Sh c k d) (h1 : c ≤ c') (h2 : k ≤ k') : Sh c' k' d := ⟨h.ok, h.nd, Nat.le_trans h.deep h2, Nat.le_trans h.len h1⟩
theorem sh_int {x : Int} (h : x.natAbs ≤ 64) : Sh 66 1 (.int x) := by
  refine ⟨decide_eq_true (Nat.lt_of_le_of_lt (Nat.log2_le_self _) (by omega)), rfl, by unfold PyData.depth; omega, ?_⟩
  have b1 := len_str_of_int x
  show (Str.ofString (toString x)).length ≤ 66
  omega
theorem sh_bl (b : Bool) : Sh 66 1 (.bool b) := by
  refine ⟨rfl, rfl, by unfold PyData.depth; omega, ?_⟩
  cases b <;> decide +kernel
theorem sh_tup {c k m C : Nat} {ds : List PyData} (h : ∀ d ∈ ds, Sh c k d) (hl : ds.length ≤ m) (hC : m * (c + 2) + 3 ≤ C) : Sh C (k + 1) (.tuple ds) := by
  refine ⟨show_all fun d hd => (h d hd).ok, nd_all fun d hd => (h d hd).nd, Nat.succ_le_succ (deepAll fun d hd => (h d hd).deep), ?_⟩
  show (tupleText (PyData.shownAll ds)).length ≤ _
  rw [shownAll_eq]
  have h2 := tup_le (ts := ds.map PyData.shown) (c := c) fun t ht => by
    obtain ⟨d, hd, rfl⟩ := List.mem_map.mp ht
    exact (h d hd).len
  rw [List.length_map] at h2
  have := Nat.mul_le_mul hl (Nat.le_refl (c + 2))
  omega
theorem sh_lst {c k m C : Nat} {ds : List PyData} (h : ∀ d ∈ ds, Sh c k d) (hl : ds.length ≤ m) (hC : m * (c + 2) + 3 ≤ C) : Sh C (k + 1) (.list ds) := by
  refine ⟨show_all fun d hd => (h d hd).ok, nd_all fun d hd => (h d hd).nd, Nat.succ_le_succ (deepAll fun d hd => (h d hd).deep), ?_⟩
  show (listText (PyData.shownAll ds)).length ≤ _
  rw [shownAll_eq]
  have h2 := listText_le (ts := ds.map PyData.shown) (c := c) fun t ht => by
    obtain ⟨d, hd, rfl⟩ := List.mem_map.mp ht
    exact (h d hd).len
  rw [List.length_map] at h2
  have := Nat.mul_le_mul hl (Nat.le_refl (c + 2))
  omega
/-- a row of small ints -/
theorem sh_row {ns : List Int} (h : ns.length ≤ 64) (h2 : ∀ x ∈ ns, x.natAbs ≤ 64) : Sh 4400 2 (.tuple (ns.map PyData.int)) := sh_tup (c := 66) (m := 64) (fun d hd => by
  obtain ⟨x, hx, rfl⟩ := List.mem_map.mp hd
  exact sh_int (h2 x hx)) (by rw [List.length_map]; exact h) (by decide)
theorem sh_rowL {ns : List Int} (h : ns.length ≤ 64) (h2 : ∀ x ∈ ns, x.natAbs ≤ 64) : Sh 4400 2 (.list (ns.map PyData.int)) := sh_lst (c := 66) (m := 64) (fun d hd => by
  obtain ⟨x, hx, rfl⟩ := List.mem_map.mp hd
  exact sh_int (h2 x hx)) (by rw [List.length_map]; exact h) (by decide)
/-! ### a value told as data -/
section
open Evl
variable {K : PySem.W.Frag} {σ : L2.St} {G : Hp} {te : TE} {ta : TA} {d : PyData} {ds : List PyData}
def EvD (K : PySem.W.Frag) (te : TE) (σ : L2.St) (G : Hp) (d : PyData) : Prop := ∀ H1, Ex G H1 → ∀ Q : VK, (∀ v H2, Ex H1 H2 → Dp K H2 v d → Q v H2) → te σ H1 Q
def EvAD (K : PySem.W.Frag) (ta : TA) (σ : L2.St) (G : Hp) (ds : List PyData) : Prop := ∀ H1, Ex G H1 → ∀ Q : List V → Hp → Prop, (∀ vs H2, Ex H1 H2 → DpAll K H2 vs ds → Q vs H2) → ta σ H1 Q
theorem dpAll_len : ∀ {H : Hp} {vs : List V} {ds : List PyData}, DpAll K H vs ds → vs.length = ds.length
  | _, _, _, .nil => rfl
  | _, _, _, .cons _ a => by rw [List.length_cons, List.length_cons, dpAll_len a]
theorem ev_up {v : V} {H : Hp} (h : Ev te σ G v) (e : Ex G H) : Ev te σ H v := fun H1 e1 => h H1 (e.trans e1)
theorem ed_nil : EvAD K tNil σ G [] := fun H1 e Q q => q [] H1 (Ex.refl H1) .nil
theorem ed_cons {tr : TA} (h : EvD K te σ G d) (hr : EvAD K tr σ G ds) : EvAD K (tCons te tr) σ G (d :: ds) := fun H1 e Q q => h H1 e _ fun v H2 e2 hv => hr H2 (e.trans e2) _ fun vs H3 e3 hs => q (v :: vs) H3 (e2.trans e3) (.cons (dp_ex e3 hv) hs)
theorem ed_v {v : V} (h : Ev te σ G v) (hd : Dp K G v d) : EvD K te σ G d := fun H1 e Q q => h H1 e Q fun H2 e2 => q v H2 e2 (dp_ex (e.trans e2) hd)
theorem ed_u {xs : List V} (h : EvU te σ G xs) (hd : DpAll K G xs ds) : EvD K te σ G (.tuple ds) := fun H1 e Q q => h H1 e Q fun p H2 hp e2 h2 => q _ H2 e2 (.tup (st_of h2) (dpa_ex (e.trans e2) hd))
theorem ed_l {xs : List V} (h : EvL te σ G xs) (hd : DpAll K G xs ds) : EvD K te σ G (.list ds) := fun H1 e Q q => h H1 e Q fun p H2 hp e2 h2 => q _ H2 e2 (.lst (sq_of h2) (dpa_ex (e.trans e2) hd))
theorem ed_lst (h : EvAD K ta σ G ds) (hn : ds.length ≤ 100000) : EvD K (tLst ta) σ G (.list ds) := fun H1 e Q q => h H1 e _ fun vs H2 e2 h2 =>
  ⟨by rw [sizeLine_eq, dpAll_len h2]; omega, fun p hp => q _ _ (e2.trans (Ex.new hp)) (.lst (sq_of upd_same) (dpa_ex (Ex.new hp) h2))⟩
theorem ed_tup (h : EvAD K ta σ G ds) (hn : ds.length ≤ 100000) : EvD K (tTup ta) σ G (.tuple ds) := fun H1 e Q q => h H1 e _ fun vs H2 e2 h2 =>
  ⟨by rw [sizeLine_eq, dpAll_len h2]; omega, fun p hp => q _ _ (e2.trans (Ex.new hp)) (.tup (st_of upd_same) (dpa_ex (Ex.new hp) h2))⟩
theorem dpa_ints {H : Hp} : ∀ ns : List Int, DpAll K H (ns.map V.int) (ns.map PyData.int)
  | [] => .nil
  | x :: r => .cons (.int x) (dpa_ints r)
theorem ev_reprV {c k : Nat} (h : EvD K te σ G d) (hr : ∀ v H, Dp K H v d → ∃ a, v = .ref a) (s : Sh c k d) (hc : c ≤ 1000000) (hk : k ≤ 20) : Ev (tCB (rReprX K) (tCons te tNil)) σ G (.str d.shown) := fun H1 e Q q => h H1 e _ fun v H2 e2 hv => by
  obtain ⟨a, rfl⟩ := hr v H2 hv
  exact .inl (.inl ⟨a, d, rfl, hv, s.ok, s.nd, Nat.le_trans s.deep hk, Nat.le_trans s.len (by rw [sizeLine_eq]; omega), q H2 e2⟩)
theorem dp_lst {v : V} {H : Hp} (h : Dp K H v (.list ds)) : ∃ a, v = .ref a := by
  cases h with
  | lst h a => exact ⟨_, rfl⟩
theorem dp_tup {v : V} {H : Hp} (h : Dp K H v (.tuple ds)) : ∃ a, v = .ref a := by
  cases h with
  | tup h a => exact ⟨_, rfl⟩
theorem ev_reprL {c k : Nat} (h : EvD K te σ G (.list ds)) (s : Sh c k (.list ds)) (hc : c ≤ 1000000) (hk : k ≤ 20) : Ev (tCB (rReprX K) (tCons te tNil)) σ G (.str (PyData.list ds).shown) := ev_reprV h (fun _ _ => dp_lst) s hc hk
theorem ev_reprU {c k : Nat} (h : EvD K te σ G (.tuple ds)) (s : Sh c k (.tuple ds)) (hc : c ≤ 1000000) (hk : k ≤ 20) : Ev (tCB (rReprX K) (tCons te tNil)) σ G (.str (PyData.tuple ds).shown) := ev_reprV h (fun _ _ => dp_tup) s hc hk
/-- [x] * 2 -/
theorem ed_two (h : EvD K te σ G d) : EvD K (tOp rRep (tLst (tCons te tNil)) (tC (.int 2))) σ G (.list [d, d]) := fun H1 e Q q => h H1 e _ fun v H2 e2 hv => by
  refine ⟨by show 1 ≤ sizeLine; decide, fun p hp => ⟨p, 2, [v], rfl, rfl, upd_same, by decide, by decide, by show 1 * 2 ≤ _; decide, fun b hb => ?_⟩⟩
  have e3 := (Ex.new (o := .lst [v]) hp).trans (Ex.new (o := .lst [v, v]) hb)
  exact q _ _ (e2.trans e3) (.lst (sq_of upd_same) (.cons (dp_ex e3 hv) (.cons (dp_ex e3 hv) .nil)))
end
end EnL
end S_Xj
section S_Rn
namespace Hk
open PySem PySem.Spec PyProof.Rows L2 Tl EnL
/-! ### repr of lists that may hold empty dicts -/
mutual
/-- a value told as data; a dict may be there if it is empty -/
inductive DpE (K : PySem.W.Frag) (H : Hp) : V → PyData → Prop
  | non : DpE K H .non .none
  | bl (b : Bool) : DpE K H (.bl b) (.bool b)
  | int (i : Int) : DpE K H (.int i) (.int i)
  | str (x : Str) : DpE K H (.str x) (.str x)
  | lst {a : Addr} {xs : List V} {ds : List PyData} : SqL K H a xs → DpEAll K H xs ds → DpE K H (.ref a) (.list ds)
  | tup {a : Addr} {xs : List V} {ds : List PyData} : SqT K H a xs → DpEAll K H xs ds → DpE K H (.ref a) (.tuple ds)
  | dk {a : Addr} : H a = some (.dK []) → DpE K H (.ref a) (.dict [])
inductive DpEAll (K : PySem.W.Frag) (H : Hp) : List V → List PyData → Prop
  | nil : DpEAll K H [] []
  | cons {v : V} {vs : List V} {d : PyData} {ds : List PyData} : DpE K H v d → DpEAll K H vs ds → DpEAll K H (v :: vs) (d :: ds)
end
mutual
theorem dpe_ex {K : PySem.W.Frag} {H H' : Hp} (e : Evl.Ex H H') : ∀ {d : PyData} {v : V}, DpE K H v d → DpE K H' v d
  | .none, _, h => by cases h; exact .non
  | .bool b, _, h => by cases h; exact .bl b
  | .int i, _, h => by cases h; exact .int i
  | .str x, _, h => by cases h; exact .str x
  | .list ds, _, h => by
    cases h with
    | lst hs ha => exact .lst (Evl.ex_l e hs) (dpea_ex e ha)
  | .tuple ds, _, h => by
    cases h with
    | tup hs ha => exact .tup (Evl.ex_t e hs) (dpea_ex e ha)
  | .dict kvs, _, h => by
    cases h with
    | dk hs => exact .dk (e _ _ hs)
theorem dpea_ex {K : PySem.W.Frag} {H H' : Hp} (e : Evl.Ex H H') : ∀ {ds : List PyData} {vs : List V}, DpEAll K H vs ds → DpEAll K H' vs ds
  | [], _, h => by cases h; exact .nil
  | d :: ds, _, h => by
    cases h with
    | cons h1 h2 => exact .cons (dpe_ex e h1) (dpea_ex e h2)
end
theorem dpea_len : ∀ {K : PySem.W.Frag} {H : Hp} {vs : List V} {ds : List PyData}, DpEAll K H vs ds → vs.length = ds.length
  | _, _, _, _, .nil => rfl
  | _, _, _, _, .cons _ a => by rw [List.length_cons, List.length_cons, dpea_len a]
section
variable {X : Cx} {pins : List (Addr × Obj)} {σ : L2.St} {H : Hp} {s : Shared}
theorem dk_none (I : Inv X pins σ H s) {a : Addr} (h : H a = some (.dK [])) : (a == sysModules) = false ∧ ∃ o n, s.heap.get? a = some o ∧ o.cls = .type "dict" ∧ o.data = .dict #[] n := by
  obtain ⟨_, lo, vs, rel, o, es, ep, ho, hx, hd, _, hp, _⟩ := dk_of I.hok h
  cases rel
  have : es = #[] := by
    cases es with
    | mk l =>
      cases l with
      | nil => rfl
      | cons x r => cases hp
  subst this
  exact ⟨lo, o, ep, ho, hx.1, hd⟩
mutual
theorem DpE.shows (I : Inv X pins σ H s) : ∀ (d : PyData) (v : V) (u : Value), DpE X.K H v d → RelV v u → d.showable = true → d.shown.length ≤ sizeLine →
    (∃ as, Reads s.heap u d as) ∧ ∃ bs, PySem.ReadAtMost s.heap d.depth bs ∧ ReprK X.prog X.w bs s.heap d.depth u d.shown
  | .none, _, _, h, r, _, _ => by
    cases h
    cases r
    exact ⟨⟨_, .none⟩, [], (fun _ h => nomatch h), by simp only [PyData.shown]; exact .of_is ReprIs.none _ _ _⟩
  | .bool b, _, _, h, r, _, _ => by
    cases h
    cases r
    exact ⟨⟨_, .bool b⟩, [], (fun _ h => nomatch h), by simp only [PyData.shown]; exact .of_is (ReprIs.bool b) _ _ _⟩
  | .int i, _, _, h, r, hs, _ => by
    cases h
    obtain ⟨t, rfl⟩ := r
    exact ⟨⟨_, .int i t⟩, [], (fun _ h => nomatch h), by simp only [PyData.shown]; exact .of_is (ReprIs.int t (by simpa [PyData.showable] using hs)) _ _ _⟩
  | .str x, _, _, h, r, _, hz => by
    cases h
    obtain ⟨t, rfl⟩ := r
    exact ⟨⟨_, .str x t⟩, [], (fun _ h => nomatch h), by simp only [PyData.shown]; exact .of_is (ReprIs.str x t (by simpa only [PyData.shown] using hz)) _ _ _⟩
  | .list ds, _, _, h, r, hs, hz => by
    cases h with
    | @lst a xs _ hq ha =>
      cases r
      obtain ⟨its, rv, ⟨o, n, ho, hc, _, hd⟩, _⟩ := I.list hq
      have hz' : (listText (PyData.shownAll ds)).length ≤ sizeLine := by simpa only [PyData.shown] using hz
      obtain ⟨⟨as, hr⟩, bs, hb, hk⟩ := DpE.showsAll I ds _ its ha rv (by simpa [PyData.showable] using hs) (fun t ht => Nat.le_trans (listText_mem_le ht) hz')
      have rd : Reads s.heap (.ref a) (.list ds) _ := .list ho hc hd hr
      have hna : a ∉ bs := PySem.not_mem_of_deeper rd (by simp only [PyData.depth]; omega) hb
      refine ⟨⟨_, rd⟩, a :: bs, PySem.ReadAtMost.cons rd (by simp only [PyData.depth]; omega) hb, ?_⟩
      simp only [PyData.depth, PyData.shown]
      cases its with
      | nil =>
        cases rv
        cases ha
        simp only [PyData.shownAll, listText_nil]
        exact ReprK.listEmpty ho hc hd
      | cons x l => exact ReprK.list ho hc hd hna (by simpa using hk.length_eq) (fun i y e => hk.item i y (by simpa using e))
  | .tuple ds, _, _, h, r, hs, hz => by
    cases h with
    | @tup a xs _ hq ha =>
      cases r
      obtain ⟨its, rv, ⟨o, ho, hc, n, hd⟩, _⟩ := I.tuple hq
      have hz' : (tupleText (PyData.shownAll ds)).length ≤ sizeLine := by simpa only [PyData.shown] using hz
      obtain ⟨⟨as, hr⟩, bs, hb, hk⟩ := DpE.showsAll I ds _ its ha rv (by simpa [PyData.showable] using hs) (fun t ht => Nat.le_trans (tupleText_mem_le ht) hz')
      have rd : Reads s.heap (.ref a) (.tuple ds) _ := .tuple ho hc hd hr
      have hna : a ∉ bs := PySem.not_mem_of_deeper rd (by simp only [PyData.depth]; omega) hb
      refine ⟨⟨_, rd⟩, a :: bs, PySem.ReadAtMost.cons rd (by simp only [PyData.depth]; omega) hb, ?_⟩
      simp only [PyData.depth, PyData.shown]
      exact ReprK.tuple ho hc hd hna hk
  | .dict kvs, _, _, h, r, hs, hz => by
    cases h with
    | @dk a hq =>
      cases r
      obtain ⟨lo, o, n, ho, hc, hd⟩ := dk_none I hq
      have rd : Reads s.heap (.ref a) (.dict []) _ := .dict ho hc hd .nil .nil
      have hb : PySem.ReadAtMost s.heap (PyData.depthKv []) [] := fun _ h => nomatch h
      refine ⟨⟨_, rd⟩, a :: [], PySem.ReadAtMost.cons rd (by simp only [PyData.depth]; omega) hb, ?_⟩
      simp only [PyData.depth, PyData.shown, PyData.shownKv_eq]
      exact ReprK.dict ho hc hd lo (fun z => nomatch z) .nil
theorem DpE.showsAll (I : Inv X pins σ H s) : ∀ (ds : List PyData) (vs : List V) (us : List Value), DpEAll X.K H vs ds → Vals vs us → PyData.showableAll ds = true → (∀ t ∈ PyData.shownAll ds, t.length ≤ sizeLine) →
    (∃ as, ReadsAll s.heap us ds as) ∧ ∃ bs, PySem.ReadAtMost s.heap (PyData.depthAll ds) bs ∧ ReprAllK X.prog X.w bs s.heap (PyData.depthAll ds) us (PyData.shownAll ds)
  | [], _, _, h, r, _, _ => by
    cases h
    cases r
    exact ⟨⟨_, .nil⟩, [], (fun _ h => nomatch h), by simp only [PyData.shownAll]; exact .nil⟩
  | d :: ds, _, _, h, r, hs, hz => by
    cases h with
    | cons h1 h2 =>
      cases r with
      | cons r1 r2 =>
        have hs' : d.showable = true ∧ PyData.showableAll ds = true := by simpa [PyData.showableAll] using hs
        obtain ⟨⟨as, q1⟩, b1, hb1, k1⟩ := DpE.shows I d _ _ h1 r1 hs'.1 (hz _ (by simp only [PyData.shownAll]; exact List.mem_cons_self ..))
        obtain ⟨⟨bs, q2⟩, b2, hb2, k2⟩ := DpE.showsAll I ds _ _ h2 r2 hs'.2 fun t ht => hz t (by simp only [PyData.shownAll]; exact List.mem_cons_of_mem _ ht)
        refine ⟨⟨_, .cons q1 q2⟩, b1 ++ b2, ?_, ?_⟩
        · simp only [PyData.depthAll]
          exact (hb1.mono (Nat.le_max_left _ _)).append (hb2.mono (Nat.le_max_right _ _))
        · simp only [PyData.depthAll, PyData.shownAll]
          exact .cons ((k1.more fun b hb => List.mem_append_left _ hb).level_le (Nat.le_max_left _ _)) (k2.more_le (fun b hb => List.mem_append_right _ hb) (Nat.le_max_right _ _))
end
/-- repr of a list that is not empty -/
def rReprE (K : PySem.W.Frag) : List V → Hp → VK → Prop := fun xs H Q => ∃ (a : Addr) (v : V) (vs : List V) (ds : List PyData), xs = [.ref a] ∧ SqL K H a (v :: vs) ∧ DpEAll K H (v :: vs) ds ∧ (PyData.list ds).showable = true ∧ (PyData.list ds).depth ≤ 20 ∧ (PyData.list ds).shown.length ≤ sizeLine ∧ Q (.str (PyData.list ds).shown) H
theorem call_reprE (hg : X.A.guards = some []) (hu : X.A.units + 64 < cLine) : CallR X (.builtin "repr") (rReprE X.K) := by
  intro pins s σ H xs us Q I r h
  obtain ⟨a, v, vs, ds, rfl, hq, ha, hs, hp, hz, q⟩ := h
  obtain ⟨u, rfl, ru⟩ := vals1 r
  cases ru
  obtain ⟨its, rv, ⟨o, n, ho, hc, _, hd⟩, _⟩ := I.list hq
  have hz' : (listText (PyData.shownAll ds)).length ≤ sizeLine := by simpa only [PyData.shown] using hz
  obtain ⟨⟨as, hr⟩, bs, hb, hk⟩ := DpE.showsAll I ds _ its ha rv (by simpa [PyData.showable] using hs) (fun t ht => Nat.le_trans (listText_mem_le ht) hz')
  have rd : Reads s.heap (.ref a) (.list ds) _ := .list ho hc hd hr
  have hna : a ∉ bs := PySem.not_mem_of_deeper rd (by simp only [PyData.depth]; omega) hb
  simp only [PyData.depth] at hp
  simp only [PyData.shown] at q
  cases rv with
  | @cons _ x _ l hx hl =>
    refine call_repr_slot (by omega) ⟨o, ho, hc⟩ F.slot_list_repr.toG (PySem.call_list_reprK ho hc hd hna (by simpa using hk.length_eq) (fun i y e => hk.item i y (by simpa using e)) hg (fun b _ => Clear.nil b) (by show X.A.units + 1 + _ < _; omega) (fun _ _ e => e) (fun h' u tk hk' => ⟨_, _, rfl, .str _, H, I.kept hk', ⟨_, rfl⟩, q⟩) hz')
end
end Hk
end S_Rn
section S_Bav
namespace P41
open PySem PySem.Spec PyProof.Rows L2 Tl Hk RZ EnL
/-! ### what is handed to the judges: rows and ups of whatever kind -/
structure ShE (c k : Nat) (d : PyData) : Prop where
  ok : d.showable = true
  deep : d.depth ≤ k
  len : d.shown.length ≤ c
theorem ShE.le {c k c' k' : Nat} {d : PyData} (h : ShE c k d) (h1 : c ≤ c') (h2 : k ≤ k') : ShE c' k' d := ⟨h.ok, Nat.le_trans h.deep h2, Nat.le_trans h.len h1⟩
theorem she_int {x : Int} (h : 0 ≤ x ∧ x < 10 ^ 40) : ShE 41 1 (.int x) := by
  refine ⟨?_, by unfold PyData.depth; omega, ?_⟩
  · show decide (x.natAbs.log2 < 1920) = true
    refine decide_eq_true ?_
    by_cases z : x.natAbs = 0
    · rw [z]; decide
    · have h2 : x.natAbs < 2 ^ 1000 := Nat.lt_of_lt_of_le (show x.natAbs < 10 ^ 40 by omega) (by decide)
      have := (Nat.log2_lt z (k := 1000)).mpr h2
      omega
  · show (Str.ofString (toString x)).length ≤ 41
    exact Nat.le_trans (PyProof.Rows.toString_length_le h.1 (k := 40) (by decide) h.2) (by decide)
theorem she_neg : ShE 41 1 (.int (-1)) := ⟨by decide, by decide, by decide +kernel⟩
theorem she_non : ShE 41 1 .none := ⟨rfl, by decide, by decide +kernel⟩
theorem she_bl (b : Bool) : ShE 41 1 (.bool b) := ⟨rfl, by unfold PyData.depth; omega, by cases b <;> decide +kernel⟩
theorem she_dict : ShE 41 1 (.dict []) := ⟨by decide, by decide, by decide +kernel⟩
theorem she_lst {c k m C : Nat} {ds : List PyData} (h : ∀ d ∈ ds, ShE c k d) (hl : ds.length ≤ m) (hC : m * (c + 2) + 3 ≤ C) : ShE C (k + 1) (.list ds) := by
  refine ⟨show_all fun d hd => (h d hd).ok, Nat.succ_le_succ (deepAll fun d hd => (h d hd).deep), ?_⟩
  show (listText (PyData.shownAll ds)).length ≤ _
  rw [shownAll_eq]
  have h2 := listText_le (ts := ds.map PyData.shown) (c := c) fun t ht => by
    obtain ⟨d, hd, rfl⟩ := List.mem_map.mp ht
    exact (h d hd).len
  rw [List.length_map] at h2
  have := Nat.mul_le_mul hl (Nat.le_refl (c + 2))
  omega
theorem she_tup {c k m C : Nat} {ds : List PyData} (h : ∀ d ∈ ds, ShE c k d) (hl : ds.length ≤ m) (hC : m * (c + 2) + 3 ≤ C) : ShE C (k + 1) (.tuple ds) := by
  refine ⟨show_all fun d hd => (h d hd).ok, Nat.succ_le_succ (deepAll fun d hd => (h d hd).deep), ?_⟩
  show (tupleText (PyData.shownAll ds)).length ≤ _
  rw [shownAll_eq]
  have h2 := tup_le (ts := ds.map PyData.shown) (c := c) fun t ht => by
    obtain ⟨d, hd, rfl⟩ := List.mem_map.mp ht
    exact (h d hd).len
  rw [List.length_map] at h2
  have := Nat.mul_le_mul hl (Nat.le_refl (c + 2))
  omega
/-- an item of a row, or of what is above: small, and told -/
structure ItG (K : PySem.W.Frag) (H : Hp) (v : V) (d : PyData) : Prop where
  ty : ∃ n, Ty7 K H v n
  de : DpE K H v d
  sh : ShE 100 2 d
theorem ItG.ex {K : PySem.W.Frag} {H H' : Hp} {v : V} {d : PyData} (h : ItG K H v d) (e : Evl.Ex H H') : ItG K H' v d := ⟨h.ty.imp fun n hn => hn.ex e, dpe_ex e h.de, h.sh⟩
theorem itg_int {K : PySem.W.Frag} {H : Hp} {x : Int} (h : 0 ≤ x ∧ x < 10 ^ 40) : ItG K H (.int x) (.int x) := ⟨⟨_, .int x⟩, .int x, (she_int h).le (by decide) (by decide)⟩
theorem itg_all {K : PySem.W.Frag} {H : Hp} : ∀ {xs : List V}, (∀ v ∈ xs, ∃ d, ItG K H v d) → ∃ ds, DpEAll K H xs ds ∧ ds.length = xs.length ∧ ∀ d ∈ ds, ShE 100 2 d
  | [], _ => ⟨[], .nil, rfl, fun d h => nomatch h⟩
  | v :: r, h => by
    obtain ⟨d, hd⟩ := h v List.mem_cons_self
    obtain ⟨ds, a, b, c⟩ := itg_all (xs := r) fun x hx => h x (List.mem_cons_of_mem _ hx)
    refine ⟨d :: ds, .cons hd.de a, by rw [List.length_cons, List.length_cons, b], fun x hx => ?_⟩
    rcases List.mem_cons.mp hx with rfl | hx
    · exact hd.sh
    · exact c x hx
/-- a row -/
structure RowG (K : PySem.W.Frag) (H : Hp) (us : List Int) (v : V) (r : Option (List V)) (d : PyData) : Prop where
  bd : BagD K H v r
  de : DpE K H v d
  sh : ShE 6200 3 d
  sz : (r.getD []).length ≤ 60
  fw : ∀ ns, r = rowV ns → ∀ k ∈ ns, k ∈ us
theorem RowG.ex {K : PySem.W.Frag} {H H' : Hp} {us : List Int} {v : V} {r : Option (List V)} {d : PyData} (h : RowG K H us v r d) (e : Evl.Ex H H') : RowG K H' us v r d := ⟨h.bd.ex e, dpe_ex e h.de, h.sh, h.sz, h.fw⟩
theorem rowg_lst {K : PySem.W.Frag} {H : Hp} {us : List Int} {a : Addr} {xs : List V} (h : SqL K H a xs) (hl : xs.length ≤ 60) (hi : ∀ v ∈ xs, ∃ d, ItG K H v d) (hf : ∀ ns : List Int, xs = ns.map V.int → ∀ k ∈ ns, k ∈ us) : ∃ d, RowG K H us (.ref a) (some xs) d := by
  obtain ⟨ds, h1, h2, h3⟩ := itg_all hi
  exact ⟨.list ds, .lst h (by omega) (fun v hv => by obtain ⟨d, hd⟩ := hi v hv; exact hd.ty), .lst h h1, she_lst (c := 100) (m := 60) h3 (by omega) (by decide), hl, fun ns e => hf ns (Option.some.inj e)⟩
theorem rowg_ints {K : PySem.W.Frag} {H : Hp} {us : List Int} {a : Addr} {ns : List Int} (h : SqL K H a (ns.map V.int)) (hl : ns.length ≤ 60) (hu : ∀ k ∈ us, (0 : Int) ≤ k ∧ k < 10 ^ 40) (hi : ∀ k ∈ ns, k ∈ us) : ∃ d, RowG K H us (.ref a) (some (ns.map V.int)) d :=
  rowg_lst h (by rw [List.length_map]; exact hl) (fun v hv => by
    obtain ⟨k, hk, rfl⟩ := List.mem_map.mp hv
    exact ⟨_, itg_int (hu k (hi k hk))⟩) fun ms e => by
    have := ints_inj e
    subst this
    exact hi
theorem rowg_odd {K : PySem.W.Frag} {H : Hp} {us : List Int} {v : V} {n : String} {d : PyData} (h : Ty7 K H v n) (h1 : n ≠ "list") (h2 : n ≠ "tuple") (de : DpE K H v d) (sh : ShE 100 2 d) : RowG K H us v none d :=
  ⟨.no h h1 h2, de, sh.le (by decide) (by decide), Nat.zero_le _, fun ns e => by cases e⟩
/-- what is above -/
structure UpG (K : PySem.W.Frag) (H : Hp) (u : V) (ru : Option (List V)) (d : PyData) : Prop where
  bd : BagD K H u ru
  de : DpE K H u d
  sh : ShE 6200 3 d
  li : ∀ ys, ru = some ys → ∃ U, u = .ref U ∧ SqL K H U ys
theorem UpG.ex {K : PySem.W.Frag} {H H' : Hp} {u : V} {ru : Option (List V)} {d : PyData} (h : UpG K H u ru d) (e : Evl.Ex H H') : UpG K H' u ru d := ⟨h.bd.ex e, dpe_ex e h.de, h.sh, fun ys hy => by
  obtain ⟨U, h1, h2⟩ := h.li ys hy
  exact ⟨U, h1, Evl.ex_l e h2⟩⟩
theorem upg_lst {K : PySem.W.Frag} {H : Hp} {a : Addr} {xs : List V} (h : SqL K H a xs) (hl : xs.length ≤ 60) (hi : ∀ v ∈ xs, ∃ d, ItG K H v d) : ∃ d, UpG K H (.ref a) (some xs) d := by
  obtain ⟨ds, h1, h2, h3⟩ := itg_all hi
  exact ⟨.list ds, .lst h (by omega) (fun v hv => by obtain ⟨d, hd⟩ := hi v hv; exact hd.ty), .lst h h1, she_lst (c := 100) (m := 60) h3 (by omega) (by decide), fun ys e => ⟨a, rfl, by cases e; exact h⟩⟩
theorem upg_odd {K : PySem.W.Frag} {H : Hp} {v : V} {n : String} {d : PyData} (h : Ty7 K H v n) (h1 : n ≠ "list") (h2 : n ≠ "tuple") (de : DpE K H v d) (sh : ShE 100 2 d) : UpG K H v none d :=
  ⟨.no h h1 h2, de, sh.le (by decide) (by decide), fun ys e => by cases e⟩
/-- both, and what is asked of them -/
def Good (K : PySem.W.Frag) (H : Hp) (b u : V) : Prop := ∃ rb ru d1 d2, In3 K H b u rb ru ∧ DpE K H b d1 ∧ DpE K H u d2 ∧ ShE 60000 4 d1 ∧ ShE 6200 3 d2 ∧ (∀ ys, ru = some ys → ∃ U, u = .ref U ∧ SqL K H U ys) ∧ ∀ bs : List (List Int), rb = some (bs.map rowV) → BagsOk bs → bs.length ≤ 8 ∧ ∀ ns ∈ bs, ns.length ≤ 60 ∧ ∀ k ∈ ns, (0 : Int) ≤ k ∧ k < 10 ^ 40
theorem Good.ex {K : PySem.W.Frag} {H H' : Hp} {b u : V} (h : Good K H b u) (e : Evl.Ex H H') : Good K H' b u := by
  obtain ⟨rb, ru, d1, d2, h1, h2, h3, h4, h5, h6, h7⟩ := h
  exact ⟨rb, ru, d1, d2, h1.ex e, dpe_ex e h2, dpe_ex e h3, h4, h5, (fun ys hy => by
    obtain ⟨U, a, b⟩ := h6 ys hy
    exact ⟨U, a, Evl.ex_l e b⟩), h7⟩
theorem rows_all {K : PySem.W.Frag} {H : Hp} {us : List Int} : ∀ {xs : List V}, (∀ v ∈ xs, ∃ r d, RowG K H us v r d) → ∃ (rs : List (Option (List V))) (ds : List PyData), rs.length = xs.length ∧ DpEAll K H xs ds ∧ ds.length = xs.length ∧ (∀ d ∈ ds, ShE 6200 3 d) ∧
    (∀ (i : Nat) (v : V) (r : Option (List V)), xs[i]? = some v → rs[i]? = some r → BagD K H v r) ∧ (rs.map fun r => (r.getD []).length).sum ≤ 60 * xs.length ∧ (∀ r ∈ rs, ∀ ns, r = rowV ns → ∀ k ∈ ns, k ∈ us) ∧ ∀ r ∈ rs, (r.getD []).length ≤ 60
  | [], _ => ⟨[], [], rfl, .nil, rfl, (fun d h => nomatch h), (fun i v r h => by simp at h), Nat.le_refl _, (fun r h => nomatch h), fun r h => nomatch h⟩
  | v :: xs, h => by
    obtain ⟨r, d, hd⟩ := h v List.mem_cons_self
    obtain ⟨rs, ds, a1, a2, a3, a4, a5, a6, a7, a8⟩ := rows_all (xs := xs) fun x hx => h x (List.mem_cons_of_mem _ hx)
    refine ⟨r :: rs, d :: ds, by rw [List.length_cons, List.length_cons, a1], .cons hd.de a2, by rw [List.length_cons, List.length_cons, a3], fun x hx => ?_, fun i w s h1 h2 => ?_, ?_, fun s hs => ?_, fun s hs => ?_⟩
    · rcases List.mem_cons.mp hx with rfl | hx
      · exact hd.sh
      · exact a4 x hx
    · cases i with
      | zero => cases h1; cases h2; exact hd.bd
      | succ i => exact a5 i w s (by simpa using h1) (by simpa using h2)
    · rw [List.map_cons, List.sum_cons, List.length_cons]
      have := hd.sz
      omega
    · rcases List.mem_cons.mp hs with rfl | hs
      · exact hd.fw
      · exact a7 s hs
    · rcases List.mem_cons.mp hs with rfl | hs
      · exact hd.sz
      · exact a8 s hs
theorem good_rows {K : PySem.W.Frag} {H : Hp} {us : List Int} {R : Addr} {xs : List V} {u : V} (hR : SqL K H R xs) (hl : xs.length ≤ 8) (hx : ∀ v ∈ xs, ∃ r d, RowG K H us v r d) (hus : us.length < 64) (hur : ∀ k ∈ us, (0 : Int) ≤ k → k < 10 ^ 40) (hu : ∃ ru d, UpG K H u ru d) : Good K H (.ref R) u := by
  obtain ⟨rs, ds, a1, a2, a3, a4, a5, a6, a7, a8⟩ := rows_all hx
  obtain ⟨ru, d, hd⟩ := hu
  refine ⟨some rs, ru, .list ds, d, ⟨⟨.seq (.inl hR) a1.symm (by omega) a5, hd.bd, fun rs' ys e1 e2 _ => ?_, fun rs' e1 => ?_⟩, fun bs e1 => ⟨us, hus, fun ns hn => ?_⟩⟩, .lst hR a2, hd.de, she_lst (c := 6200) (m := 8) a4 (by omega) (by decide), hd.sh, hd.li, fun bs e1 hb => ?_⟩
  · cases e1
    obtain ⟨U, rfl, h2⟩ := hd.li ys e2
    exact ⟨R, U, xs, rfl, rfl, .inl ⟨hR, h2⟩, a1.symm, a5⟩
  · cases e1
    omega
  · cases e1
    exact a7 _ (List.mem_map.mpr ⟨ns, hn, rfl⟩) ns rfl
  · cases e1
    rw [List.length_map] at a1
    refine ⟨by omega, fun ns hn => ⟨?_, fun k hk => ?_⟩⟩
    · have := a8 _ (List.mem_map.mpr ⟨ns, hn, rfl⟩)
      have e : ((rowV ns).getD []).length = ns.length := List.length_map _
      omega
    · have h1 := a7 _ (List.mem_map.mpr ⟨ns, hn, rfl⟩) ns rfl k hk
      have h2 := hb.pos ns hn k hk
      exact ⟨h2, hur k h1 h2⟩
/-- bags of no use -/
theorem good_odd {K : PySem.W.Frag} {H : Hp} {b u : V} {n : String} {d : PyData} (h : Ty7 K H b n) (h1 : n ≠ "list") (h2 : n ≠ "tuple") (de : DpE K H b d) (sh : ShE 100 2 d) (hu : ∃ ru d, UpG K H u ru d) : Good K H b u := by
  obtain ⟨ru, d2, hd⟩ := hu
  exact ⟨none, ru, d, d2, ⟨⟨.no h h1 h2, hd.bd, (fun rs ys e _ _ => nomatch e), (fun rs e => nomatch e)⟩, (fun bs e => nomatch e)⟩, de, hd.de, sh.le (by decide) (by decide), hd.sh, hd.li, fun bs e => nomatch e⟩
theorem good_nil {K : PySem.W.Frag} {H : Hp} {R : Addr} {u : V} (hR : SqS K H R []) (hu : ∃ ru d, UpG K H u ru d) : Good K H (.ref R) u := by
  obtain ⟨ru, d, hd⟩ := hu
  have key : ∃ d1, DpE K H (.ref R) d1 ∧ ShE 60000 4 d1 := by
    rcases hR with h | h
    · exact ⟨.list [], .lst h .nil, she_lst (c := 100) (k := 3) (m := 8) (fun d h => nomatch h) (Nat.zero_le _) (by decide)⟩
    · exact ⟨.tuple [], .tup h .nil, she_tup (c := 100) (k := 3) (m := 8) (fun d h => nomatch h) (Nat.zero_le _) (by decide)⟩
  obtain ⟨d1, k1, k2⟩ := key
  refine ⟨some [], ru, d1, d, ⟨⟨.seq hR rfl (Nat.zero_le _) (fun i v r h => by simp at h), hd.bd, fun rs ys e1 e2 h3 => ?_, fun rs e1 => ?_⟩, fun bs e1 => ⟨[], by decide, fun ns hn => ?_⟩⟩, k1, hd.de, k2, hd.sh, hd.li, fun bs e1 hb => ?_⟩
  · cases e1
    exact absurd h3 (by decide)
  · cases e1
    exact Nat.zero_le _
  · have e1 := Option.some.inj e1
    cases bs with
    | nil => cases hn
    | cons a b => cases e1
  · have e1 := Option.some.inj e1
    cases bs with
    | nil => exact ⟨Nat.zero_le _, fun ns hn => nomatch hn⟩
    | cons a b => cases e1
theorem cut_ints (ns : List Int) (lo hi : Option Int) : ∃ ms : List Int, cutV (ns.map V.int) lo hi = ms.map V.int ∧ ms.length ≤ ns.length ∧ ∀ k ∈ ms, k ∈ ns := by
  unfold cutV
  refine ⟨((ns.drop (HT.sIx (ns.map V.int).length 0 lo)).take (HT.sIx (ns.map V.int).length (ns.map V.int).length hi - HT.sIx (ns.map V.int).length 0 lo)), by rw [List.map_take, List.map_drop], ?_, fun k hk => List.mem_of_mem_drop (List.mem_of_mem_take hk)⟩
  rw [List.length_take, List.length_drop]
  omega
theorem cut_mem {xs : List V} {lo hi : Option Int} {v : V} (h : v ∈ cutV xs lo hi) : v ∈ xs := by
  unfold cutV at h
  exact List.mem_of_mem_drop (List.mem_of_mem_take h)
end P41
end S_Bav
section S_Bau
namespace P41
open PySem PySem.Spec PyProof.Rows L2 Tl Hk RZ EnL
/-! ### a tree bent -/
abbrev nBe : List Str := ["nest", "bags", "above", "rows", "ups", "way", "at", "other", "bag"]
theorem scLBent : FnScope nBe ["nest", "bags", "above"] (defScope sLBent) := ⟨rfl, rfl, rfl, by decide +kernel, rfl, by decide +kernel, by decide +kernel⟩
theorem par3_go {i j l : Nat} {ta : TA} {tz : TS} {D : Ends} {σ : L2.St} {H : Hp} (h : ta σ H fun vs H1 => ∃ u v w, vs = [u, v, w] ∧ tz D (((σ.set i (some u)).set j (some v)).set l (some w)) H1) : tSeq (tPar3 i j l ta) tz D σ H := h
theorem asgg_go {te : TE} {g : TG} {D : Ends} {σ : L2.St} {H : Hp} (h : te σ H fun x H1 => g x σ H1 D.nx) : tAsg te g D σ H := h
theorem ev_neg1 {σ : L2.St} {H : Hp} : Evl.Ev (tUn (rU fun i => V.int (-i)) (tC (.int 1))) σ H (.int (-1)) := fun H1 e Q q => ⟨1, rfl, q H1 (Evl.Ex.refl _)⟩
theorem el_revL {K : PySem.W.Frag} {σ : L2.St} {H : Hp} {te : TE} {a : Addr} {xs : List V} (h : Evl.Ev te σ H (.ref a)) (hs : SqL K H a xs) : Evl.EvL (tRevL K te) σ H xs.reverse := fun H1 e Q q =>
  h H1 e _ fun H2 e2 => ⟨a, xs, rfl, Evl.ex_l (e.trans e2) hs, fun p hp => q p _ (Evl.fresh_back e2 hp) (e2.trans (Evl.Ex.new hp)) upd_same⟩
theorem el_catM {K : PySem.W.Frag} {σ : L2.St} {H : Hp} {ta tb : TE} {m : Addr} {xs ys : List V} (ha : Evl.Ev ta σ H (.ref m)) (hm : H m = some (.lst xs)) (hb : Evl.EvL tb σ H ys) (hz : xs.length + ys.length ≤ 100000) : Evl.EvL (tOp rCat ta tb) σ H (xs ++ ys) := el_catVN ha hm hb hz
/-- a told tree stands: bags at A, above at U -/
structure Tld (H : Hp) (t A U : Addr) (as : List Addr) (bs : List (List Int)) (us : List (Option Nat)) : Prop where
  hA : H A = some (.lst (as.map V.ref))
  hU : H U = some (.lst (us.map uv))
  len : as.length = bs.length
  row : ∀ (i : Nat) (a : Addr) (ns : List Int), as[i]? = some a → bs[i]? = some ns → H a = some (.tup (ns.map V.int)) ∧ a ≠ t
  At : A ≠ t
  Ut : U ≠ t
theorem Tld.kept {H H' : Hp} {t A U : Addr} {as : List Addr} {bs : List (List Int)} {us : List (Option Nat)} (h : Tld H t A U as bs us) (k : Kept t H H') : Tld H' t A U as bs us :=
  ⟨k _ _ h.At h.hA, k _ _ h.Ut h.hU, h.len, fun i a ns h1 h2 => ⟨k _ _ (h.row i a ns h1 h2).2 (h.row i a ns h1 h2).1, (h.row i a ns h1 h2).2⟩, h.At, h.Ut⟩
/-- small -/
structure Sm (bs : List (List Int)) (us : List (Option Nat)) (nm : List Int) : Prop where
  n1 : 1 ≤ bs.length
  n8 : bs.length ≤ 8
  ul : us.length = bs.length
  uj : ∀ (i j : Nat), us[i]? = some (some j) → j < 8
  nl : nm.length ≤ 20
  nr : ∀ k ∈ nm, (0 : Int) ≤ k ∧ k < 10 ^ 40
  inn : ∀ ns ∈ bs, ∀ k ∈ ns, k ∈ nm
  bl : ∀ ns ∈ bs, ns.length ≤ 20
/-- the names that may come -/
def nmX (nm : List Int) : List Int := -1 :: (nm ++ rngI 0 12)
theorem nmX_len {bs : List (List Int)} {us : List (Option Nat)} {nm : List Int} (s : Sm bs us nm) : (nmX nm).length < 64 := by
  unfold nmX
  rw [List.length_cons, List.length_append, rngI_len]
  have := s.nl
  omega
theorem nmX_rng {bs : List (List Int)} {us : List (Option Nat)} {nm : List Int} (s : Sm bs us nm) : ∀ k ∈ nm ++ rngI 0 12, (0 : Int) ≤ k ∧ k < 10 ^ 40 := fun k hk => by
  rcases List.mem_append.mp hk with h | h
  · exact s.nr k h
  · have := rngI_mem.mp h
    omega
theorem nmX_hi {bs : List (List Int)} {us : List (Option Nat)} {nm : List Int} (s : Sm bs us nm) : ∀ k ∈ nmX nm, (0 : Int) ≤ k → k < 10 ^ 40 := fun k hk h0 => by
  rcases List.mem_cons.mp hk with h | h
  · omega
  · exact (nmX_rng s k h).2
theorem rowg_intsX {K : PySem.W.Frag} {H : Hp} {bs : List (List Int)} {us : List (Option Nat)} {nm : List Int} (s : Sm bs us nm) {a : Addr} {ns : List Int} (h : SqL K H a (ns.map V.int)) (hl : ns.length ≤ 60) (hi : ∀ k ∈ ns, k ∈ nm ++ rngI 0 12) : ∃ d, RowG K H (nmX nm) (.ref a) (some (ns.map V.int)) d :=
  rowg_lst h (by rw [List.length_map]; exact hl) (fun v hv => by
    obtain ⟨k, hk, rfl⟩ := List.mem_map.mp hv
    exact ⟨_, itg_int (nmX_rng s k (hi k hk))⟩) fun ms e => by
    have := ints_inj e
    subst this
    exact fun k hk => List.mem_cons_of_mem _ (hi k hk)
theorem itg_uv {K : PySem.W.Frag} {H : Hp} {us : List (Option Nat)} (hj : ∀ (i j : Nat), us[i]? = some (some j) → j < 8) : ∀ v ∈ us.map uv, ∃ d, ItG K H v d := fun v hv => by
  obtain ⟨u, hu, rfl⟩ := List.mem_map.mp hv
  obtain ⟨i, hi⟩ := List.mem_iff_getElem?.mp hu
  cases u with
  | none => exact ⟨_, ⟨⟨_, .non⟩, .non, she_non.le (by decide) (by decide)⟩⟩
  | some j =>
    have := hj i j hi
    exact ⟨_, itg_int (x := (j : Int)) (by omega)⟩
section
variable {K : PySem.W.Frag} {H H' : Hp} {t c R UP : Addr} {bs : List (List Int)} {us : List (Option Nat)} {rs : List Addr} {n : Nat} {nm : List Int}
theorem Wo.rowOf (w : Wo K H t c R UP bs us rs n H') (s : Sm bs us nm) {G : Hp} (hG : ∀ a o, a ≠ R → a ≠ UP → H' a = some o → G a = some o) : ∀ v ∈ rs.map V.ref, ∃ r d, RowG K G (nmX nm) v r d := fun v hv => by
  obtain ⟨a, ha, rfl⟩ := List.mem_map.mp hv
  obtain ⟨i, hi⟩ := List.mem_iff_getElem?.mp ha
  have hl := (List.getElem?_eq_some_iff.mp hi).1
  have hn := List.getElem?_eq_getElem (show i < bs.length by rw [← w.len]; exact hl)
  have hm := List.getElem_mem (show i < bs.length by rw [← w.len]; exact hl)
  obtain ⟨h1, h2, h3, h4⟩ := w.row i a _ hi hn
  obtain ⟨d, hd⟩ := rowg_intsX s (K := K) (H := G) (Evl.sq_of (hG _ _ h3 h4 h1)) (by have := s.bl _ hm; omega) fun k hk => List.mem_append_left _ (s.inn _ hm k hk)
  exact ⟨_, d, hd⟩
theorem Wo.upOf (w : Wo K H t c R UP bs us rs n H') (s : Sm bs us nm) {G : Hp} (hG : G UP = some (.lst (us.map uv))) : ∃ ru d, UpG K G (.ref UP) ru d := by
  obtain ⟨d, hd⟩ := upg_lst (K := K) (Evl.sq_of hG) (by rw [List.length_map, s.ul]; have := s.n8; omega) (itg_uv s.uj)
  exact ⟨_, d, hd⟩
theorem Wo.good (w : Wo K H t c R UP bs us rs n H') (s : Sm bs us nm) {u : V} (hu : ∃ ru d, UpG K H' u ru d) : Good K H' (.ref R) u :=
  good_rows (Evl.sq_of w.hB) (by rw [List.length_map, w.len]; exact s.n8) (w.rowOf s fun _ _ _ _ h => h) (nmX_len s) (nmX_hi s) hu
/-- a row is put in -/
theorem Wo.bend (w : Wo K H t c R UP bs us rs n H') (s : Sm bs us nm) {v : V} {a : Nat} (hv : ∃ r d, RowG K (upd H' R (.lst ((rs.map V.ref).set a v))) (nmX nm) v r d) :
    Kept t H (upd H' R (.lst ((rs.map V.ref).set a v))) ∧ Tub (upd H' R (.lst ((rs.map V.ref).set a v))) t c n ∧ Good K (upd H' R (.lst ((rs.map V.ref).set a v))) (.ref R) (.ref UP) := by
  refine ⟨fun b o hb h => ?_, w.T.upd w.Bt.1 w.Bt.2, good_rows (Evl.sq_of upd_same) (by rw [List.length_set, List.length_map, w.len]; exact s.n8) (fun x hx => ?_) (nmX_len s) (nmX_hi s) (w.upOf s (by rw [upd_ne w.BU.symm]; exact w.hU))⟩
  · rw [upd_ne (fun z => by rw [z, w.nB] at h; cases h)]
    exact w.kp _ _ hb h
  · rcases List.mem_or_eq_of_mem_set hx with h | rfl
    · exact w.rowOf s (fun b o h1 _ h => by rw [upd_ne h1]; exact h) x h
    · exact hv
/-- what is above is changed -/
theorem Wo.bendU (w : Wo K H t c R UP bs us rs n H') (s : Sm bs us nm) {ys : List V} (hl : ys.length ≤ 60) (hv : ∀ v ∈ ys, ∃ d, ItG K (upd H' UP (.lst ys)) v d) :
    Kept t H (upd H' UP (.lst ys)) ∧ Tub (upd H' UP (.lst ys)) t c n ∧ Good K (upd H' UP (.lst ys)) (.ref R) (.ref UP) := by
  refine ⟨fun b o hb h => ?_, w.T.upd w.Ut.1 w.Ut.2, good_rows (xs := rs.map V.ref) (Evl.sq_of (by rw [upd_ne w.BU]; exact w.hB)) (by rw [List.length_map, w.len]; exact s.n8) (fun x hx => ?_) (nmX_len s) (nmX_hi s) ?_⟩
  · rw [upd_ne (fun z => by rw [z, w.nU] at h; cases h)]
    exact w.kp _ _ hb h
  · exact w.rowOf s (fun b o _ h1 h => by rw [upd_ne h1]; exact h) x hx
  · obtain ⟨d, hd⟩ := upg_lst (K := K) (Evl.sq_of (upd_same (H := H') (a := UP) (o := .lst ys))) hl hv
    exact ⟨_, d, hd⟩
/-- the end of a pick -/
theorem pick_fin {xs : List V} {H1 : Hp} {t c : Addr} {n : Nat} {E : XK} {Q : VK} (T : Tub H1 t c n) (hn : n < 1000000) (h1 : 1 ≤ xs.length) (h2 : xs.length ≤ 1000) (k : ∀ (j : Nat) (v : V) (H' : Hp), xs[j]? = some v → Kept t H1 H' → Tub H' t c (n + 1) → Q v H') :
    xs.length ≤ sizeLine ∧ ∀ p, H1 p = none → spPick K ([.ref t, .ref p] ++ []) (upd H1 p (.lst xs)) Q E :=
  ⟨by rw [sizeLine_eq]; omega, fun p hp => ⟨t, c, p, xs, n, rfl, T.ex (Evl.Ex.new hp), hn, (T.ne hp).1, Evl.sq_of upd_same, h1, by omega, fun j v H' hj kp T' => k j v H' hj ((kept_ex (Evl.Ex.new hp)).trans kp) T'⟩⟩
end
section
variable {P : Program} {w : World} {K : PySem.W.Frag} {mg : Str → Option Value} {base : Heap}
def spBent (K : PySem.W.Frag) : Sp := fun vs H Q _ => ∃ (t c A U : Addr) (n : Nat) (as : List Addr) (bs : List (List Int)) (us : List (Option Nat)) (nm : List Int), vs = [.ref t, .ref A, .ref U] ∧ Tub H t c n ∧ n ≤ 900000 ∧ Tld H t A U as bs us ∧ Sm bs us nm ∧
  ∀ (T : Addr) (b u : V) (H' : Hp), Kept t H H' → Tub H' t c (n + 10) → H' T = some (.tup [b, u]) → Good K H' b u → Q (.ref T) H'
set_option maxHeartbeats 4000000 in
theorem ok_bent {f fS fP : Addr} {fd fdS fdP : FuncData} {k : Nat} (F : Fun K "_law_bent" "_law_bent" sLBent f fd)
    (FS : Fun K "_law_perch" "_law_perch" sScoop fS fdS) (GS : FnOk P w K mg base CX0 k fS fdS ["nest", "many"] spScoop) (bS : Binds K fdS ["nest", "many"] []) (gS : mg "_law_perch" = some (.ref fS))
    (FP : Fun K "_law_pick" "_law_pick" sPick fP fdP) (GP : FnOk P w K mg base CX0 k fP fdP ["nest", "some"] (spPick K)) (bP : Binds K fdP ["nest", "some"] []) (gP : mg "_law_pick" = some (.ref fP))
    (mlen : mg "len" = none) (mlist : mg "list" = none) (msort : mg "sorted" = none) : FnOk P w K mg base CX0 (k + 1) f fd ["nest", "bags", "above"] (spBent K) := by
  refine F.ok scLBent (fun vs H Q E h => ?_) (fun cdv A0 outer s H vs Q E hr h => ?_)
  · obtain ⟨t, c, A, U, n, as, bs, us, nm, rfl, _⟩ := h
    rfl
  · obtain ⟨t, c, A, U, n, as, bs, us, nm, rfl, T0, hn, ta, sm, q⟩ := h
    have nd := scLBent.nd
    refine ⟨_, pss_cons (ps_par3 (i := 3) (j := 4) (l := 5) (by rfl) nd rfl rfl rfl (by decide) (by decide) (by decide) rfl rfl rfl (pa_cons (pe_lc (own := [("bag", 8)]) (g := gName 8) (tt := tYes) (te := tCB (Evl.rListS K) (tCons (tVar 8) tNil)) rfl nd (pi_list (pv 1)) (blkOk_by (N := nBe) (sc := defScope sLBent) (by decide +kernel)) (fun _ _ _ _ _ => pg_name (i := 8) nd rfl (Or.inl rfl)) (fun _ _ _ _ _ => pts_nil) (fun _ _ _ _ _ => pe_callTy call_list_of (by rfl) mlist (by decide +kernel) (pa_cons (pv 8) (pa_nil)))) (pa_cons (pe_callTy call_list_of (by rfl) mlist (by decide +kernel) (pa_cons (pv 2) (pa_nil))) (pa_cons (pe_call GS hr (by rfl) gS FS.kp bS .nil pass0 (pa_cons (pv 0) (pa_cons (pe_int) (pa_nil)))) (pa_nil)))) (by rfl)) (pss_cons (ps_par (i := 6) (j := 7) (by rfl) nd rfl rfl (by decide) rfl rfl (pa_cons (pe_call GS hr (by rfl) gS FS.kp bS .nil pass0 (pa_cons (pv 0) (pa_cons (pe_callB call_len_seq (by rfl) mlen PySem.boot_len (pa_cons (pv 3) (pa_nil))) (pa_nil)))) (pa_cons (pe_call GS hr (by rfl) gS FS.kp bS .nil pass0 (pa_cons (pv 0) (pa_cons (pe_callB call_len_seq (by rfl) mlen PySem.boot_len (pa_cons (pv 3) (pa_nil))) (pa_nil)))) (pa_nil))) (by rfl)) (Evl.pss_cut (ps_if (pt_cmpR op_eq (pv 5) (pe_int) (nomark _)) (pss_one (ps_asg (pe_callB cr_sortedU (by rfl) msort (by decide +kernel) (pa_cons (pe_op op_cat (pe_ix ix_list (pv 3) (pv 6) (fun _ _ => rfl)) (pe_lst (pa_cons (pe_call GS hr (by rfl) gS FS.kp bS .nil pass0 (pa_cons (pv 0) (pa_cons (pe_int) (pa_nil)))) (pa_nil)))) (pa_nil))) (pg_sub (pv 3) (pv 6) set_list))) (pss_nil)) (Evl.pss_cut (ps_if (pt_cmpR op_eq (pv 5) (pe_int) (nomark _)) (pss_one (ps_asg (pe_slice sl_list (pe_ix ix_list (pv 3) (pv 6) (fun _ _ => rfl)) (po_some (pe_int)) (po_none)) (pg_sub (pv 3) (pv 6) set_list))) (pss_nil)) (Evl.pss_cut (ps_if (pt_cmpR op_eq (pv 5) (pe_int) (nomark _)) (pss_one (ps_asg (pe_call GP hr (by rfl) gP FP.kp bP .nil pass0 (pa_cons (pv 0) (pa_cons (pe_lst (pa_cons (pe_revL (pe_ix ix_list (pv 3) (pv 6) (fun _ _ => rfl))) (pa_cons (pe_op op_cat (pe_ix ix_list (pv 3) (pv 6) (fun _ _ => rfl)) (pe_slice sl_list (pe_ix ix_list (pv 3) (pv 6) (fun _ _ => rfl)) (po_some (pe_un un_neg pe_int)) (po_none))) (pa_cons (pe_op op_cat (pe_ix ix_list (pv 3) (pv 6) (fun _ _ => rfl)) (pe_lst (pa_cons (pe_call GP hr (by rfl) gP FP.kp bP .nil pass0 (pa_cons (pv 0) (pa_cons (pe_lst (pa_cons (pe_un un_neg pe_int) (pa_cons (pe_bl) (pa_cons (pe_non) (pa_cons (pe_str) (pa_cons (pe_lst (pa_cons (pe_int) (pa_nil))) (pa_nil))))))) (pa_nil)))) (pa_nil)))) (pa_nil))))) (pa_nil)))) (pg_sub (pv 3) (pv 6) set_list))) (pss_nil)) (Evl.pss_cut (ps_if (pt_cmpR op_eq (pv 5) (pe_int) (nomark _)) (pss_one (ps_asg (pe_call GP hr (by rfl) gP FP.kp bP .nil pass0 (pa_cons (pv 0) (pa_cons (pe_lst (pa_cons (pe_non) (pa_cons (pe_int) (pa_cons (pe_str) (pa_cons (pe_dnewK) (pa_cons (pe_bl) (pa_nil))))))) (pa_nil)))) (pg_sub (pv 3) (pv 6) set_list))) (pss_nil)) (Evl.pss_cut (ps_if (pt_cmpR op_eq (pv 5) (pe_int) (nomark _)) (pss_one (ps_asg (pe_call GP hr (by rfl) gP FP.kp bP .nil pass0 (pa_cons (pv 0) (pa_cons (pe_lst (pa_cons (pe_non) (pa_cons (pv 7) (pa_cons (pv 6) (pa_cons (pe_callB call_len_seq (by rfl) mlen PySem.boot_len (pa_cons (pv 3) (pa_nil))) (pa_cons (pe_un un_neg pe_int) (pa_cons (pe_bl) (pa_cons (pe_str) (pa_cons (pe_lst (pa_cons (pe_int) (pa_nil))) (pa_nil)))))))))) (pa_nil)))) (pg_sub (pv 4) (pv 6) set_list))) (pss_nil)) (Evl.pss_cut (ps_if (pt_cmpR op_eq (pv 5) (pe_int) (nomark _)) (pss_one (ps_asg (pe_tup (pa_cons (pe_ix ix_list (pv 4) (pv 7) (fun _ _ => rfl)) (pa_cons (pe_ix ix_list (pv 4) (pv 6) (fun _ _ => rfl)) (pa_nil)))) (pg_tup (by rfl) (pgs_cons (pg_sub (pv 4) (pv 6) set_list) (pgs_cons (pg_sub (pv 4) (pv 7) set_list) pgs_nil))))) (pss_nil)) (Evl.pss_cut (ps_if (pt_cmpR op_eq (pv 5) (pe_int) (nomark _)) (pss_one (ps_set (i := 4) nd rfl (.inl rfl) (pe_call GP hr (by rfl) gP FP.kp bP .nil pass0 (pa_cons (pv 0) (pa_cons (pe_lst (pa_cons (pe_non) (pa_cons (pe_int) (pa_cons (pe_slice sl_list (pv 4) (po_none) (po_some (pe_un un_neg pe_int))) (pa_cons (pe_op op_cat (pv 4) (pe_lst (pa_cons (pe_int) (pa_nil)))) (pa_cons (pe_dnewK) (pa_cons (pe_op op_rep (pe_lst (pa_cons (pe_int) (pa_nil))) (pe_callB call_len_seq (by rfl) mlen PySem.boot_len (pa_cons (pv 4) (pa_nil)))) (pa_cons (pe_str) (pa_nil))))))))) (pa_nil)))))) (pss_nil)) (Evl.pss_cut (ps_if (pt_cmpR op_eq (pv 5) (pe_int) (nomark _)) (pss_one (ps_ret (pe_tup (pa_cons (pe_call GP hr (by rfl) gP FP.kp bP .nil pass0 (pa_cons (pv 0) (pa_cons (pe_lst (pa_cons (pe_non) (pa_cons (pe_lst (pa_nil)) (pa_cons (pe_int) (pa_cons (pe_str) (pa_cons (pe_dnewK) (pa_cons (pe_tup (pa_nil)) (pa_cons (pe_bl) (pa_nil))))))))) (pa_nil)))) (pa_cons (pv 4) (pa_nil)))))) (pss_nil)) (pss_one (ps_ret (pe_tup (pa_cons (pv 3) (pa_cons (pv 4) (pa_nil))))))))))))))), ?_⟩
    obtain ⟨cs0, turn0, rest0, ht0, hc0, hct0, _⟩ := id T0
    have al := ta.len
    have b8 := sm.n8
    have b1 := sm.n1
    -- rows, ups, way
    show tSeq (tPar3 3 4 5 (tCons _ (tCons _ (tCons _ tNil)))) _ _ _ _
    refine par3_go (Go.cons_any (go_lcD (H := H) (n := (as.map V.ref).length) (o := fun i => .lst ((bs.getD i []).map V.int)) (ei_list (K := K) (Evl.ev_var (i := 1) rfl) (Evl.sq_of ta.hA)) (aims_at (j := 8)) (fun _ => rfl) (by rw [List.length_map]; omega) (fun i hi G eG Q1 q1 => ?_) H (Evl.Ex.refl _) _ fun R rs H1 nR e1 hR hrl hrnd hrow => Go.cons_any ⟨.ref U, rfl, U, _, rfl, .inl (Evl.sq_of (e1 _ _ ta.hU)), fun UP hUP => Go.cons_any (scoop_go (c := c) rfl Evl.ev_c ((T0.ex e1).ex (Evl.Ex.new hUP)) (by omega) (by decide) (by decide) fun w H2 hw k2 T2 => ⟨_, _, _, rfl, ?_⟩)⟩))
    · rw [List.length_map] at hi
      have h1 := List.getElem?_eq_getElem hi
      have h2 := List.getElem?_eq_getElem (show i < bs.length by omega)
      have ex : (as.map V.ref).getD i .non = .ref as[i] := by rw [List.getD_eq_getElem?_getD, List.getElem?_map, h1]; rfl
      rw [ex]
      have hr := (ta.row i _ _ h1 h2).1
      refine ⟨.ref as[i], rfl, as[i], (bs[i]'(by omega)).map V.int, rfl, .inr (Evl.st_of (eG _ _ hr)), fun l hl => ?_⟩
      refine q1 l _ hl (Evl.Ex.new hl) ?_
      rw [upd_same, List.getD_eq_getElem?_getD, h2]
      rfl
    try dsimp only [List.set_cons_zero, List.set_cons_succ]
    rw [List.length_map] at hrl
    have w0 : Wo K H t c R UP bs us rs (n + 1) H2 := by
      have eU := Evl.Ex.new (o := .lst (us.map uv)) hUP
      obtain ⟨r1, r2⟩ := T0.ne nR
      have nUP := Evl.fresh_back e1 hUP
      obtain ⟨u1, u2⟩ := T0.ne nUP
      refine Wo.kept (H' := upd H1 UP (.lst (us.map uv))) (n := n) ⟨kept_ex (e1.trans eU), T0.ex (e1.trans eU), eU _ _ hR, upd_same, nR, nUP, fun z => ?_, ⟨r1, r2⟩, ⟨u1, u2⟩, by omega, fun i a ns h1 h2 => ?_⟩ k2 T2
      · rw [← z, hR] at hUP; cases hUP
      · obtain ⟨q1, q2, q3⟩ := hrow i a h1
        rw [List.getD_eq_getElem?_getD, h2] at q3
        refine ⟨eU _ _ q3, (T0.ne q1).1, q2, fun z => ?_⟩
        rw [z, hUP] at q3; cases q3
    refine Go.par_go (Go.cons_any (scoop_go (c := c) (n := n + 1) rfl (Evl.ev_len (K := K) (Evl.ev_var rfl) (Evl.sq_of w0.hB)) w0.T (by omega) (by rw [List.length_map]; omega) (by rw [List.length_map]; omega) fun a H3 ha k3 T3 => Go.cons_any (scoop_go (c := c) (n := n + 1 + 1) rfl (Evl.ev_len (K := K) (Evl.ev_var rfl) (Evl.sq_of (w0.kept k3 T3).hB)) T3 (by omega) (by rw [List.length_map]; omega) (by rw [List.length_map]; omega) fun o H4 ho k4 T4 => ⟨_, _, rfl, ?_⟩)))
    try dsimp only [List.set_cons_zero, List.set_cons_succ]
    have w4 := w0.kept (k3.trans k4) T4
    rw [List.length_map, hrl, al] at ha ho
    -- the ways
    let Base : Nat → L2.St → Hp → Prop := fun m σ G => σ = [some (.ref t), some (.ref A), some (.ref U), some (.ref R), some (.ref UP), some (.int (w : Int)), some (.int (a : Int)), some (.int (o : Int)), none] ∧ Wo K H t c R UP bs us rs m G
    let Done : L2.St → Hp → Prop := fun σ G => ∃ u, σ = [some (.ref t), some (.ref A), some (.ref U), some (.ref R), some u, some (.int (w : Int)), some (.int (a : Int)), some (.int (o : Int)), none] ∧ Kept t H G ∧ Tub G t c (n + 10) ∧ Good K G (.ref R) u
    let M : Nat → L2.St → Hp → Prop := fun j σ G => (Base (n + 3) σ G ∧ j ≤ w) ∨ (Done σ G ∧ w < j)
    have cond : ∀ {j : Nat} {σ : L2.St} {G : Hp}, σ[5]? = some (some (.int (w : Int))) → Evl.EvT (tTest (tOp rEq (tVar 5) (tC (.int (j : Int))))) σ G (decide (w = j)) := fun hσ => Evl.et_is (Evl.et_test (Evl.ev_op (Evl.ev_var hσ) Evl.ev_c (Evl.rv_eq rfl))) (decide_eq_decide.mpr ⟨fun z => by have := V.int.inj z; omega, fun z => by rw [z]⟩)
    have st : ∀ {j : Nat} {tu : TS} {D : Ends} {σ : L2.St} {G : Hp}, M j σ G → (∀ G1, Base (n + 3) σ G1 → w = j → tu { D with nx := M (j + 1) } σ G1) → tIfS (tTest (tOp rEq (tVar 5) (tC (.int (j : Int))))) tu tNext { D with nx := M (j + 1) } σ G := fun {j tu D σ G} hM hb => by
      rcases hM with ⟨⟨rfl, wo⟩, hj⟩ | ⟨⟨u, rfl, d1, d2, d3⟩, hj⟩
      · refine Evl.s_when (b := decide (w = j)) (cond rfl) (fun hc G1 e1 => hb G1 ⟨rfl, wo.ex e1⟩ (of_decide_eq_true hc)) fun hc G1 e1 => .inl ⟨⟨rfl, wo.ex e1⟩, ?_⟩
        have := of_decide_eq_false hc
        omega
      · refine Evl.s_when (b := false) (Evl.et_is (cond rfl) (decide_eq_false (by omega))) (fun hc => nomatch hc) fun _ G1 e1 => .inr ⟨⟨u, rfl, d1.trans (kept_ex e1), d2.ex e1, d3.ex e1⟩, by omega⟩
    have rowAt : ∀ {m : Nat} {G : Hp}, Wo K H t c R UP bs us rs m G → ∃ p, (rs.map V.ref)[a]? = some (.ref p) ∧ G p = some (.lst ((bs.getD a []).map V.int)) ∧ p ≠ t ∧ p ≠ R ∧ p ≠ UP := fun wo => by
      obtain ⟨p, _, h2, h3, h4, h5, h6⟩ := wo.bag (show a < bs.length by omega)
      exact ⟨p, h2, h3, h4, h5, h6⟩
    have hbm : bs.getD a [] ∈ bs := by
      rw [List.getD_eq_getElem?_getD, List.getElem?_eq_getElem (show a < bs.length by omega)]
      exact List.getElem_mem _
    have bal := sm.bl _ hbm
    have bin := sm.inn _ hbm
    have evRow : ∀ {m : Nat} {G : Hp} {σ : L2.St} {p : Addr}, σ[3]? = some (some (.ref R)) → σ[6]? = some (some (.int (a : Int))) → Wo K H t c R UP bs us rs m G → (rs.map V.ref)[a]? = some (.ref p) → Evl.Ev (tOp (rIxL K) (tVar 3) (tVar 6)) σ G (.ref p) := fun h3 h6 wo hp => Evl.ev_op (x := .ref R) (y := .int (a : Int)) (Evl.ev_var h3) (Evl.ev_var h6) (Evl.rv_ixL (Evl.sq_of wo.hB) (atI_nat hp))
    have hal : a < (rs.map V.ref).length := by rw [List.length_map, hrl]; omega
    -- putting a row in
    have put : ∀ {j m : Nat} {G : Hp} {v : V}, Wo K H t c R UP bs us rs m G → m ≤ n + 10 → w = j → (∃ r d, RowG K (upd G R (.lst ((rs.map V.ref).set a v))) (nmX nm) v r d) → gSub (tVar 3) (tVar 6) rSetL v [some (.ref t), some (.ref A), some (.ref U), some (.ref R), some (.ref UP), some (.int (w : Int)), some (.int (a : Int)), some (.int (o : Int)), none] G (M (j + 1)) := fun {j m G v} wo hm hj hv => by
      refine ⟨.ref R, rfl, .int (a : Int), rfl, R, _, _, a, rfl, rfl, wo.hB, Evl.ixN_nat hal, ?_⟩
      obtain ⟨g1, g2, g3⟩ := wo.bend sm hv
      exact .inr ⟨⟨_, rfl, g1, g2.mono hm, g3⟩, by omega⟩
    have hM0 : M 0 [some (.ref t), some (.ref A), some (.ref U), some (.ref R), some (.ref UP), some (.int (w : Int)), some (.int (a : Int)), some (.int (o : Int)), none] H4 := .inl ⟨⟨rfl, w4.mono (by omega)⟩, Nat.zero_le _⟩
    -- 0
    refine Evl.q_cut (M := M 1) (st (j := 0) hM0 fun G1 hB hj => ?_) fun σ1 G1 hM1 => ?_
    · obtain ⟨_, wo⟩ := hB
      obtain ⟨p, hp1, hp2, hp3, hp4, hp5⟩ := rowAt wo
      refine asgg_go (Go.cb_go (Go.cons_any (Go.op_go (Go.go (evRow rfl rfl wo hp1) fun G2 e2 => Go.lst_go (Go.cons_any (scoop_go (c := c) rfl Evl.ev_c (wo.ex e2).T (by omega) (by decide) (by decide) fun r G3 hr k3 T3 => ⟨(by show 1 ≤ sizeLine; decide), fun L hL => ?_⟩))))))
      have w3 := (wo.ex e2).kept k3 T3
      have eL := Evl.Ex.new (o := .lst [V.int (r : Int)]) hL
      have w5 := w3.ex eL
      have hp6 := eL _ _ (k3 _ _ hp3 (e2 _ _ hp2))
      refine ⟨p, L, _, _, rfl, rfl, hp6, upd_same, by rw [List.length_map, sizeLine_eq]; show _ + 1 ≤ _; omega, fun C hC => ?_⟩
      refine ⟨C, bs.getD a [] ++ [(r : Int)], rfl, .inl (Evl.sq_of (by rw [upd_same, List.map_append]; rfl)), fun ms z hpm hle hz => ?_⟩
      have eC := Evl.Ex.new (o := .lst ((bs.getD a []).map V.int ++ [V.int (r : Int)])) hC
      have eZ := Evl.Ex.new (o := .lst (ms.map V.int)) hz
      have w7 := (w5.ex eC).ex eZ
      refine put w7 (by omega) hj ?_
      obtain ⟨d, hd⟩ := rowg_intsX sm (K := K) (H := upd (upd (upd (upd G3 L (.lst [V.int (r : Int)])) C (.lst ((bs.getD a []).map V.int ++ [V.int (r : Int)]))) z (.lst (ms.map V.int))) R (.lst ((rs.map V.ref).set a (.ref z)))) (a := z) (ns := ms) (Evl.sq_of (by rw [upd_ne (fun q => by rw [q, (w5.ex eC).hB] at hz; cases hz)]; exact upd_same)) (by have := hpm.length_eq; rw [List.length_append, List.length_singleton] at this; omega) fun k hk => by
        rcases List.mem_append.mp (hpm.mem_iff.mp hk) with h | h
        · exact List.mem_append_left _ (bin k h)
        · rw [List.mem_singleton.mp h]
          exact List.mem_append_right _ (rngI_mem.mpr (by omega))
      exact ⟨_, d, hd⟩
    -- 1
    refine Evl.q_cut (M := M 2) (st (j := 1) hM1 fun G1 hB hj => ?_) fun σ2 G2 hM2 => ?_
    · obtain ⟨rfl, wo⟩ := hB
      obtain ⟨p, hp1, hp2, hp3, hp4, hp5⟩ := rowAt wo
      refine asgg_go ((Evl.el_sl (K := K) (lo := some 1) (hi := none) (evRow rfl rfl wo hp1) (Evl.eo_some Evl.ev_c) Evl.eo_none (Evl.sq_of hp2)) G1 (Evl.Ex.refl _) _ fun z G2 hz e2 hz2 => ?_)
      obtain ⟨ms, em, lm, im⟩ := cut_ints (bs.getD a []) (some 1) none
      rw [em] at hz2
      have w2 := wo.ex e2
      refine put w2 (by omega) hj ?_
      obtain ⟨d, hd⟩ := rowg_intsX sm (K := K) (H := upd G2 R (.lst ((rs.map V.ref).set a (.ref z)))) (a := z) (ns := ms) (Evl.sq_of (by rw [upd_ne (fun q => by rw [q, wo.hB] at hz; cases hz)]; exact hz2)) (by omega) fun k hk => List.mem_append_left _ (bin k (im k hk))
      exact ⟨_, d, hd⟩
    -- 2
    refine Evl.q_cut (M := M 3) (st (j := 2) hM2 fun G1 hB hj => ?_) fun σ3 G3 hM3 => ?_
    · obtain ⟨rfl, wo⟩ := hB
      obtain ⟨p, hp1, hp2, hp3, hp4, hp5⟩ := rowAt wo
      obtain ⟨ms, em, lm, im⟩ := cut_ints (bs.getD a []) (some (-1)) none
      refine asgg_go (Go.call_raw (Go.cons_any ⟨.ref t, rfl, Go.cons_any (Go.lst_go (Go.cons_any ?_))⟩))
      refine (el_revL (K := K) (evRow rfl rfl wo hp1) (Evl.sq_of hp2)) G1 (Evl.Ex.refl _) _ fun L1 G2 hL1 e2 h1 => Go.cons_any ?_
      refine (el_catM (K := K) (evRow rfl rfl (wo.ex e2) hp1) (e2 _ _ hp2) (Evl.el_sl (K := K) (lo := some (-1)) (hi := none) (evRow rfl rfl (wo.ex e2) hp1) (Evl.eo_some ev_neg1) Evl.eo_none (Evl.sq_of (e2 _ _ hp2))) (by rw [em, List.length_map, List.length_map]; omega)) G2 (Evl.Ex.refl _) _ fun L2 G3 hL2 e3 h2 => Go.cons_any (Go.op_go (Go.go (evRow rfl rfl ((wo.ex e2).ex e3) hp1) fun G4 e4 => Go.lst_go (Go.cons_any (Go.call_raw (Go.cons_any ⟨.ref t, rfl, Go.cons_any (Go.lst_go (Go.cons_any ?_))⟩)))))
      refine Go.go ev_neg1 fun G5 e5 => Go.cons_c (Go.cons_c (Go.cons_c (Go.cons_any ?_)))
      refine (Evl.el_lst (vs := [V.int 0]) (Evl.ea_cons Evl.ev_c Evl.ea_nil) (by show 1 ≤ 100000; decide)) G5 (Evl.Ex.refl _) _ fun Z G6 hZ e6 h6 => ?_
      have w6 := ((((wo.ex e2).ex e3).ex e4).ex e5).ex e6
      refine pick_fin (E := E0) (c := c) (n := n + 3) w6.T (by omega) (by show 1 ≤ 5; decide) (by show 5 ≤ 1000; decide) fun j x G7 hx k7 T7 => ⟨(by show 1 ≤ sizeLine; decide), fun L hL => ?_⟩
      have w7 := w6.kept k7 T7
      have eL := Evl.Ex.new (o := .lst [x]) hL
      have ne : ∀ {z : Addr} {G : Hp} {m : Nat}, Wo K H t c R UP bs us rs m G → G z = none → z ≠ t ∧ z ≠ R := fun wz hz => ⟨(wz.T.ne hz).1, fun q => by rw [q, wz.hB] at hz; cases hz⟩
      obtain ⟨z1, z2⟩ := ne wo hL1
      obtain ⟨z3, z4⟩ := ne (wo.ex e2) hL2
      obtain ⟨z5, z6⟩ := ne ((((wo.ex e2).ex e3).ex e4).ex e5) hZ
      have p7 : G7 p = some (.lst ((bs.getD a []).map V.int)) := k7 _ _ hp3 (e6 _ _ (e5 _ _ (e4 _ _ (e3 _ _ (e2 _ _ hp2)))))
      refine ⟨p, L, _, _, rfl, rfl, eL _ _ p7, upd_same, by rw [List.length_map, sizeLine_eq]; show _ + 1 ≤ _; omega, fun L3 hL3 => ?_⟩
      have eL3 := Evl.Ex.new (o := .lst ((bs.getD a []).map V.int ++ [x])) hL3
      have w8 := (w7.ex eL).ex eL3
      obtain ⟨z7, z8⟩ := ne (w7.ex eL) hL3
      refine pick_fin (E := E0) (c := c) (n := n + 3 + 1) w8.T (by omega) (by show 1 ≤ 3; decide) (by show 3 ≤ 1000; decide) fun j2 x2 G9 hx2 k9 T9 => ?_
      have w9 := w8.kept k9 T9
      refine put w9 (by omega) hj ?_
      have up : ∀ {z : Addr} {o : HO}, z ≠ R → G9 z = some o → (upd G9 R (.lst ((rs.map V.ref).set a x2))) z = some o := fun hz h => by rw [upd_ne hz]; exact h
      match j2, hx2 with
      | 0, hx2 =>
        cases hx2
        have hz := k9 _ _ z1 (eL3 _ _ (eL _ _ (k7 _ _ z1 (e6 _ _ (e5 _ _ (e4 _ _ (e3 _ _ h1)))))))
        rw [← List.map_reverse] at hz
        obtain ⟨d, hd⟩ := rowg_intsX sm (K := K) (a := L1) (ns := (bs.getD a []).reverse) (Evl.sq_of (up z2 hz)) (by rw [List.length_reverse]; omega) fun k hk => List.mem_append_left _ (bin k (List.mem_reverse.mp hk))
        exact ⟨_, d, hd⟩
      | 1, hx2 =>
        cases hx2
        have hz := k9 _ _ z3 (eL3 _ _ (eL _ _ (k7 _ _ z3 (e6 _ _ (e5 _ _ (e4 _ _ h2))))))
        rw [em, ← List.map_append] at hz
        obtain ⟨d, hd⟩ := rowg_intsX sm (K := K) (a := L2) (ns := bs.getD a [] ++ ms) (Evl.sq_of (up z4 hz)) (by rw [List.length_append]; omega) fun k hk => List.mem_append_left _ (bin k ((List.mem_append.mp hk).elim id (im k)))
        exact ⟨_, d, hd⟩
      | 2, hx2 =>
        cases hx2
        have hz := k9 _ _ z7 (upd_same (H := upd G7 L (.lst [x])) (a := L3) (o := .lst ((bs.getD a []).map V.int ++ [x])))
        have hx3 : (∃ d, ItG K (upd G9 R (.lst ((rs.map V.ref).set a (.ref L3)))) x d) ∧ ∀ i, x ≠ .int i ∨ i = -1 := by
          match j, hx with
          | 0, hx => cases hx; exact ⟨⟨_, ⟨⟨_, .int (-1)⟩, .int (-1), she_neg.le (by decide) (by decide)⟩⟩, fun i => if e : i = -1 then .inr e else .inl fun z => e (V.int.inj z).symm⟩
          | 1, hx => cases hx; exact ⟨⟨_, ⟨⟨_, .bl true⟩, .bl true, (she_bl true).le (by decide) (by decide)⟩⟩, fun i => .inl fun z => nomatch z⟩
          | 2, hx => cases hx; exact ⟨⟨_, ⟨⟨_, .non⟩, .non, she_non.le (by decide) (by decide)⟩⟩, fun i => .inl fun z => nomatch z⟩
          | 3, hx => cases hx; exact ⟨⟨_, ⟨⟨_, .str _⟩, .str _, ⟨rfl, by decide, by decide +kernel⟩⟩⟩, fun i => .inl fun z => nomatch z⟩
          | 4, hx =>
            cases hx
            have hzz := Evl.sq_of (K := K) (up z6 (k9 _ _ z5 (eL3 _ _ (eL _ _ (k7 _ _ z5 h6)))))
            exact ⟨⟨_, ⟨⟨_, .lst hzz⟩, .lst hzz (.cons (.int 0) .nil), she_lst (c := 41) (k := 1) (m := 1) (fun d hd => by rw [List.mem_singleton.mp hd]; exact she_int ⟨by decide, by decide⟩) (Nat.le_refl _) (by decide)⟩⟩, fun i => .inl fun z => nomatch z⟩
          | k + 5, hx => simp at hx
        obtain ⟨d, hd⟩ := rowg_lst (K := K) (us := nmX nm) (a := L3) (Evl.sq_of (up z8 hz)) (by rw [List.length_append, List.length_map]; show _ + 1 ≤ _; omega) (fun v hv => by
          rcases List.mem_append.mp hv with h | h
          · obtain ⟨k, hk, rfl⟩ := List.mem_map.mp h
            exact ⟨_, itg_int (nmX_rng sm k (List.mem_append_left _ (bin k hk)))⟩
          · rw [List.mem_singleton.mp h]
            exact hx3.1) fun ns e k hk => by
          have hm : V.int k ∈ (bs.getD a []).map V.int ++ [x] := by rw [e]; exact List.mem_map.mpr ⟨k, hk, rfl⟩
          rcases List.mem_append.mp hm with h | h
          · obtain ⟨k', hk', e'⟩ := List.mem_map.mp h
            rw [← V.int.inj e']
            exact List.mem_cons_of_mem _ (List.mem_append_left _ (bin k' hk'))
          · rcases hx3.2 k with h' | h'
            · exact absurd (List.mem_singleton.mp h).symm h'
            · rw [h']; exact List.mem_cons_self
        exact ⟨_, d, hd⟩
      | k + 3, hx2 => simp at hx2
    -- 3
    have neR : ∀ {z : Addr} {G : Hp} {m : Nat}, Wo K H t c R UP bs us rs m G → G z = none → z ≠ t ∧ z ≠ R ∧ z ≠ UP := fun wz hz => ⟨(wz.T.ne hz).1, (fun q => by rw [q, wz.hB] at hz; cases hz), fun q => by rw [q, wz.hU] at hz; cases hz⟩
    refine Evl.q_cut (M := M 4) (st (j := 3) hM3 fun G1 hB hj => ?_) fun σ4 G4 hM4 => ?_
    · obtain ⟨rfl, wo⟩ := hB
      refine asgg_go (Go.call_raw (Go.cons_any ⟨.ref t, rfl, Go.cons_any (Go.lst_go (Go.cons_c (Go.cons_c (Go.cons_c (Go.cons_any fun D hD => ?_)))))⟩))
      have eD := Evl.Ex.new (o := .dK []) hD
      obtain ⟨d1, d2, d3⟩ := neR wo hD
      have w2 := wo.ex eD
      refine pick_fin (E := E0) (c := c) (n := n + 3) w2.T (by omega) (by show 1 ≤ 5; decide) (by show 5 ≤ 1000; decide) fun j x G3 hx k3 T3 => ?_
      have w3 := w2.kept k3 T3
      refine put w3 (by omega) hj ?_
      match j, hx with
      | 0, hx => cases hx; exact ⟨_, _, rowg_odd .non (by decide) (by decide) .non (she_non.le (by decide) (by decide))⟩
      | 1, hx => cases hx; exact ⟨_, _, rowg_odd (.int 5) (by decide) (by decide) (.int 5) ((she_int ⟨by decide, by decide⟩).le (by decide) (by decide))⟩
      | 2, hx => cases hx; exact ⟨_, _, rowg_odd (.str _) (by decide) (by decide) (.str _) ⟨rfl, by decide, by decide +kernel⟩⟩
      | 3, hx =>
        cases hx
        have hz : (upd G3 R (.lst ((rs.map V.ref).set a (.ref D)))) D = some (.dK []) := by rw [upd_ne d2]; exact k3 _ _ d1 upd_same
        exact ⟨_, _, rowg_odd (.dK hz) (by decide) (by decide) (.dk hz) (she_dict.le (by decide) (by decide))⟩
      | 4, hx => cases hx; exact ⟨_, _, rowg_odd (.bl true) (by decide) (by decide) (.bl true) ((she_bl true).le (by decide) (by decide))⟩
      | k + 5, hx => simp at hx
    -- 4
    have uvl : (us.map uv).length = bs.length := by rw [List.length_map, sm.ul]
    have evLen : ∀ {m : Nat} {G : Hp} {σ : L2.St}, σ[3]? = some (some (.ref R)) → Wo K H t c R UP bs us rs m G → Evl.Ev (tCB (Evl.rLenS K) (tCons (tVar 3) tNil)) σ G (.int (bs.length : Int)) := fun h3 wo => Evl.ev_is (Evl.ev_len (K := K) (Evl.ev_var h3) (Evl.sq_of wo.hB)) (by rw [List.length_map, hrl, al])
    have small : ∀ {G : Hp} {x : Nat}, x ≤ 60 → ∃ d, ItG K G (.int (x : Int)) d := fun hx => ⟨_, itg_int (by omega)⟩
    have setIt : ∀ {G : Hp} {ys : List V} {x : V} {m : Nat}, (∀ v ∈ ys, ∃ d, ItG K G v d) → (∃ d, ItG K G x d) → ∀ v ∈ ys.set m x, ∃ d, ItG K G v d := fun h1 h2 v hv => by
      rcases List.mem_or_eq_of_mem_set hv with h | rfl
      · exact h1 v h
      · exact h2
    refine Evl.q_cut (M := M 5) (st (j := 4) hM4 fun G1 hB hj => ?_) fun σ5 G5 hM5 => ?_
    · obtain ⟨rfl, wo⟩ := hB
      refine asgg_go (Go.call_raw (Go.cons_any ⟨.ref t, rfl, Go.cons_any (Go.lst_go (Go.cons_c (Go.cons_any ⟨_, rfl, Go.cons_any ⟨_, rfl, Go.cons_any ?_⟩⟩)))⟩))
      refine Go.go (evLen rfl wo) fun G2 e2 => Go.cons_any (Go.go ev_neg1 fun G3 e3 => Go.cons_c (Go.cons_c (Go.cons_any ?_)))
      refine (Evl.el_lst (vs := [V.int 0]) (Evl.ea_cons Evl.ev_c Evl.ea_nil) (by show 1 ≤ 100000; decide)) G3 (Evl.Ex.refl _) _ fun Z G6 hZ e6 h6 => ?_
      have w6 := ((wo.ex e2).ex e3).ex e6
      obtain ⟨z1, z2, z3⟩ := neR ((wo.ex e2).ex e3) hZ
      refine pick_fin (E := E0) (c := c) (n := n + 3) w6.T (by omega) (by show 1 ≤ 8; decide) (by show 8 ≤ 1000; decide) fun j x G7 hx k7 T7 => ?_
      have w7 := w6.kept k7 T7
      refine ⟨.ref UP, rfl, .int (a : Int), rfl, UP, _, _, a, rfl, rfl, w7.hU, Evl.ixN_nat (by rw [uvl]; omega), ?_⟩
      have hx4 : ∃ d, ItG K (upd G7 UP (.lst ((us.map uv).set a x))) x d := by
        match j, hx with
        | 0, hx => cases hx; exact ⟨_, ⟨⟨_, .non⟩, .non, she_non.le (by decide) (by decide)⟩⟩
        | 1, hx => cases hx; exact small (by omega)
        | 2, hx => cases hx; exact small (by omega)
        | 3, hx => cases hx; exact small (by omega)
        | 4, hx => cases hx; exact ⟨_, ⟨⟨_, .int (-1)⟩, .int (-1), she_neg.le (by decide) (by decide)⟩⟩
        | 5, hx => cases hx; exact ⟨_, ⟨⟨_, .bl true⟩, .bl true, (she_bl true).le (by decide) (by decide)⟩⟩
        | 6, hx => cases hx; exact ⟨_, ⟨⟨_, .str _⟩, .str _, ⟨rfl, by decide, by decide +kernel⟩⟩⟩
        | 7, hx =>
          cases hx
          have hzz := Evl.sq_of (K := K) (show (upd G7 UP (.lst ((us.map uv).set a (.ref Z)))) Z = some (.lst [.int 0]) by rw [upd_ne z3]; exact k7 _ _ z1 h6)
          exact ⟨_, ⟨⟨_, .lst hzz⟩, .lst hzz (.cons (.int 0) .nil), she_lst (c := 41) (k := 1) (m := 1) (fun d hd => by rw [List.mem_singleton.mp hd]; exact she_int ⟨by decide, by decide⟩) (Nat.le_refl _) (by decide)⟩⟩
        | k + 8, hx => simp at hx
      obtain ⟨g1, g2, g3⟩ := w7.bendU sm (ys := (us.map uv).set a x) (by rw [List.length_set, uvl]; omega) (setIt (itg_uv sm.uj) hx4)
      exact .inr ⟨⟨_, rfl, g1, g2.mono (by omega), g3⟩, by omega⟩
    -- 5
    refine Evl.q_cut (M := M 6) (st (j := 5) hM5 fun G1 hB hj => ?_) fun σ6 G6 hM6 => ?_
    · obtain ⟨rfl, wo⟩ := hB
      have atU : ∀ {x : Nat} (hx : x < bs.length), ∃ v, (us.map uv)[x]? = some v ∧ v ∈ us.map uv := fun hx => ⟨_, List.getElem?_eq_getElem (by rw [uvl]; exact hx), List.getElem_mem _⟩
      obtain ⟨vo, ho1, ho2⟩ := atU (show o < bs.length by omega)
      obtain ⟨va, ha1, ha2⟩ := atU (show a < bs.length by omega)
      refine asgg_go (Go.tup_go (Go.cons_any (Go.go (Evl.ev_op (x := .ref UP) (y := .int (o : Int)) (Evl.ev_var rfl) (Evl.ev_var rfl) (Evl.rv_ixL (Evl.sq_of wo.hU) (atI_nat ho1))) fun G2 e2 => Go.cons_any (Go.go (Evl.ev_op (x := .ref UP) (y := .int (a : Int)) (Evl.ev_var rfl) (Evl.ev_var rfl) (Evl.rv_ixL (Evl.sq_of (wo.ex e2).hU) (atI_nat ha1))) fun G3 e3 => ⟨(by show 2 ≤ sizeLine; decide), fun T hT => ?_⟩))))
      have eT := Evl.Ex.new (o := .tup [vo, va]) hT
      have w3 := ((wo.ex e2).ex e3).ex eT
      obtain ⟨t1, t2, t3⟩ := neR ((wo.ex e2).ex e3) hT
      refine ⟨T, _, rfl, Evl.st_of upd_same, rfl, _, _, rfl, ⟨.ref UP, rfl, .int (a : Int), rfl, UP, _, _, a, rfl, rfl, w3.hU, Evl.ixN_nat (by rw [uvl]; omega), ?_⟩⟩
      refine ⟨_, _, rfl, ⟨.ref UP, rfl, .int (o : Int), rfl, UP, _, _, o, rfl, rfl, upd_same, Evl.ixN_nat (by rw [List.length_set, uvl]; omega), ?_⟩⟩
      obtain ⟨g1, g2, g3⟩ := w3.bendU sm (ys := ((us.map uv).set a vo).set o va) (by rw [List.length_set, List.length_set, uvl]; omega) (setIt (setIt (itg_uv sm.uj) (itg_uv sm.uj _ ho2)) (itg_uv sm.uj _ ha2))
      have eu : upd (upd (upd G3 T (.tup [vo, va])) UP (.lst ((us.map uv).set a vo))) UP (.lst (((us.map uv).set a vo).set o va)) = upd (upd G3 T (.tup [vo, va])) UP (.lst (((us.map uv).set a vo).set o va)) := by
        funext z
        by_cases hz : z = UP
        · rw [hz, upd_same, upd_same]
        · rw [upd_ne hz, upd_ne hz, upd_ne hz]
      rw [eu]
      exact ⟨rfl, .inr ⟨⟨_, rfl, g1, g2.mono (by omega), g3⟩, by omega⟩⟩
    -- 6
    refine Evl.q_cut (M := M 7) (st (j := 6) hM6 fun G1 hB hj => ?_) fun σ7 G7 hM7 => ?_
    · obtain ⟨rfl, wo⟩ := hB
      refine asgg_go (Go.call_raw (Go.cons_any ⟨.ref t, rfl, Go.cons_any (Go.lst_go (Go.cons_c (Go.cons_c (Go.cons_any ?_))))⟩))
      refine (Evl.el_sl (K := K) (lo := none) (hi := some (-1)) (Evl.ev_var (i := 4) rfl) Evl.eo_none (Evl.eo_some ev_neg1) (Evl.sq_of wo.hU)) G1 (Evl.Ex.refl _) _ fun L1 G2 hL1 e2 h1 => Go.cons_any ?_
      refine (el_catM (K := K) (Evl.ev_var (i := 4) rfl) (wo.ex e2).hU (Evl.el_lst (vs := [V.int 0]) (Evl.ea_cons Evl.ev_c Evl.ea_nil) (by show 1 ≤ 100000; decide)) (by rw [uvl]; show _ + 1 ≤ _; omega)) G2 (Evl.Ex.refl _) _ fun L2 G3 hL2 e3 h2 => Go.cons_any fun D hD => Go.cons_any (Go.op_go (Go.lst_go (Go.cons_c ⟨(by show 1 ≤ sizeLine; decide), fun q1 hq1 => ?_⟩)))
      have eD := Evl.Ex.new (o := .dK []) hD
      have eq1 := Evl.Ex.new (o := .lst [V.int 0]) hq1
      have w4' := (((wo.ex e2).ex e3).ex eD).ex eq1
      refine Go.go (Evl.ev_len (K := K) (Evl.ev_var (i := 4) rfl) (Evl.sq_of w4'.hU)) fun G4 e4 => ⟨q1, ((us.map uv).length : Int), _, rfl, rfl, e4 _ _ upd_same, by omega, by omega, by show 1 * _ ≤ _; rw [Int.toNat_natCast, sizeLine_eq]; omega, fun L3 hL3 => Go.cons_c ?_⟩
      have e3' := Evl.Ex.new (o := .lst (List.replicate ((us.map uv).length : Int).toNat [V.int 0]).flatten) hL3
      have w6 := (w4'.ex e4).ex e3'
      obtain ⟨a1, a2, a3⟩ := neR wo hL1
      obtain ⟨b1', b2', b3'⟩ := neR (wo.ex e2) hL2
      obtain ⟨d1, d2, d3⟩ := neR ((wo.ex e2).ex e3) hD
      obtain ⟨c1, c2, c3⟩ := neR (w4'.ex e4) hL3
      refine pick_fin (E := E0) (c := c) (n := n + 3) w6.T (by omega) (by show 1 ≤ 7; decide) (by show 7 ≤ 1000; decide) fun j x G8 hx k8 T8 => ?_
      have w8 := w6.kept k8 T8
      have hu : ∃ ru d, UpG K G8 x ru d := by
        match j, hx with
        | 0, hx => cases hx; exact ⟨_, _, upg_odd .non (by decide) (by decide) .non (she_non.le (by decide) (by decide))⟩
        | 1, hx => cases hx; exact ⟨_, _, upg_odd (.int 5) (by decide) (by decide) (.int 5) ((she_int ⟨by decide, by decide⟩).le (by decide) (by decide))⟩
        | 2, hx =>
          cases hx
          have hz := k8 _ _ a1 (e3' _ _ (e4 _ _ (eq1 _ _ (eD _ _ (e3 _ _ h1)))))
          obtain ⟨d, hd⟩ := upg_lst (K := K) (Evl.sq_of hz) (by have := cutV_length (us.map uv) none (some (-1)); omega) fun v hv => itg_uv sm.uj v (cut_mem hv)
          exact ⟨_, d, hd⟩
        | 3, hx =>
          cases hx
          have hz := k8 _ _ b1' (e3' _ _ (e4 _ _ (eq1 _ _ (eD _ _ h2))))
          obtain ⟨d, hd⟩ := upg_lst (K := K) (Evl.sq_of hz) (by rw [List.length_append, uvl]; show _ + 1 ≤ _; omega) fun v hv => by
            rcases List.mem_append.mp hv with h | h
            · exact itg_uv sm.uj v h
            · rw [List.mem_singleton.mp h]; exact ⟨_, itg_int ⟨by decide, by decide⟩⟩
          exact ⟨_, d, hd⟩
        | 4, hx =>
          cases hx
          have hz : G8 D = some (.dK []) := k8 _ _ d1 (e3' _ _ (e4 _ _ (eq1 _ _ upd_same)))
          exact ⟨_, _, upg_odd (.dK hz) (by decide) (by decide) (.dk hz) (she_dict.le (by decide) (by decide))⟩
        | 5, hx =>
          cases hx
          have hz := k8 _ _ c1 (upd_same (H := G4) (a := L3) (o := .lst (List.replicate ((us.map uv).length : Int).toNat [V.int 0]).flatten))
          obtain ⟨d, hd⟩ := upg_lst (K := K) (Evl.sq_of hz) (by rw [Int.toNat_natCast, uvl]; simp; omega) fun v hv => by
            obtain ⟨l, h1, h2⟩ := List.mem_flatten.mp hv
            rw [List.eq_of_mem_replicate h1] at h2
            rw [List.mem_singleton.mp h2]; exact ⟨_, itg_int ⟨by decide, by decide⟩⟩
          exact ⟨_, d, hd⟩
        | 6, hx => cases hx; exact ⟨_, _, upg_odd (.str _) (by decide) (by decide) (.str _) ⟨rfl, by decide, by decide +kernel⟩⟩
        | k + 7, hx => simp at hx
      exact .inr ⟨⟨x, rfl, w8.kp, w8.T.mono (by omega), w8.good sm hu⟩, by omega⟩
    -- 7
    refine Evl.q_cut (M := M 8) (st (j := 7) hM7 fun G1 hB hj => ?_) fun σ8 G8 hM8 => ?_
    · obtain ⟨rfl, wo⟩ := hB
      refine Go.ret_go (Go.tup_go (Go.cons_any (Go.call_raw (Go.cons_any ⟨.ref t, rfl, Go.cons_any (Go.lst_go (Go.cons_c (Go.cons_any ?_)))⟩))))
      refine (Evl.el_lst (vs := []) Evl.ea_nil (Nat.zero_le _)) G1 (Evl.Ex.refl _) _ fun L1 G2 hL1 e2 h1 => Go.cons_c (Go.cons_c (Go.cons_any fun D hD => Go.cons_any (Go.tup_go ⟨Nat.zero_le _, fun E1 hE1 => Go.cons_c ?_⟩)))
      have eD := Evl.Ex.new (o := .dK []) hD
      have eE := Evl.Ex.new (o := .tup []) hE1
      have w6 := ((wo.ex e2).ex eD).ex eE
      obtain ⟨a1, _, _⟩ := neR wo hL1
      obtain ⟨d1, _, _⟩ := neR (wo.ex e2) hD
      obtain ⟨c1, _, _⟩ := neR ((wo.ex e2).ex eD) hE1
      refine pick_fin (E := E0) (c := c) (n := n + 3) w6.T (by omega) (by show 1 ≤ 7; decide) (by show 7 ≤ 1000; decide) fun j x G8 hx k8 T8 => ⟨_, rfl, (by show 2 ≤ sizeLine; decide), fun T hT => ?_⟩
      have w8 := w6.kept k8 T8
      have eT := Evl.Ex.new (o := .tup [x, V.ref UP]) hT
      have w9 := w8.ex eT
      refine q T x (.ref UP) _ w9.kp (w9.T.mono (by omega)) upd_same (Good.ex ?_ eT)
      have hu := w8.upOf sm w8.hU
      match j, hx with
      | 0, hx => cases hx; exact good_odd .non (by decide) (by decide) .non (she_non.le (by decide) (by decide)) hu
      | 1, hx => cases hx; exact good_nil (.inl (Evl.sq_of (k8 _ _ a1 (eE _ _ (eD _ _ h1))))) hu
      | 2, hx => cases hx; exact good_odd (.int 5) (by decide) (by decide) (.int 5) ((she_int ⟨by decide, by decide⟩).le (by decide) (by decide)) hu
      | 3, hx => cases hx; exact good_odd (.str _) (by decide) (by decide) (.str _) ⟨rfl, by decide, by decide +kernel⟩ hu
      | 4, hx =>
        cases hx
        have hz : G8 D = some (.dK []) := k8 _ _ d1 (eE _ _ upd_same)
        exact good_odd (.dK hz) (by decide) (by decide) (.dk hz) (she_dict.le (by decide) (by decide)) hu
      | 5, hx => cases hx; exact good_nil (.inr (Evl.st_of (k8 _ _ c1 upd_same))) hu
      | 6, hx => cases hx; exact good_odd (.bl true) (by decide) (by decide) (.bl true) ((she_bl true).le (by decide) (by decide)) hu
      | k + 7, hx => simp at hx
    -- the end
    have fin : ∀ {u : V} {G : Hp}, Kept t H G → Tub G t c (n + 10) → Good K G (.ref R) u → σ8 = [some (.ref t), some (.ref A), some (.ref U), some (.ref R), some u, some (.int (w : Int)), some (.int (a : Int)), some (.int (o : Int)), none] → ∀ T, G T = none → Q (.ref T) (upd G T (.tup [.ref R, u])) := fun {u G} k1 T1 g _ T hT => by
      have eT := Evl.Ex.new (o := .tup [V.ref R, u]) hT
      exact q T _ _ _ (k1.trans (kept_ex eT)) (T1.ex eT) upd_same (g.ex eT)
    rcases hM8 with ⟨⟨rfl, wo⟩, _⟩ | ⟨⟨u, rfl, k1, T1, g⟩, _⟩
    · exact Go.ret_go (Go.tup_go (Go.cons_any ⟨_, rfl, Go.cons_any ⟨_, rfl, (by show 2 ≤ sizeLine; decide), fun T hT => fin wo.kp (wo.T.mono (by omega)) (wo.good sm (wo.upOf sm wo.hU)) rfl T hT⟩⟩))
    · exact Go.ret_go (Go.tup_go (Go.cons_any ⟨_, rfl, Go.cons_any ⟨_, rfl, (by show 2 ≤ sizeLine; decide), fun T hT => fin k1 T1 g rfl T hT⟩⟩))
end
end P41
end S_Bau
section S_Xg
namespace EnL
open PySem PySem.Spec PyProof.Rows L2 Tl
/-! ### o.m(k=.., l=..) of an own instance -/
def tMethN (C : Addr) (m : Str) (n : Nat) (sp : Sp) (gV : List V → List V → List V) (E : XK) (ta : TE) (tk : TA) : TE := fun σ H Q => ta σ H fun x H1 => ∃ a dx fs, x = .ref a ∧ H1 a = some (.ins C dx fs) ∧ fs.lookup m = none ∧ tk σ H1 fun zs H2 => zs.length = n ∧ sp (gV [x] zs) H2 Q E
theorem pe_methN {X : Cx} {CX : CXT} {k : Nat} {f C : Addr} {fd : FuncData} {ps ks : List Str} {sp : Sp} {E : XK} {m : Str} {pos apos : Pos} {o : Expr} {kws : List Keyword} {ta : TE} {tk : TA} {g : List Value → List Value → List Value} {gV : List V → List V → List V} {pl : Sem Bool}
    (ho : PE X o ta) (c : Cls X.K C) (hm : Meth X.K C m f) (F : FnOk X.prog X.w X.K X.mg X.base CX k f fd ps sp) (hr : Room k X.A) (hb : KBn X.K fd ps 1 ks g gV) (hx : Passes CX X E) (hkw : PK X kws tk)
    (hall : (backToKw pos (keywordEach kws X.env)).all (·.1.isSome) = true := by rfl) (hks : (backToKw pos (keywordEach kws X.env)).filterMap (·.1) = ks := by rfl)
    (hpl : ((backTo pos (starEach [] X.env)).any (·.1) || (backToKw pos (keywordEach kws X.env)).any (·.1.isNone)) = false := by rfl)
    (he : eval (.Call (.Attribute o m apos) [] kws pos) X.env = (do
      let ov ← eval o X.env
      standAt apos.atName
      let __x ← holding [ov] (getMethod ov m pl)
      match __x with
        | (f, first) => callWith pos f first (backTo pos (starEach [] X.env)) (backToKw pos (keywordEach kws X.env))) := by rfl) :
    PE X (.Call (.Attribute o m apos) [] kws pos) (tMethN C m ks.length sp gV E ta tk) := by
  constructor
  intro pins s σ H Q I h
  rw [he]
  refine wpAny_bind (thn (ho.run pins s σ H _ I h) fun v s1 hv => ?_)
  obtain ⟨x, H1, I1, rx, a, dx, fs, rfl, ha, hl, hk⟩ := hv
  obtain rfl := rx
  refine wpAny_bind (wpAny_standAt ?_)
  refine wpAny_bind (wpAny_holding ?_)
  obtain ⟨mA, J, rl, _⟩ := ins_get I1.hok ha
  have hmA : mA m = none := by
    have := rl m
    rw [hl] at this
    cases z : mA m with
    | none => rfl
    | some u => rw [z] at this; cases this
  refine get_meth I1.kIn J (c.get m) hm.at_ hm.fn hmA ?_
  refine PySem.W.callWith_KW0 (h₀ := X.base) I1.ok.mod.kin hm.kp hall (thn (hkw.run pos pins s1 σ H1 _ I1 hk) fun ws s2 hv => ?_) hpl
  obtain ⟨zs, H2, I2, rz, l2, q2⟩ := hv
  refine ⟨I2.kIn, ?_⟩
  rw [hks]
  exact run_fnN (us := [.ref a]) (vs := [.ref a]) F hr hb hx I2 (.cons rfl .nil) rz rfl l2 q2
/-! ### C(k=..) -/
def tMakeN (C : Addr) (n : Nat) (sp : Sp) (gV : List V → List V → List V) (E : XK) (tk : TA) : TE := fun σ H Q => tk σ H fun zs H1 => zs.length = n ∧ ∀ x dx, H1 x = none → H1 dx = none → dx ≠ x → sp (gV [.ref x] zs) (upd (upd H1 dx (.own x)) x (.ins C dx [])) (fun v H2 => v = .non ∧ Q (.ref x) H2) E
theorem pe_makeN {X : Cx} {CX : CXT} {k : Nat} {f C : Addr} {fd : FuncData} {ps ks : List Str} {sp : Sp} {E : XK} {x : Str} {p pos : Pos} {kws : List Keyword} {tk : TA} {g : List Value → List Value → List Value} {gV : List V → List V → List V}
    (M : Mk X.K C f) (F : FnOk X.prog X.w X.K X.mg X.base CX k f fd ps sp) (hr : Room (k + 1) X.A) (hg : Gl X x) (hm : X.mg x = some (.ref C)) (hb : KBn X.K fd ps 1 ks g gV) (hx : Passes CX X E)
    (hkw : PK X kws tk) (hall : (backToKw pos (keywordEach kws X.env)).all (·.1.isSome) = true := by rfl) (hks : (backToKw pos (keywordEach kws X.env)).filterMap (·.1) = ks := by rfl) (hdb : (x == ("__debug__" : Str)) = false := by decide)
    (hpl : ((backTo pos (starEach [] X.env)).any (·.1) || (backToKw pos (keywordEach kws X.env)).any (·.1.isNone)) = false := by rfl) :
    PE X (.Call (.Name x p) [] kws pos) (tMakeN C ks.length sp gV E tk) := by
  constructor
  intro pins s σ H Q I h
  refine wpAny_Call_Name_kw (ld_glob I hg hm (PySem.W.callWith_KW0 (h₀ := X.base) I.ok.mod.kin M.kp hall (thn (hkw.run pos pins s σ H _ I h) fun ws s2 hv => ?_) hpl) hdb)
  obtain ⟨zs, H2, I2, rz, l2, q2⟩ := hv
  refine ⟨I2.kIn, ?_⟩
  rw [hks]
  have n1 : H2 (s2.heap.objs.size + 1) = none := I2.hok.fresh (Nat.le_succ _)
  have n2 : H2 s2.heap.objs.size = none := I2.hok.fresh (Nat.le_refl _)
  have q3 := q2 (s2.heap.objs.size + 1) s2.heap.objs.size n1 n2 (Nat.ne_of_lt (Nat.lt_succ_self _))
  have I3 := I2.made (C := C)
  have r2 : Vals (gV [.ref (s2.heap.objs.size + 1)] zs) (g [.ref (s2.heap.objs.size + 1)] ws) := hb.rel (.cons rfl .nil) rz
  refine wpAny_call (Att.make_obj I2.kIn M.makes M.init M.fn (codeAny_mono (F.run _ X.stack _ _ ⟨[.ref (s2.heap.objs.size + 1)], ks.zip ws⟩ _ _ _ E (Room.make hr C [] _) ?_ (hb.to _ [.ref (s2.heap.objs.size + 1)] ws I3.kIn rfl (rz.length.symm.trans l2)) r2 q3) fun r s' hq => ?_))
  · have e := I3.env0
    exact ⟨e.frames, e.mod, e.bs, e.bsz, e.funs, e.frf, e.hok, e.bare⟩
  · cases r with
    | error e => exact hx pins σ _ _ e s' I3 hq
    | ok fl =>
      cases fl with
      | ret u =>
        obtain ⟨v, H', I', rv, hv, q⟩ := I3.after hq
        subst hv
        exact ⟨rv, .ref _, H', I', rfl, q⟩
      | next => exact False.elim hq
      | brk => exact False.elim hq
      | cont => exact False.elim hq
end EnL
end S_Xg
section S_Xa
namespace EnL
open PySem PySem.Spec PySem.Calls PyProof.Rows
section
variable {M : Model} {A : Around} {E : Value → Shared → Prop} {s : Shared} {env : Env}
theorem callWith_typeB {pos : Pos} {T : String} {first : List Value} {args : List (Bool × Sem Value)} {keywords : List (Option Str × Sem Value)} {Q : Value → Shared → Prop}
    (hplain : args.any (·.1) = false) (hkw : keywords.any (·.1.isNone) = false)
    (h : wpAny M A (evalArgs (.type T) true args keywords) (fun a s₁ => wpAny M A (call (.type T) (first ++ a.pos) a.kw) Q E s₁) E s) :
    wpAny M A (callWith pos (.type T) first args keywords) Q E s := by
  unfold callWith
  refine wpAny_bind (wpAny_holding (wpAny_mono h (fun a s₁ h₁ => wpAny_bind (wpAny_standAt ?_)) fun _ _ x => x))
  simp only [hplain, hkw, Bool.or_false]
  refine wpAny_bind (wpAny_pure ?_)
  exact wpAny_bind (wpAny_mono h₁ (fun r s₂ hr => wpAny_bind (wpAny_holding (wpAny_point (wpAny_pure hr)))) fun _ _ x => x)
theorem callWith_typeKw {pos : Pos} {T : String} {e : Expr} {rest : List Expr} {kws : List Keyword} {Q : Value → Shared → Prop}
    (h : wpAny M A (spliced (backTo pos (starEach (e :: rest) env))) (fun vs s₁ => wpAny M A (evalAll ((backToKw pos (keywordEach kws env)).map (·.2)))
      (fun kvs s₂ => wpAny M A (call (.type T) vs (((backToKw pos (keywordEach kws env)).filterMap (·.1)).zip kvs)) Q E s₂) E s₁) E s)
    (he : backTo pos (starEach (e :: rest) env) = (false, eval e env) :: backTo pos (starEach rest env) := by rfl)
    (hplain : (backTo pos (starEach (e :: rest) env)).any (·.1) = false := by rfl)
    (hall : (backToKw pos (keywordEach kws env)).all (·.1.isSome) = true := by rfl)
    (hkw : (backToKw pos (keywordEach kws env)).any (·.1.isNone) = false := by rfl) :
    wpAny M A (callWith pos (.type T) [] (backTo pos (starEach (e :: rest) env)) (backToKw pos (keywordEach kws env))) Q E s := by
  refine callWith_typeB hplain hkw ?_
  rw [he] at h ⊢
  exact evalArgs_kwB hall h
end
/-- the counter's result tuple is held by another -/
abbrev EnOut (h : Heap) (e it : Addr) (c : Int) (old : Value) (a : Addr) (f : Bool) : Prop :=
  h.get? e = some { cls := .type "enumerate", dict := none, data := .fields #[rawInt a, .bool f, .ref it, rawInt c, .none, old], slots := #[] }
section
variable {prog : Program} {w : World} {A : Around} {E : Value → Shared → Prop} {s : Shared}
theorem next_out0 {e it l a : Addr} {oa : Obj} {i : Nat} {c : Int} {items : Array Value} {x old : Value} {f : Bool} {Q : Value → Shared → Prop}
    (he : EnOut s.heap e it c old a f) (ha : s.heap.get? a = some oa) (hae : a ≠ e) (hai : a ≠ it) (hit : s.heap.IsListIter it l i) (hl : s.heap.IsList l items) (hx : items[i]? = some x) (hne : e ≠ it)
    (hQ : ∀ h', EnOut h' e it (c + 1) old a true → h'.IsListIter it l (i + 1) →
      h'.get? s.heap.objs.size = some { cls := .type "tuple", data := .seq #[.int c s.toks, x] } → h'.objs.size = s.heap.objs.size + 1 →
      (∀ b o, b ≠ e → b ≠ it → s.heap.get? b = some o → h'.get? b = some o) → Q (.ref s.heap.objs.size) { s with heap := h', toks := s.toks + 1 }) :
    wpAny (model prog w) A (Builtin.«enumerate.__next__» ⟨[.ref e], []⟩) (fun fin s' => ∃ v, fin = .done (.ret v) ∧ Q v s') E s := by
  obtain ⟨hp, g, d, tk, os⟩ := s
  show wpAny _ _ (field (.ref e) 2 >>= _) _ _ _
  refine wpAny_bind (wpAny_field he rfl (x := .ref it) rfl ?_)
  refine wpAny_bind (wpAny_nextOf_list_item hit hl hx fun h₁ hit₁ hs₁ => ?_)
  replace hs₁ : Heap.SameBut it hp h₁ := hs₁
  have he₁ : EnOut h₁ e it c old a f := (hs₁.2 e hne).trans he
  show wpAny _ _ (field (.ref e) 3 >>= _) _ _ ⟨h₁, g, d, tk, os⟩
  refine wpAny_bind (wpAny_field he₁ rfl (x := rawInt c) rfl ?_)
  show wpAny _ _ (field (.ref e) 4 >>= _) _ _ ⟨h₁, g, d, tk, os⟩
  refine wpAny_bind (wpAny_field he₁ rfl (x := .none) rfl ?_)
  show wpAny _ _ (mkInt c >>= _) _ _ ⟨h₁, g, d, tk, os⟩
  refine wpAny_bind (wpAny_mkInt ?_)
  show wpAny _ _ (setField (.ref e) 3 (rawInt (c + 1)) >>= _) _ _ ⟨h₁, g, d, tk + 1, os⟩
  refine wpAny_bind (wpAny_setField_rec he₁ (by simp) fun h₂ he₂ hs₂ => ?_)
  replace hs₂ : Heap.SameBut e h₁ h₂ := hs₂
  replace he₂ : EnOut h₂ e it (c + 1) old a f := he₂
  show wpAny _ _ (setField (.ref e) 4 .none >>= _) _ _ ⟨h₂, g, d, tk + 1, os⟩
  refine wpAny_bind (wpAny_setField_rec he₂ (by simp) fun h₃ he₃ hs₃ => ?_)
  replace hs₃ : Heap.SameBut e h₂ h₃ := hs₃
  replace he₃ : EnOut h₃ e it (c + 1) old a f := he₃
  show wpAny _ _ (newTuple [.int c tk, x] >>= _) _ _ ⟨h₃, g, d, tk + 1, os⟩
  refine wpAny_bind (wpAny_newTuple ?_)
  have he₄ : EnOut (h₃.push { cls := .type "tuple", data := .seq #[.int c tk, x] }) e it (c + 1) old a f := Heap.get?_push_of_some _ he₃
  generalize hh₄ : h₃.push { cls := .type "tuple", data := .seq #[.int c tk, x] } = h₄ at he₄
  have hsz : h₃.objs.size = hp.objs.size := by rw [hs₃.1, hs₂.1, hs₁.1]
  have hel : e < hp.objs.size := Heap.lt_size he
  have ht₄ : h₄.get? hp.objs.size = some { cls := .type "tuple", data := .seq #[.int c tk, x] } := by rw [← hh₄, ← hsz]; exact Heap.get?_push_size _ rfl
  have hz₄ : h₄.objs.size = hp.objs.size + 1 := by rw [← hh₄, Heap.size_push, hsz]
  have hk₄ : ∀ b o, b ≠ e → b ≠ it → hp.get? b = some o → h₄.get? b = some o := fun b o hbe hbi hb => by
    rw [← hh₄]; exact Heap.get?_push_of_some _ (hs₃.extBut b o hbe (hs₂.extBut b o hbe (hs₁.extBut b o hbi hb)))
  have hit₄ : h₄.IsListIter it l (i + 1) := by
    rw [← hh₄]; obtain ⟨o, ho, r⟩ := (hit₁.extBut hs₂.extBut (Ne.symm hne)).extBut hs₃.extBut (Ne.symm hne); exact ⟨o, Heap.get?_push_of_some _ ho, r⟩
  have ha₄ := hk₄ a oa hae hai ha
  show wpAny _ _ (Builtin.SmallTypes.ownedTupleIsFree (.ref e) >>= _) _ _ ⟨h₄, g, d, tk + 1, os⟩
  rw [hsz]
  clear hh₄ he₃ hs₃ he₂ hs₂ he₁ hs₁ hit₁ hsz h₃ h₂ h₁
  refine wpAny_bind ?_
  unfold Builtin.SmallTypes.ownedTupleIsFree
  refine wpAny_bind (wpAny_field he₄ rfl (x := rawInt a) rfl ?_)
  show wpAny _ _ (loadIfAlive ((a : Int).toNat) >>= _) _ _ _
  rw [Int.toNat_natCast]
  refine wpAny_bind (PySem.W.kdx_alive ha₄ ?_)
  simp only [Option.isNone_some, Bool.false_eq_true, if_false]
  refine wpAny_bind (wpAny_field he₄ rfl (x := .bool f) rfl ?_)
  have fin : ∀ h₅ : Heap, EnOut h₅ e it (c + 1) old a true → Heap.SameBut e h₄ h₅ → Q (.ref hp.objs.size) ⟨h₅, g, d, tk + 1, os⟩ := fun h₅ he₅ hs₅ =>
    hQ h₅ he₅ (hit₄.extBut hs₅.extBut (Ne.symm hne)) (hs₅.extBut _ _ (Nat.ne_of_gt hel) ht₄) (by show h₅.objs.size = hp.objs.size + 1; rw [hs₅.1, hz₄]) fun b o hbe hbi hb => hs₅.extBut b o hbe (hk₄ b o hbe hbi hb)
  cases f with
  | true =>
    rw [if_neg (show ¬ ((Value.bool true != Value.bool true) = true) from Bool.false_ne_true)]
    refine wpAny_pure ?_
    simp only [Bool.false_eq_true, if_false]
    exact wpAny_pure ⟨_, rfl, fin h₄ he₄ (Heap.SameBut.refl _ _)⟩
  | false =>
    rw [if_pos (show (Value.bool false != Value.bool true) = true from rfl)]
    refine wpAny_bind (wpAny_setField_rec he₄ (by simp) fun h₅ he₅ hs₅ => ?_)
    replace hs₅ : Heap.SameBut e h₄ h₅ := hs₅
    replace he₅ : EnOut h₅ e it (c + 1) old a true := he₅
    refine wpAny_pure ?_
    simp only [Bool.false_eq_true, if_false]
    exact wpAny_pure ⟨_, rfl, fin h₅ he₅ hs₅⟩
theorem next_out {e it l a : Addr} {oa : Obj} {i : Nat} {c : Int} {items : Array Value} {x old : Value} {f : Bool} {Q : Option Value → Shared → Prop}
    (he : EnOut s.heap e it c old a f) (ha : s.heap.get? a = some oa) (hae : a ≠ e) (hai : a ≠ it) (hit : s.heap.IsListIter it l i) (hl : s.heap.IsList l items) (hx : items[i]? = some x) (hne : e ≠ it)
    (hQ : ∀ h', EnOut h' e it (c + 1) old a true → h'.IsListIter it l (i + 1) →
      h'.get? s.heap.objs.size = some { cls := .type "tuple", data := .seq #[.int c s.toks, x] } → h'.objs.size = s.heap.objs.size + 1 →
      (∀ b o, b ≠ e → b ≠ it → s.heap.get? b = some o → h'.get? b = some o) → Q (some (.ref s.heap.objs.size)) { s with heap := h', toks := s.toks + 1 }) :
    wpAny (model prog w) A (pyNext (.ref e)) Q E s := by
  have hT : s.TypeIs (.ref e) "enumerate" := ⟨_, he, rfl⟩
  unfold pyNext
  exact wpAny_bind (wpAny_attempt (wpAny_callSpecial?_slot (name := Str.ofString "__next__") hT F.slot_enumerate_next
    (wpAny_call_entry F.slot_enumerate_next hT F.entry_enumerate_next
      (next_out0 he ha hae hai hit hl hx hne fun h' p q r t k => wpAny_pure (hQ h' p q r t k)) (F.args_enumerate_next_1 _))))
theorem end_out {e it l : Addr} {i : Nat} {items : Array Value} {Q : Option Value → Shared → Prop} {d : Array Value} (hh : A.handled = none)
    (he : s.heap.get? e = some { cls := .type "enumerate", dict := none, data := .fields d, slots := #[] }) (hd : d[2]? = some (.ref it)) (hit : s.heap.IsListIter it l i) (hl : s.heap.IsList l items) (hx : items[i]? = none)
    (hQ : ∀ h', Heap.ExtBut it s.heap h' → Q none { s with heap := h' }) : wpAny (model prog w) A (pyNext (.ref e)) Q E s := by
  have hT : s.TypeIs (.ref e) "enumerate" := ⟨_, he, rfl⟩
  unfold pyNext
  refine wpAny_bind (wpAny_attempt (wpAny_callSpecial?_slot (name := Str.ofString "__next__") hT F.slot_enumerate_next
    (wpAny_call_entry F.slot_enumerate_next hT F.entry_enumerate_next ?_ (F.args_enumerate_next_1 _))))
  show wpAny _ _ (field (.ref e) 2 >>= _) _ _ _
  refine wpAny_bind (wpAny_field he rfl (x := .ref it) hd ?_)
  refine wpAny_bind (wpAny_nextOf_list_end hh hit hl hx fun h' x he' hx' => ?_)
  obtain ⟨o, ho, hc⟩ := hx'
  refine wpAny_bind (wpAny_isInstance (T := "StopIteration") (b := true) ⟨o, ho, hc⟩ isSubtype_stop ?_)
  exact wpAny_pure (hQ _ he')
end
end EnL
end S_Xa
section S_Xb
namespace EnL
open PySem PySem.Spec PySem.Calls PyProof.Rows
section
variable {prog : Program} {w : World} {A : Around} {E : Value → Shared → Prop} {s : Shared}
def EnSt (h : Heap) (e it S : Addr) (i : Nat) (c : Int) : Prop := (i = 0 ∧ IsEnum h e it c .none) ∨ ∃ old a f oa, EnOut h e it (c + i) old a f ∧ h.get? a = some oa ∧ a ≠ e ∧ a ≠ it ∧ a ≠ S
theorem EnSt.keep {h h' : Heap} {e it S : Addr} {i : Nat} {c : Int} (x : EnSt h e it S i c) (hk : ∀ b o, b ≠ S → h.get? b = some o → h'.get? b = some o) (he : e ≠ S) : EnSt h' e it S i c := by
  rcases x with ⟨z, q⟩ | ⟨old, a, f, oa, q, ha, h1, h2, h3⟩
  · exact .inl ⟨z, hk _ _ he q⟩
  · exact .inr ⟨old, a, f, oa, hk _ _ he q, hk _ _ h3 ha, h1, h2, h3⟩
theorem list_ne {h : Heap} {l e : Addr} {items : Array Value} {o : Obj} (p : h.IsList l items) (q : h.get? e = some o) (hc : o.cls ≠ .type "list") : l ≠ e := fun z => by
  obtain ⟨u, hu, hcu, _⟩ := p
  rw [z, q] at hu
  cases hu
  exact hc hcu
theorem EnSt.obj {h : Heap} {e it S : Addr} {i : Nat} {c : Int} (x : EnSt h e it S i c) : ∃ o, h.get? e = some o ∧ o.cls = .type "enumerate" := by
  rcases x with ⟨z, q⟩ | ⟨old, a, f, oa, q, _⟩
  · exact ⟨_, q, rfl⟩
  · exact ⟨_, q, rfl⟩
theorem en_item {e it l S : Addr} {i : Nat} {c : Int} {items : Array Value} {x : Value} {Q : Option Value → Shared → Prop} (hh : A.handled = none) (hst : EnSt s.heap e it S i c) (hS : S < s.heap.objs.size)
    (hit : s.heap.IsListIter it l i) (hl : s.heap.IsList l items) (hx : items[i]? = some x) (hne : e ≠ it) (hli : l ≠ it)
    (hQ : ∀ h' tk, EnSt h' e it S (i + 1) c → h'.IsListIter it l (i + 1) → h'.get? s.heap.objs.size = some { cls := .type "tuple", data := .seq #[.int (c + i) tk, x] } → h'.objs.size = s.heap.objs.size + 1 →
      (∀ b o, b ≠ e → b ≠ it → s.heap.get? b = some o → h'.get? b = some o) → Q (some (.ref s.heap.objs.size)) { s with heap := h', toks := tk + 1 }) :
    wpAny (model prog w) A (pyNext (.ref e)) Q E s := by
  have e1 : c + ((i + 1 : Nat) : Int) = c + (i : Int) + 1 := by omega
  have iti : it < s.heap.objs.size := by obtain ⟨o, ho, _⟩ := hit; exact Heap.lt_size ho
  rcases hst with ⟨rfl, q⟩ | ⟨old, a, f, oa, q, ha, h1, h2, h3⟩
  · have hle : l ≠ e := list_ne hl q fun z => absurd (Value.type.inj z) (by decide)
    have hlt : 0 < items.size := by
      have := (Array.getElem?_eq_some_iff.mp hx).1
      exact this
    refine wpAny_pyNext_enum_itemC (Draws.list (show A.in1.handled = none from hh) it l hli items) q ⟨hit, hl⟩ hlt hne (by simp [hne, Ne.symm hle]) fun y g tk hy ho hst' ht hz hk => ?_
    have hy : y = x := by
      rw [hx] at hy
      exact (Option.some.inj hy).symm
    subst hy
    have e0 : c + ((0 : Nat) : Int) = c := by omega
    refine hQ g tk (.inr ⟨y, s.heap.objs.size, false, _, ?_, ht, Nat.ne_of_gt (Heap.lt_size q), Nat.ne_of_gt iti, Nat.ne_of_gt hS⟩) hst'.1 (by rw [e0]; exact ht) hz hk
    rw [e1, e0]
    exact ho
  · refine next_out q ha h1 h2 hit hl hx hne fun g hg hit' ht hz hk => ?_
    refine hQ g s.toks (.inr ⟨old, a, true, oa, ?_, hk a oa h1 h2 ha, h1, h2, h3⟩) hit' ht hz hk
    rw [e1]
    exact hg
theorem en_done {e it l S : Addr} {i : Nat} {c : Int} {items : Array Value} {Q : Option Value → Shared → Prop} (hh : A.handled = none) (hst : EnSt s.heap e it S i c) (hit : s.heap.IsListIter it l i) (hl : s.heap.IsList l items) (hx : items[i]? = none)
    (hQ : ∀ h', Heap.ExtBut it s.heap h' → Q none { s with heap := h' }) : wpAny (model prog w) A (pyNext (.ref e)) Q E s := by
  rcases hst with ⟨rfl, q⟩ | ⟨old, a, f, oa, q, _⟩
  · exact end_out hh q rfl hit hl hx hQ
  · exact end_out hh q rfl hit hl hx hQ
structure EnG (c : Int) (items : Array Value) (lo : Addr) (h : Heap) (as : List Addr) : Prop where
  rise : as.Pairwise (· < ·)
  above : ∀ a ∈ as, lo < a
  pairs : ∀ (j : Nat) (a : Addr), as[j]? = some a → ∃ t x, items[j]? = some x ∧ h.get? a = some { cls := .type "tuple", data := .seq #[.int (c + j) t, x] }
theorem EnG.there {c : Int} {items : Array Value} {lo : Addr} {h : Heap} {as : List Addr} (g : EnG c items lo h as) {a : Addr} (ha : a ∈ as) : a < h.objs.size := by
  obtain ⟨j, hj⟩ := List.mem_iff_getElem?.mp ha
  obtain ⟨_, _, _, e⟩ := g.pairs j a hj
  exact Heap.lt_size e
end
section
variable {prog : Program} {w : World} {A : Around} {s : Shared} {R : Result → Shared → Prop}
theorem en_loop {S e it l : Addr} {c : Int} {items : Array Value} (hh : A.handled = none) (heS : e < S) (hiS : it < S) (hlS : l < S) (hne : e ≠ it) (hli : l ≠ it) (hle : l ≠ e) (hn : items.size ≤ sizeLine) (res : Value) {h₁ : Heap}
    (hR : ∀ h' tk acc k as, (∀ b o, b ≠ S → b ≠ e → b ≠ it → h₁.get? b = some o → h'.get? b = some o) → h'.get? S = some { cls := .type "list", dict := none, data := .seq acc k, slots := #[] } → as.length = items.size → EnG c items S h' as →
      acc.toList = as.map Value.ref → R (.ok (.ret res)) { s with heap := h', toks := tk }) :
    ∀ (m i : Nat) (h : Heap) (tk k : Nat) (acc : Array Value) (as : List Addr), items.size - i = m → i ≤ items.size → EnSt h e it S i c → h.IsListIter it l i → h.IsList l items → (∀ b o, b ≠ S → b ≠ e → b ≠ it → h₁.get? b = some o → h.get? b = some o) →
      h.get? S = some { cls := .type "list", dict := none, data := .seq acc k, slots := #[] } → acc.toList = as.map Value.ref → as.length = i → EnG c items S h as →
      codeAny (model prog w) A (.builtin "list.extend.loop" ⟨[.ref S, .ref e, res], []⟩) R { s with heap := h, toks := tk } := by
  intro m
  induction m with
  | zero =>
    intro i h tk k acc as hk hi hst hit hL hkeep hS hacc hal hG
    have hin : i = items.size := by omega
    refine codeAny_builtin PySem.F.entry_extend_loop ?_
    rw [Around.under_plainId PySem.F.plain_extend_loop _]
    show wpAny _ A.in1 (pyNext (.ref e) >>= _) _ _ _
    refine wpAny_bind (en_done (s := { s with heap := h, toks := tk }) (A := A.in1) hh hst hit hL (Array.getElem?_eq_none (by omega)) fun h' he => ?_)
    refine wpAny_pure (hR h' tk acc k as (fun b o h1 h2 h3 e => he b o h3 (hkeep b o h1 h2 h3 e)) (he S _ (Nat.ne_of_gt hiS) hS) (by omega) ⟨hG.rise, hG.above, fun j a hj => ?_⟩ hacc)
    obtain ⟨t, x, e1, e3⟩ := hG.pairs j a hj
    exact ⟨t, x, e1, he a _ (Nat.ne_of_gt (Nat.lt_trans hiS (hG.above a (List.mem_of_getElem? hj)))) e3⟩
  | succ m ih =>
    intro i h tk k acc as hk hi hst hit hL hkeep hS hacc hal hG
    have hlt : i < items.size := by omega
    obtain ⟨x, hx⟩ : ∃ p, items[i]? = some p := ⟨items[i], by simp [hlt]⟩
    have hsz : acc.size = i := by rw [← Array.length_toList, hacc, List.length_map, hal]
    refine codeAny_builtin PySem.F.entry_extend_loop ?_
    rw [Around.under_plainId PySem.F.plain_extend_loop _]
    show wpAny _ A.in1 (pyNext (.ref e) >>= _) _ _ _
    refine wpAny_bind (en_item (s := { s with heap := h, toks := tk }) (A := A.in1) (S := S) hh hst (Heap.lt_size hS) hit hL hx hne hli fun h' tk' hst' hit' ht hz hkp => ?_)
    dsimp only at ht hz hkp ⊢
    have hSl : S < h.objs.size := Heap.lt_size hS
    have hS' := hkp S _ (Nat.ne_of_gt heS) (Nat.ne_of_gt hiS) hS
    have up : ∀ b o, b ≠ S → h'.get? b = some o → (h'.update S (Obj.mapSeq (·.push (Value.ref h.objs.size)))).get? b = some o := fun b o hb e => (Heap.get?_update_other _ _ (Ne.symm hb)).trans e
    show wpAny _ A.in1 (updateSeq S (·.push (Value.ref h.objs.size)) >>= _) _ _ _
    refine wpAny_bind ?_
    refine wpAny_updateSeq hS' rfl (wpAny_pure ⟨plainId_quiet PySem.F.plain_extend_loop _, ih (i + 1) _ (tk' + 1) _ (acc.push (Value.ref h.objs.size)) (as ++ [h.objs.size]) (by omega) hlt (hst'.keep up (Nat.ne_of_lt heS)) (hit'.at fun o e => up it o (Nat.ne_of_lt hiS) e)
      (let ⟨o, ho, r⟩ := hL; ⟨o, up l o (Nat.ne_of_lt hlS) (hkp l o hle hli ho), r⟩) (fun b o h1 h2 h3 e => up b o h1 (hkp b o h2 h3 (hkeep b o h1 h2 h3 e))) (Heap.get?_update_self _ hS' rfl) (by rw [Array.toList_push, hacc, List.map_append]; rfl) (by rw [List.length_append, hal]; rfl) ⟨?_, ?_, ?_⟩⟩) (by rw [hsz]; omega) (by show (acc.push (Value.ref h.objs.size)).size ≤ sizeLine + 1; rw [Array.size_push, hsz]; omega)
    · refine List.pairwise_append.mpr ⟨hG.rise, List.pairwise_singleton _ _, fun a ha b hb => ?_⟩
      rw [List.mem_singleton.mp hb]
      exact hG.there ha
    · intro a ha
      rcases List.mem_append.mp ha with ha | ha
      · exact hG.above a ha
      · rw [List.mem_singleton.mp ha]; exact hSl
    · intro j b hj
      rcases Nat.lt_trichotomy j as.length with h1 | h1 | h1
      · rw [List.getElem?_append_left h1] at hj
        obtain ⟨t, x', e1, e3⟩ := hG.pairs j b hj
        have hb := hG.above b (List.mem_of_getElem? hj)
        exact ⟨t, x', e1, up b _ (Nat.ne_of_gt hb) (hkp b _ (Nat.ne_of_gt (Nat.lt_trans heS hb)) (Nat.ne_of_gt (Nat.lt_trans hiS hb)) e3)⟩
      · subst h1
        have hb : h.objs.size = b := by simpa using hj
        subst hb
        exact ⟨tk', x, by rw [hal]; exact hx, up _ _ (Nat.ne_of_gt hSl) (by rw [hal]; exact ht)⟩
      · have hnone : (as ++ [h.objs.size])[j]? = none := List.getElem?_eq_none (by rw [List.length_append, List.length_singleton]; omega)
        rw [hnone] at hj; cases hj
end
theorem en_no_len : typeLookup (.type "enumerate") "__len__" = pure none := by rw [typeLookup_type, builtinLookup_eq_fast]; kernel_rfl
theorem en_no_hint : typeLookup (.type "enumerate") "__length_hint__" = pure none := by rw [typeLookup_type, builtinLookup_eq_fast]; kernel_rfl
end EnL
end S_Xb
section S_Xc
namespace EnL
open PySem PySem.Spec PySem.Calls PyProof.Rows
section
variable {prog : Program} {w : World} {A : Around} {E : Value → Shared → Prop} {s : Shared}
theorem en_extend {R : Result → Shared → Prop} {S e it l : Addr} {c : Int} {items : Array Value} (hh : A.handled = none) (heS : e < S) (hiS : it < S) (hlS : l < S) (hne : e ≠ it) (hli : l ≠ it) (hle : l ≠ e) (hn : items.size ≤ sizeLine) (res : Value) (c₀ : Nat)
    (he : IsEnum s.heap e it c .none) (hit : s.heap.IsListIter it l 0) (hl : s.heap.IsList l items) (hS : s.heap.get? S = some { cls := .type "list", data := .seq #[] c₀ })
    (hR : ∀ h' tk acc k as, (∀ b o, b ≠ S → b ≠ e → b ≠ it → s.heap.get? b = some o → h'.get? b = some o) → h'.get? S = some { cls := .type "list", dict := none, data := .seq acc k, slots := #[] } → as.length = items.size → EnG c items S h' as →
      acc.toList = as.map Value.ref → R (.ok (.ret res)) { s with heap := h', toks := tk }) :
    wpAny (model prog w) A.in1 (Builtin.List.listExtendWith (.ref S) (.ref e) res)
      (fun fin s' => match fin with | .done f => R (.ok f) s' | .again c' => c'.quiet = true ∧ codeAny (model prog w) A c' R s') (fun e s' => R (.error e) s') s := by
  have hT : s.TypeIs (.ref e) "enumerate" := ⟨_, he, rfl⟩
  unfold Builtin.List.listExtendWith
  refine wpAny_bind (wpAny_typeOf hT ?_)
  have h1 : Builtin.List.listSameRef (.ref S) (.ref e) = false := by simp [Builtin.List.listSameRef, Nat.ne_of_gt heS]
  have h2 : (Value.type "enumerate" == Value.type "list") = false := by decide
  have h3 : (Value.type "enumerate" == Value.type "tuple") = false := by decide
  simp only [h1, h2, h3, Bool.or_false, Bool.false_eq_true, if_false]
  refine wpAny_bind (wpAny_pyIter_enum he ?_)
  refine wpAny_bind (wpAny_holding ?_)
  unfold Builtin.List.listLengthHint
  refine wpAny_bind (wpAny_specialOf hT en_no_len ?_)
  show wpAny _ A.in1 (specialOf (Value.ref e) (Str.ofString "__length_hint__") >>= _) _ _ _
  refine wpAny_bind (wpAny_specialOf hT en_no_hint ?_)
  refine wpAny_pure ?_
  show wpAny _ A.in1 (rule "list.extend.makes-room" >>= fun _ => Builtin.List.listTouch (.ref S) >>= fun _ =>
    again (.builtin "list.extend.loop" ⟨[.ref S, .ref e, res], []⟩)) _ _ _
  refine wpAny_bind (wpAny_rule ?_)
  refine wpAny_bind ?_
  show wpAny _ A.in1 (updateSeq S (·.push .none) >>= fun _ => updateSeq S (·.pop)) _ _ _
  refine wpAny_bind (wpAny_updateSeq hS rfl ?_)
  have hS₂ := Heap.get?_update_self (Obj.mapSeq (·.push Value.none)) hS rfl
  refine wpAny_updateSeq (hz := by seq_fits) hS₂ rfl ?_
  have hS₃ := Heap.get?_update_self (Obj.mapSeq (·.pop)) hS₂ rfl
  have oth : ∀ b o, b ≠ S → s.heap.get? b = some o → ((s.heap.update S (Obj.mapSeq (·.push Value.none))).update S (Obj.mapSeq (·.pop))).get? b = some o :=
    fun b o hb e => (Heap.get?_update_other _ _ (Ne.symm hb)).trans ((Heap.get?_update_other _ _ (Ne.symm hb)).trans e)
  refine wpAny_pure ⟨plainId_quiet PySem.F.plain_extend_loop _, en_loop (s := s) (h₁ := s.heap) hh heS hiS hlS hne hli hle hn res hR items.size 0 _ _ _ #[] [] (Nat.sub_zero _) (Nat.zero_le _) (.inl ⟨rfl, oth _ _ (Nat.ne_of_lt heS) he⟩)
    (hit.at fun o e => oth it o (Nat.ne_of_lt hiS) e) (let ⟨o, ho, r⟩ := hl; ⟨o, oth l o (Nat.ne_of_lt hlS) ho, r⟩) (fun b o hb _ _ e => oth b o hb e) hS₃ rfl rfl ⟨List.Pairwise.nil, (fun _ ha => nomatch ha), (fun j a hj => by simp at hj)⟩⟩
theorem en_init {R : Result → Shared → Prop} {S e it l : Addr} {c : Int} {items : Array Value} (hh : A.handled = none) (heS : e < S) (hiS : it < S) (hlS : l < S) (hne : e ≠ it) (hli : l ≠ it) (hle : l ≠ e) (hn : items.size ≤ sizeLine)
    (he : IsEnum s.heap e it c .none) (hit : s.heap.IsListIter it l 0) (hl : s.heap.IsList l items) (hS : s.heap.get? S = some { cls := .type "list", data := .seq #[] })
    (hR : ∀ h' tk acc k as, (∀ b o, b ≠ S → b ≠ e → b ≠ it → s.heap.get? b = some o → h'.get? b = some o) → h'.get? S = some { cls := .type "list", dict := none, data := .seq acc k, slots := #[] } → as.length = items.size → EnG c items S h' as →
      acc.toList = as.map Value.ref → R (.ok (.ret .none)) { s with heap := h', toks := tk }) :
    wpAny (model prog w) A.in1 (Builtin.«list.__init__» ⟨[.ref S, .ref e], []⟩)
      (fun fin s' => match fin with | .done f => R (.ok f) s' | .again c' => c'.quiet = true ∧ codeAny (model prog w) A c' R s') (fun e s' => R (.error e) s') s := by
  show wpAny _ _ (do let old ← Builtin.List.listItems (.ref S); Builtin.List.listUpdate (.ref S) (fun _ => #[]); letGo old.toList.reverse; Builtin.List.listExtendWith (.ref S) (.ref e) .none) _ _ s
  refine wpAny_bind ?_
  unfold Builtin.List.listItems
  refine wpAny_bind (wpAny_seqItems hS rfl (wpAny_pure ?_))
  show wpAny _ _ (updateSeq S (fun _ => #[]) >>= fun _ => letGo (#[] : Array Value).toList.reverse >>= fun _ => Builtin.List.listExtendWith (.ref S) (.ref e) .none) _ _ s
  refine wpAny_bind (wpAny_updateSeq hS rfl ?_)
  have hS₂ := Heap.get?_update_self (Obj.mapSeq (fun _ => (#[] : Array Value))) hS rfl
  have oth : ∀ b o, b ≠ S → s.heap.get? b = some o → (s.heap.update S (Obj.mapSeq (fun _ => (#[] : Array Value)))).get? b = some o :=
    fun b o hb e => (Heap.get?_update_other _ _ (Ne.symm hb)).trans e
  refine wpAny_bind (wpAny_letGo ?_)
  refine en_extend (c := c) hh heS hiS hlS hne hli hle hn .none _ (oth _ _ (Nat.ne_of_lt heS) he) (hit.at fun o e => oth it o (Nat.ne_of_lt hiS) e) (let ⟨o, ho, r⟩ := hl; ⟨o, oth l o (Nat.ne_of_lt hlS) ho, r⟩) hS₂ fun h' tk acc k as hk hS' hl' hG hacc => ?_
  exact hR h' tk acc k as (fun b o hb h2 h3 e => hk b o hb h2 h3 (oth b o hb e)) hS' hl' hG hacc
theorem en_call {Q : Value → Shared → Prop} {e it l : Addr} {c : Int} {items : Array Value} (hh : A.handled = none) (hne : e ≠ it) (hli : l ≠ it) (hle : l ≠ e) (hn : items.size ≤ sizeLine)
    (he : IsEnum s.heap e it c .none) (hit : s.heap.IsListIter it l 0) (hl : s.heap.IsList l items)
    (hQ : ∀ h' tk acc k as, (∀ b o, b ≠ e → b ≠ it → s.heap.get? b = some o → h'.get? b = some o) → h'.get? s.heap.objs.size = some { cls := .type "list", dict := none, data := .seq acc k, slots := #[] } → as.length = items.size → EnG c items s.heap.objs.size h' as →
      acc.toList = as.map Value.ref → Q (.ref s.heap.objs.size) { s with heap := h', toks := tk }) :
    wpAny (model prog w) A (call (.type "list") [.ref e]) Q E s := by
  refine callType_codes (Q₁ := fun obj s₁ => obj = .ref s.heap.objs.size ∧ s₁ = { s with heap := s.heap.push { cls := .type "list", data := .seq #[] } }) PySem.F.called_list (PySem.F.typeCall_list_1 _) PySem.F.entry_list_init
    (code_list_new _ ⟨rfl, rfl⟩) fun obj s₁ h₁ => ?_
  obtain ⟨rfl, rfl⟩ := h₁
  have hS : (s.heap.push { cls := .type "list", data := .seq #[] }).get? s.heap.objs.size = some { cls := .type "list", data := .seq #[] } := Heap.get?_push_size _ rfl
  have le : e < s.heap.objs.size := Heap.lt_size he
  have li : it < s.heap.objs.size := let ⟨_, ho, _⟩ := hit; Heap.lt_size ho
  have ll : l < s.heap.objs.size := let ⟨_, ho, _⟩ := hl; Heap.lt_size ho
  refine ⟨⟨_, hS, rfl⟩, PySem.F.args_list_init_2 _ _, en_init (c := c) (A := A.in1) hh le li ll hne hli hle hn (Heap.get?_push_of_some _ he) (hit.at fun o e => Heap.get?_push_of_some _ e) (let ⟨o, ho, r⟩ := hl; ⟨o, Heap.get?_push_of_some _ ho, r⟩) hS (fun h' tk acc k as hk hS' hl' hG hacc => ?_)⟩
  exact ⟨rfl, hQ h' tk acc k as (fun b o h2 h3 e => hk b o (Nat.ne_of_lt (Heap.lt_size e)) h2 h3 (Heap.get?_push_of_some _ e)) hS' hl' hG hacc⟩
end
end EnL
end S_Xc
section S_Xd
namespace EnL
open PySem PySem.Spec PyProof.Rows L2 LiI
theorem laidS {X : Cx} {pins : List (Addr × Obj)} {σ : L2.St} {H : Hp} {s : Shared} {h' : Heap} {tk : Nat} {kvs : List (L2.Key × V)} {acc : Array Value} {c S : Nat} {as : List Addr} (I : Inv X pins σ H s) (hz : kvs.length ≤ sizeLine) (hS0 : s.heap.objs.size ≤ S)
    (hk : ∀ b o, s.heap.get? b = some o → h'.get? b = some o) (hS : h'.get? S = some { cls := .type "list", dict := none, data := .seq acc c, slots := #[] }) (hl : as.length = kvs.length) (rise : as.Pairwise (· < ·)) (above : ∀ a ∈ as, S < a)
    (hG : ∀ (j : Nat) (a : Addr), as[j]? = some a → ∃ pk key x, kvs[j]? = some pk ∧ RelV (kV pk.1) key ∧ RelV pk.2 x ∧ h'.get? a = some { cls := .type "tuple", data := .seq #[key, x] }) (hacc : acc.toList = as.map Value.ref) :
    ∃ H' : Hp, (∀ b o, H b = some o → H' b = some o) ∧ H S = none ∧ (∀ t ∈ as, H t = none) ∧ S ∉ as ∧ H' S = some (.lst (as.map V.ref)) ∧ Paired (fun (t : Addr) (q : L2.Key × V) => H' t = some (.tup [kV q.1, q.2])) as kvs ∧ Inv X pins σ H' { s with heap := h', toks := tk } := by
  have hSn : S ∉ as := fun z => Nat.lt_irrefl _ (above _ z)
  have nd : as.Nodup := List.Pairwise.imp (fun {a b} (h : a < b) => Nat.ne_of_lt h) rise
  have new : ∀ t ∈ as, H t = none := fun t ht => I.hok.fresh (Nat.le_trans hS0 (Nat.le_of_lt (above t ht)))
  have newS : H S = none := I.hok.fresh hS0
  have atP := putT_at as kvs (upd H S (.lst (as.map V.ref))) hl nd
  have off : ∀ b, b ∉ as → b ≠ S → putT (upd H S (.lst (as.map V.ref))) as kvs b = H b := fun b h1 h2 => by rw [putT_off as kvs _ h1, upd_ne h2]
  have low : ∀ b o, s.heap.get? b = some o → b ∉ as ∧ b ≠ S := fun b o e => ⟨fun z => absurd (Heap.lt_size e) (Nat.not_lt.mpr (Nat.le_trans hS0 (Nat.le_of_lt (above b z)))), Nat.ne_of_lt (Nat.lt_of_lt_of_le (Heap.lt_size e) hS0)⟩
  have kp : ∀ b u, H b = some u → (putT (upd H S (.lst (as.map V.ref))) as kvs) b = some u := fun b u e => by
    rw [off b (fun z => by rw [new b z] at e; cases e) (fun z => by rw [z, newS] at e; cases e)]
    exact e
  have eS : putT (upd H S (.lst (as.map V.ref))) as kvs S = some (.lst (as.map V.ref)) := by rw [putT_off as kvs _ hSn, upd_same]
  refine ⟨putT (upd H S (.lst (as.map V.ref))) as kvs, kp, newS, new, hSn, eS, atP, ?_⟩
  refine I.call' (ch := []) rfl ⟨fun b o q _ _ _ => hk b o q, fun b o q _ _ _ => ⟨o.slots, hk b o q⟩, fun b o q n _ => ?_, fun b o q _ => ⟨o, hk b o q⟩, fun b xs q => kp b _ q, fun b o u q => kp b _ q, fun b ps q => ⟨#[], by rw [kp b _ q]; simp⟩⟩ (fun b u q => ?_) I.bare fun b z => by simp at z
  · obtain ⟨z1, z2⟩ := low b o q
    rw [off b z1 z2]
    exact n
  · by_cases hb : b ∈ as
    · obtain ⟨j, pk, e1, e2, e3⟩ := paired_ix atP hb
      rw [e3] at q
      cases q
      obtain ⟨pk', key, x, f1, f2, f4, f3⟩ := hG j b e1
      rw [f1] at e2
      cases e2
      exact ⟨by show 2 ≤ sizeLine; decide, [key, x], .cons f2 (.cons f4 .nil), ⟨_, f3, rfl, _, rfl⟩⟩
    · by_cases hb2 : b = S
      · rw [hb2] at q ⊢
        rw [eS] at q
        cases q
        refine ⟨by rw [List.length_map]; omega, acc.toList, c, by rw [hacc]; exact LiI.vals_refs as, ?_⟩
        rw [Array.toArray_toList]
        exact hS
      · rw [off b hb hb2] at q
        exact (I.hok b u q).stay (fun d v _ y => hk d v y) (fun d y => kp d _ y) fun d xs y => kp d _ y
/-- the items with their numbers from c on -/
def enK (c : Int) (xs : List V) : List (L2.Key × V) := (List.range xs.length).map fun i => (Sum.inl (c + (i : Nat)), xs.getD i .non)
def tListEn (K : PySem.W.Frag) (ta tk : TA) : TE := fun σ H Q => ta σ H fun vs H1 => tk σ H1 fun zs H2 => ∃ (a : Addr) (xs : List V) (c : Int), vs = [.ref a] ∧ zs = [.int c] ∧ -1000000 ≤ c ∧ c ≤ 1000000 ∧ SqL K H2 a xs ∧
  ∀ (H' : Hp) (p : Addr) (ts : List Addr), (∀ b o, H2 b = some o → H' b = some o) → H2 p = none → H' p = some (.lst (ts.map V.ref)) → Paired (fun (t : Addr) (q : L2.Key × V) => H' t = some (.tup [kV q.1, q.2])) ts (enK c xs) → Q (.ref p) H'
section
variable {X : Cx} {e : Expr} {ta tk : TA} {p p2 pos pos2 : Pos} {kws : List Keyword}
theorem pe_listEn (hc : X.calm = true) (ha : PA X [e] ta) (hk : PK X kws tk) (hg : Gl X "list") (hm : X.mg "list" = none) (hv : bootBuiltins "list" = some (.type "list")) (hg2 : Gl X "enumerate") (hm2 : X.mg "enumerate" = none)
    (hks : (backToKw pos2 (keywordEach kws X.env)).filterMap (·.1) = [Str.ofString "start"] := by rfl)
    (he : backTo pos2 (starEach [e] X.env) = (false, eval e X.env) :: backTo pos2 (starEach [] X.env) := by rfl) (hpl : (backTo pos2 (starEach [e] X.env)).any (·.1) = false := by rfl)
    (hall : (backToKw pos2 (keywordEach kws X.env)).all (·.1.isSome) = true := by rfl) (hnone : (backToKw pos2 (keywordEach kws X.env)).any (·.1.isNone) = false := by rfl)
    (hs : starEach [.Call (.Name "enumerate" p2) [e] kws pos2] X.env = (false, eval (.Call (.Name "enumerate" p2) [e] kws pos2) X.env) :: starEach [] X.env := by rfl) :
    PE X (.Call (.Name "list" p) [.Call (.Name "enumerate" p2) [e] kws pos2] [] pos) (tListEn X.K ta tk) := by
  refine ⟨fun pins s σ H Q I hq => ?_⟩
  refine wpAny_Call_Name_kw (ld_blt I hg hm hv ?_)
  refine PyProof.Rows.callWith_type1 ?_ hs rfl
  rw [hs]
  show wpAny _ _ (spliced ((false, eval (.Call (.Name "enumerate" p2) [e] kws pos2) X.env) :: backTo pos (starEach [] X.env))) _ _ s
  refine Calls.spliced_cons ?_
  refine wpAny_Call_Name_kw (ld_blt I hg2 hm2 boot_enumerate ?_)
  refine callWith_typeKw (thn (ha.run pos2 pins s σ H _ I hq) fun us s1 ⟨vs, H1, I1, r1, q1⟩ => thn (hk.run pos2 pins s1 σ H1 _ I1 q1) fun ws s2 ⟨zs, H2, I2, r2, q2⟩ => ?_) he hpl hall hnone
  rw [hks]
  obtain ⟨a, xs, c, rfl, rfl, c0, c1, hq', q⟩ := q2
  obtain rfl := Vals.ref1 r1
  obtain ⟨w1, rfl, t1, rfl⟩ := vals1 r2
  obtain ⟨its, rv, pl, hz⟩ := I2.list hq'
  refine PySem.enum_begins_start (begins_list a its.toArray) pl.isList (by omega) (by omega) fun h1 hen hit0 hsz hk1 => ?_
  refine Calls.spliced_nil ?_
  have hit : h1.IsListIter s2.heap.objs.size a 0 := ⟨_, hit0, rfl, rfl⟩
  have pl1 : h1.IsList a its.toArray := let ⟨o, ho, r⟩ := pl.isList; ⟨o, hk1 a o ho, r⟩
  have la : a < s2.heap.objs.size := let ⟨o, ho, _⟩ := pl.isList; Heap.lt_size ho
  refine en_call (s := { s2 with heap := h1 }) (c := c) (I2.ok.hd hc) (Nat.succ_ne_self _) (Nat.ne_of_lt la) (Nat.ne_of_lt (Nat.lt_succ_of_lt la)) (by rw [List.size_toArray, ← rv.length]; exact hz) hen hit pl1 fun h' tk' acc k as hkp hS' hl' hG hacc => ?_
  have hlen : as.length = (enK c xs).length := by
    rw [hl', List.size_toArray, ← rv.length]
    unfold enK
    rw [List.length_map, List.length_range]
  obtain ⟨H', k1, k2, k3, k4, k5, k6, J⟩ := laidS (X := X) (tk := tk') (kvs := enK c xs) (S := h1.objs.size) (as := as) I2 (by rw [← hlen, hl', List.size_toArray, ← rv.length]; exact hz) (by rw [hsz]; exact Nat.le_add_right _ _)
    (fun b o e => hkp b o (Nat.ne_of_lt (Nat.lt_succ_of_lt (Heap.lt_size e))) (Nat.ne_of_lt (Heap.lt_size e)) (hk1 b o e)) hS' hlen hG.rise hG.above (fun j b hj => by
      obtain ⟨t, x, e1, e2⟩ := hG.pairs j b hj
      have e1 : its[j]? = some x := by simpa using e1
      have hjn : j < xs.length := by
        have := (List.getElem?_eq_some_iff.mp e1).1
        rw [rv.length]
        exact this
      obtain ⟨u, hu, ru⟩ := rv.get (List.getElem?_eq_getElem hjn)
      rw [e1] at hu
      cases hu
      refine ⟨(Sum.inl (c + (j : Nat)), xs[j]), _, _, ?_, ⟨t, rfl⟩, ru, e2⟩
      unfold enK
      rw [List.getElem?_map, List.getElem?_range hjn, Option.map_some, List.getD_eq_getElem?_getD, List.getElem?_eq_getElem hjn]
      rfl) hacc
  exact ⟨.ref _, H', J, rfl, q H' _ as k1 k2 k5 k6⟩
end
end EnL
end S_Xd
section S_Xe
namespace EnL
open PySem PySem.Spec PyProof.Rows L2 Tl
/-- the tuple at a as it stands at each turn, each item in a new pair with its number, c the first -/
def IteS (K : PySem.W.Frag) (a : Addr) (c : Int) : It :=
  ⟨fun i H => ∃ (xs : List V) (x : V), SqT K H a xs ∧ xs[i]? = some x, fun i H v H' => ∃ T x, v = .ref T ∧ H T = none ∧ H' = upd H T (.tup [.int (c + (i : Nat)), x]) ∧ ∀ xs, SqT K H a xs → xs[i]? = some x, fun i H => ∃ xs : List V, SqT K H a xs ∧ xs.length ≤ i⟩
abbrev EnS (a e it : Addr) (c : Int) (i : Nat) (h : Heap) : Prop := (∃ old, IsEnum h e it (c + (i : Nat)) old) ∧ h.IsTupleIter it a i ∧ e ≠ it
theorem turn_enumS {P : Program} {w : World} {K : PySem.W.Frag} {elts : List Expr} {kk : Nat} {tpos : Pos} (a e it : Addr) (c : Int) : Turn P w K (.Tuple elts kk tpos) (IteS K a c) [e, it] e (EnS a e it c) where
  mem := List.mem_cons_self
  obj := fun i h st b hb => by
    obtain ⟨⟨old, he⟩, ⟨o, ho, hc, hd⟩, _⟩ := st
    rcases List.mem_cons.mp hb with z | z
    · rw [z]; exact ⟨_, he, fun v q => nomatch q⟩
    · rw [List.mem_singleton.mp z]; exact ⟨o, ho, fun v q => by rw [hd] at q; cases q⟩
  keep := fun i h h' st k => ⟨st.1.imp fun old he => k e (by simp) _ he, st.2.1.at fun o q => k it (by simp) o q, st.2.2⟩
  item := by
    intro X hP hw hK hc i pins s σ H E I hf st hg
    subst hP hw hK
    obtain ⟨⟨old, he⟩, hit, hne⟩ := st
    obtain ⟨xs, x, hq, hx⟩ := hg
    obtain ⟨its, rv, p, hz⟩ := I.tuple hq
    obtain ⟨u, hu, ru⟩ := rv.get hx
    have hai : a ≠ it := tup_ne p hit
    have hae : a ≠ e := tup_ne2 p he
    have le : e < s.heap.objs.size := Heap.lt_size he
    have li : it < s.heap.objs.size := by obtain ⟨_, q, _⟩ := hit; exact Heap.lt_size q
    have isz : i < its.toArray.size := by simpa using (List.getElem?_eq_some_iff.mp hu).1
    refine wpAny_pyNext_enum_itemC (Draws.tuple (show X.A.in1.handled = none from I.ok.hd hc) it a hai its.toArray) he ⟨hit, p⟩ isz hne (by simp [hne, Ne.symm hae]) fun y g tk hy ho hst hT hsz hk => ?_
    have ey : y = u := by
      rw [show its.toArray[i]? = its[i]? by simp, hu] at hy
      exact (Option.some.inj hy).symm
    subst ey
    refine ⟨_, rfl, wpAny_letOwnedTupleGo_enum (s := { s with heap := g, toks := tk + 1 }) ho fun g2 he' sb => ?_⟩
    have at2 : g2.get? s.heap.objs.size = some { cls := .type "tuple", data := .seq #[.int (c + (i : Nat)) tk, y] } := (sb.2 _ (Nat.ne_of_gt le)).trans hT
    have new : ObjOk X.prog X.w (upd H s.heap.objs.size (.tup [.int (c + (i : Nat)), x])) g2 s.heap.objs.size (.tup [.int (c + (i : Nat)), x]) :=
      ⟨by show 2 ≤ sizeLine; decide, [.int (c + (i : Nat)) tk, y], .cons ⟨_, rfl⟩ (.cons ru .nil), ⟨_, at2, rfl, _, rfl⟩⟩
    have old2 : ∀ b ob, b ∉ [e, it] → s.heap.get? b = some ob → g2.get? b = some ob := fun b ob hb q =>
      (sb.2 b fun z => hb (by simp [z])).trans (hk b ob (fun z => hb (by simp [z])) (fun z => hb (by simp [z])) q)
    have I1 : Inv X pins σ (upd H s.heap.objs.size (.tup [.int (c + (i : Nat)), x])) { s with heap := g2, toks := tk + 1 } := I.turnedNew (ch := [e, it]) old2 hf (Nat.le_refl _) new
    refine ⟨.ref s.heap.objs.size, _, I1, rfl, ⟨_, x, rfl, I.hok.fresh (Nat.le_refl _), rfl, fun ys hy => by rw [I.tuple_inj hy hq]; exact hx⟩, ⟨⟨y, ?_⟩, hst.1.at fun o q => (sb.2 it (Ne.symm hne)).trans q, hne⟩, fun b hb => ?_⟩
    · show IsEnum g2 e it (c + ((i + 1 : Nat) : Int)) y
      rw [show c + ((i + 1 : Nat) : Int) = c + (i : Int) + 1 by omega]
      exact he'
    · have lb : b < s.heap.objs.size := by
        rcases List.mem_cons.mp hb with z | z
        · rw [z]; exact le
        · rw [List.mem_singleton.mp z]; exact li
      rw [upd_ne (Nat.ne_of_lt lb)]
      exact (hf b hb).1
  done := by
    intro X hP hw hK hc i pins s σ H E I hf st hg
    subst hP hw hK
    obtain ⟨⟨old, he⟩, hit, hne⟩ := st
    obtain ⟨xs, hq, hx⟩ := hg
    obtain ⟨its, rv, p, hz⟩ := I.tuple hq
    obtain ⟨f0, f1, f2, f3, f4, f5⟩ := hf it (by simp)
    have hn := rv.length
    have hai : a ≠ it := tup_ne p hit
    have D : Draws X.prog X.w X.A.in1 it [it, a] i (fun _ _ => False) (fun j h => h.IsTupleIter it a j ∧ h.IsTuple a its.toArray ∧ j = i) :=
      { live := fun _ _ st => let ⟨o, ho, _⟩ := st.1; ⟨o, ho⟩
        frame := fun _ _ _ st hk => ⟨st.1.at fun o e => hk it (by simp) o e, st.2.1.at fun o e => hk a (by simp) o e, st.2.2⟩
        item := fun j s Q E hj st _ => absurd st.2.2 (Nat.ne_of_lt hj)
        done := fun s Q E st hE => RZ.nextOf_tuple_end (show X.A.in1.handled = none from I.ok.hd hc) st.1 st.2.1 (by simp; omega) hE }
    exact wpAny_pyNext_enum_endD D he ⟨hit, p, rfl⟩ fun g eb => ⟨rfl, I.turned (t' := s.toks) (fun b o hb q => eb b o hb q) f0 f1 f3 f4 f5⟩
  self := fun A i s Q E st h => let ⟨⟨_, he⟩, _⟩ := st; wpAny_pyIter_enum he h
def iEnumS (K : PySem.W.Frag) (ta tk : TA) : TI := fun σ H R => ta σ H fun vs H1 => tk σ H1 fun zs H2 => ∃ a xs c, vs = [.ref a] ∧ zs = [.int c] ∧ -1000000 ≤ c ∧ c ≤ 1000000 ∧ SqT K H2 a xs ∧ R (IteS K a c) H2
theorem pi_enumS {X : Cx} {e : Expr} {ta tk : TA} {p pos tpos : Pos} {elts : List Expr} {kk : Nat} {kws : List Keyword} (hg : Gl X "enumerate") (hm : X.mg "enumerate" = none) (ha : PA X [e] ta) (hk : PK X kws tk)
    (hks : (backToKw pos (keywordEach kws X.env)).filterMap (·.1) = [Str.ofString "start"] := by rfl)
    (he : backTo pos (starEach [e] X.env) = (false, eval e X.env) :: backTo pos (starEach [] X.env) := by rfl) (hpl : (backTo pos (starEach [e] X.env)).any (·.1) = false := by rfl)
    (hall : (backToKw pos (keywordEach kws X.env)).all (·.1.isSome) = true := by rfl) (hnone : (backToKw pos (keywordEach kws X.env)).any (·.1.isNone) = false := by rfl) :
    PI X (.Tuple elts kk tpos) (.Call (.Name "enumerate" p) [e] kws pos) (iEnumS X.K ta tk) := by
  refine ⟨fun pins s σ H R I h => ?_⟩
  refine wpAny_Call_Name_kw (ld_blt I hg hm boot_enumerate ?_)
  refine callWith_typeKw (thn (ha.run pos pins s σ H _ I h) fun us s1 ⟨vs, H1, I1, r1, q1⟩ => thn (hk.run pos pins s1 σ H1 _ I1 q1) fun ws s2 ⟨zs, H2, I2, r2, q2⟩ => ?_) he hpl hall hnone
  rw [hks]
  obtain ⟨a, xs, c, rfl, rfl, c0, c1, hq, q⟩ := q2
  obtain rfl := Vals.ref1 r1
  obtain ⟨w1, rfl, t1, rfl⟩ := vals1 r2
  obtain ⟨its, rv, p', hz⟩ := I2.tuple hq
  refine PySem.enum_begins_start (begins_tuple a its.toArray) p' (by omega) (by omega) fun g he hit hsz hk => wpAny_pyIter_enum he ?_
  have e0 : c + ((0 : Nat) : Int) = c := by omega
  refine ⟨s2.heap.objs.size + 1, [s2.heap.objs.size + 1, s2.heap.objs.size], _, _, H2, rfl, I2.kept (t' := s2.toks) hk, turn_enumS a (s2.heap.objs.size + 1) s2.heap.objs.size c, ⟨⟨.none, by rw [e0]; exact he⟩, ⟨_, hit, rfl, rfl⟩, Nat.succ_ne_self _⟩, fun b hb => ?_, q⟩
  have le : s2.heap.objs.size ≤ b := by
    rcases List.mem_cons.mp hb with z | z
    · rw [z]; exact Nat.le_add_right _ _
    · rw [List.mem_singleton.mp z]; exact Nat.le_refl _
  exact I2.fpOk le (I2.hok.fresh le)
theorem walk_enumS {K : PySem.W.Frag} {a : Addr} {c : Int} {xs : List V} : Walk (IteS K a c) xs.length (fun H => SqT K H a xs) (YPair (fun i => some (.int (c + (i : Nat)))) (fun i => xs[i]?)) := by
  refine ⟨fun i _ hi q => ⟨xs, xs[i], q, by simp [hi]⟩, fun _ q => ⟨xs, q, Nat.le_refl _⟩, fun i H v H' _ q y => ?_⟩
  obtain ⟨T, x, h1, h2, h3, h4⟩ := y
  exact ⟨T, .int (c + (i : Nat)), x, h1, h2, h3, rfl, h4 xs q⟩
theorem ei_enumS {K : PySem.W.Frag} {σ : L2.St} {H : Hp} {a : Addr} {xs : List V} {ta tk : TA} {c : Int} (h : Evl.EvA ta σ H [.ref a]) (h2 : Evl.EvA tk σ H [.int c]) (hx : SqT K H a xs) (c0 : -1000000 ≤ c) (c1 : c ≤ 1000000) : EvI (iEnumS K ta tk) σ H xs.length (YPair (fun i => some (.int (c + (i : Nat)))) (fun i => xs[i]?)) := fun H1 e R k =>
  h H1 e _ fun H2 e2 => h2 H2 (e.trans e2) _ fun H3 e3 => ⟨a, xs, c, rfl, rfl, c0, c1, Evl.ex_t ((e.trans e2).trans e3) hx, k _ _ H3 (e2.trans e3) walk_enumS fun A ab _ => Evl.ex_t ab hx⟩
theorem aims_enumS {K : PySem.W.Frag} {xs : List V} {j1 j2 : Nat} {c : Int} : Aims (gTup K 2 (gCons (gName j1) (gCons (gName j2) gNil))) xs.length (YPair (fun i => some (.int (c + (i : Nat)))) (fun i => xs[i]?))
    (fun i σ => (σ.set j1 (some (.int (c + (i : Nat))))).set j2 (some (xs.getD i .non))) := fun i σ H v H' hi y => by
  obtain ⟨T, x, y, rfl, hT, rfl, h1, h2⟩ := y
  cases h1
  have h3 : xs[i]? = some y := h2
  obtain rfl : xs.getD i .non = y := by rw [List.getD_eq_getElem?_getD, h3]; rfl
  exact ⟨Evl.Ex.new hT, fun Q q => ⟨T, _, rfl, Evl.st_of upd_same, rfl, _, _, rfl, _, _, rfl, rfl, q⟩⟩
/-! ### a call by keywords alone, which may raise -/
def tCallSN (m : Nat) (sp : Sp) (gV : List V → List V → List V) (E : L2.St → XK) (tk : TA) : TE := fun σ H Q => tk σ H fun zs H2 => zs.length = m ∧ sp (gV [] zs) H2 Q (E σ)
theorem run_fnSN {X : Cx} {CX : CXT} {k n : Nat} {f : Addr} {fd : FuncData} {ps ks : List Str} {sp : Sp} {E : L2.St → XK} {g : List Value → List Value → List Value} {gV : List V → List V → List V} {pins : List (Addr × Obj)} {σ : L2.St} {H : Hp} {s : Shared} {Q : VK} {us ws : List Value} {vs zs : List V} (F : FnOk X.prog X.w X.K X.mg X.base CX k f fd ps sp) (hr : Room k X.A) (hb : KBn X.K fd ps n ks g gV) (hx : PassesAt CX X σ (E σ))
    (I : Inv X pins σ H s) (r : Vals vs us) (rz : Vals zs ws) (l1 : vs.length = n) (l2 : zs.length = ks.length) (h : sp (gV vs zs) H Q (E σ)) : wpAny (model X.prog X.w) X.A (call (.ref f) us (ks.zip ws)) (EP X pins σ Q) X.xe s := by
  have r2 := hb.rel r rz
  refine wpAny_call (codeAny_mono (F.run X.A X.stack s H ⟨us, ks.zip ws⟩ (g us ws) (gV vs zs) Q (E σ) hr I.env0 (hb.to s us ws I.kIn (r.length.symm.trans l1) (rz.length.symm.trans l2)) r2 h) fun r s' hq => ?_)
  cases r with
  | error e => exact hx pins H s e s' I hq
  | ok fl =>
    cases fl with
    | ret u => exact I.after hq
    | next => exact False.elim hq
    | brk => exact False.elim hq
    | cont => exact False.elim hq
theorem pe_callSN {X : Cx} {CX : CXT} {k : Nat} {f : Addr} {fd : FuncData} {ps ks : List Str} {sp : Sp} {E : L2.St → XK} {x : Str} {p pos : Pos} {kws : List Keyword} {tk : TA} {g : List Value → List Value → List Value} {gV : List V → List V → List V}
    (F : FnOk X.prog X.w X.K X.mg X.base CX k f fd ps sp) (hr : Room k X.A) (hg : Gl X x) (hm : X.mg x = some (.ref f)) (hk : PySem.W.keepIn X.K (.ref f) = true) (hb : KBn X.K fd ps 0 ks g gV) (hx : ∀ σ, PassesAt CX X σ (E σ))
    (hkw : PK X kws tk) (hall : (backToKw pos (keywordEach kws X.env)).all (·.1.isSome) = true := by rfl) (hks : (backToKw pos (keywordEach kws X.env)).filterMap (·.1) = ks := by rfl) (hdb : (x == ("__debug__" : Str)) = false := by decide)
    (hpl : ((backTo pos (starEach [] X.env)).any (·.1) || (backToKw pos (keywordEach kws X.env)).any (·.1.isNone)) = false := by rfl) :
    PE X (.Call (.Name x p) [] kws pos) (tCallSN ks.length sp gV E tk) := by
  constructor
  intro pins s σ H Q I h
  refine wpAny_Call_Name_kw (ld_glob I hg hm (PySem.W.callWith_KW0 (h₀ := X.base) I.ok.mod.kin hk hall (thn (hkw.run pos pins s σ H _ I h) fun ws s2 hv => ?_) hpl) hdb)
  obtain ⟨zs, H2, I2, rz, l2, q2⟩ := hv
  refine ⟨I2.kIn, ?_⟩
  rw [hks]
  exact run_fnSN (us := []) (vs := []) F hr hb (hx σ) I2 .nil rz rfl l2 q2
/-! ### str of an instance that has its own -/
def rStrIns (C : Addr) (sp : Sp) (E : XK) : List V → Hp → VK → Prop := fun xs H Q => ∃ (a : Addr) (dx : Addr) (fs : List (Str × V)), xs = [.ref a] ∧ H a = some (.ins C dx fs) ∧ sp [.ref a] H (fun v H' => (∃ z, v = .str z) ∧ Q v H') E
theorem call_strIns {X : Cx} {CX : CXT} {k : Nat} {C f : Addr} {fd : FuncData} {ps : List Str} {sp : Sp} {E : XK} (F : FnOk X.prog X.w X.K X.mg X.base CX k f fd ps sp) (hr : Room (k + 2) X.A)
    (hs : PySem.W.findIn X.K (.ref C) "__str__" = some (some (.ref f))) (hf : PySem.W.isFn X.K (.ref f) = true) (hb : Binds X.K fd ps []) (hx : Passes CX X E) : CallR X (.type "str") (rStrIns C sp E) := by
  intro pins s σ H xs us Q I r h
  obtain ⟨a, dx, fs, rfl, ha, hsp⟩ := h
  obtain rfl := Vals.ref1 r
  obtain ⟨mA, J, _⟩ := ins_get I.hok ha
  obtain ⟨od, J, _⟩ := J.look
  refine PySem.W.kso_call (A := X.A) (by have := hr.un; show X.A.units + 1 + 1 < _; omega) I.kIn J hs hf ?_
  have e0 : Env0 X.prog X.w X.K X.mg X.base X.A.in1.in1 X.stack s H := by
    have e := I.env0
    exact ⟨e.frames, e.mod, e.bs, e.bsz, e.funs, e.frf, e.hok, e.bare⟩
  have hl := F.len _ _ _ _ hsp
  have r2 : Vals [V.ref a] [Value.ref a] := .cons rfl .nil
  refine wpAny_call (codeAny_mono (F.run X.A.in1.in1 X.stack s H ⟨[.ref a], []⟩ [.ref a] [.ref a] _ E (Room.in1 (Room.in1 hr)) e0 (by
    have := hb s [.ref a] I.kIn (by simpa using hl)
    simpa using this) r2 hsp) fun r s' hq => ?_)
  cases r with
  | error e => exact hx pins σ H s e s' I hq
  | ok fl =>
    cases fl with
    | ret w =>
      obtain ⟨z, H', I', rz, ⟨x, ez⟩, q⟩ := I.after hq
      subst ez
      obtain ⟨t, rfl⟩ := rz
      exact ⟨.str x, H', I', ⟨t, rfl⟩, q⟩
    | next => exact False.elim hq
    | brk => exact False.elim hq
    | cont => exact False.elim hq
end EnL
end S_Xe
section S_Ro
namespace EnL
open PySem PySem.Spec PyProof.Rows L2 Tl
/-! ### C(k=..), where an error of the class is caught -/
def tMakeSN (C : Addr) (n : Nat) (sp : Sp) (gV : List V → List V → List V) (E : L2.St → XK) (tk : TA) : TE := fun σ H Q => tk σ H fun zs H1 => zs.length = n ∧ ∀ x dx, H1 x = none → H1 dx = none → dx ≠ x → sp (gV [.ref x] zs) (upd (upd H1 dx (.own x)) x (.ins C dx [])) (fun v H2 => v = .non ∧ Q (.ref x) H2) (E σ)
theorem pe_makeSN {X : Cx} {CX : CXT} {k : Nat} {f C : Addr} {fd : FuncData} {ps ks : List Str} {sp : Sp} {E : L2.St → XK} {x : Str} {p pos : Pos} {kws : List Keyword} {tk : TA} {g : List Value → List Value → List Value} {gV : List V → List V → List V}
    (M : Mk X.K C f) (F : FnOk X.prog X.w X.K X.mg X.base CX k f fd ps sp) (hr : Room (k + 1) X.A) (hg : Gl X x) (hm : X.mg x = some (.ref C)) (hb : KBn X.K fd ps 1 ks g gV) (hx : ∀ σ, PassesAt CX X σ (E σ))
    (hkw : PK X kws tk) (hall : (backToKw pos (keywordEach kws X.env)).all (·.1.isSome) = true := by rfl) (hks : (backToKw pos (keywordEach kws X.env)).filterMap (·.1) = ks := by rfl) (hdb : (x == ("__debug__" : Str)) = false := by decide)
    (hpl : ((backTo pos (starEach [] X.env)).any (·.1) || (backToKw pos (keywordEach kws X.env)).any (·.1.isNone)) = false := by rfl) :
    PE X (.Call (.Name x p) [] kws pos) (tMakeSN C ks.length sp gV E tk) := by
  constructor
  intro pins s σ H Q I h
  refine wpAny_Call_Name_kw (ld_glob I hg hm (PySem.W.callWith_KW0 (h₀ := X.base) I.ok.mod.kin M.kp hall (thn (hkw.run pos pins s σ H _ I h) fun ws s2 hv => ?_) hpl) hdb)
  obtain ⟨zs, H2, I2, rz, l2, q2⟩ := hv
  refine ⟨I2.kIn, ?_⟩
  rw [hks]
  have n1 : H2 (s2.heap.objs.size + 1) = none := I2.hok.fresh (Nat.le_succ _)
  have n2 : H2 s2.heap.objs.size = none := I2.hok.fresh (Nat.le_refl _)
  have q3 := q2 (s2.heap.objs.size + 1) s2.heap.objs.size n1 n2 (Nat.ne_of_lt (Nat.lt_succ_self _))
  have I3 := I2.made (C := C)
  have r2 : Vals (gV [.ref (s2.heap.objs.size + 1)] zs) (g [.ref (s2.heap.objs.size + 1)] ws) := hb.rel (.cons rfl .nil) rz
  refine wpAny_call (Att.make_obj I2.kIn M.makes M.init M.fn (codeAny_mono (F.run _ X.stack _ _ ⟨[.ref (s2.heap.objs.size + 1)], ks.zip ws⟩ _ _ _ (E σ) (Room.make hr C [] _) ?_ (hb.to _ [.ref (s2.heap.objs.size + 1)] ws I3.kIn rfl (rz.length.symm.trans l2)) r2 q3) fun r s' hq => ?_))
  · have e := I3.env0
    exact ⟨e.frames, e.mod, e.bs, e.bsz, e.funs, e.frf, e.hok, e.bare⟩
  · cases r with
    | error e => exact hx σ pins _ _ e s' I3 hq
    | ok fl =>
      cases fl with
      | ret u =>
        obtain ⟨v, H', I', rv, hv, q⟩ := I3.after hq
        subst hv
        exact ⟨rv, .ref _, H', I', rfl, q⟩
      | next => exact False.elim hq
      | brk => exact False.elim hq
      | cont => exact False.elim hq
end EnL
end S_Ro
section S_Xl
namespace Hk
open PySem PySem.Spec PyProof.Rows L2
/-! ### try: .. / except C as e: .. / except ..: .., where the first clause takes every error -/
section
variable {X : Cx} {pins : List (Addr × Obj)} {σ : L2.St} {H : Hp} {s : Shared}
/-- the wish of the body of a try whose first clause takes every error of the body; the slot i is that clause's name's -/
def wFst (K : PySem.W.Frag) (c : Value) (i : Nat) (ts : Addr → Value → Option Addr → TS) (D : Ends) : WX := fun cls d σ H =>
  PySem.W.exmOne K cls c = some true ∧ ∀ a, H a = none → ts a cls d { nx := fun σ' H' => D.nx (σ'.set i none) H', rt := D.rt, bk := fun _ _ => False, ct := fun _ _ => False } (σ.set i (some (.ref a))) H
theorem ps_first {x n : Str} {c : Value} {i : Nat} {body suite : List Stmt} {b₀ : Stmt} {np pos pos' : Pos} {hds : List ExceptHandler} {tb : WX → TS} {ts : Addr → Value → Option Addr → TS}
    (hst : X.stack = X.env :: X.outer) (hf : X.env.frame = some X.env.locals) (nd : X.N.Nodup) (hi : X.N[i]? = some n) (kn : X.env.kindOf n = some .local) (hc : Names X x c)
    (hb : ∀ (W : WX) (pn : List (Addr × Obj)) (xe : Value → Shared → Prop), Takes (X.tr pn xe) W → PassesOwn (model X.prog X.w) X.A X.env xe → PSs (X.tr pn xe) body (tb W))
    (hsu : ∀ (a : Addr) (oe : Obj) (cls : Value) (d : Option Addr) (pn : List (Addr × Obj)), Zc cls d oe → (∃ vs, oe.data = .fields vs) → PSs (X.suite a ((a, oe) :: pn)) (b₀ :: suite) (ts a cls d)) :
    PS X (.Try body (.ExceptHandler (some (.Name x np)) (some n) (b₀ :: suite) pos' :: hds) [] [] pos) (fun D σ H => tb (wFst X.K c i ts D) D σ H) := by
  constructor
  intro pins s σ H D I h
  have frs_ : X.A.frames = some (X.env :: X.outer) := by rw [I.ok.frames, hst]
  have ok := I.ok
  refine wpAny_Try_except (wpAny_mono ((hb (wFst X.K c i ts D) (X.pn ++ pins) (fun e s₁ => wpAny (model X.prog X.w) X.A (noteFrame e X.env) (fun _ s₂ => wpAny (model X.prog X.w) X.A (setFlight e none) (fun _ s₃ =>
    wpAny (model X.prog X.w) X.A (handleBy e X.env (.ExceptHandler (some (.Name x np)) (some n) (b₀ :: suite) pos' :: hds)) (SP X pins D) X.xe s₃) X.xe s₂) X.xe s₁) (fun u s' air => ?_) PassesOwn.looking).run [] s σ H D (I.toTry _) h) (fun f s1 hsp => ?_) fun _ _ z => z)
  · obtain ⟨a, B, sI, pins', σ', H', cls, d, rfl, J0, nb, up, sky, na, os, ag, hexm, hts⟩ := air
    have J : Inv X pins σ' H' sI := J0.ofTry ok
    have Ba : B.get? a = none := by
      rcases sky with q | q | q
      · exact q.2.1
      · exact q.2.1
      · exact q.2.1
    rw [hst] at sky
    show wpAny (model X.prog X.w) X.A (noteFrame (.ref a) X.env) _ _ _
    refine Sky.land Zc.steady frs_ hf sky fun h3 fl3 up3 => ?_
    have J3 : Inv X pins σ' H' { s' with heap := h3 } := J.landed nb fl3.1 (up.trans up3) os ag
    obtain ⟨o3, v3, at3, z3, d3⟩ := fl3.there
    have off : ∀ {hh : Heap} {o : Obj} {vs : Array Value}, hh.FunFrames B (X.env :: X.outer) → hh.get? a = some o → o.data = .fields vs → a ∉ frs (X.env :: X.outer) := by
      intro hh o vs ff e dd hm
      obtain ⟨_, o', e', q⟩ := ff.mem hm
      rw [e] at e'
      cases e'
      exact q _ dd
    have offa := off fl3.2.2.1 at3 d3
    have nL : a ≠ X.env.locals := fun q => offa (List.mem_filterMap.mpr ⟨X.env, List.mem_cons_self, by rw [hf, q]⟩)
    have nF : a ∉ X.fs := fun hm => by
      obtain ⟨e, he, q⟩ := List.mem_filterMap.mp hm
      exact offa (List.mem_filterMap.mpr ⟨e, List.mem_cons_of_mem _ he, q⟩)
    have S3 := J3.suite at3 d3 na nL nF
    refine wpAny_handleBy_cons (codeAny_handlers_test ?_) (fun q => nomatch q)
    have LT : PySem.W.Looks (model X.prog X.w) h3 (typeOf (.ref a)) cls := fun A Q E s k q => wpAny_typeOf_ref (k _ _ at3) (by rw [z3.1]; exact q)
    have LM := PySem.W.exm_one (M := model X.prog X.w) (J3.kIn) LT hexm
    have look : ∀ {Q : Value → Shared → Prop} {E : Value → Shared → Prop}, Q c { s' with heap := h3 } → wpAny (model X.prog X.w) (X.A.mark (some (.ref a))) (eval (.Name x np) X.env) Q E { s' with heap := h3 } := by
      intro Q E q
      rcases hc with ⟨hg, hdb, hm | ⟨hm, hv, hnn⟩⟩
      · exact ld_glob (X := X.suite a ((a, o3) :: (X.pn ++ pins))) S3 hg hm q hdb
      · exact ld_blt (X := X.suite a ((a, o3) :: (X.pn ++ pins))) S3 hg hm hv q hnn hdb
    refine look (LM.here (codeAny_handlers_suite_as (HandSPX.lands_againZ fl3 fun h4 fl4 up4 => ?_)))
    have J4 : Inv X pins σ' H' { s' with heap := h4 } := J.landed nb fl4.1 ((up.trans up3).trans up4) os ag
    obtain ⟨o4, v4, at4, z4, d4⟩ := fl4.there
    refine store_ok (X := X.suite a ((a, o4) :: (X.pn ++ pins))) (v := .ref a) (J4.suite at4 d4 na nL nF) nd hi (.inl kn) rfl (fun s5 S5 => ?_) (.inr kn)
    refine wpAny_mono ((hsu a o4 cls d (X.pn ++ pins) z4 ⟨_, d4⟩).run [] s5 _ H' _ S5 (hts a na)) (fun f s6 hsp => ?_) (fun _ _ z => False.elim z)
    cases f with
    | next =>
      obtain ⟨σ6, H6, S6, q6⟩ := hsp
      exact gone_ok (S6.unsuite ok) nd hi kn fun s7 J7 => ⟨_, _, J7, q6⟩
    | brk => exact hsp.elim fun _ q => q.elim fun _ q => q.2.elim
    | cont => exact hsp.elim fun _ q => q.elim fun _ q => q.2.elim
    | ret u =>
      obtain ⟨v6, σ6, H6, S6, r6, q6⟩ := hsp
      exact gone_ok (S6.unsuite ok) nd hi kn fun s7 J7 => ⟨_, _, _, J7, r6, q6⟩
  · cases f with
    | next =>
      obtain ⟨σ', H', J', q⟩ := hsp
      exact wpAny_execs_nil ⟨σ', H', J'.ofTry ok, q⟩
    | ret u =>
      obtain ⟨v, σ', H', J', r, q⟩ := hsp
      exact ⟨v, σ', H', J'.ofTry ok, r, q⟩
    | brk =>
      obtain ⟨σ', H', J', q⟩ := hsp
      exact ⟨σ', H', J'.ofTry ok, q⟩
    | cont =>
      obtain ⟨σ', H', J', q⟩ := hsp
      exact ⟨σ', H', J'.ofTry ok, q⟩
end
end Hk
end S_Xl
section S_Baw
namespace P41
open PySem PySem.Spec PyProof.Rows L2 Tl Hk RZ EnL
/-! ### a tree made, or what is said of it -/
abbrev nMd : List Str := ["bags", "above", "found", "part", "error"]
theorem scLMade : FnScope nMd ["bags", "above"] (defScope sLMade) := ⟨rfl, rfl, rfl, by decide +kernel, rfl, by decide +kernel, by decide +kernel⟩
def mk3 {α : Type} : List α → List α → List α
  | [x], [u, b] => [x, b, u]
  | _, _ => []
theorem mk3_rel {vs zs : List V} {us ws : List Value} (h1 : Vals vs us) (h2 : Vals zs ws) : Vals (mk3 vs zs) (mk3 us ws) := by
  cases h1 with
  | nil => exact .nil
  | cons a t =>
    cases t with
    | nil =>
      cases h2 with
      | nil => exact .nil
      | cons b t2 =>
        cases t2 with
        | nil => exact .nil
        | cons c t3 =>
          cases t3 with
          | nil => exact .cons a (.cons c (.cons b .nil))
          | cons _ _ => exact .nil
    | cons _ _ => exact .nil
/-- what comes of it -/
def Made (K : PySem.W.Frag) (C : Addr) (H : Hp) (f : V) (rb : Option (List (Option (List V)))) (ru : Option (List V)) : Prop := wrongV rb ru = .non → ∃ bs ups x, rb = some (bs.map rowV) ∧ ru = some (ups.map uv) ∧ TreeOk bs ups ∧ f = .ref x ∧ TreeAt K C H x bs ups
def spMade (K : PySem.W.Frag) (C : Addr) : Sp := fun vs H Q _ => ∃ (b u : V) (rb : Option (List (Option (List V)))) (ru : Option (List V)), vs = [b, u] ∧ In2 K H b u rb ru ∧ ∀ (T : Addr) (f : V) (H' : Hp), Evl.Ex H H' → H' T = some (.tup [f, wrongV rb ru]) → Made K C H' f rb ru → Q (.ref T) H'
abbrev tbMd (K : PySem.W.Frag) (C CT : Addr) : WX → TS := fun W => tAsg (tMakeSN C 2 (spTreeI K C CT) mk3 (fun σ => WE W σ) (tCons (tVar 1) (tCons (tVar 0) tNil))) (gName 2)
abbrev tsMd (CT : Addr) : Addr → Value → Option Addr → TS := fun a cls d => tAsg (tXf a cls d CT "part" (tVar 4)) (gName 3)
section
variable {P : Program} {w : World} {K : PySem.W.Frag} {mg : Str → Option Value} {base : Heap}
set_option maxHeartbeats 2000000 in
theorem ok_made {f fI C CT : Addr} {fd fdI : FuncData} {k : Nat} (F : Fun K "_law_made" "_law_made" sLMade f fd) (T : TTree K mg C) (M : Mk K C fI)
    (GI : FnOk P w K mg base (L2.CX P w) k fI fdI ["self", "bags", "above"] (spTreeI K C CT)) (kI : KBn K fdI ["self", "bags", "above"] 1 ["above", "bags"] (fun us ws => mk3 us ws) (fun vs zs => mk3 vs zs))
    (gC : mg "BadTree" = some (.ref CT)) (XF : XfC K CT) (np : PySem.W.findIn K (.ref CT) "part" = some none) (hx : PySem.W.exmOne K (.ref CT) (.ref CT) = some true) : FnOk P w K mg base CX0 (k + 2) f fd ["bags", "above"] (spMade K C) := by
  refine F.ok scLMade (fun vs H Q E h => ?_) (fun cdv A0 outer s H vs Q E hr h => ?_)
  · obtain ⟨b, u, rb, ru, rfl, _⟩ := h
    rfl
  · obtain ⟨b, u, rb, ru, rfl, hIn, q⟩ := h
    have nd := scLMade.nd
    refine ⟨_, pss_cons (ps_asg (pe_tup (pa_cons (pe_non) (pa_cons (pe_non) (pa_nil)))) (pg_tup (by rfl) (pgs_cons (pg_name (i := 2) nd rfl (.inl rfl)) (pgs_cons (pg_name (i := 3) nd rfl (.inl rfl)) pgs_nil)))) (pss_cons (t := fun D σ H => tbMd K C CT (wFst K (.ref CT) 4 (tsMd CT) D) D σ H) (ps_first (x := "BadTree") (n := "error") (i := 4) (c := .ref CT) (tb := tbMd K C CT) (ts := tsMd CT) rfl rfl nd rfl (by rfl) ⟨by rfl, by decide, .inl gC⟩ (fun W pn xe tk po => ?_) (fun a oe cls d pn hz hf => ?_)) (pss_one (ps_ret (pe_tup (pa_cons (pv 2) (pa_cons (pv 3) pa_nil)))))), ?_⟩
    · exact pss_one (ps_set (i := 2) nd rfl (.inl rfl) (pe_makeSN (ks := ["above", "bags"]) M GI hr (by rfl) T.mgC kI (fun σ => passAt tk σ) (pk_cons (pv 1) (pk_cons (pv 0) pk_nil))))
    · exact pss_one (ps_set (i := 3) nd rfl (.inl rfl) (pe_xf XF np hz hf (pv 4)))
    refine Go.q_asg1 (Go.tup_go (Go.cons_c (Go.cons_c ⟨(by show 2 ≤ sizeLine; decide), fun T0 hT0 => ⟨T0, _, rfl, Evl.st_of upd_same, rfl, _, _, rfl, _, _, rfl, rfl, ?_⟩⟩)))
    have e0 := Evl.Ex.new (o := .tup [V.non, V.non]) hT0
    have hIn := hIn.ex e0
    have q : ∀ (T : Addr) (f : V) (H' : Hp), Evl.Ex (upd H T0 (.tup [.non, .non])) H' → H' T = some (.tup [f, wrongV rb ru]) → Made K C H' f rb ru → Q (.ref T) H' := fun T f H' e => q T f H' (e0.trans e)
    generalize upd H T0 (.tup [.non, .non]) = H at hIn q ⊢
    try dsimp only [List.set_cons_zero, List.set_cons_succ]
    have fin : ∀ {f : V} {G : Hp} {σ : L2.St}, σ[2]? = some (some f) → σ[3]? = some (some (wrongV rb ru)) → Evl.Ex H G → Made K C G f rb ru → tRet (tTup (tCons (tVar 2) (tCons (tVar 3) tNil))) { nx := fun _ H' => Q .non H', rt := Q } σ G := fun {f G σ} h2 h3 e m => by
      refine Go.ret_go (Go.tup_go (Go.cons_any ⟨_, h2, Go.cons_any ⟨_, h3, (by show 2 ≤ sizeLine; decide), fun T hT => ?_⟩⟩))
      have eT := Evl.Ex.new (o := .tup [f, wrongV rb ru]) hT
      refine q T f _ (e.trans eT) upd_same fun hw => ?_
      obtain ⟨bs, ups, x, a1, a2, a3, a4, a5⟩ := m hw
      exact ⟨bs, ups, x, a1, a2, a3, a4, a5.ex eT⟩
    refine ⟨u, rfl, b, rfl, rfl, fun x dx nx ndx hne => ?_⟩
    have eH : Evl.Ex H (upd (upd H dx (.own x)) x (.ins C dx [])) := fun a o h => by
      rw [upd_ne (fun z => by rw [z, nx] at h; cases h), upd_ne (fun z => by rw [z, ndx] at h; cases h)]
      exact h
    have eL : Evl.Ex H (less (upd (upd H dx (.own x)) x (.ins C dx [])) x) := fun a o h => less_of (eH a o h) fun z => by rw [z, nx] at h; cases h
    refine ⟨x, dx, b, u, rb, ru, rfl, upd_same, hIn.ex eL, fun s hs H1 d e1 hd => ⟨hx, fun a ha => ?_⟩, fun bs ups e1 e2 hT H' eX hA => ⟨rfl, ?_⟩⟩
    · refine ⟨.ref a, rfl, rfl, rfl, d, _, .str s, rfl, upd_same, by simp [List.lookup], ?_⟩
      refine fin rfl (by rw [hs]; rfl) ((eH.trans e1).trans (Evl.Ex.new hd)) fun hw => by rw [hs] at hw; cases hw
    · refine fin rfl ?_ (eL.trans (eX.trans (less_ex H' x))) fun _ => ⟨bs, ups, x, e1, e2, hT, rfl, hA⟩
      rw [e1, e2, wrong_ok hT]
      rfl
end
end P41
end S_Baw
section S_Bax
namespace P41
open PySem PySem.Spec PyProof.Rows L2 Tl Hk RZ EnL
/-! ### whether a tree is right -/
abbrev nRi : List Str := ["tree", "bags", "above", "pieces", "wide", "told", "bag"]
theorem scLIsRight : FnScope nRi ["tree", "bags", "above"] (defScope sLIsRight) := ⟨rfl, rfl, rfl, by decide +kernel, rfl, by decide +kernel, by decide +kernel⟩
mutual
theorem dpe_of {K : PySem.W.Frag} {H : Hp} : ∀ {d : PyData} {v : V}, Dp K H v d → DpE K H v d
  | .none, _, h => by cases h; exact .non
  | .bool b, _, h => by cases h; exact .bl b
  | .int i, _, h => by cases h; exact .int i
  | .str x, _, h => by cases h; exact .str x
  | .list ds, _, h => by
    cases h with
    | lst hs ha => exact .lst hs (dpea_of ha)
  | .tuple ds, _, h => by
    cases h with
    | tup hs ha => exact .tup hs (dpea_of ha)
  | .dict kvs, _, h => by cases h
theorem dpea_of {K : PySem.W.Frag} {H : Hp} : ∀ {ds : List PyData} {vs : List V}, DpAll K H vs ds → DpEAll K H vs ds
  | [], _, h => by cases h; exact .nil
  | d :: ds, _, h => by
    cases h with
    | cons h1 h2 => exact .cons (dpe_of h1) (dpea_of h2)
end
/-- rows and ups that stand, of a small tree -/
structure Rw (K : PySem.W.Frag) (H : Hp) (A U : Addr) (bs : List (List Int)) (us : List (Option Nat)) : Prop where
  ex : ∃ xs, SqS K H A xs ∧ RowsB K H xs bs
  up : SqS K H U (us.map uv)
  ok : TreeOk bs us
  n8 : bs.length ≤ 8
  few : Few bs
  rg : ∀ ns ∈ bs, ∀ k ∈ ns, (0 : Int) ≤ k ∧ k < 10 ^ 40
  bl : ∀ ns ∈ bs, ns.length ≤ 60
theorem Rw.mv {K : PySem.W.Frag} {H H' : Hp} {A U : Addr} {bs : List (List Int)} {us : List (Option Nat)} (h : Rw K H A U bs us) (e : Evl.Ex H H') : Rw K H' A U bs us := ⟨h.ex.imp fun xs hx => ⟨hx.1.ex e, hx.2.ex e⟩, h.up.ex e, h.ok, h.n8, h.few, h.rg, h.bl⟩
theorem she_tree {bs : List (List Int)} {us : List (Option Nat)} {ps : List Int} (ok : TreeOk bs us) (n8 : bs.length ≤ 8) (few : Few bs) (rg : ∀ ns ∈ bs, ∀ k ∈ ns, (0 : Int) ≤ k ∧ k < 10 ^ 40) (bl : ∀ ns ∈ bs, ns.length ≤ 60) (hp : PcOk ps bs) : ShE 200000 5 (.list [dT bs, dU us, .tuple (ps.map PyData.int), .int (widthV bs)]) := by
  have intsS : ∀ ns : List Int, (∀ k ∈ ns, (0 : Int) ≤ k ∧ k < 10 ^ 40) → ns.length ≤ 64 → ShE 3000 2 (.tuple (ns.map PyData.int)) := fun ns h hl => she_tup (c := 41) (m := 64) (fun d hd => by
    obtain ⟨k, hk, rfl⟩ := List.mem_map.mp hd
    exact she_int (h k hk)) (by rw [List.length_map]; exact hl) (by decide)
  have lps : ps.length ≤ 64 := by
    obtain ⟨us, h1, h2⟩ := few
    have := ndI_le (hp.1.imp (fun {a b} (h : a < b) => (by omega : a ≠ b))) (m := us) fun x hx => by
      obtain ⟨ns, h3, h4⟩ := (hp.2 x).mp hx
      exact h2 ns h3 x h4
    omega
  have wl : widthV bs ≤ 60 ∧ 0 ≤ widthV bs := by
    obtain ⟨ns, h1, h2⟩ := longest_in ok.n1
    have := bl ns h1
    unfold widthV
    omega
  refine she_lst (c := 40000) (m := 4) (fun d hd => ?_) (Nat.le_refl _) (by decide)
  rcases List.mem_cons.mp hd with rfl | hd
  · exact she_tup (c := 3000) (k := 3) (m := 8) (fun d hd => by
      obtain ⟨ns, hn, rfl⟩ := List.mem_map.mp hd
      exact (intsS ns (rg ns hn) (by have := bl ns hn; omega)).le (by decide) (by decide)) (by rw [List.length_map]; exact n8) (by decide)
  rcases List.mem_cons.mp hd with rfl | hd
  · refine she_tup (c := 41) (k := 3) (m := 8) (fun d hd => ?_) (by rw [List.length_map, ok.up.1]; exact n8) (by decide)
    obtain ⟨u, hu, rfl⟩ := List.mem_map.mp hd
    cases u with
    | none => exact she_non.le (by decide) (by decide)
    | some j =>
      obtain ⟨i, hi⟩ := List.mem_iff_getElem?.mp hu
      have := ok.up.2.1 i j hi
      exact (she_int (x := (j : Int)) (by omega)).le (by decide) (by decide)
  rcases List.mem_cons.mp hd with rfl | hd
  · refine (intsS ps (fun k hk => ?_) lps).le (by decide) (by decide)
    obtain ⟨ns, h3, h4⟩ := (hp.2 k).mp hk
    exact rg ns h3 k h4
  rw [List.mem_singleton.mp hd]
  exact (she_int (x := widthV bs) (by omega)).le (by decide) (by decide)
def spRight (K : PySem.W.Frag) (C : Addr) : Sp := fun vs H Q _ => ∃ (x A U : Addr) (bs : List (List Int)) (us : List (Option Nat)), vs = [.ref x, .ref A, .ref U] ∧ TreeAt K C H x bs us ∧ Rw K H A U bs us ∧ ∀ H1, Evl.Ex H H1 → Q (.bl true) H1
section
variable {P : Program} {w : World} {K : PySem.W.Frag} {mg : Str → Option Value} {base : Heap}
theorem ev_maxE {σ : L2.St} {H : Hp} {ta : TE} {ns : List Int} {m : Int} (h : Evl.EvL ta σ H (V.int 1 :: ns.map V.int)) (h1 : m ∈ (1 : Int) :: ns) (h2 : ∀ y ∈ (1 : Int) :: ns, y ≤ m) : Evl.Ev (tCB (rMax K) (tCons ta tNil)) σ H (.int m) := fun H1 e Q q =>
  h H1 e _ fun p H2 hp e2 hh => ⟨p, 1 :: ns, rfl, Evl.sq_of hh, Nat.succ_pos _, fun z hz1 hz2 => by
    have e1 := hz2 m h1
    have e2' := h2 z hz1
    rw [show z = m by omega]
    exact q H2 e2⟩
theorem el_catNN {σ : L2.St} {H : Hp} {ta tb : TE} {xs ys : List V} (ha : Evl.EvL ta σ H xs) (hb : Evl.EvL tb σ H ys) (hz : xs.length + ys.length ≤ 100000) : Evl.EvL (tOp rCat ta tb) σ H (xs ++ ys) := fun H1 e Q q =>
  ha H1 e _ fun p H2 hp e2 h2 => hb H2 (e.trans e2) _ fun r H3 hr e3 h3 => ⟨p, r, xs, ys, rfl, rfl, e3 _ _ h2, h3, by rw [sizeLine_eq]; omega, fun z hz2 => q z _ (Evl.fresh_back (e2.trans e3) hz2) ((e2.trans e3).trans (Evl.Ex.new hz2)) upd_same⟩
theorem repE_go {σ : L2.St} {H : Hp} {te : TE} {a : Addr} {v : V} {vs : List V} {ds : List PyData} {c k : Nat} {Q : VK} (h : Evl.Ev te σ H (.ref a)) (hs : SqL K H a (v :: vs)) (hd : DpEAll K H (v :: vs) ds) (sh : ShE c k (.list ds)) (hc : c ≤ 1000000) (hk : k ≤ 20) (q : ∀ H1, Evl.Ex H H1 → Q (.str (PyData.list ds).shown) H1) : tCB (rReprE K) (tCons te tNil) σ H Q :=
  h H (Evl.Ex.refl _) _ fun H1 e1 => ⟨a, v, vs, ds, rfl, Evl.ex_l e1 hs, dpea_ex e1 hd, sh.ok, Nat.le_trans sh.deep hk, Nat.le_trans sh.len (by rw [sizeLine_eq]; omega), q H1 e1⟩
set_option maxHeartbeats 2000000 in
theorem ok_right {f fP C : Addr} {fd fdP : FuncData} {k : Nat} (F : Fun K "_law_is_right" "_law_is_right" sLIsRight f fd) (T : TTree K mg C)
    (FP : Fun K "_law_pieces" "_law_pieces" sPieces fP fdP) (GP : FnOk P w K mg base CX0 k fP fdP ["bags"] (spPieces K)) (bP : Binds K fdP ["bags"] []) (gP : mg "_law_pieces" = some (.ref fP))
    (mlen : mg "len" = none) (mmax : mg "max" = none) (mtup : mg "tuple" = none) (mrepr : mg "repr" = none) : FnG P w K mg base (k + 1) f fd ["tree", "bags", "above"] (spRight K C) := by
  refine fn_g F scLIsRight (fun {vs H Q E} h => ?_) (fun cdv A0 outer s H vs Q E hgd hr h => ?_)
  · obtain ⟨x, A, U, bs, us, rfl, _⟩ := h
    rfl
  · obtain ⟨x, A, U, bs, us, rfl, ht, rw0, q⟩ := h
    have nd := scLIsRight.nd
    refine ⟨_, pss_cons (ps_par (i := 3) (j := 4) (by rfl) nd rfl rfl (by decide) rfl rfl (pa_cons (pe_call GP hr (by rfl) gP FP.kp bP .nil pass0 (pa_cons (pv 1) (pa_nil))) (pa_cons (pe_op op_sub (pe_callB (cr_max rfl) (by rfl) mmax (by decide +kernel) (pa_cons (pe_op op_cat (pe_lst (pa_cons (pe_int) (pa_nil))) (pe_lc (own := [("bag", 6)]) (g := gName 6) (tt := tYes) (te := tCB (Evl.rLenS K) (tCons (tVar 6) tNil)) rfl nd (pi_ei (pv 1)) (blkOk_by (N := nRi) (sc := defScope sLIsRight) (by decide +kernel)) (fun _ _ _ _ _ => pg_name (i := 6) nd rfl (Or.inl rfl)) (fun _ _ _ _ _ => pts_nil) (fun _ _ _ _ _ => pe_callB call_len_seq (by rfl) mlen PySem.boot_len (pa_cons (pv 6) (pa_nil))))) (pa_nil))) (pe_int)) (pa_nil))) (by rfl)) (pss_cons (ps_set (i := 5) nd rfl (.inl rfl) (pe_lst (pa_cons (pe_fld (pv 0) rfl) (pa_cons (pe_fld (pv 0) rfl) (pa_cons (pe_fld (pv 0) rfl) (pa_cons (pe_fld (pv 0) rfl) (pa_nil))))))) (pss_one (ps_ret (pe_cmpR op_eq (pe_callB (call_reprE hgd hr.units) (by rfl) mrepr (by decide +kernel) (pa_cons (pv 5) (pa_nil))) (pe_callB (call_reprE hgd hr.units) (by rfl) mrepr (by decide +kernel) (pa_cons (pe_lst (pa_cons (pe_callTy call_tuple_of (by rfl) mtup (by decide +kernel) (pa_cons (pe_lc (own := [("bag", 6)]) (g := gName 6) (tt := tYes) (te := tCB (rTup K) (tCons (tVar 6) tNil)) rfl nd (pi_ei (pv 1)) (blkOk_by (N := nRi) (sc := defScope sLIsRight) (by decide +kernel)) (fun _ _ _ _ _ => pg_name (i := 6) nd rfl (Or.inl rfl)) (fun _ _ _ _ _ => pts_nil) (fun _ _ _ _ _ => pe_callTy call_tuple_of (by rfl) mtup (by decide +kernel) (pa_cons (pv 6) (pa_nil)))) (pa_nil))) (pa_cons (pe_callTy call_tuple_of (by rfl) mtup (by decide +kernel) (pa_cons (pv 2) (pa_nil))) (pa_cons (pe_callTy call_tuple_of (by rfl) mtup (by decide +kernel) (pa_cons (pv 3) (pa_nil))) (pa_cons (pv 4) (pa_nil)))))) (pa_nil))) (nomark _))))), ?_⟩
    obtain ⟨xs, hS, hR⟩ := rw0.ex
    have hxl := hR.1
    have n8 := rw0.n8
    have n1 := rw0.ok.n1
    have row : ∀ {G : Hp}, Evl.Ex H G → ∀ i, i < bs.length → ∃ a, xs.getD i .non = .ref a ∧ SqS K G a ((bs.getD i []).map V.int) := fun {G} e i hi => by
      obtain ⟨a, h1, h2⟩ := (hR.ex e).2 i _ (List.getElem?_eq_getElem hi)
      refine ⟨a, by rw [List.getD_eq_getElem?_getD, h1]; rfl, ?_⟩
      rw [List.getD_eq_getElem?_getD, List.getElem?_eq_getElem hi]
      exact h2
    -- pieces, wide
    refine Go.par_go (Go.cons_any (Go.call_raw (Go.cons_any ⟨.ref A, rfl, A, xs, bs, rfl, hS, hR, by omega, fun ns hn => by have := rw0.bl ns hn; omega, rw0.few, fun p ps H1 e1 np hp hpc => Go.cons_any ?_⟩)))
    have lens := el_lcI (te := tCB (Evl.rLenS K) (tCons (tVar 6) tNil)) (t := tYes) (σ := start nRi [.ref x, .ref A, .ref U]) (H := H1) (vs := [6]) (fun _ => true) (fun i => V.int ((bs.getD i []).length : Int)) (ei_ei (K := K) (Evl.ev_var (i := 1) rfl) (hS.ex e1)) (aims_at (j := 6)) (fun _ => rfl) (by omega) (fun _ _ _ _ => et_yes) fun i G eG hi _ => by
      obtain ⟨a, ea, ha⟩ := row (e1.trans eG) i (by omega)
      rw [ea]
      exact Evl.ev_is (ev_lenB (K := K) (Evl.ev_var rfl) ha) (by rw [List.length_map])
    rw [hxl, given_all bs [] fun ns => V.int (ns.length : Int), show (fun ns : List Int => V.int (ns.length : Int)) = V.int ∘ (fun ns => (ns.length : Int)) from rfl, ← List.map_map] at lens
    have cat := el_catNN (Evl.el_lst (σ := start nRi [.ref x, .ref A, .ref U]) (H := H1) (vs := [V.int 1]) (Evl.ea_cons (ta := tC (.int 1)) Evl.ev_c Evl.ea_nil) (by show 1 ≤ 100000; decide)) lens (by rw [List.length_map, List.length_map]; show 1 + _ ≤ _; omega)
    have hmax : Evl.Ev (tCB (rMax K) (tCons (tOp rCat (tLst (tCons (tC (.int 1)) tNil)) (tLc (iEi K (tVar 1)) (gName 6) tYes (tCB (Evl.rLenS K) (tCons (tVar 6) tNil)) [6])) tNil)) (start nRi [.ref x, .ref A, .ref U]) H1 (.int (widthV bs + 1)) := ev_maxE cat (by
      have := longest_in n1
      obtain ⟨ns, h1, h2⟩ := this
      have key : widthV bs + 1 = 1 ∨ widthV bs + 1 = (ns.length : Int) := by unfold widthV; omega
      rcases key with h | h
      · rw [h]; exact List.mem_cons_self
      · rw [h]; exact List.mem_cons_of_mem _ (List.mem_map.mpr ⟨ns, h1, rfl⟩)) fun y hy => by
        rcases List.mem_cons.mp hy with rfl | hy
        · unfold widthV; omega
        · obtain ⟨ns, hn, rfl⟩ := List.mem_map.mp hy
          have := longest_le hn
          unfold widthV
          omega
    refine Go.go (Evl.ev_is (Evl.ev_op hmax Evl.ev_c Evl.rv_I0) (by show V.int (widthV bs + 1 - 1) = V.int (widthV bs); congr 1; omega)) fun H2 e2 => ⟨_, _, rfl, ?_⟩
    try dsimp only [List.set_cons_zero, List.set_cons_succ]
    obtain ⟨dx, t, ua, pa, ps', a1, a2, a3, a4, a5⟩ := ht.ex (e1.trans e2)
    have eps := pc_one a5 hpc
    subst eps
    refine Evl.q_asgL (Evl.el_lst (vs := [.ref t, .ref ua, .ref pa, .int (widthV bs)]) (Evl.ea_cons (ev_fld (Evl.ev_var rfl) a1 T.cl T.nB (bf_b _ _ _ _)) (Evl.ea_cons (ev_fld (Evl.ev_var rfl) a1 T.cl T.nA (bf_a _ _ _ _)) (Evl.ea_cons (ev_fld (Evl.ev_var rfl) a1 T.cl T.nP (bf_p _ _ _ _)) (Evl.ea_cons (ev_fld (Evl.ev_var rfl) a1 T.cl T.nW (bf_w _ _ _ _)) Evl.ea_nil)))) (by show 4 ≤ 100000; decide)) fun L H3 nL e3 hL => ?_
    try dsimp only [List.set_cons_zero, List.set_cons_succ]
    have sh := she_tree (us := us) rw0.ok n8 rw0.few rw0.rg rw0.bl hpc
    have d1 : DpEAll K H3 [V.ref t, .ref ua, .ref pa, .int (widthV bs)] [dT bs, dU us, .tuple (ps'.map PyData.int), .int (widthV bs)] := .cons (dpe_of (a2.ex e3).dp) (.cons (dpe_of (.tup (Evl.ex_t e3 a3) (dpa_us us))) (.cons (dpe_of (.tup (Evl.ex_t e3 a4) (dpa_ints ps'))) (.cons (.int _) .nil)))
    refine Go.ret_go (Go.op_go (repE_go (Evl.ev_var rfl) (Evl.sq_of hL) d1 sh (by decide) (by decide) fun H4 e4 => Go.cb_go (Go.cons_any (Go.lst_go ?_))))
    have e14 := (((e1.trans e2).trans e3).trans e4)
    refine Go.cons_any ((en_tuplesB (K := K) (i := 1) (j := 6) rfl (fun _ => rfl) (fun _ => rfl) (hS.ex e14) (hR.ex e14) (by omega)) H4 (Evl.Ex.refl _) _ fun v5 H5 e5 hv5 => Go.cons_any ((en_tupS (K := K) (Evl.ev_var (i := 2) rfl) (rw0.up.ex (e14.trans e5))) H5 (Evl.Ex.refl _) _ fun v6 H6 e6 hv6 => Go.cons_any ((en_tupS (K := K) (Evl.ev_var (i := 3) rfl) (.inl (Evl.sq_of ((((((e2.trans e3).trans e4).trans e5).trans e6)) _ _ hp)))) H6 (Evl.Ex.refl _) _ fun v7 H7 e7 hv7 => Go.cons_any ⟨_, rfl, (by show 4 ≤ sizeLine; decide), fun L2 hL2 => ?_⟩)))
    obtain ⟨t2, rfl, tt2⟩ := hv5 H5 e5 fun _ _ _ h => h
    obtain ⟨u2, rfl, tu2⟩ := hv6 H6 e6 fun _ _ _ h => h
    obtain ⟨p2, rfl, tp2⟩ := hv7 H7 e7 fun _ _ _ h => h
    have eN := Evl.Ex.new (o := .lst [V.ref t2, .ref u2, .ref p2, .int (widthV bs)]) hL2
    have d2 : DpEAll K (upd H7 L2 (.lst [V.ref t2, .ref u2, .ref p2, .int (widthV bs)])) [V.ref t2, .ref u2, .ref p2, .int (widthV bs)] [dT bs, dU us, .tuple (ps'.map PyData.int), .int (widthV bs)] := .cons (dpe_of (tt2.ex ((e6.trans e7).trans eN)).dp) (.cons (dpe_of (.tup (Evl.ex_t (e7.trans eN) tu2) (dpa_us us))) (.cons (dpe_of (.tup (Evl.ex_t eN tp2) (dpa_ints ps'))) (.cons (.int _) .nil)))
    refine ⟨L2, _, _, _, rfl, Evl.sq_of upd_same, d2, sh.ok, Nat.le_trans sh.deep (by decide), Nat.le_trans sh.len (by rw [sizeLine_eq]; omega), ?_⟩
    refine (Evl.rv_eq (x := V.str _) (y := V.str _) rfl) _ (Evl.Ex.refl _) _ fun H8 e8 => ?_
    rw [decide_eq_true rfl]
    exact q H8 ((((((e14.trans e5).trans e6).trans e7).trans eN).trans e8))
end
end P41
end S_Bax
section S_Rk
namespace EnL
open PySem PySem.Spec PyProof.Rows L2 Tl Hk
/-! ### == by an own __eq__, against a list or a tuple -/
def AsideS (K : PySem.W.Frag) (C : Addr) (H : Hp) (y : V) : Prop := Aside K C H y ∨ (∃ b ys, y = .ref b ∧ SqL K H b ys ∧ PySem.W.subIn K (.type "list") (.ref C) = some false)
def rOwnEqS (K : PySem.W.Frag) (C : Addr) (neg : Bool) (sp : Sp) (E : XK) : R2 := fun x y H Q => ∃ a dx fs, x = .ref a ∧ H a = some (.ins C dx fs) ∧ AsideS K C H y ∧ sp [x, y] H (fun v H' => ∃ k, v = .bl k ∧ Q (.bl (k != neg)) H') E
section
variable {X : Cx} {CX : CXT} {C f : Addr} {fd : FuncData} {ps : List Str} {n : Nat} {sp : Sp} {E : XK}
theorem asideS_looks {pins : List (Addr × Obj)} {σ : L2.St} {H : Hp} {s : Shared} {y : V} {u : Value} (I : Inv X pins σ H s) (ry : RelV y u) (h : AsideS X.K C H y) : ∃ tb, PySem.W.Looks (model X.prog X.w) s.heap (typeOf u) tb ∧ PySem.W.notFirst X.K C tb = true := by
  rcases h with h | ⟨b, ys, rfl, hb, hs⟩
  · exact aside_looks I ry h
  · cases (show u = Value.ref b from ry)
    obtain ⟨its, _, ⟨o, n, e, ec, _⟩, _⟩ := I.list hb
    refine ⟨.type "list", ?_, by simp [PySem.W.notFirst, hs]⟩
    intro A Q E s' k q
    refine wpAny_typeOf_ref (k _ _ (by assumption)) ?_
    rw [ec]
    exact q
theorem op_ownEqS (hs : PySem.W.findIn X.K (.ref C) "__eq__" = some (some (.ref f))) (hf : PySem.W.isFn X.K (.ref f) = true) (F : FnOk X.prog X.w X.K X.mg X.base CX n f fd ps sp) (hb : Binds X.K fd ps [])
    (hr : Room n X.A) (hx : Passes CX X E) : OpR X (compareOp .Eq) (rOwnEqS X.K C false sp E) := by
  intro pins s σ H x y v u Q I rx ry h
  obtain ⟨a, dx, fs, rfl, ha, hy, q⟩ := h
  cases (show v = Value.ref a from rx)
  obtain ⟨mA, J, _⟩ := ins_get I.hok ha
  obtain ⟨od, J, _⟩ := J.look
  obtain ⟨m, hF⟩ := I.fr
  obtain ⟨tb, L, hn⟩ := asideS_looks I ry hy
  show wpAny (model X.prog X.w) X.A (richCompare .Eq (.ref a) u) (EP X pins σ Q) X.xe s
  refine PySem.W.cmp_K (op := .Eq) hr.units0 hF I.ok.mod.kin J L hn hs hf ?_
  refine wpAny_mono (run_fn (us := [.ref a, u]) (vs := [.ref a, y]) F hr hb .nil hx I (.cons rfl (.cons ry .nil)) q) (fun w s' z => ?_) fun _ _ x => x
  obtain ⟨z', H', I', rz, k, ez, qz⟩ := z
  subst ez
  cases (show w = Value.bool k from rz)
  refine ⟨.bl k, H', I', rfl, ?_⟩
  cases k <;> exact qz
end
end EnL
end S_Rk
section S_Bba
namespace P41
open PySem PySem.Spec PyProof.Rows L2 Tl Hk RZ EnL
/-! ### what the law wants: trees handed in, made, compared -/
theorem bagd_row {K : PySem.W.Frag} {H : Hp} {a : Addr} {ns : List Int} (h : SqS K H a (ns.map V.int)) (hl : ns.length ≤ 3000) : BagD K H (.ref a) (rowV ns) := by
  have ty : ∀ v ∈ ns.map V.int, ∃ n, Ty7 K H v n := fun v hv => by
    obtain ⟨k, _, rfl⟩ := List.mem_map.mp hv
    exact ⟨_, .int k⟩
  rcases h with h | h
  · exact .lst h (by rw [List.length_map]; exact hl) ty
  · exact .tup h (by rw [List.length_map]; exact hl) ty
theorem in2_of {K : PySem.W.Frag} {H : Hp} {A U : Addr} {xs : List V} {bs : List (List Int)} {us : List (Option Nat)} (hA : SqS K H A xs) (hR : RowsB K H xs bs) (hU : SqS K H U (us.map uv)) (hZ : ZipOk K H A U xs (us.map uv)) (n : bs.length ≤ 3000) (ul : us.length ≤ 3000) (sz : (bs.map List.length).sum ≤ 3000) : In2 K H (.ref A) (.ref U) (some (bs.map rowV)) (some (us.map uv)) := by
  have hl : ∀ ns ∈ bs, ns.length ≤ 3000 := fun ns hn => by
    have := sum_mem (List.mem_map.mpr ⟨ns, hn, rfl⟩ : ns.length ∈ bs.map List.length)
    omega
  have items : ∀ (i : Nat) (v : V) (r : Option (List V)), xs[i]? = some v → (bs.map rowV)[i]? = some r → BagD K H v r := fun i v r h1 h2 => by
    rw [List.getElem?_map] at h2
    obtain ⟨ns, h3, rfl⟩ := Option.map_eq_some_iff.mp h2
    obtain ⟨a, h4, h5⟩ := hR.2 i ns h3
    rw [h1] at h4
    cases h4
    exact bagd_row h5 (hl ns (List.mem_of_getElem? h3))
  have hx := hR.1
  refine ⟨.seq hA (by rw [List.length_map]; exact hx) (by omega) items, ?_, fun rs ys e1 e2 _ => ?_, fun rs e1 => ?_⟩
  · have ty : ∀ v ∈ us.map uv, ∃ n, Ty7 K H v n := fun v hv => by
      obtain ⟨u, _, rfl⟩ := List.mem_map.mp hv
      cases u with
      | none => exact ⟨_, .non⟩
      | some j => exact ⟨_, .int _⟩
    rcases hU with h | h
    · exact .lst h (by rw [List.length_map]; exact ul) ty
    · exact .tup h (by rw [List.length_map]; exact ul) ty
  · cases e1
    cases e2
    exact ⟨A, U, xs, rfl, rfl, hZ, by rw [List.length_map]; exact hx, items⟩
  · cases e1
    rw [List.map_map]
    have e : bs.map ((fun r : Option (List V) => (r.getD []).length) ∘ rowV) = bs.map List.length := List.map_congr_left fun ns _ => List.length_map _
    rw [e]
    exact sz
theorem sum_le {l : List Nat} {m : Nat} (h : ∀ x ∈ l, x ≤ m) : l.sum ≤ l.length * m := by
  induction l with
  | nil => exact Nat.zero_le _
  | cons a r ih =>
    rw [List.sum_cons, List.length_cons, Nat.succ_mul]
    have h1 := h a List.mem_cons_self
    have h2 := ih fun x hx => h x (List.mem_cons_of_mem _ hx)
    omega
theorem sm_sum {bs : List (List Int)} {m : Nat} (n8 : bs.length ≤ 8) (bl : ∀ ns ∈ bs, ns.length ≤ m) (hm : m ≤ 60) : (bs.map List.length).sum ≤ 3000 := by
  have h1 := sum_le (l := bs.map List.length) (m := m) fun x hx => by
    obtain ⟨ns, hn, rfl⟩ := List.mem_map.mp hx
    exact bl ns hn
  rw [List.length_map] at h1
  have := Nat.mul_le_mul n8 hm
  omega
theorem Tld.rows {K : PySem.W.Frag} {H : Hp} {t A U : Addr} {as : List Addr} {bs : List (List Int)} {us : List (Option Nat)} (h : Tld H t A U as bs us) : RowsB K H (as.map V.ref) bs := ⟨by rw [List.length_map, h.len], fun i ns hn => by
  have h1 := List.getElem?_eq_getElem (show i < as.length by rw [h.len]; exact (List.getElem?_eq_some_iff.mp hn).1)
  exact ⟨_, by rw [List.getElem?_map, h1]; rfl, .inr (Evl.st_of (h.row i _ ns h1 hn).1)⟩⟩
theorem Tld.in2 {K : PySem.W.Frag} {H : Hp} {t A U : Addr} {as : List Addr} {bs : List (List Int)} {us : List (Option Nat)} {nm : List Int} (h : Tld H t A U as bs us) (s : Sm bs us nm) : In2 K H (.ref A) (.ref U) (some (bs.map rowV)) (some (us.map uv)) :=
  in2_of (.inl (Evl.sq_of h.hA)) h.rows (.inl (Evl.sq_of h.hU)) (.inl ⟨Evl.sq_of h.hA, Evl.sq_of h.hU⟩) (by have := s.n8; omega) (by have := s.n8; have := s.ul; omega) (sm_sum s.n8 s.bl (by decide))
theorem Tld.rw {K : PySem.W.Frag} {H : Hp} {t A U : Addr} {as : List Addr} {bs : List (List Int)} {us : List (Option Nat)} {nm : List Int} (h : Tld H t A U as bs us) (s : Sm bs us nm) (ok : TreeOk bs us) : Rw K H A U bs us :=
  ⟨⟨_, .inl (Evl.sq_of h.hA), h.rows⟩, .inl (Evl.sq_of h.hU), ok, s.n8, ⟨nm, by have := s.nl; omega, s.inn⟩, fun ns hn k hk => s.nr k (s.inn ns hn k hk), fun ns hn => by have := s.bl ns hn; omega⟩
theorem sqt_lessL {K : PySem.W.Frag} {H : Hp} {t a : Addr} {ys xs : List V} (hx : H t = some (.lst ys)) (h : SqT K H a xs) : SqT K (less H t) a xs := by
  rcases h with (h | ⟨o, h⟩) | h
  · exact .inl (.inl (less_of h fun z => by rw [z, hx] at h; cases h))
  · exact .inl (.inr ⟨o, less_of h fun z => by rw [z, hx] at h; cases h⟩)
  · exact .inr h
theorem TreeAt.strip {K : PySem.W.Frag} {C : Addr} {H : Hp} {t x : Addr} {ys : List V} {bs : List (List Int)} {us : List (Option Nat)} (hx : H t = some (.lst ys)) (h : TreeAt K C H x bs us) : TreeAt K C (less H t) x bs us := by
  obtain ⟨dx, tb, u, p, ps, h1, ⟨as, b1, b2, b3⟩, h3, h4, h5⟩ := h
  exact ⟨dx, tb, u, p, ps, less_of h1 (fun z => by rw [z, hx] at h1; cases h1), ⟨as, sqt_lessL hx b1, b2, fun i a ns q1 q2 => sqt_lessL hx (b3 i a ns q1 q2)⟩, sqt_lessL hx h3, sqt_lessL hx h4, h5⟩
theorem kept_less {t : Addr} {H G : Hp} (k : Kept t H G) : Evl.Ex (less H t) (less G t) := fun a o h => less_of (k _ _ (less_at h) (less_ex H t _ _ h)) (less_at h)
theorem spv_right {K : PySem.W.Frag} {C : Addr} {H : Hp} {x A U : Addr} {bs : List (List Int)} {us : List (Option Nat)} (ht : TreeAt K C H x bs us) (h : Rw K H A U bs us) : Evl.SpV (spRight K C) [.ref x, .ref A, .ref U] H (.bl true) := fun H1 e Q q E => ⟨x, A, U, bs, us, rfl, ht.ex e, h.mv e, q⟩
section
variable {K : PySem.W.Frag} {σ : L2.St} {H : Hp} {C CT : Addr}
theorem make_go {ta : TA} {A U : Addr} {bs : List (List Int)} {us : List (Option Nat)} {E : XK} {Q : VK} (h : Evl.EvA ta σ H [.ref A, .ref U]) (hIn : In2 K H (.ref A) (.ref U) (some (bs.map rowV)) (some (us.map uv))) (hT : TreeOk bs us) (k : ∀ x H', Evl.Ex H H' → TreeAt K C H' x bs us → Q (.ref x) H') :
    tMake C (spTreeI K C CT) [] E ta σ H Q :=
  h H (Evl.Ex.refl _) _ fun H1 e1 => fun x dx nx ndx hne => by
    have eH : Evl.Ex H1 (upd (upd H1 dx (.own x)) x (.ins C dx [])) := fun a o h => by
      rw [upd_ne (fun z => by rw [z, nx] at h; cases h), upd_ne (fun z => by rw [z, ndx] at h; cases h)]
      exact h
    have eL : Evl.Ex H1 (less (upd (upd H1 dx (.own x)) x (.ins C dx [])) x) := fun a o h => less_of (eH a o h) fun z => by rw [z, nx] at h; cases h
    refine ⟨x, dx, .ref A, .ref U, _, _, rfl, upd_same, (hIn.ex e1).ex eL, fun s hs => ?_, fun bs' ups' q1 q2 hT' H' eX hA => ⟨rfl, ?_⟩⟩
    · rw [wrong_ok hT] at hs; cases hs
    · have z1 := rowV_inj (Option.some.inj q1)
      have z2 := uvs_inj (Option.some.inj q2)
      subst z1
      subst z2
      exact k x H' ((e1.trans eL).trans (eX.trans (less_ex H' x))) hA
theorem rv_own {E : XK} {x y : Addr} {bs cs : List (List Int)} {us ws : List (Option Nat)} (neg : Bool) (hx : TreeAt K C H x bs us) (hy : TreeAt K C H y cs ws) : Evl.RV (rOwnEq K C neg (spEqT K C) E) (.ref x) (.ref y) H (.bl ((decide (bs = cs) && decide (us = ws)) != neg)) := fun H1 e Q q => by
  have hx1 := hx.ex e
  have hy1 := hy.ex e
  obtain ⟨dx, _, _, _, _, h1, _⟩ := id hx1
  obtain ⟨dy, _, _, _, _, h2, _⟩ := id hy1
  exact ⟨x, dx, _, rfl, h1, .inl ⟨y, dy, _, rfl, h2⟩, x, y, bs, us, rfl, hx1, .inl ⟨cs, ws, hy1, fun H2 e2 => ⟨_, rfl, q H2 e2⟩⟩⟩
theorem rv_ownT {E : XK} {x y : Addr} {bs cs : List (List Int)} {us ws : List (Option Nat)} (hx : TreeAt K C H x bs us) (hy : TreeAt K C H y cs ws) : Evl.RV (rOwnEqS K C false (spEqT K C) E) (.ref x) (.ref y) H (.bl (decide (bs = cs) && decide (us = ws))) := fun H1 e Q q => by
  have hx1 := hx.ex e
  have hy1 := hy.ex e
  obtain ⟨dx, _, _, _, _, h1, _⟩ := id hx1
  obtain ⟨dy, _, _, _, _, h2, _⟩ := id hy1
  exact ⟨x, dx, _, rfl, h1, .inl (.inl ⟨y, dy, _, rfl, h2⟩), x, y, bs, us, rfl, hx1, .inl ⟨cs, ws, hy1, fun H2 e2 => ⟨_, rfl, by rw [Bool.bne_false]; exact q H2 e2⟩⟩⟩
theorem rv_ownS {E : XK} {x y : Addr} {bs : List (List Int)} {us : List (Option Nat)} {ys : List V} (hx : TreeAt K C H x bs us) (hy : SqS K H y ys) (sbL : PySem.W.subIn K (.type "list") (.ref C) = some false) (sbT : PySem.W.subIn K (.type "tuple") (.ref C) = some false) : Evl.RV (rOwnEqS K C false (spEqT K C) E) (.ref x) (.ref y) H (.bl false) := fun H1 e Q q => by
  have hx1 := hx.ex e
  have hy1 := hy.ex e
  obtain ⟨dx, _, _, _, _, h1, _⟩ := id hx1
  refine ⟨x, dx, _, rfl, h1, ?_, x, y, bs, us, rfl, hx1, .inr ⟨ys, hy1, fun H2 e2 => ⟨_, rfl, q H2 e2⟩⟩⟩
  rcases hy1 with h | h
  · exact .inr ⟨y, ys, rfl, h, sbL⟩
  · exact .inl (.inr ⟨y, ys, rfl, h, sbT⟩)
/-- repr([rows, ups]) -/
theorem ev_rep2 {i j : Nat} {b u : V} {d1 d2 : PyData} (hi : σ[i]? = some (some b)) (hj : σ[j]? = some (some u)) (h1 : DpE K H b d1) (h2 : DpE K H u d2) (s1 : ShE 60000 4 d1) (s2 : ShE 6200 3 d2) : Evl.Ev (tCB (rReprE K) (tCons (tLst (tCons (tVar i) (tCons (tVar j) tNil))) tNil)) σ H (.str (PyData.list [d1, d2]).shown) := fun H1 e Q q => by
  have sh : ShE 130000 5 (.list [d1, d2]) := she_lst (c := 60000) (m := 2) (fun d hd => by
    rcases List.mem_cons.mp hd with rfl | hd
    · exact s1
    · rw [List.mem_singleton.mp hd]; exact s2.le (by decide) (by decide)) (Nat.le_refl _) (by decide)
  exact ⟨b, hi, u, hj, (by show 2 ≤ sizeLine; decide), fun L hL => ⟨L, b, [u], [d1, d2], rfl, Evl.sq_of upd_same, .cons (dpe_ex (e.trans (Evl.Ex.new hL)) h1) (.cons (dpe_ex (e.trans (Evl.Ex.new hL)) h2) .nil), sh.ok, Nat.le_trans sh.deep (by decide), Nat.le_trans sh.len (by rw [sizeLine_eq]; omega), q _ (Evl.Ex.new hL)⟩⟩
/-- [tuple(row) for row in rows], as data -/
def dL (bs : List (List Int)) : PyData := .list (bs.map fun ns => .tuple (ns.map PyData.int))
theorem dL_shaped (ts : List (List Int)) : SeqAt.shaped (dL ts) = true := by
  unfold SeqAt.shaped
  rw [Bool.and_eq_true_iff]
  refine ⟨dT_lay ts, decide_eq_true ?_⟩
  show PyData.depthAll (ts.map fun ns => .tuple (ns.map PyData.int)) + 1 ≤ 64
  have := dT_deep ts
  omega
theorem eqv_dL : ∀ ts us : List (List Int), PyData.eqv (dL ts) (dL us) = decide (ts = us)
  | [], [] => rfl
  | [], _ :: _ => rfl
  | _ :: _, [] => rfl
  | t :: ts, u :: us => by
    have h : PyData.eqv (dL (t :: ts)) (dL (u :: us)) = (PyData.eqv (.tuple (t.map PyData.int)) (.tuple (u.map PyData.int)) && PyData.eqv (dL ts) (dL us)) := rfl
    refine h.trans ?_
    rw [eqv_rowI, eqv_dL ts us]
    by_cases a : t = u <;> by_cases b : ts = us <;> simp [a, b]
def dUL (us : List (Option Nat)) : PyData := .list (us.map uD)
theorem dUL_shaped (us : List (Option Nat)) : SeqAt.shaped (dUL us) = true := by
  unfold SeqAt.shaped
  rw [Bool.and_eq_true_iff]
  refine ⟨dU_lay us, decide_eq_true ?_⟩
  show PyData.depthAll (us.map uD) + 1 ≤ 64
  rw [dU_deep us]
  omega
theorem eqv_dUL : ∀ ts us : List (Option Nat), PyData.eqv (dUL ts) (dUL us) = decide (ts = us)
  | [], [] => rfl
  | [], _ :: _ => rfl
  | _ :: _, [] => rfl
  | t :: ts, u :: us => by
    have h : PyData.eqv (dUL (t :: ts)) (dUL (u :: us)) = (PyData.eqv (uD t) (uD u) && PyData.eqv (dUL ts) (dUL us)) := rfl
    refine h.trans ?_
    rw [uD_eqv, eqv_dUL ts us]
    by_cases a : t = u <;> by_cases b : ts = us <;> simp [a, b]
theorem dpa_rows {G : Hp} {xs : List V} {bs : List (List Int)} (hl : xs.length = bs.length) (hr : ∀ (i : Nat) (ns : List Int), bs[i]? = some ns → ∃ a, xs[i]? = some (.ref a) ∧ SqT K G a (ns.map V.int)) : DpAll K G xs (bs.map fun ns => .tuple (ns.map PyData.int)) :=
  dpAll_of (by rw [List.length_map, hl]) fun i v d hv hd => by
    rw [List.getElem?_map] at hd
    obtain ⟨ns, h1, rfl⟩ := Option.map_eq_some_iff.mp hd
    obtain ⟨a, h2, h3⟩ := hr i ns h1
    rw [hv] at h2
    cases h2
    exact .tup h3 (dpa_ints ns)
/-- rows as tuples against told bags -/
theorem ev_sameRows {i j : Nat} {tb : TE} {A0 A : Addr} {xs : List V} {bs cs : List (List Int)} {as : List V} (hs2 : σ[i]? = some (some (.ref A))) (hw : ∀ x, wipe ((wipe σ [j]).set j (some x)) [j] = wipe σ [j]) (hj : ∀ x, ((wipe σ [j]).set j (some x))[j]? = some (some x))
    (hA : SqS K H A xs) (hR : RowsB K H xs bs) (hz : bs.length ≤ 40000) (hb : Evl.Ev tb σ H (.ref A0)) (h0 : SqL K H A0 as) (hl0 : as.length = cs.length) (hr0 : ∀ (i : Nat) (ns : List Int), cs[i]? = some ns → ∃ a, as[i]? = some (.ref a) ∧ SqT K H a (ns.map V.int)) :
    Evl.Ev (tOp (rEqD K) (tLc (iEi K (tVar i)) (gName j) tYes (tCB (rTup K) (tCons (tVar j) tNil)) [j]) tb) σ H (.bl (decide (bs = cs))) := fun H1 e1 Q q => by
  have h1 : EvNL (tLc (iEi K (tVar i)) (gName j) tYes (tCB (rTup K) (tCons (tVar j) tNil)) [j]) σ H (Holds (fun i v H' => ∃ ns, bs[i]? = some ns ∧ ∃ a, v = .ref a ∧ SqT K H' a (ns.map V.int)) xs.length) := by
    refine en_lc (ei_ei (K := K) (Evl.ev_var hs2) hA) aims_at (fun _ => hw _) (by have := hR.1; omega) _ fun k hk => ?_
    have hk2 : k < bs.length := by have := hR.1; omega
    obtain ⟨a, h1, h2⟩ := hR.2 k _ (List.getElem?_eq_getElem hk2)
    have ex : xs.getD k .non = .ref a := by rw [List.getD_eq_getElem?_getD, h1]; rfl
    exact fun H5 e5 Q q => en_tupS (K := K) (Evl.ev_is (Evl.ev_var (hj _)) ex) h2 H5 e5 Q fun v H6 e6 hv => q v H6 e6 fun H7 e7 s7 => ⟨_, List.getElem?_eq_getElem hk2, hv H7 e7 s7⟩
  refine h1 H1 e1 _ fun p ys H2 hp e2 h2 hL => hb H2 (e1.trans e2) _ fun H3 e3 => ?_
  have e13 := (e1.trans e2).trans e3
  have hh := hL H2 (e1.trans e2) fun _ _ _ _ h => h
  refine ⟨dL bs, dL cs, .lst (Evl.sq_of (e3 _ _ h2)) (dpa_rows (by rw [hh.1, hR.1]) fun i ns hn => ?_), .lst (Evl.ex_l e13 h0) (dpa_rows hl0 fun i ns hn => ?_), dL_shaped bs, dL_shaped cs, ?_⟩
  · have hv := List.getElem?_eq_getElem (show i < ys.length by rw [hh.1, hR.1]; exact (List.getElem?_eq_some_iff.mp hn).1)
    obtain ⟨ns', q1, a, q2, q3⟩ := hh.2 i _ hv
    rw [hn] at q1
    cases q1
    exact ⟨a, by rw [hv, q2], Evl.ex_t e3 q3⟩
  · obtain ⟨a, q1, q2⟩ := hr0 i ns hn
    exact ⟨a, q1, Evl.ex_t e13 q2⟩
  · rw [eqv_dL]
    exact q H3 (e2.trans e3)
theorem ev_sameUps {ta tb : TE} {U V0 : Addr} {us ws : List (Option Nat)} (ha : Evl.Ev ta σ H (.ref U)) (hb : Evl.Ev tb σ H (.ref V0)) (h1 : SqL K H U (us.map uv)) (h2 : SqL K H V0 (ws.map uv)) : Evl.Ev (tOp (rEqD K) ta tb) σ H (.bl (decide (us = ws))) :=
  Evl.ev_op ha hb fun H2 e2 Q q => ⟨dUL us, dUL ws, .lst (Evl.ex_l e2 h1) (dpa_us us), .lst (Evl.ex_l e2 h2) (dpa_us ws), dUL_shaped us, dUL_shaped ws, by
    rw [eqv_dUL]
    exact q H2 (Evl.Ex.refl H2)⟩
end
section
variable {K : PySem.W.Frag} {σ : L2.St} {H : Hp} {C CT : Addr}
theorem make_raw {sp : Sp} {dvs : List V} {E : XK} {ta : TA} {Q : VK} (h : ta σ H fun vs H1 => ∀ x dx, H1 x = none → H1 dx = none → dx ≠ x → sp (.ref x :: vs ++ dvs) (upd (upd H1 dx (.own x)) x (.ins C dx [])) (fun v H2 => v = .non ∧ Q (.ref x) H2) E) : tMake C sp dvs E ta σ H Q := h
theorem make_fin {A U : Addr} {bs : List (List Int)} {us : List (Option Nat)} {E : XK} {Q : VK} (hIn : In2 K H (.ref A) (.ref U) (some (bs.map rowV)) (some (us.map uv))) (hT : TreeOk bs us) (k : ∀ x H', Evl.Ex H H' → TreeAt K C H' x bs us → Q (.ref x) H') :
    ∀ x dx, H x = none → H dx = none → dx ≠ x → spTreeI K C CT (.ref x :: [.ref A, .ref U] ++ []) (upd (upd H dx (.own x)) x (.ins C dx [])) (fun v H2 => v = .non ∧ Q (.ref x) H2) E := fun x dx nx ndx hne => by
  have eH : Evl.Ex H (upd (upd H dx (.own x)) x (.ins C dx [])) := fun a o h => by
    rw [upd_ne (fun z => by rw [z, nx] at h; cases h), upd_ne (fun z => by rw [z, ndx] at h; cases h)]
    exact h
  have eL : Evl.Ex H (less (upd (upd H dx (.own x)) x (.ins C dx [])) x) := fun a o h => less_of (eH a o h) fun z => by rw [z, nx] at h; cases h
  refine ⟨x, dx, .ref A, .ref U, _, _, rfl, upd_same, hIn.ex eL, fun s hs => ?_, fun bs' ups' q1 q2 hT' H' eX hA => ⟨rfl, ?_⟩⟩
  · rw [wrong_ok hT] at hs; cases hs
  · have z1 := rowV_inj (Option.some.inj q1)
    have z2 := uvs_inj (Option.some.inj q2)
    subst z1
    subst z2
    exact k x H' (eL.trans (eX.trans (less_ex H' x))) hA
theorem nil_go {Q : List V → Hp → Prop} (h : Q [] H) : tNil σ H Q := h
theorem ifs_go {t : L2.TT} {tu tw tz : TS} {D : Ends} (h : t σ H fun b H1 => if b = true then tu { D with nx := tz D } σ H1 else tw { D with nx := tz D } σ H1) : tSeq (tIfS t tu tw) tz D σ H := h
theorem test_go {te : TE} {Q : Bool → Hp → Prop} (h : te σ H fun v H1 => ∃ k, v = .bl k ∧ Q k H1) : tTest te σ H Q := h
theorem scoop_goJ {j : Nat} {t c : Addr} {n : Nat} {many : Int} {te : TE} {E : XK} {Q : VK} (h0 : σ[j]? = some (some (.ref t))) (he : Evl.Ev te σ H (.int many)) (T : Tub H t c n) (hn : n ≤ 1000000) (h1 : 1 ≤ many) (h2 : many ≤ 100000)
    (k : ∀ (r : Nat) H', (r : Int) < many → Kept t H H' → Tub H' t c (n + 1) → Q (.int (r : Int)) H') : tCall spScoop [] E (tCons (tVar j) (tCons te tNil)) σ H Q :=
  ⟨.ref t, h0, he H (Evl.Ex.refl _) _ fun H1 e1 => ⟨t, c, many, n, rfl, T.ex e1, hn, h1, h2, fun r H' r0 r1 k1 T1 => by
    have := k r.toNat H' (by omega) ((kept_ex e1).trans k1) T1
    rwa [Int.toNat_of_nonneg r0] at this⟩⟩
theorem el_rg1 {te : TE} {m : Nat} (h : Evl.Ev te σ H (.int (m : Int))) (hm : m ≤ 10000) : Evl.EvL (tLstRg (tRg1 te)) σ H ((rngI 0 m).map V.int) := fun H1 e Q q =>
  rg1_go (ev_up h e) hm fun L H2 hL e2 => q L _ (Evl.fresh_back e2 hL) (e2.trans (Evl.Ex.new hL)) upd_same
end
/-! ### bags in one chain -/
def chB (n : Nat) : List (List Int) := (List.range n).map fun i : Nat => [(i : Int)]
def chU (n : Nat) : List (Option Nat) := none :: (List.range (n - 1)).map some
theorem chB_at {n i : Nat} (h : i < n) : (chB n)[i]? = some [(i : Int)] := by
  unfold chB
  rw [List.getElem?_map, List.getElem?_range h]
  rfl
theorem chU_at {n i : Nat} (h : i + 1 < n) : (chU n)[i + 1]? = some (some i) := by
  unfold chU
  rw [List.getElem?_cons_succ, List.getElem?_map, List.getElem?_range (by omega)]
  rfl
theorem chB_len (n : Nat) : (chB n).length = n := by unfold chB; rw [List.length_map, List.length_range]
theorem chU_len {n : Nat} (h : 1 ≤ n) : (chU n).length = n := by unfold chU; rw [List.length_cons, List.length_map, List.length_range]; omega
theorem chain_ok {n : Nat} (h1 : 1 ≤ n) (h2 : n ≤ 2000) : TreeOk (chB n) (chU n) := by
  have up : ∀ i j : Nat, (chU n)[i]? = some (some j) → i = j + 1 ∧ i < n := fun i j h => by
    cases i with
    | zero => cases h
    | succ i =>
      have hl := (List.getElem?_eq_some_iff.mp h).1
      rw [chU_len h1] at hl
      rw [chU_at hl] at h
      cases h
      exact ⟨rfl, hl⟩
  refine ⟨⟨fun ns h => ?_, fun ns h i hi => ?_⟩, by rw [chB_len]; exact h1, by rw [chB_len]; exact h2, ?_, ?_⟩
  · obtain ⟨i, _, rfl⟩ := List.mem_map.mp h
    rfl
  · obtain ⟨j, _, rfl⟩ := List.mem_map.mp h
    rw [List.mem_singleton.mp hi]
    omega
  · rw [chB_len]
    refine ⟨chU_len h1, fun i j h => by have := up i j h; omega, ?_, fun x hx => ?_⟩
    · refine one_len (a := 0) (tops_nd _ _) fun x => ?_
      rw [tops_mem]
      constructor
      · rintro ⟨h3, h4⟩
        cases x with
        | zero => rfl
        | succ x => rw [chU_at h3] at h4; cases h4
      · rintro rfl
        exact ⟨by omega, rfl⟩
    · induction x with
      | zero => exact .top rfl
      | succ x ih => exact .up (chU_at hx) (ih (by omega))
  · have fr : ∀ (i : Nat) (p : Int), p ∈ (freshL (chB n) (chU n)).getD i [] → p = (i : Int) := fun i p hp => by
      rcases Nat.lt_or_ge i n with hi | hi
      · rw [freshL_at (by rw [chB_len]; exact hi)] at hp
        have := (List.mem_filter.mp hp).1
        rw [List.getD_eq_getElem?_getD, chB_at hi] at this
        exact List.mem_singleton.mp this
      · rw [List.getD_eq_getElem?_getD, List.getElem?_eq_none (by unfold freshL; rw [List.length_map, List.length_range, chB_len]; exact hi)] at hp
        cases hp
    refine (uniq_iff fun r hr => ?_).mpr fun i j p hi hj => ?_
    · obtain ⟨i, hi, rfl⟩ := List.mem_map.mp hr
      have hi := List.mem_range.mp hi
      refine List.Pairwise.filter _ ?_
      rw [chB_len] at hi
      rw [List.getD_eq_getElem?_getD, chB_at hi]
      exact List.pairwise_singleton _ _
    · have a := fr i p hi
      have b := fr j p hj
      omega
theorem chU_vals {n : Nat} : (chU n).map uv = V.non :: (rngI 0 (n - 1)).map V.int := by
  unfold chU rngI
  rw [List.map_cons, List.map_map, List.map_map]
  refine congrArg (V.non :: ·) (List.map_congr_left fun i _ => ?_)
  show V.int (i : Int) = V.int ((0 + i : Nat) : Int)
  rw [Nat.zero_add]
theorem chain_sum (n : Nat) : ((chB n).map List.length).sum = n := by
  unfold chB
  rw [List.map_map]
  have : ∀ l : List Nat, (l.map (List.length ∘ fun i : Nat => [(i : Int)])).sum = l.length := fun l => by
    induction l with
    | nil => rfl
    | cons a r ih => rw [List.map_cons, List.sum_cons, ih, List.length_cons]; show 1 + _ = _; omega
  rw [this, List.length_range]
theorem chain_bad {n : Nat} (h : 2000 < n) : wrongV (some ((chB n).map rowV)) (some ((chU n).map uv)) = .str "bags" := by
  unfold wrongV
  rw [if_pos (pd_false fun z => ?_)]
  have := z.2.2
  have e : ((some ((chB n).map rowV)).getD []).length = n := by
    show ((chB n).map rowV).length = n
    rw [List.length_map, chB_len]
  omega
end P41
end S_Bba
section S_Bay
namespace P41
open PySem PySem.Spec PyProof.Rows L2 Tl Hk RZ EnL
/-! ### the law -/
abbrev nLw : List Str := ["script", "nest", "bags", "above", "first", "turn", "rows", "ups", "kept", "due", "tree", "part", "is_same", "many", "row", "bag", "at"]
theorem scLaw : FnScope nLw ["script"] (defScope sLaw) := ⟨rfl, rfl, rfl, by decide +kernel, rfl, by decide +kernel, by decide +kernel⟩
def spLaw (K : PySem.W.Frag) : Sp := fun vs H Q _ => ∃ (a : Addr) (ns : List Int), vs = [.ref a] ∧ SqL K H a (ns.map V.int) ∧ ns.length ≤ 1000 ∧ ∀ H', Q (.bl true) H'
section
variable {P : Program} {w : World} {K : PySem.W.Frag} {mg : Str → Option Value} {base : Heap}
set_option maxHeartbeats 4000000 in
theorem ok_law {f fT0 fS fW fA fR fB fM fI fE C CT : Addr} {fd fdT0 fdS fdW fdA fdR fdB fdM fdI fdE : FuncData} {k : Nat} (F : Fun K "law" "law" sLaw f fd)
    (FT0 : Fun K "_law_nest" "_law_nest" sTub fT0 fdT0) (GT0 : FnOk P w K mg base CX0 k fT0 fdT0 ["script"] (spTub K)) (bT0 : Binds K fdT0 ["script"] []) (gT0 : mg "_law_nest" = some (.ref fT0))
    (FS : Fun K "_law_perch" "_law_perch" sScoop fS fdS) (GS : FnOk P w K mg base CX0 k fS fdS ["nest", "many"] spScoop) (bS : Binds K fdS ["nest", "many"] []) (gS : mg "_law_perch" = some (.ref fS))
    (FW : Fun K "_law_wood" "_law_wood" sWood fW fdW) (GW : FnOk P w K mg base CX0 k fW fdW ["nest", "most"] (spWood K)) (bW : Binds K fdW ["nest", "most"] []) (gW : mg "_law_wood" = some (.ref fW))
    (FA : Fun K "_law_part" "_law_part" sLPart fA fdA) (GA : FnOk P w K mg base CX0 k fA fdA ["bags", "above"] (spLPart K)) (bA : Binds K fdA ["bags", "above"] []) (gA : mg "_law_part" = some (.ref fA))
    (FR : Fun K "_law_is_right" "_law_is_right" sLIsRight fR fdR) (GR : FnG P w K mg base k fR fdR ["tree", "bags", "above"] (spRight K C)) (bR : Binds K fdR ["tree", "bags", "above"] []) (gR : mg "_law_is_right" = some (.ref fR))
    (FB : Fun K "_law_bent" "_law_bent" sLBent fB fdB) (GB : FnOk P w K mg base CX0 k fB fdB ["nest", "bags", "above"] (spBent K)) (bB : Binds K fdB ["nest", "bags", "above"] []) (gB : mg "_law_bent" = some (.ref fB))
    (FM : Fun K "_law_made" "_law_made" sLMade fM fdM) (GM : FnOk P w K mg base CX0 k fM fdM ["bags", "above"] (spMade K C)) (bM : Binds K fdM ["bags", "above"] []) (gM : mg "_law_made" = some (.ref fM))
    (T : TTree K mg C) (MI : Mk K C fI) (GI : FnOk P w K mg base (L2.CX P w) k fI fdI ["self", "bags", "above"] (spTreeI K C CT)) (bI : Binds K fdI ["self", "bags", "above"] [])
    (eE : PySem.W.findIn K (.ref C) "__eq__" = some (some (.ref fE))) (eF : PySem.W.isFn K (.ref fE) = true) (eN : PySem.W.findIn K (.ref C) "__ne__" = some (some (.builtin "object.__ne__"))) (eM : PySem.W.mroIn K C (.type "object") = some true)
    (GE : FnOk P w K mg base CX0 k fE fdE ["self", "other"] (spEqT K C)) (bE : Binds K fdE ["self", "other"] []) (sbL : PySem.W.subIn K (.type "list") (.ref C) = some false) (sbT : PySem.W.subIn K (.type "tuple") (.ref C) = some false)
    (mrepr : mg "repr" = none) (mlen : mg "len" = none) (mtup : mg "tuple" = none) (mlist : mg "list" = none) (mrange : mg "range" = none) :
    FnG P w K mg base (k + 3) f fd ["script"] (spLaw K) := by
  refine fn_g F scLaw (fun {vs H Q E} h => ?_) (fun cdv A0 outer s H vs Q E hgd hr h => ?_)
  · obtain ⟨a, ns, rfl, _⟩ := h
    rfl
  · obtain ⟨a0, ns0, rfl, hS0, hl0, q⟩ := h
    have nd := scLaw.nd
    have hk := hr.mono (show k ≤ k + 2 by omega)
    have hk1 := hr.mono (show k + 1 ≤ k + 2 by omega)
    refine ⟨_, pss_cons (ps_set (i := 1) nd rfl (.inl rfl) (pe_call GT0 hk (by rfl) gT0 FT0.kp bT0 .nil pass0 (pa_cons (pv 0) (pa_nil)))) (pss_cons (ps_asg (pe_call GW hk (by rfl) gW FW.kp bW .nil pass0 (pa_cons (pv 1) (pa_cons (pe_int) (pa_nil)))) (pg_tup (by rfl) (pgs_cons (pg_name (i := 2) nd rfl (Or.inl rfl)) (pgs_cons (pg_name (i := 3) nd rfl (Or.inl rfl)) pgs_nil)))) (pss_cons (ps_set (i := 4) nd rfl (.inl rfl) (pe_make MI GI hk1 (by rfl) T.mgC bI .nil passF (pa_cons (pv 2) (pa_cons (pv 3) (pa_nil))))) (pss_cons (ps_if (PW.pt (pw_or (pt_cmpR op_notN (pe_call GA hk (by rfl) gA FA.kp bA .nil pass0 (pa_cons (pv 2) (pa_cons (pv 3) (pa_nil)))) (pe_non) (nomark _)) (pw_or1 (pt_not (pt_val (pe_callG GR hgd hk (by rfl) gR FR.kp bR pass0 (pa_cons (pv 4) (pa_cons (pv 2) (pa_cons (pv 3) (pa_nil)))))))))) (pss_one (ps_ret (pe_bl))) (pss_nil)) (pss_cons (ps_for PassesOwn.never rfl (pi_range1 (by rfl) mrange (pa_cons (pe_int) (pa_nil))) (pg_name (i := 5) nd rfl (Or.inl rfl)) (pss_cons (ps_asg (pe_call GB hk (by rfl) gB FB.kp bB .nil pass0 (pa_cons (pv 1) (pa_cons (pv 2) (pa_cons (pv 3) (pa_nil))))) (pg_tup (by rfl) (pgs_cons (pg_name (i := 6) nd rfl (Or.inl rfl)) (pgs_cons (pg_name (i := 7) nd rfl (Or.inl rfl)) pgs_nil)))) (pss_cons (ps_par (i := 8) (j := 9) (by rfl) nd rfl rfl (by decide) rfl rfl (pa_cons (pe_callB (call_reprE hgd hr.units) (by rfl) mrepr (by decide +kernel) (pa_cons (pe_lst (pa_cons (pv 6) (pa_cons (pv 7) (pa_nil)))) (pa_nil))) (pa_cons (pe_call GA hk (by rfl) gA FA.kp bA .nil pass0 (pa_cons (pv 6) (pa_cons (pv 7) (pa_nil)))) (pa_nil))) (by rfl)) (pss_cons (ps_asg (pe_call GM hk (by rfl) gM FM.kp bM .nil pass0 (pa_cons (pv 6) (pa_cons (pv 7) (pa_nil)))) (pg_tup (by rfl) (pgs_cons (pg_name (i := 10) nd rfl (Or.inl rfl)) (pgs_cons (pg_name (i := 11) nd rfl (Or.inl rfl)) pgs_nil)))) (pss_cons (ps_if (PW.pt (pw_or (pt_cmpR op_ne (pv 11) (pv 9) (nomark _)) (pw_or1 (pt_cmpR op_ne (pe_callB (call_reprE hgd hr.units) (by rfl) mrepr (by decide +kernel) (pa_cons (pe_lst (pa_cons (pv 6) (pa_cons (pv 7) (pa_nil)))) (pa_nil))) (pv 8) (nomark _))))) (pss_one (ps_ret (pe_bl))) (pss_nil)) (pss_one (ps_if (pt_cmpR op_isN (pv 9) (pe_non) (nomark _)) (pss_cons (ps_set (i := 12) nd rfl (.inl rfl) (pe_and (pe_cmpR (op_eqD hr.units) (pe_lc (own := [("row", 14)]) (g := gName 14) (tt := tYes) (te := tCB (rTup K) (tCons (tVar 14) tNil)) rfl nd (pi_ei (pv 6)) (blkOk_by (N := nLw) (sc := defScope sLaw) (by decide +kernel)) (fun _ _ _ _ _ => pg_name (i := 14) nd rfl (Or.inl rfl)) (fun _ _ _ _ _ => pts_nil) (fun _ _ _ _ _ => pe_callTy call_tuple_of (by rfl) mtup (by decide +kernel) (pa_cons (pv 14) (pa_nil)))) (pv 2) (nomark _)) (pe_one (pe_cmpR (op_eqD hr.units) (pv 7) (pv 3) (nomark _))))) (pss_one (ps_if (PW.pt (pw_or (pt_not (pt_val (pe_callG GR hgd hk (by rfl) gR FR.kp bR pass0 (pa_cons (pv 10) (pa_cons (pv 6) (pa_cons (pv 7) (pa_nil))))))) (pw_or (pt_cmpR op_ne (pe_cmpR (op_ownEq eE eF GE bE hk pass0) (pv 10) (pv 4) (nomark _)) (pv 12) (nomark _)) (pw_or1 (pt_cmpR op_eq (pe_cmpR (op_ownNe eE eF eN eM GE bE hk1 pass0) (pv 4) (pv 10) (nomark _)) (pv 12) (nomark _)))))) (pss_one (ps_ret (pe_bl))) (pss_nil)))) (pss_nil)))))))) (pss_cons (ps_if (PW.pt (pw_or (pt_cmpR (op_ownEqS eE eF GE bE hk pass0) (pv 4) (pv 2) (nomark _)) (pw_or (pt_cmpR (op_ownEqS eE eF GE bE hk pass0) (pv 4) (pe_tup (pa_cons (pv 2) (pa_cons (pv 3) (pa_nil)))) (nomark _)) (pw_or1 (pt_not (pt_cmpR (op_ownEqS eE eF GE bE hk pass0) (pv 4) (pe_make MI GI hk1 (by rfl) T.mgC bI .nil passF (pa_cons (pe_lc (own := [("bag", 15)]) (g := gName 15) (tt := tYes) (te := tCB (Evl.rListS K) (tCons (tVar 15) tNil)) rfl nd (pi_list (pv 2)) (blkOk_by (N := nLw) (sc := defScope sLaw) (by decide +kernel)) (fun _ _ _ _ _ => pg_name (i := 15) nd rfl (Or.inl rfl)) (fun _ _ _ _ _ => pts_nil) (fun _ _ _ _ _ => pe_callTy call_list_of (by rfl) mlist (by decide +kernel) (pa_cons (pv 15) (pa_nil)))) (pa_cons (pe_callTy call_tuple_of (by rfl) mtup (by decide +kernel) (pa_cons (pv 3) (pa_nil))) (pa_nil)))) (nomark _))))))) (pss_one (ps_ret (pe_bl))) (pss_nil)) (pss_cons (ps_if (pt_cmpR op_ne (pe_call GS hk (by rfl) gS FS.kp bS .nil pass0 (pa_cons (pv 1) (pa_cons (pe_int) (pa_nil)))) (pe_int) (nomark _)) (pss_one (ps_ret (pe_bl))) (pss_nil)) (pss_cons (ps_set (i := 13) nd rfl (.inl rfl) (pe_op op_add (pe_int) (pe_call GS hk (by rfl) gS FS.kp bS .nil pass0 (pa_cons (pv 1) (pa_cons (pe_int) (pa_nil)))))) (pss_cons (ps_asg (pe_call GM hk (by rfl) gM FM.kp bM .nil pass0 (pa_cons (pe_lc (own := [("at", 16)]) (g := gName 16) (tt := tYes) (te := tLst (tCons (tVar 16) tNil)) rfl nd (pi_range1 (by rfl) mrange (pa_cons (pv 13) (pa_nil))) (blkOk_by (N := nLw) (sc := defScope sLaw) (by decide +kernel)) (fun _ _ _ _ _ => pg_name (i := 16) nd rfl (Or.inl rfl)) (fun _ _ _ _ _ => pts_nil) (fun _ _ _ _ _ => pe_lst (pa_cons (pv 16) (pa_nil)))) (pa_cons (pe_op op_cat (pe_lst (pa_cons (pe_non) (pa_nil))) (pe_listRg rfl (by rfl) mlist (prg_1 (by rfl) mrange (pe_op op_sub (pv 13) (pe_int))))) (pa_nil)))) (pg_tup (by rfl) (pgs_cons (pg_name (i := 10) nd rfl (Or.inl rfl)) (pgs_cons (pg_name (i := 11) nd rfl (Or.inl rfl)) pgs_nil)))) (pss_one (ps_ret (pe_cmpR op_eq (pv 11) (pe_ifExp (pt_cmpR op_eq (pv 13) (pe_int) (nomark _)) pe_non pe_str) (nomark _)))))))))))), ?_⟩
    -- nest
    refine Go.asg_go (Go.call_raw (Go.cons_any ⟨_, rfl, a0, ns0, rfl, hS0, hl0, fun t c H1 nt nc e1 T1 => ?_⟩))
    try dsimp only [List.set_cons_zero, List.set_cons_succ]
    -- wood
    refine Go.q_asg1 (Go.call_raw (Go.cons_any ⟨_, rfl, Go.cons_c ⟨t, c, 0, rfl, T1, by omega, fun Tp A U as bs us H2 k2 T2 hTp hA hU hal hrow nTp nA nU ok n8 hnm => ⟨Tp, _, rfl, Evl.st_of hTp, rfl, _, _, rfl, _, _, rfl, rfl, ?_⟩⟩⟩))
    try dsimp only [List.set_cons_zero, List.set_cons_succ]
    obtain ⟨nm, nl, ninn, nrg⟩ := hnm
    have ta : Tld H2 t A U as bs us := ⟨hA, hU, hal, fun i a ns h1 h2 => ⟨(hrow i a ns h1 h2).2, (T1.ne (hrow i a ns h1 h2).1).1⟩, (T1.ne nA).1, (T1.ne nU).1⟩
    have sm : Sm bs us nm := ⟨ok.n1, n8, ok.up.1, fun i j h => by have := ok.up.2.1 i j h; omega, nl, nrg, ninn, fun ns hn => by
      have := ndI_le (asc_nd (ok.ok.asc ns hn)) (m := nm) (ninn ns hn)
      omega⟩
    -- first
    refine Go.asg_go (make_go (Evl.ea_cons (Evl.ev_var rfl) (Evl.ea_cons (Evl.ev_var rfl) Evl.ea_nil)) (ta.in2 sm) ok fun x H3 e3 hx3 => ?_)
    try dsimp only [List.set_cons_zero, List.set_cons_succ]
    have ta3 := ta.kept (kept_ex e3)
    have T3 := T2.ex e3
    have in3 : In3 K H3 (.ref A) (.ref U) (some (bs.map rowV)) (some (us.map uv)) := ⟨ta3.in2 sm, fun bs' e => ⟨nm, by omega, by have := rowV_inj (Option.some.inj e); subst this; exact ninn⟩⟩
    have wok := wrong_ok ok
    refine Evl.q_when (b := false) (Evl.et_is (Evl.et_or (a := false) (b := false) (Evl.et_is (Evl.et_test (Evl.ev_op (Evl.ev_call (vs := [.ref A, .ref U]) (Evl.ea_cons (Evl.ev_var rfl) (Evl.ea_cons (Evl.ev_var rfl) Evl.ea_nil)) (spv_lPart in3)) Evl.ev_c fun H2 e2 Q q => ⟨rfl, q H2 (Evl.Ex.refl _)⟩)) (by rw [wok]; rfl)) fun _ => Evl.et_is (Evl.et_not (Evl.et_B (Evl.ev_call (vs := [.ref x, .ref A, .ref U]) (Evl.ea_cons (Evl.ev_var rfl) (Evl.ea_cons (Evl.ev_var rfl) (Evl.ea_cons (Evl.ev_var rfl) Evl.ea_nil))) (spv_right hx3 (ta3.rw sm ok))))) rfl) rfl) (fun z => nomatch z) fun _ H4 e4 => ?_
    have ta4 := ta3.kept (kept_ex e4)
    have T4 := T3.ex e4
    obtain ⟨cs4, tn4, rs4, ht4, _⟩ := id T4
    have hx4 := (hx3.ex e4).strip ht4
    have hx : ∀ {G : Hp}, Kept t H4 G → TreeAt K C G x bs us := fun kp => (hx4.ex (kept_less kp)).ex (less_ex _ t)
    -- six turns
    refine q_forB (B := fun _ => none) (n := 6) (s := fun i σ => σ.set 5 (some (.int (0 + i)))) (eb_rng1 (j := 6) (Evl.ea_cons Evl.ev_c Evl.ea_nil) (by decide) (by decide)) aims_fn (fun _ _ h => nomatch h) (fun i σ' G => (∃ y5 y6 y7 y8 y9 y10 y11 y12, σ' = [some (.ref a0), some (.ref t), some (.ref A), some (.ref U), some (.ref x), y5, y6, y7, y8, y9, y10, y11, y12, none, none, none, none]) ∧ Kept t H4 G ∧ Tub G t c (1000 + 10 * i)) (fun G eG => ⟨⟨_, _, _, _, _, _, _, _, rfl⟩, kept_ex eG, T4.ex eG⟩) (fun _ _ _ _ _ _ _ h => nomatch h) (fun i σ' G0 G hi p eG => ?_) fun σ' G p => ?_
    · obtain ⟨⟨y5, y6, y7, y8, y9, y10, y11, y12, rfl⟩, kp, TG⟩ := p
      have kp := kp.trans (kept_ex eG)
      have TG := TG.ex eG
      refine Go.q_asg1 (Go.call_raw (Go.cons_any ⟨_, rfl, Go.cons_any ⟨_, rfl, Go.cons_any ⟨_, rfl, t, c, A, U, _, as, bs, us, nm, rfl, TG, by omega, ta4.kept kp, sm, fun Tq b u G1 k1 TG1 hTq good => ⟨Tq, _, rfl, Evl.st_of hTq, rfl, _, _, rfl, _, _, rfl, rfl, ?_⟩⟩⟩⟩))
      try dsimp only [List.set_cons_zero, List.set_cons_succ]
      have kp1 := kp.trans k1
      obtain ⟨rb, ru, d1, d2, hI3, hd1, hd2, hs1, hs2, hli, hbk⟩ := good
      refine Go.par_go (Go.cons_any (Go.go (ev_rep2 (i := 6) (j := 7) rfl rfl hd1 hd2 hs1 hs2) fun G2 e2 => Go.cons_any (Go.go (Evl.ev_call (vs := [b, u]) (Evl.ea_cons (Evl.ev_var rfl) (Evl.ea_cons (Evl.ev_var rfl) Evl.ea_nil)) (spv_lPart (hI3.ex e2))) fun G3 e3' => ⟨_, _, rfl, ?_⟩)))
      try dsimp only [List.set_cons_zero, List.set_cons_succ]
      have e13 := e2.trans e3'
      refine Go.q_asg1 (Go.call_raw (Go.cons_any ⟨_, rfl, Go.cons_any ⟨_, rfl, b, u, rb, ru, rfl, (hI3.ex e13).in2, fun Tm f2 G4 e4' hTm md => ⟨Tm, _, rfl, Evl.st_of hTm, rfl, _, _, rfl, _, _, rfl, rfl, ?_⟩⟩⟩))
      try dsimp only [List.set_cons_zero, List.set_cons_succ]
      have e14 := e13.trans e4'
      have scW : scal (wrongV rb ru) (wrongV rb ru) = true := by rcases wrongV_cases rb ru with h | ⟨s, h⟩ <;> rw [h] <;> rfl
      refine Evl.q_when (b := false) (Evl.et_is (Evl.et_or (a := false) (b := false) (Evl.et_is (Evl.et_test (Evl.ev_op (x := wrongV rb ru) (y := wrongV rb ru) (Evl.ev_var rfl) (Evl.ev_var rfl) (Evl.rv_ne scW))) (by rw [decide_eq_true rfl]; rfl)) fun _ => Evl.et_is (Evl.et_test (Evl.ev_op (x := V.str (PyData.list [d1, d2]).shown) (y := V.str (PyData.list [d1, d2]).shown) (ev_rep2 (i := 6) (j := 7) rfl rfl (dpe_ex e14 hd1) (dpe_ex e14 hd2) hs1 hs2) (Evl.ev_var rfl) (Evl.rv_ne rfl))) (by rw [decide_eq_true rfl]; rfl)) rfl) (fun z => nomatch z) fun _ G5 e5 => ?_
      have e15 := e14.trans e5
      have kp5 := kp1.trans (kept_ex e15)
      have done : ∀ {G' : Hp} {y12' : Option V}, Evl.Ex G5 G' → (∃ y5 y6 y7 y8 y9 y10 y11 y12, ([some (.ref a0), some (.ref t), some (.ref A), some (.ref U), some (.ref x), some (.int (0 + (i : Int))), some b, some u, some (.str (PyData.list [d1, d2]).shown), some (wrongV rb ru), some f2, some (wrongV rb ru), y12', none, none, none, none] : L2.St) = [some (.ref a0), some (.ref t), some (.ref A), some (.ref U), some (.ref x), y5, y6, y7, y8, y9, y10, y11, y12, none, none, none, none]) ∧ Kept t H4 G' ∧ Tub G' t c (1000 + 10 * (i + 1)) := fun e => ⟨⟨_, _, _, _, _, _, _, _, rfl⟩, kp5.trans (kept_ex e), ((TG1.ex e15).ex e).mono (by omega)⟩
      refine Evl.s_when (b := decide (wrongV rb ru = .non)) (Evl.et_test (Evl.ev_op (Evl.ev_var rfl) Evl.ev_c rv_isN)) (fun hc G6 e6 => ?_) fun hc G6 e6 => done e6
      obtain ⟨bs', us', x', rfl, rfl, ok', rfl, hx'⟩ := md (of_decide_eq_true hc)
      have e16 := e15.trans e6
      have hx6' := hx'.ex (e5.trans e6)
      obtain ⟨U', rfl, hU'⟩ := hli _ rfl
      obtain ⟨A', U2, xs', rfl, q2, hZ', hR', hsz'⟩ := hI3.in2.rows ok'.n1
      cases q2
      obtain ⟨b8, bb⟩ := hbk bs' rfl ok'.ok
      have sA' : SqS K G1 A' xs' := hZ'.elim (fun h => .inl h.1) fun h => h.1
      have rw' : Rw K G6 A' U' bs' us' := ⟨⟨xs', sA'.ex e16, hR'.ex e16⟩, .inl (Evl.ex_l e16 hU'), ok', b8, hI3.few bs' rfl, fun ns hn => (bb ns hn).2, fun ns hn => (bb ns hn).1⟩
      have kp6 := kp1.trans (kept_ex e16)
      have ta6 := ta4.kept kp6
      have hx6 := hx kp6
      refine Evl.q_asg (v := .bl (decide (bs' = bs) && decide (us' = us))) (Evl.ev_andV (a := decide (bs' = bs)) (b := decide (us' = us)) (ev_sameRows (K := K) (i := 6) (j := 14) (tb := tVar 2) (A0 := A) rfl (fun _ => rfl) (fun _ => rfl) (sA'.ex e16) (hR'.ex e16) (by omega) (Evl.ev_var rfl) (Evl.sq_of ta6.hA) (by rw [List.length_map, ta6.len]) fun i ns hn => by
        have h1 := List.getElem?_eq_getElem (show i < as.length by rw [ta6.len]; exact (List.getElem?_eq_some_iff.mp hn).1)
        exact ⟨_, by rw [List.getElem?_map, h1]; rfl, Evl.st_of (ta6.row i _ ns h1 hn).1⟩) fun _ => ev_sameUps (Evl.ev_var rfl) (Evl.ev_var rfl) (Evl.ex_l e16 hU') (Evl.sq_of ta6.hU)) fun G7 e7 => ?_
      try dsimp only [List.set_cons_zero, List.set_cons_succ]
      have hx7' := hx6'.ex e7
      have hx7 := hx6.ex e7
      refine Evl.s_when (b := false) (Evl.et_is (Evl.et_or (a := false) (b := false) (Evl.et_is (Evl.et_not (Evl.et_B (Evl.ev_call (vs := [.ref x', .ref A', .ref U']) (Evl.ea_cons (Evl.ev_var rfl) (Evl.ea_cons (Evl.ev_var rfl) (Evl.ea_cons (Evl.ev_var rfl) Evl.ea_nil))) (spv_right hx7' (rw'.mv e7))))) rfl) fun _ => Evl.et_or (a := false) (b := false) (Evl.et_is (Evl.et_test (Evl.ev_op (Evl.ev_op (x := .ref x') (y := .ref x) (Evl.ev_var rfl) (Evl.ev_var rfl) (rv_own false hx7' hx7)) (Evl.ev_var rfl) (Evl.rv_ne rfl))) (by rw [Bool.bne_false, decide_eq_true rfl]; rfl)) fun _ => Evl.et_is (Evl.et_test (Evl.ev_op (Evl.ev_op (x := .ref x) (y := .ref x') (Evl.ev_var rfl) (Evl.ev_var rfl) (rv_own true hx7 hx7')) (Evl.ev_var rfl) (Evl.rv_eq rfl))) (by
        rw [show decide (bs = bs') = decide (bs' = bs) from decide_eq_decide.mpr eq_comm, show decide (us = us') = decide (us' = us) from decide_eq_decide.mpr eq_comm]
        cases (decide (bs' = bs) && decide (us' = us)) <;> rfl)) rfl) (fun z => nomatch z) fun _ G8 e8 => done ((e6.trans e7).trans e8)
    · obtain ⟨⟨y5, y6, y7, y8, y9, y10, y11, y12, rfl⟩, kp, TG⟩ := p
      have taG := ta4.kept kp
      have hxG := hx kp
      -- against others
      refine Evl.q_when (b := false) (Evl.et_is (Evl.et_or (a := false) (b := false) (Evl.et_test (Evl.ev_op (x := .ref x) (y := .ref A) (Evl.ev_var rfl) (Evl.ev_var rfl) (rv_ownS hxG (.inl (Evl.sq_of taG.hA)) sbL sbT))) fun _ => Evl.et_or (a := false) (b := false) (fun G1 e1 Q1 q1 => ⟨.ref x, rfl, .ref A, rfl, .ref U, rfl, (by show 2 ≤ sizeLine; decide), fun T2 hT2 => ?_⟩) fun _ => Evl.et_is (Evl.et_not (a := true) fun G1 e1 Q1 q1 => ⟨.ref x, rfl, make_raw (Go.cons_any (go_lcD (H := G1) (n := (as.map V.ref).length) (o := fun i => .lst ((bs.getD i []).map V.int)) (ei_list (K := K) (Evl.ev_var (i := 2) rfl) (Evl.sq_of (e1 _ _ taG.hA))) (aims_at (j := 15)) (fun _ => rfl) (by rw [List.length_map, taG.len]; have := sm.n8; omega) (fun i hi G2 e2 Q2 q2 => ?_) G1 (Evl.Ex.refl _) _ fun R rs H5 nR e5 hR hrl hrnd hrow2 => Go.cons_any ((en_tupS (K := K) (Evl.ev_var (i := 3) rfl) (.inl (Evl.sq_of (e5 _ _ (e1 _ _ taG.hU))))) H5 (Evl.Ex.refl _) _ fun v6 H6 e6 hv6 => ?_)))⟩) rfl) rfl) (fun z => nomatch z) fun _ G1 e1 => ?_
      · have eT := Evl.Ex.new (o := .tup [V.ref A, V.ref U]) hT2
        exact (rv_ownS (hxG.ex (e1.trans eT)) (.inr (Evl.st_of upd_same)) sbL sbT) _ (Evl.Ex.refl _) _ fun H2 e2 => ⟨_, rfl, q1 H2 (eT.trans e2)⟩
      · rw [List.length_map] at hi
        have h1 := List.getElem?_eq_getElem hi
        have h2 := List.getElem?_eq_getElem (show i < bs.length by rw [← taG.len]; exact hi)
        have ex : (as.map V.ref).getD i .non = .ref as[i] := by rw [List.getD_eq_getElem?_getD, List.getElem?_map, h1]; rfl
        rw [ex]
        have hr := (taG.row i _ _ h1 h2).1
        refine ⟨.ref as[i], rfl, as[i], (bs[i]'(by rw [← taG.len]; exact hi)).map V.int, rfl, .inr (Evl.st_of (e2 _ _ (e1 _ _ hr))), fun l hl => ?_⟩
        refine q2 l _ hl (Evl.Ex.new hl) ?_
        rw [upd_same, List.getD_eq_getElem?_getD, h2]
        rfl
      · obtain ⟨u2, rfl, tu2⟩ := hv6 H6 e6 fun _ _ _ h => h
        rw [List.length_map] at hrl
        have hRR : RowsB K H6 (rs.map V.ref) bs := ⟨by rw [List.length_map, hrl, taG.len], fun i ns hn => by
          have hlt : i < rs.length := by rw [hrl, taG.len]; exact (List.getElem?_eq_some_iff.mp hn).1
          have h1 := List.getElem?_eq_getElem hlt
          have h3 := (hrow2 i _ h1).2.2
          rw [List.getD_eq_getElem?_getD, hn] at h3
          exact ⟨_, by rw [List.getElem?_map, h1]; rfl, .inl (Evl.sq_of (e6 _ _ h3))⟩⟩
        have sR : SqL K H6 R (rs.map V.ref) := Evl.sq_of (e6 _ _ hR)
        refine nil_go (make_fin (Q := fun v H2 => rOwnEqS K C false (spEqT K C) E0 (.ref x) v H2 fun z H' => ∃ k, z = V.bl k ∧ Q1 k H') (in2_of (.inl sR) hRR (.inr tu2) (.inr ⟨.inl sR, tu2⟩) (by have := sm.n8; omega) (by have := sm.n8; have := sm.ul; omega) (sm_sum sm.n8 sm.bl (by decide))) ok fun x2 H7 e7 hx2 => ?_)
        have e17 := ((e1.trans e5).trans e6).trans e7
        exact (rv_ownT (hxG.ex e17) hx2) H7 (Evl.Ex.refl _) _ fun H8 e8 => ⟨_, rfl, by
          rw [decide_eq_true rfl, decide_eq_true rfl]
          exact q1 H8 (((e5.trans e6).trans e7).trans e8)⟩
      -- the chain
      have TG1 := TG.ex e1
      refine ifs_go (test_go (Go.op_go (scoop_goJ (c := c) rfl Evl.ev_c TG1 (by omega) (by decide) (by decide) fun r G2 hr2 k2 T2 => c_go ?_)))
      refine (Evl.rv_ne (x := V.int (r : Int)) (y := V.int 7) rfl) G2 (Evl.Ex.refl _) _ fun G3 e3 => ⟨_, rfl, if_go (fun _ => Evl.s_ret Evl.ev_c fun G4 _ => q G4) fun _ => ?_⟩
      refine Go.asg_go (Go.op_go (c_go (scoop_goJ (c := c) rfl Evl.ev_c (T2.ex e3) (by omega) (by decide) (by decide) fun r5 G5 hr5 k5 T5 => ⟨2000, (r5 : Int), rfl, rfl, ?_⟩)))
      dsimp only
      have hn2 : (2000 : Int) + (r5 : Int) = ((2000 + r5 : Nat) : Int) := rfl
      rw [hn2]
      generalize hm : 2000 + r5 = m
      try dsimp only [List.set_cons_zero, List.set_cons_succ]
      have hm1 : 2000 ≤ m ∧ m ≤ 2001 := by omega
      refine Go.q_asg1 (Go.call_raw (Go.cons_any (go_lcD (H := G5) (n := m) (o := fun i => .lst [V.int (0 + (i : Int))]) (ei_rng1 (j := (m : Int)) (Evl.ea_cons (Evl.ev_var (i := 13) rfl) Evl.ea_nil) (by omega) (by omega)) (aims_fn (j := 16)) (fun _ => rfl) (by omega) (fun i hi G6 e6 Q6 q6 => ?_) G5 (Evl.Ex.refl _) _ fun D ds H6 nD e6 hD hdl hdnd hdrow => Go.cons_any ?_)))
      · refine ⟨_, rfl, (by show 1 ≤ sizeLine; decide), fun p hp => q6 p _ hp (Evl.Ex.new hp) upd_same⟩
      refine (el_catNN (Evl.el_lst (vs := [V.non]) (Evl.ea_cons (ta := tC .non) Evl.ev_c Evl.ea_nil) (by show 1 ≤ 100000; decide)) (el_rg1 (m := m - 1) (Evl.ev_is (Evl.ev_op (Evl.ev_var (i := 13) rfl) Evl.ev_c Evl.rv_I0) (by show V.int ((m : Int) - 1) = _; congr 1; omega)) (by omega)) (by rw [List.length_map, rngI_len]; show 1 + _ ≤ _; omega)) H6 (Evl.Ex.refl _) _ fun UU H7 nUU e7 hUU => ?_
      have hUU : H7 UU = some (.lst ((chU m).map uv)) := by rw [hUU, chU_vals]; rfl
      have sD : SqL K H7 D (ds.map V.ref) := Evl.sq_of (e7 _ _ hD)
      have hRD : RowsB K H7 (ds.map V.ref) (chB m) := ⟨by rw [List.length_map, hdl, chB_len], fun i ns hn => by
        have hlt : i < m := by have := (List.getElem?_eq_some_iff.mp hn).1; rwa [chB_len] at this
        have h1 := List.getElem?_eq_getElem (show i < ds.length by omega)
        have h3 := (hdrow i _ h1).2.2
        rw [chB_at hlt] at hn
        cases hn
        refine ⟨_, by rw [List.getElem?_map, h1]; rfl, .inl (Evl.sq_of (e7 _ _ ?_))⟩
        rw [h3, Int.zero_add]
        rfl⟩
      have inC : In2 K H7 (.ref D) (.ref UU) (some ((chB m).map rowV)) (some ((chU m).map uv)) := in2_of (.inl sD) hRD (.inl (Evl.sq_of hUU)) (.inl ⟨sD, Evl.sq_of hUU⟩) (by rw [chB_len]; omega) (by rw [chU_len (by omega)]; omega) (by rw [chain_sum]; omega)
      refine ⟨.ref D, .ref UU, _, _, rfl, inC, fun Tm f2 H8 e8 hTm md => ⟨Tm, _, rfl, Evl.st_of hTm, rfl, _, _, rfl, _, _, rfl, rfl, ?_⟩⟩
      try dsimp only [List.set_cons_zero, List.set_cons_succ]
      have hW : wrongV (some ((chB m).map rowV)) (some ((chU m).map uv)) = if m = 2000 then V.non else .str "bags" := by
        split
        · rename_i h
          exact wrong_ok (chain_ok (by omega) (by omega))
        · exact chain_bad (by omega)
      rw [hW]
      refine Evl.s_ret (v := .bl true) (Evl.ev_is (Evl.ev_op (x := if m = 2000 then V.non else .str "bags") (y := if m = 2000 then V.non else .str "bags") (Evl.ev_var rfl) (Evl.ev_if (b := decide (m = 2000)) (Evl.et_is (Evl.et_test (Evl.ev_op (Evl.ev_var rfl) Evl.ev_c (Evl.rv_eq rfl))) (decide_eq_decide.mpr ⟨fun z => by have := V.int.inj z; omega, fun z => by rw [z]; rfl⟩)) (fun hc => Evl.ev_is Evl.ev_c (by rw [if_pos (of_decide_eq_true hc)])) fun hc => Evl.ev_is Evl.ev_c (by rw [if_neg (of_decide_eq_false hc)])) (Evl.rv_eq (by split <;> rfl))) (by rw [decide_eq_true rfl])) fun H9 _ => q H9
end
end P41
end S_Bay
section S_Bbb
namespace P41
open PySem PySem.Spec PyProof.Rows L2 Tl Hk RZ EnL
set_option maxHeartbeats 4000000 in
theorem all_mk {l : PySem.W.OpenLaw} {w : World} {K : PySem.W.Frag} {h : Heap} {mg : Str → Option Value} {fa fIn fWi fLi fRo fAb fTa fHt fFt fFr fIb fWp fTu fPe fPk fSt fWo fPi fIc fLb fAa fLp fBe fMd fRi fLa CS CT fTCI WC fTI fTE : Addr} (X : K.In h) (G : h.Ns mainGlobals mg) (hfa : mg "law" = some (.ref fa))
    {odIn anIn : Option Addr} {slIn : Array (Option Value)} {ocIn kVIn dcIn pmIn cdIn ctIn : Value}
    (aIn : PySem.W.nsIn K mainGlobals "is_integer" = some (some (.ref fIn)))
    (lIn : K.lookup fIn = some ⟨ocIn, odIn, .func (PySem.W.fnOf "is_integer" "is_integer" (defArgs sInteger) (defBody sInteger) (defScope sInteger) .none kVIn dcIn pmIn anIn cdIn ctIn), slIn⟩)
    (cIn : PySem.W.codeIn K cdIn "is_integer" = true)
    (kIn : PySem.W.keepIn K (.ref fIn) = true)
    {odWi anWi : Option Addr} {slWi : Array (Option Value)} {ocWi kVWi dcWi pmWi cdWi ctWi : Value}
    (aWi : PySem.W.nsIn K mainGlobals "is_within" = some (some (.ref fWi)))
    (lWi : K.lookup fWi = some ⟨ocWi, odWi, .func (PySem.W.fnOf "is_within" "is_within" (defArgs sWithin) (defBody sWithin) (defScope sWithin) .none kVWi dcWi pmWi anWi cdWi ctWi), slWi⟩)
    (cWi : PySem.W.codeIn K cdWi "is_within" = true)
    (kWi : PySem.W.keepIn K (.ref fWi) = true)
    {odLi anLi : Option Addr} {slLi : Array (Option Value)} {ocLi kVLi dcLi pmLi cdLi ctLi : Value}
    (aLi : PySem.W.nsIn K mainGlobals "is_list" = some (some (.ref fLi)))
    (lLi : K.lookup fLi = some ⟨ocLi, odLi, .func (PySem.W.fnOf "is_list" "is_list" (defArgs sList) (defBody sList) (defScope sList) .none kVLi dcLi pmLi anLi cdLi ctLi), slLi⟩)
    (cLi : PySem.W.codeIn K cdLi "is_list" = true)
    (kLi : PySem.W.keepIn K (.ref fLi) = true)
    {odRo anRo : Option Addr} {slRo : Array (Option Value)} {ocRo kVRo dcRo pmRo cdRo ctRo : Value}
    (aRo : PySem.W.nsIn K mainGlobals "is_row" = some (some (.ref fRo)))
    (lRo : K.lookup fRo = some ⟨ocRo, odRo, .func (PySem.W.fnOf "is_row" "is_row" (defArgs sRow) (defBody sRow) (defScope sRow) .none kVRo dcRo pmRo anRo cdRo ctRo), slRo⟩)
    (cRo : PySem.W.codeIn K cdRo "is_row" = true)
    (kRo : PySem.W.keepIn K (.ref fRo) = true)
    {odAb anAb : Option Addr} {slAb : Array (Option Value)} {ocAb kVAb dcAb pmAb cdAb ctAb : Value}
    (aAb : PySem.W.nsIn K mainGlobals "are_bags" = some (some (.ref fAb)))
    (lAb : K.lookup fAb = some ⟨ocAb, odAb, .func (PySem.W.fnOf "are_bags" "are_bags" (defArgs sAreBags) (defBody sAreBags) (defScope sAreBags) .none kVAb dcAb pmAb anAb cdAb ctAb), slAb⟩)
    (cAb : PySem.W.codeIn K cdAb "are_bags" = true)
    (kAb : PySem.W.keepIn K (.ref fAb) = true)
    {odTa anTa : Option Addr} {slTa : Array (Option Value)} {ocTa kVTa dcTa pmTa cdTa ctTa : Value}
    (aTa : PySem.W.nsIn K mainGlobals "tells_above" = some (some (.ref fTa)))
    (lTa : K.lookup fTa = some ⟨ocTa, odTa, .func (PySem.W.fnOf "tells_above" "tells_above" (defArgs sTells) (defBody sTells) (defScope sTells) .none kVTa dcTa pmTa anTa cdTa ctTa), slTa⟩)
    (cTa : PySem.W.codeIn K cdTa "tells_above" = true)
    (kTa : PySem.W.keepIn K (.ref fTa) = true)
    {odHt anHt : Option Addr} {slHt : Array (Option Value)} {ocHt kVHt dcHt pmHt cdHt ctHt : Value}
    (aHt : PySem.W.nsIn K mainGlobals "hang_together" = some (some (.ref fHt)))
    (lHt : K.lookup fHt = some ⟨ocHt, odHt, .func (PySem.W.fnOf "hang_together" "hang_together" (defArgs sHang) (defBody sHang) (defScope sHang) .none kVHt dcHt pmHt anHt cdHt ctHt), slHt⟩)
    (cHt : PySem.W.codeIn K cdHt "hang_together" = true)
    (kHt : PySem.W.keepIn K (.ref fHt) = true)
    {odFt anFt : Option Addr} {slFt : Array (Option Value)} {ocFt kVFt dcFt pmFt cdFt ctFt : Value}
    (aFt : PySem.W.nsIn K mainGlobals "from_top" = some (some (.ref fFt)))
    (lFt : K.lookup fFt = some ⟨ocFt, odFt, .func (PySem.W.fnOf "from_top" "from_top" (defArgs sFromTop) (defBody sFromTop) (defScope sFromTop) .none kVFt dcFt pmFt anFt cdFt ctFt), slFt⟩)
    (cFt : PySem.W.codeIn K cdFt "from_top" = true)
    (kFt : PySem.W.keepIn K (.ref fFt) = true)
    {odFr anFr : Option Addr} {slFr : Array (Option Value)} {ocFr kVFr dcFr pmFr cdFr ctFr : Value}
    (aFr : PySem.W.nsIn K mainGlobals "fresh_in" = some (some (.ref fFr)))
    (lFr : K.lookup fFr = some ⟨ocFr, odFr, .func (PySem.W.fnOf "fresh_in" "fresh_in" (defArgs sFresh) (defBody sFresh) (defScope sFresh) .none kVFr dcFr pmFr anFr cdFr ctFr), slFr⟩)
    (cFr : PySem.W.codeIn K cdFr "fresh_in" = true)
    (kFr : PySem.W.keepIn K (.ref fFr) = true)
    {odIb anIb : Option Addr} {slIb : Array (Option Value)} {ocIb kVIb dcIb pmIb cdIb ctIb : Value}
    (aIb : PySem.W.nsIn K mainGlobals "_is_bag" = some (some (.ref fIb)))
    (lIb : K.lookup fIb = some ⟨ocIb, odIb, .func (PySem.W.fnOf "_is_bag" "_is_bag" (defArgs sIsBag) (defBody sIsBag) (defScope sIsBag) .none kVIb dcIb pmIb anIb cdIb ctIb), slIb⟩)
    (cIb : PySem.W.codeIn K cdIb "_is_bag" = true)
    (kIb : PySem.W.keepIn K (.ref fIb) = true)
    {odWp anWp : Option Addr} {slWp : Array (Option Value)} {ocWp kVWp dcWp pmWp cdWp ctWp : Value}
    (aWp : PySem.W.nsIn K mainGlobals "_wrong_part" = some (some (.ref fWp)))
    (lWp : K.lookup fWp = some ⟨ocWp, odWp, .func (PySem.W.fnOf "_wrong_part" "_wrong_part" (defArgs sWrong) (defBody sWrong) (defScope sWrong) .none kVWp dcWp pmWp anWp cdWp ctWp), slWp⟩)
    (cWp : PySem.W.codeIn K cdWp "_wrong_part" = true)
    (kWp : PySem.W.keepIn K (.ref fWp) = true)
    {odTu anTu : Option Addr} {slTu : Array (Option Value)} {ocTu kVTu dcTu pmTu cdTu ctTu : Value}
    (aTu : PySem.W.nsIn K mainGlobals "_law_nest" = some (some (.ref fTu)))
    (lTu : K.lookup fTu = some ⟨ocTu, odTu, .func (PySem.W.fnOf "_law_nest" "_law_nest" (defArgs sTub) (defBody sTub) (defScope sTub) .none kVTu dcTu pmTu anTu cdTu ctTu), slTu⟩)
    (cTu : PySem.W.codeIn K cdTu "_law_nest" = true)
    (kTu : PySem.W.keepIn K (.ref fTu) = true)
    {odPe anPe : Option Addr} {slPe : Array (Option Value)} {ocPe kVPe dcPe pmPe cdPe ctPe : Value}
    (aPe : PySem.W.nsIn K mainGlobals "_law_perch" = some (some (.ref fPe)))
    (lPe : K.lookup fPe = some ⟨ocPe, odPe, .func (PySem.W.fnOf "_law_perch" "_law_perch" (defArgs sScoop) (defBody sScoop) (defScope sScoop) .none kVPe dcPe pmPe anPe cdPe ctPe), slPe⟩)
    (cPe : PySem.W.codeIn K cdPe "_law_perch" = true)
    (kPe : PySem.W.keepIn K (.ref fPe) = true)
    {odPk anPk : Option Addr} {slPk : Array (Option Value)} {ocPk kVPk dcPk pmPk cdPk ctPk : Value}
    (aPk : PySem.W.nsIn K mainGlobals "_law_pick" = some (some (.ref fPk)))
    (lPk : K.lookup fPk = some ⟨ocPk, odPk, .func (PySem.W.fnOf "_law_pick" "_law_pick" (defArgs sPick) (defBody sPick) (defScope sPick) .none kVPk dcPk pmPk anPk cdPk ctPk), slPk⟩)
    (cPk : PySem.W.codeIn K cdPk "_law_pick" = true)
    (kPk : PySem.W.keepIn K (.ref fPk) = true)
    {odSt anSt : Option Addr} {slSt : Array (Option Value)} {ocSt kVSt dcSt pmSt cdSt ctSt : Value}
    (aSt : PySem.W.nsIn K mainGlobals "_law_stirred" = some (some (.ref fSt)))
    (lSt : K.lookup fSt = some ⟨ocSt, odSt, .func (PySem.W.fnOf "_law_stirred" "_law_stirred" (defArgs sStirred) (defBody sStirred) (defScope sStirred) .none kVSt dcSt pmSt anSt cdSt ctSt), slSt⟩)
    (cSt : PySem.W.codeIn K cdSt "_law_stirred" = true)
    (kSt : PySem.W.keepIn K (.ref fSt) = true)
    {odWo anWo : Option Addr} {slWo : Array (Option Value)} {ocWo kVWo dcWo pmWo cdWo ctWo : Value}
    (aWo : PySem.W.nsIn K mainGlobals "_law_wood" = some (some (.ref fWo)))
    (lWo : K.lookup fWo = some ⟨ocWo, odWo, .func (PySem.W.fnOf "_law_wood" "_law_wood" (defArgs sWood) (defBody sWood) (defScope sWood) .none kVWo dcWo pmWo anWo cdWo ctWo), slWo⟩)
    (cWo : PySem.W.codeIn K cdWo "_law_wood" = true)
    (kWo : PySem.W.keepIn K (.ref fWo) = true)
    {odPi anPi : Option Addr} {slPi : Array (Option Value)} {ocPi kVPi dcPi pmPi cdPi ctPi : Value}
    (aPi : PySem.W.nsIn K mainGlobals "_law_pieces" = some (some (.ref fPi)))
    (lPi : K.lookup fPi = some ⟨ocPi, odPi, .func (PySem.W.fnOf "_law_pieces" "_law_pieces" (defArgs sPieces) (defBody sPieces) (defScope sPieces) .none kVPi dcPi pmPi anPi cdPi ctPi), slPi⟩)
    (cPi : PySem.W.codeIn K cdPi "_law_pieces" = true)
    (kPi : PySem.W.keepIn K (.ref fPi) = true)
    {odIc anIc : Option Addr} {slIc : Array (Option Value)} {ocIc kVIc dcIc pmIc cdIc ctIc : Value}
    (aIc : PySem.W.nsIn K mainGlobals "_law_is_count" = some (some (.ref fIc)))
    (lIc : K.lookup fIc = some ⟨ocIc, odIc, .func (PySem.W.fnOf "_law_is_count" "_law_is_count" (defArgs sLIsCount) (defBody sLIsCount) (defScope sLIsCount) .none kVIc dcIc pmIc anIc cdIc ctIc), slIc⟩)
    (cIc : PySem.W.codeIn K cdIc "_law_is_count" = true)
    (kIc : PySem.W.keepIn K (.ref fIc) = true)
    {odLb anLb : Option Addr} {slLb : Array (Option Value)} {ocLb kVLb dcLb pmLb cdLb ctLb : Value}
    (aLb : PySem.W.nsIn K mainGlobals "_law_is_bag" = some (some (.ref fLb)))
    (lLb : K.lookup fLb = some ⟨ocLb, odLb, .func (PySem.W.fnOf "_law_is_bag" "_law_is_bag" (defArgs sLIsBag) (defBody sLIsBag) (defScope sLIsBag) .none kVLb dcLb pmLb anLb cdLb ctLb), slLb⟩)
    (cLb : PySem.W.codeIn K cdLb "_law_is_bag" = true)
    (kLb : PySem.W.keepIn K (.ref fLb) = true)
    {odAa anAa : Option Addr} {slAa : Array (Option Value)} {ocAa kVAa dcAa pmAa cdAa ctAa : Value}
    (aAa : PySem.W.nsIn K mainGlobals "_law_are_above" = some (some (.ref fAa)))
    (lAa : K.lookup fAa = some ⟨ocAa, odAa, .func (PySem.W.fnOf "_law_are_above" "_law_are_above" (defArgs sLAreAbove) (defBody sLAreAbove) (defScope sLAreAbove) .none kVAa dcAa pmAa anAa cdAa ctAa), slAa⟩)
    (cAa : PySem.W.codeIn K cdAa "_law_are_above" = true)
    (kAa : PySem.W.keepIn K (.ref fAa) = true)
    {odLp anLp : Option Addr} {slLp : Array (Option Value)} {ocLp kVLp dcLp pmLp cdLp ctLp : Value}
    (aLp : PySem.W.nsIn K mainGlobals "_law_part" = some (some (.ref fLp)))
    (lLp : K.lookup fLp = some ⟨ocLp, odLp, .func (PySem.W.fnOf "_law_part" "_law_part" (defArgs sLPart) (defBody sLPart) (defScope sLPart) .none kVLp dcLp pmLp anLp cdLp ctLp), slLp⟩)
    (cLp : PySem.W.codeIn K cdLp "_law_part" = true)
    (kLp : PySem.W.keepIn K (.ref fLp) = true)
    {odBe anBe : Option Addr} {slBe : Array (Option Value)} {ocBe kVBe dcBe pmBe cdBe ctBe : Value}
    (aBe : PySem.W.nsIn K mainGlobals "_law_bent" = some (some (.ref fBe)))
    (lBe : K.lookup fBe = some ⟨ocBe, odBe, .func (PySem.W.fnOf "_law_bent" "_law_bent" (defArgs sLBent) (defBody sLBent) (defScope sLBent) .none kVBe dcBe pmBe anBe cdBe ctBe), slBe⟩)
    (cBe : PySem.W.codeIn K cdBe "_law_bent" = true)
    (kBe : PySem.W.keepIn K (.ref fBe) = true)
    {odMd anMd : Option Addr} {slMd : Array (Option Value)} {ocMd kVMd dcMd pmMd cdMd ctMd : Value}
    (aMd : PySem.W.nsIn K mainGlobals "_law_made" = some (some (.ref fMd)))
    (lMd : K.lookup fMd = some ⟨ocMd, odMd, .func (PySem.W.fnOf "_law_made" "_law_made" (defArgs sLMade) (defBody sLMade) (defScope sLMade) .none kVMd dcMd pmMd anMd cdMd ctMd), slMd⟩)
    (cMd : PySem.W.codeIn K cdMd "_law_made" = true)
    (kMd : PySem.W.keepIn K (.ref fMd) = true)
    {odRi anRi : Option Addr} {slRi : Array (Option Value)} {ocRi kVRi dcRi pmRi cdRi ctRi : Value}
    (aRi : PySem.W.nsIn K mainGlobals "_law_is_right" = some (some (.ref fRi)))
    (lRi : K.lookup fRi = some ⟨ocRi, odRi, .func (PySem.W.fnOf "_law_is_right" "_law_is_right" (defArgs sLIsRight) (defBody sLIsRight) (defScope sLIsRight) .none kVRi dcRi pmRi anRi cdRi ctRi), slRi⟩)
    (cRi : PySem.W.codeIn K cdRi "_law_is_right" = true)
    (kRi : PySem.W.keepIn K (.ref fRi) = true)
    {odLa anLa : Option Addr} {slLa : Array (Option Value)} {ocLa kVLa dcLa pmLa cdLa ctLa : Value}
    (aLa : PySem.W.nsIn K mainGlobals "law" = some (some (.ref fLa)))
    (lLa : K.lookup fLa = some ⟨ocLa, odLa, .func (PySem.W.fnOf "law" "law" (defArgs sLaw) (defBody sLaw) (defScope sLaw) .none kVLa dcLa pmLa anLa cdLa ctLa), slLa⟩)
    (cLa : PySem.W.codeIn K cdLa "law" = true)
    (kLa : PySem.W.keepIn K (.ref fLa) = true)
    (aCS : PySem.W.nsIn K mainGlobals "LaneError" = some (some (.ref CS)))
    (bCS : PySem.W.subIn K (.ref CS) (.type "BaseException") = some true)
    (dCS : PySem.W.hasDictIn K CS = true)
    (tCS : PySem.W.typeIn K (.ref CS) = some (.type "type"))
    {nmCT qCT : Str} {NCT : Addr} {bsCT : List Value} {bmCT : List Value} {snCT : List Str} {subCT : List Value} {abCT : Bool} {colCT : Option Bool} {ddCT : Option Addr} {m0CT m1CT m2CT m3CT m5CT : Option Value}
    (aCT : PySem.W.nsIn K mainGlobals "BadTree" = some (some (.ref CT)))
    (xCT : K.lookup CT = some (excClassObj nmCT qCT CT NCT bsCT bmCT true snCT subCT abCT colCT ddCT m0CT m1CT m2CT m3CT m5CT "ValueError.__new__"))
    (vCT : PySem.HandSPX.refsVE bmCT = true)
    (saCT : PySem.W.findIn K (.ref CT) "__setattr__" = some (some (.builtin "object.__setattr__")))
    (gaCT : PySem.W.findIn K (.ref CT) "__getattribute__" = some (some (.builtin "BaseException.__getattribute__")))
    (ggCT : PySem.W.findIn K (.ref CT) "__getattr__" = some none)
    (noCT : PySem.W.findIn K (.ref CT) "part" = some none)
    (keCT : PySem.W.keepIn K (.ref CT) = true)
    (exCT : PySem.W.subIn K (.ref CT) (.type "BaseException") = some true)
    (tyCT : PySem.W.typeIn K (.ref CT) = some (.type "type"))
    (hdCT : PySem.W.hasDictIn K CT = true)
    (ciCT : PySem.W.isClsIn K CT = true)
    (haCT : PySem.W.findIn K (.ref CT) "__class__" = some (some (.builtin "object.__class__")))
    (hmCT : PySem.W.mroIn K CT (.type "object") = some true)
    (suCT : PySem.W.subIn K (.ref CT) (.ref CS) = some true)
    (kiCT : PySem.W.kitOne K (.ref CT) (.ref CT) = some true)
    {odfTCI anfTCI : Option Addr} {slfTCI : Array (Option Value)} {ocfTCI dcfTCI pmfTCI cdfTCI ctfTCI : Value}
    (afTCI : PySem.W.findIn K (.ref CT) "__init__" = some (some (.ref fTCI)))
    (tfTCI : PySem.W.typeIn K (.ref fTCI) = some (.type "function"))
    (lfTCI : K.lookup fTCI = some ⟨ocfTCI, odfTCI, .func (PySem.W.fnOf "__init__" "BadTree.__init__" (defArgs (inClass sTreeC 0)) (defBody (inClass sTreeC 0)) (defScope (inClass sTreeC 0)) .none .none dcfTCI pmfTCI anfTCI cdfTCI ctfTCI), slfTCI⟩)
    (cfTCI : PySem.W.codeIn K cdfTCI "BadTree.__init__" = true)
    (hn : PySem.W.specialIn K (.builtin "object.__class__") "__get__" = some (some (.builtin "getset_descriptor.__get__")))
    (ht : PySem.W.takesIn K (.builtin "object.__class__") = some true)
    (ssCT : PySem.W.subIn K (.ref CT) (.ref CT) = some true)
    (aWC : PySem.W.nsIn K mainGlobals "BagTree" = some (some (.ref WC)))
    {odTI anTI : Option Addr} {slTI : Array (Option Value)} {ocTI kVTI dcTI pmTI cdTI ctTI : Value}
    (aTI : PySem.W.findIn K (.ref WC) "__init__" = some (some (.ref fTI)))
    (iTI : PySem.W.isFn K (.ref fTI) = true)
    (lTI : K.lookup fTI = some ⟨ocTI, odTI, .func (PySem.W.fnOf "__init__" "BagTree.__init__" (defArgs sTreeI) (defBody sTreeI) (defScope sTreeI) .none kVTI dcTI pmTI anTI cdTI ctTI), slTI⟩)
    (cTI : PySem.W.codeIn K cdTI "BagTree.__init__" = true)
    (kTI : PySem.W.keepIn K (.ref fTI) = true)
    {odTE anTE : Option Addr} {slTE : Array (Option Value)} {ocTE kVTE dcTE pmTE cdTE ctTE : Value}
    (aTE : PySem.W.findIn K (.ref WC) "__eq__" = some (some (.ref fTE)))
    (iTE : PySem.W.isFn K (.ref fTE) = true)
    (lTE : K.lookup fTE = some ⟨ocTE, odTE, .func (PySem.W.fnOf "__eq__" "BagTree.__eq__" (defArgs sTreeE) (defBody sTreeE) (defScope sTreeE) .none kVTE dcTE pmTE anTE cdTE ctTE), slTE⟩)
    (cTE : PySem.W.codeIn K cdTE "BagTree.__eq__" = true)
    (kTE : PySem.W.keepIn K (.ref fTE) = true)
    (pgWC : PySem.W.plainGet K WC Str.empty = true)
    (hdWC : PySem.W.hasDictIn K WC = true)
    (poWC : PySem.W.plainOver K WC = true)
    (saWC : PySem.W.findIn K (.ref WC) "__setattr__" = some (some (.builtin "object.__setattr__")))
    (mkWC : PySem.W.makesIn K WC = true)
    (kcWC : PySem.W.keepIn K (.ref WC) = true)
    (nWC_bags : PySem.W.findIn K (.ref WC) "bags" = some none)
    (nWC_above : PySem.W.findIn K (.ref WC) "above" = some none)
    (nWC_pieces : PySem.W.findIn K (.ref WC) "pieces" = some none)
    (nWC_width : PySem.W.findIn K (.ref WC) "width" = some none)
    (thWC : PySem.W.findIn K (.ref WC) "__class__" = some (some (.builtin "object.__class__")))
    (tmWC : PySem.W.mroIn K WC (.type "object") = some true)
    (tkWC : PySem.W.kitOne K (.ref WC) (.ref WC) = some true)
    (neWC : PySem.W.findIn K (.ref WC) "__ne__" = some (some (.builtin "object.__ne__")))
    (stWC : PySem.W.subIn K (.type "tuple") (.ref WC) = some false)
    (slWC : PySem.W.subIn K (.type "list") (.ref WC) = some false)
    (klWC : PySem.W.kitOne K (.type "list") (.ref WC) = some false)
    (ktWC : PySem.W.kitOne K (.type "tuple") (.ref WC) = some false)
    {tM1 : Tok}
    (zM1 : PySem.W.nsIn K mainGlobals "MOST_BAGS" = some (some (.int 2000 tM1)))
    (z_int : PySem.W.nsIn K mainGlobals "int" = some none)
    (z_bool : PySem.W.nsIn K mainGlobals "bool" = some none)
    (z_list : PySem.W.nsIn K mainGlobals "list" = some none)
    (z_tuple : PySem.W.nsIn K mainGlobals "tuple" = some none)
    (z_isinstance : PySem.W.nsIn K mainGlobals "isinstance" = some none)
    (z_all : PySem.W.nsIn K mainGlobals "all" = some none)
    (z_len : PySem.W.nsIn K mainGlobals "len" = some none)
    (z_abs : PySem.W.nsIn K mainGlobals "abs" = some none)
    (z_range : PySem.W.nsIn K mainGlobals "range" = some none)
    (z_repr : PySem.W.nsIn K mainGlobals "repr" = some none)
    (z_max : PySem.W.nsIn K mainGlobals "max" = some none)
    (z_zip : PySem.W.nsIn K mainGlobals "zip" = some none)
    (z_enumerate : PySem.W.nsIn K mainGlobals "enumerate" = some none)
    (z_set : PySem.W.nsIn K mainGlobals "set" = some none)
    (z_sorted : PySem.W.nsIn K mainGlobals "sorted" = some none)
    : ∃ fd : FuncData, (∀ (s : Shared) (v : Value), BindsTo s fd ⟨[v], []⟩ [("script", v)]) ∧ ∀ base : Heap, K.In base → base.Ns mainGlobals mg → FnG l.prog w K mg base 12 fa fd ["script"] (spLaw K) := by
  have e := hfa.symm.trans (PySem.W.mg_of X G aLa)
  cases e
  have FIn := fun_mk (st := sInteger) lIn cIn kIn
  have bIn := FIn.binds (ps := ["value"]) fun _ _ _ _ _ _ us hl => match us, hl with | [_], _ => rfl
  have FWi := fun_mk (st := sWithin) lWi cWi kWi
  have bWi := FWi.binds (ps := ["value", "least", "most"]) fun _ _ _ _ _ _ us hl => match us, hl with | [_, _, _], _ => rfl
  have FLi := fun_mk (st := sList) lLi cLi kLi
  have bLi := FLi.binds (ps := ["value"]) fun _ _ _ _ _ _ us hl => match us, hl with | [_], _ => rfl
  have FRo := fun_mk (st := sRow) lRo cRo kRo
  have bRo := FRo.binds (ps := ["value", "least", "most"]) fun _ _ _ _ _ _ us hl => match us, hl with | [_, _, _], _ => rfl
  have FAb := fun_mk (st := sAreBags) lAb cAb kAb
  have bAb := FAb.binds (ps := ["value", "least", "most"]) fun _ _ _ _ _ _ us hl => match us, hl with | [_, _, _], _ => rfl
  have FTa := fun_mk (st := sTells) lTa cTa kTa
  have bTa := FTa.binds (ps := ["value", "many"]) fun _ _ _ _ _ _ us hl => match us, hl with | [_, _], _ => rfl
  have FHt := fun_mk (st := sHang) lHt cHt kHt
  have bHt := FHt.binds (ps := ["bags", "above"]) fun _ _ _ _ _ _ us hl => match us, hl with | [_, _], _ => rfl
  have FFt := fun_mk (st := sFromTop) lFt cFt kFt
  have bFt := FFt.binds (ps := ["above"]) fun _ _ _ _ _ _ us hl => match us, hl with | [_], _ => rfl
  have FFr := fun_mk (st := sFresh) lFr cFr kFr
  have bFr := FFr.binds (ps := ["bags", "above"]) fun _ _ _ _ _ _ us hl => match us, hl with | [_, _], _ => rfl
  have FIb := fun_mk (st := sIsBag) lIb cIb kIb
  have bIb := FIb.binds (ps := ["value", "least", "most"]) fun _ _ _ _ _ _ us hl => match us, hl with | [_, _, _], _ => rfl
  have FWp := fun_mk (st := sWrong) lWp cWp kWp
  have bWp := FWp.binds (ps := ["bags", "above"]) fun _ _ _ _ _ _ us hl => match us, hl with | [_, _], _ => rfl
  have FTu := fun_mk (st := sTub) lTu cTu kTu
  have bTu := FTu.binds (ps := ["script"]) fun _ _ _ _ _ _ us hl => match us, hl with | [_], _ => rfl
  have FPe := fun_mk (st := sScoop) lPe cPe kPe
  have bPe := FPe.binds (ps := ["nest", "many"]) fun _ _ _ _ _ _ us hl => match us, hl with | [_, _], _ => rfl
  have FPk := fun_mk (st := sPick) lPk cPk kPk
  have bPk := FPk.binds (ps := ["nest", "some"]) fun _ _ _ _ _ _ us hl => match us, hl with | [_, _], _ => rfl
  have FSt := fun_mk (st := sStirred) lSt cSt kSt
  have bSt := FSt.binds (ps := ["nest", "some"]) fun _ _ _ _ _ _ us hl => match us, hl with | [_, _], _ => rfl
  have FWo := fun_mk (st := sWood) lWo cWo kWo
  have bWo := FWo.binds (ps := ["nest", "most"]) fun _ _ _ _ _ _ us hl => match us, hl with | [_, _], _ => rfl
  have FPi := fun_mk (st := sPieces) lPi cPi kPi
  have bPi := FPi.binds (ps := ["bags"]) fun _ _ _ _ _ _ us hl => match us, hl with | [_], _ => rfl
  have FIc := fun_mk (st := sLIsCount) lIc cIc kIc
  have bIc := FIc.binds (ps := ["value"]) fun _ _ _ _ _ _ us hl => match us, hl with | [_], _ => rfl
  have FLb := fun_mk (st := sLIsBag) lLb cLb kLb
  have bLb := FLb.binds (ps := ["value"]) fun _ _ _ _ _ _ us hl => match us, hl with | [_], _ => rfl
  have FAa := fun_mk (st := sLAreAbove) lAa cAa kAa
  have bAa := FAa.binds (ps := ["value", "many"]) fun _ _ _ _ _ _ us hl => match us, hl with | [_, _], _ => rfl
  have FLp := fun_mk (st := sLPart) lLp cLp kLp
  have bLp := FLp.binds (ps := ["bags", "above"]) fun _ _ _ _ _ _ us hl => match us, hl with | [_, _], _ => rfl
  have FBe := fun_mk (st := sLBent) lBe cBe kBe
  have bBe := FBe.binds (ps := ["nest", "bags", "above"]) fun _ _ _ _ _ _ us hl => match us, hl with | [_, _, _], _ => rfl
  have FMd := fun_mk (st := sLMade) lMd cMd kMd
  have bMd := FMd.binds (ps := ["bags", "above"]) fun _ _ _ _ _ _ us hl => match us, hl with | [_, _], _ => rfl
  have FRi := fun_mk (st := sLIsRight) lRi cRi kRi
  have bRi := FRi.binds (ps := ["tree", "bags", "above"]) fun _ _ _ _ _ _ us hl => match us, hl with | [_, _, _], _ => rfl
  have FLa := fun_mk (st := sLaw) lLa cLa kLa
  have bLa := FLa.binds (ps := ["script"]) fun _ _ _ _ _ _ us hl => match us, hl with | [_], _ => rfl
  have n : ∀ {x : Str}, PySem.W.nsIn K mainGlobals x = some none → mg x = none := fun h => PySem.W.mg_none_of X G h
  have g : ∀ {x : Str} {v : Value}, PySem.W.nsIn K mainGlobals x = some (some v) → mg x = some v := fun h => PySem.W.mg_of X G h
  have ECT : ErrC K CT := ⟨gaCT, ggCT, exCT, hdCT, ciCT, haCT, hn, ht, hmCT⟩
  have PCT : PySem.PartX.PartTxt K mg "BadTree" "BadTree.__init__" CT fTCI := { gC := g aCT, cls := ⟨_, _, _, _, _, _, _, _, _, _, _, _, _, _, _, xCT, vCT⟩, sa := saCT, ga := gaCT, gg := ggCT, noN := noCT, iC := afTCI, tC := tfTCI, kC := keCT, exC := exCT, tyC := tyCT, hdC := hdCT, fn := ⟨_, _, _, _, _, _, _, _, _, _, _, _, _, _, lfTCI, cfTCI⟩ }
  have FTI := fun_mk (st := sTreeI) lTI cTI kTI
  have bTI := FTI.binds (ps := ["self", "bags", "above"]) fun _ _ _ _ _ _ us hl => match us, hl with | [_, _, _], _ => rfl
  have FTE := fun_mk (st := sTreeE) lTE cTE kTE
  have bTE := FTE.binds (ps := ["self", "other"]) fun _ _ _ _ _ _ us hl => match us, hl with | [_, _], _ => rfl
  have kTI := kbn_of FTI (ps := ["self", "bags", "above"]) 1 ["above", "bags"] (fun us ws => mk3 us ws) (fun a b => mk3_rel a b) fun _ _ _ _ _ _ us ws h1 h2 => match us, ws, h1, h2 with | [_], [_, _], _, _ => rfl
  have TW : TTree K mg WC := ⟨⟨pgWC, hdWC, poWC, saWC⟩, nWC_bags, nWC_above, nWC_pieces, nWC_width, g aWC⟩
  have IW : TIns K WC := ⟨thWC, hn, ht, tmWC, tkWC, klWC, ktWC⟩
  have MW : Mk K WC fTI := ⟨mkWC, aTI, iTI, kcWC⟩
  have XF : XfC K CT := ⟨gaCT, ggCT, exCT, hdCT⟩
  have hxT := PySem.W.exm_ref exCT hdCT tyCT ssCT
  refine ⟨PySem.W.fnOf "law" "law" (defArgs sLaw) (defBody sLaw) (defScope sLaw) .none kVLa dcLa pmLa anLa cdLa ctLa, fun s v => .of_eq rfl, fun base _ _ => ?_⟩
  have GIn := ok_integer (P := l.prog) (w := w) (mg := mg) (base := base) (k := 0) FIn (n z_isinstance) (n z_int) (n z_bool)
  have GWi := ok_within (P := l.prog) (w := w) (mg := mg) (base := base) (k := 1) FWi FIn GIn bIn (g aIn)
  have GLi := ok_list (P := l.prog) (w := w) (mg := mg) (base := base) (k := 0) FLi (n z_isinstance) (n z_list) (n z_tuple)
  have GRo := ok_row (P := l.prog) (w := w) (mg := mg) (base := base) (k := 2) FRo FWi GWi bWi (g aWi) FLi (GLi.mono (by decide)) bLi (g aLi) (n z_all)
  have GIb := ok_isBag (P := l.prog) (w := w) (mg := mg) (base := base) (k := 3) FIb FRo GRo bRo (g aRo) FWi (GWi.mono (by decide)) bWi (g aWi) (n z_len) (n z_zip) (n z_all)
  have GAb := ok_areBags (P := l.prog) (w := w) (mg := mg) (base := base) (k := 4) FAb FIb GIb bIb (g aIb) FLi (GLi.mono (by decide)) bLi (g aLi) (n z_all)
  have GFt := ok_fromTop (P := l.prog) (w := w) (mg := mg) (base := base) (k := 0) FFt (n z_enumerate)
  have GTa := ok_tells (P := l.prog) (w := w) (mg := mg) (base := base) (k := 2) FTa FWi GWi bWi (g aWi) FLi (GLi.mono (by decide)) bLi (g aLi) FFt (GFt.mono (by decide)) bFt (g aFt) (n z_len) (n z_all) (n z_enumerate)
  have GFr := ok_fresh (P := l.prog) (w := w) (mg := mg) (base := base) (k := 0) FFr (n z_zip)
  have GHt := ok_hang (P := l.prog) (w := w) (mg := mg) (base := base) (k := 1) FHt FFr GFr bFr (g aFr) (n z_len) (n z_set)
  have GWp := ok_wrong (P := l.prog) (w := w) (mg := mg) (base := base) (k := 5) FWp FAb GAb bAb (g aAb) FWi (GWi.mono (by decide)) bWi (g aWi) FTa (GTa.mono (by decide)) bTa (g aTa) FHt (GHt.mono (by decide)) bHt (g aHt) (g zM1) (n z_len)
  have GTI := ok_treeI (P := l.prog) (w := w) (mg := mg) (base := base) (k := 4) FTI TW FWp GWp bWp (g aWp) PCT (n z_tuple) (n z_len) (n z_set) (n z_sorted) (n z_max)
  have GTE := ok_treeE (P := l.prog) (w := w) (mg := mg) (base := base) (k := 0) FTE TW IW (n z_isinstance)
  have GTu := ok_tub (P := l.prog) (w := w) (mg := mg) (base := base) (k := 0) FTu (n z_int)
  have GPe := ok_scoop (P := l.prog) (w := w) (mg := mg) (base := base) (k := 0) FPe (n z_int) (n z_len) (n z_abs)
  have GPk := ok_pick (P := l.prog) (w := w) (mg := mg) (base := base) (k := 1) FPk FPe GPe bPe (g aPe) (n z_len)
  have GSt := ok_stirred (P := l.prog) (w := w) (mg := mg) (base := base) (k := 1) FSt FPe GPe bPe (g aPe) (n z_len) (n z_list)
  have GWo := ok_wood (P := l.prog) (w := w) (mg := mg) (base := base) (k := 2) FWo FPe (GPe.mono (by decide)) bPe (g aPe) FSt GSt bSt (g aSt) (n z_len) (n z_list) (n z_range) (n z_int) (n z_tuple) (n z_sorted)
  have GPi := ok_pieces (P := l.prog) (w := w) (mg := mg) (base := base) (k := 0) FPi (n z_sorted)
  have GIc := ok_lIsCount (P := l.prog) (w := w) (mg := mg) (base := base) (k := 0) FIc (n z_isinstance) (n z_int) (n z_bool)
  have GLb := ok_lIsBag (P := l.prog) (w := w) (mg := mg) (base := base) (k := 1) FLb FIc GIc bIc (g aIc) (n z_isinstance) (n z_list) (n z_tuple) (n z_zip)
  have GAa := ok_lAreAbove (P := l.prog) (w := w) (mg := mg) (base := base) (k := 1) FAa FIc GIc bIc (g aIc) (n z_isinstance) (n z_list) (n z_tuple) (n z_len) (n z_range)
  have GLp := ok_lPart (P := l.prog) (w := w) (mg := mg) (base := base) (k := 2) FLp FLb GLb bLb (g aLb) FAa GAa bAa (g aAa) FPi (GPi.mono (by decide)) bPi (g aPi) (n z_isinstance) (n z_list) (n z_tuple) (n z_len) (n z_enumerate)
  have GBe := ok_bent (P := l.prog) (w := w) (mg := mg) (base := base) (k := 2) FBe FPe (GPe.mono (by decide)) bPe (g aPe) FPk GPk bPk (g aPk) (n z_len) (n z_list) (n z_sorted)
  have GMd := ok_made (P := l.prog) (w := w) (mg := mg) (base := base) (k := 7) FMd TW MW GTI kTI (g aCT) XF noCT hxT
  have GRi := ok_right (P := l.prog) (w := w) (mg := mg) (base := base) (k := 1) FRi TW FPi GPi bPi (g aPi) (n z_len) (n z_max) (n z_tuple) (n z_repr)
  exact ok_law (k := 9) FLa FTu (GTu.mono (by decide)) bTu (g aTu) FPe (GPe.mono (by decide)) bPe (g aPe) FWo (GWo.mono (by decide)) bWo (g aWo) FLp (GLp.mono (by decide)) bLp (g aLp) FRi (Hk.FnG.mono GRi (by decide)) bRi (g aRi) FBe (GBe.mono (by decide)) bBe (g aBe) FMd GMd bMd (g aMd) TW MW (GTI.mono (by decide)) bTI aTE iTE neWC tmWC (GTE.mono (by decide)) bTE slWC stWC (n z_repr) (n z_len) (n z_tuple) (n z_list) (n z_range)
end P41
end S_Bbb
open PySem PySem.W PyProof.Rows
set_option maxRecDepth 100000 in
set_option maxHeartbeats 0 in
theorem PySem.Challenge.cw_threelanes_k41_trees_of_bags_made_and_re_holds : PySem.Challenge.rw_threelanes_k41_trees_of_bags_made_and_re.Holds := by
  w_on; o_law; k_head; (case hw => w_witness2)
  k_fill
  refine Tl.walk_g (l := PySem.Challenge.rw_threelanes_k41_trees_of_bags_made_and_re) (n := 63) (k := 12) (x := "script") (sp := fun w => P41.spLaw _) rfl (by decide) rfl ⟨rfl, by decide, by decide⟩ (fun w h Y => PySem.W.kIn_of Y) ?F (fun _ _ a ns hl _ hS => ⟨a, ns, rfl, hS, by omega, fun _ => rfl⟩)
  case F =>
    intro w mg fa h KX G hmg
    refine' P41.all_mk KX G hmg ?aIn ?lIn ?cIn ?kIn ?aWi ?lWi ?cWi ?kWi ?aLi ?lLi ?cLi ?kLi ?aRo ?lRo ?cRo ?kRo ?aAb ?lAb ?cAb ?kAb ?aTa ?lTa ?cTa ?kTa ?aHt ?lHt ?cHt ?kHt ?aFt ?lFt ?cFt ?kFt ?aFr ?lFr ?cFr ?kFr ?aIb ?lIb ?cIb ?kIb ?aWp ?lWp ?cWp ?kWp ?aTu ?lTu ?cTu ?kTu ?aPe ?lPe ?cPe ?kPe ?aPk ?lPk ?cPk ?kPk ?aSt ?lSt ?cSt ?kSt ?aWo ?lWo ?cWo ?kWo ?aPi ?lPi ?cPi ?kPi ?aIc ?lIc ?cIc ?kIc ?aLb ?lLb ?cLb ?kLb ?aAa ?lAa ?cAa ?kAa ?aLp ?lLp ?cLp ?kLp ?aBe ?lBe ?cBe ?kBe ?aMd ?lMd ?cMd ?kMd ?aRi ?lRi ?cRi ?kRi ?aLa ?lLa ?cLa ?kLa ?aCS ?bCS ?dCS ?tCS ?aCT ?xCT ?vCT ?saCT ?gaCT ?ggCT ?noCT ?keCT ?exCT ?tyCT ?hdCT ?ciCT ?haCT ?hmCT ?suCT ?kiCT ?afTCI ?tfTCI ?lfTCI ?cfTCI ?hn ?ht ?ssCT ?aWC ?aTI ?iTI ?lTI ?cTI ?kTI ?aTE ?iTE ?lTE ?cTE ?kTE ?pgWC ?hdWC ?poWC ?saWC ?mkWC ?kcWC ?nWC_bags ?nWC_above ?nWC_pieces ?nWC_width ?thWC ?tmWC ?tkWC ?neWC ?stWC ?slWC ?klWC ?ktWC ?zM1 ?z_int ?z_bool ?z_list ?z_tuple ?z_isinstance ?z_all ?z_len ?z_abs ?z_range ?z_repr ?z_max ?z_zip ?z_enumerate ?z_set ?z_sorted
    (case aIn => k_is)
    (case lIn => k_is)
    (case cIn => k_is)
    (case kIn => k_is)
    (case aWi => k_is)
    (case lWi => k_is)
    (case cWi => k_is)
    (case kWi => k_is)
    (case aLi => k_is)
    (case lLi => k_is)
    (case cLi => k_is)
    (case kLi => k_is)
    (case aRo => k_is)
    (case lRo => k_is)
    (case cRo => k_is)
    (case kRo => k_is)
    (case aAb => k_is)
    (case lAb => k_is)
    (case cAb => k_is)
    (case kAb => k_is)
    (case aTa => k_is)
    (case lTa => k_is)
    (case cTa => k_is)
    (case kTa => k_is)
    (case aHt => k_is)
    (case lHt => k_is)
    (case cHt => k_is)
    (case kHt => k_is)
    (case aFt => k_is)
    (case lFt => k_is)
    (case cFt => k_is)
    (case kFt => k_is)
    (case aFr => k_is)
    (case lFr => k_is)
    (case cFr => k_is)
    (case kFr => k_is)
    (case aIb => k_is)
    (case lIb => k_is)
    (case cIb => k_is)
    (case kIb => k_is)
    (case aWp => k_is)
    (case lWp => k_is)
    (case cWp => k_is)
    (case kWp => k_is)
    (case aTu => k_is)
    (case lTu => k_is)
    (case cTu => k_is)
    (case kTu => k_is)
    (case aPe => k_is)
    (case lPe => k_is)
    (case cPe => k_is)
    (case kPe => k_is)
    (case aPk => k_is)
    (case lPk => k_is)
    (case cPk => k_is)
    (case kPk => k_is)
    (case aSt => k_is)
    (case lSt => k_is)
    (case cSt => k_is)
    (case kSt => k_is)
    (case aWo => k_is)
    (case lWo => k_is)
    (case cWo => k_is)
    (case kWo => k_is)
    (case aPi => k_is)
    (case lPi => k_is)
    (case cPi => k_is)
    (case kPi => k_is)
    (case aIc => k_is)
    (case lIc => k_is)
    (case cIc => k_is)
    (case kIc => k_is)
    (case aLb => k_is)
    (case lLb => k_is)
    (case cLb => k_is)
    (case kLb => k_is)
    (case aAa => k_is)
    (case lAa => k_is)
    (case cAa => k_is)
    (case kAa => k_is)
    (case aLp => k_is)
    (case lLp => k_is)
    (case cLp => k_is)
    (case kLp => k_is)
    (case aBe => k_is)
    (case lBe => k_is)
    (case cBe => k_is)
    (case kBe => k_is)
    (case aMd => k_is)
    (case lMd => k_is)
    (case cMd => k_is)
    (case kMd => k_is)
    (case aRi => k_is)
    (case lRi => k_is)
    (case cRi => k_is)
    (case kRi => k_is)
    (case aLa => k_is)
    (case lLa => k_is)
    (case cLa => k_is)
    (case kLa => k_is)
    (case aCS => k_is)
    (case bCS => k_is)
    (case dCS => k_is)
    (case tCS => k_is)
    (case aCT => k_is)
    (case xCT => k_is)
    (case vCT => first | rfl | decide +kernel)
    (case saCT => k_is)
    (case gaCT => k_is)
    (case ggCT => k_is)
    (case noCT => k_is)
    (case keCT => k_is)
    (case exCT => k_is)
    (case tyCT => k_is)
    (case hdCT => k_is)
    (case ciCT => k_is)
    (case haCT => k_is)
    (case hmCT => k_is)
    (case suCT => k_is)
    (case afTCI => k_is)
    (case tfTCI => k_is)
    (case lfTCI => k_is)
    (case cfTCI => k_is)
    (case hn => k_is)
    (case ht => k_is)
    (case ssCT => k_is)
    (case aWC => k_is)
    (case aTI => k_is)
    (case iTI => k_is)
    (case lTI => k_is)
    (case cTI => k_is)
    (case kTI => k_is)
    (case aTE => k_is)
    (case iTE => k_is)
    (case lTE => k_is)
    (case cTE => k_is)
    (case kTE => k_is)
    (case pgWC => k_is)
    (case hdWC => k_is)
    (case poWC => k_is)
    (case saWC => k_is)
    (case mkWC => k_is)
    (case kcWC => k_is)
    (case nWC_bags => k_is)
    (case nWC_above => k_is)
    (case nWC_pieces => k_is)
    (case nWC_width => k_is)
    (case thWC => k_is)
    (case tmWC => k_is)
    (case neWC => k_is)
    (case stWC => k_is)
    (case slWC => k_is)
    (case zM1 => k_is)
    (case z_int => k_is)
    (case z_bool => k_is)
    (case z_list => k_is)
    (case z_tuple => k_is)
    (case z_isinstance => k_is)
    (case z_all => k_is)
    (case z_len => k_is)
    (case z_abs => k_is)
    (case z_range => k_is)
    (case z_repr => k_is)
    (case z_max => k_is)
    (case z_zip => k_is)
    (case z_enumerate => k_is)
    (case z_set => k_is)
    (case z_sorted => k_is)
    (case tkWC => kit_is)
    (case klWC => kit_is)
    (case ktWC => kit_is)
    (case kiCT => kit_is)
