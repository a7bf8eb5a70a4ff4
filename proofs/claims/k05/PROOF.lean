import PyProof.Rows.All
import Wide.All
import OpenK.AllK
import Wide.FinOn
import HandS.ForMost
import HandS.Evl
import HandS.IsInst
import HandS.TupLe
import HandS.Conv
import HandS.SetFor
import HandS.Zip
import HandS.Defaults
import KE.KEqSeq
import PyProof.ReprRoads
import HandS.Star
import HandS.More
import KE.KSuper
import HandS.Zip0
import KE.KDictZip
import HandS.SortInts
import HandS.TupAny
import HandS.Iter
import KE.GoesEnum
import HandS.Walk
import HandS.DictComp
import HandS.Exc
import HandS.Lambda
import HandS.TryOnly
import HandS.Call
import KE.KExcIs
import HandS.ForSpec
import HandS.ExcOwn
import HandS.EndTab
import HandS.SortKw
import KE.KMinKey
import KE.DatumOrd
import HandS.Strs
import HandS.Text
import HandS.StrMore
import HandS.ExcInit
import PyProof.DefStmt
import PyProof.StrOps2
import PyProof.FitsStr
import PyProof.SliceStr2
import HandS.Style
import HandS.TupMul
import KE.GoesEnumKw
import KE.KItemsList
import HandS.ListItems
import KE.KCallOwn
import HandS.SetKeys
import KE.DataMinMax
import HandS.List
import HandS.Deep
import HandS.SortRule
import HandS.OwnEq
import PyProof.InstNe
import PyProof.SumAny
import HandS.ExcIs
import PySem.Challenge.RW_threelanes_k05_whole_faces_by_own_walks
set_option Elab.async false
set_option linter.all false
set_option maxRecDepth 100000
section S_Ru
namespace Tl
open PySem PySem.Spec PyProof.Rows L2
/-! ### len(set(x)) of a list or a tuple of ints, unlike or not -/
theorem met_len (ns : List Int) : ∀ i, i ≤ ns.length → ((firstMet (fun i => ns.getD i 0) i).length = i ↔ (ns.take i).Nodup) ∧ ∀ k, k ∈ firstMet (fun i => ns.getD i 0) i ↔ k ∈ ns.take i
  | 0, _ => by
    rw [firstMet_zero]
    simp
  | i + 1, h => by
    have hi : i < ns.length := h
    obtain ⟨a1, a2⟩ := met_len ns i (Nat.le_of_lt hi)
    have ex : ns.getD i 0 = ns[i] := by simp [List.getD_eq_getElem?_getD, hi]
    have et : ns.take (i + 1) = ns.take i ++ [ns[i]] := by rw [List.take_add_one, List.getElem?_eq_getElem hi] <;> rfl
    have eb : (firstMet (fun i => ns.getD i 0) i).any (· == ns[i]) = true ↔ ns[i] ∈ ns.take i := by
      rw [List.any_eq_true]
      constructor
      · intro ⟨x, hx, he⟩
        rw [← beq_iff_eq.mp he]
        exact (a2 x).mp hx
      · intro hx
        exact ⟨_, (a2 _).mpr hx, beq_self_eq_true _⟩
    have le := firstMet_length_le (fun i => ns.getD i 0) i
    rw [firstMet_succ, et]
    show ((step_dedup _ (ns.getD i 0)).length = i + 1 ↔ _) ∧ _
    rw [ex]
    unfold step_dedup
    have nd : (ns.take i ++ [ns[i]]).Nodup ↔ (ns.take i).Nodup ∧ ns[i] ∉ ns.take i := by
      rw [List.nodup_append]
      simp
      exact fun _ => ⟨fun y z => y _ z rfl, fun y a ha e => y (e ▸ ha)⟩
    by_cases hm : ns[i] ∈ ns.take i
    · rw [if_pos (eb.mpr hm)]
      refine ⟨⟨fun e => by omega, fun e => absurd hm (nd.mp e).2⟩, fun k => ?_⟩
      rw [a2 k, List.mem_append, List.mem_singleton]
      exact ⟨.inl, fun z => z.elim id fun e => e ▸ hm⟩
    · rw [if_neg (fun z => hm (eb.mp z))]
      refine ⟨?_, fun k => ?_⟩
      · rw [List.length_append, List.length_singleton, nd]
        exact ⟨fun e => ⟨a1.mp (by omega), hm⟩, fun e => by rw [a1.mpr e.1]⟩
      · rw [List.mem_append, List.mem_append, a2 k]
def tLenSetN (K : PySem.W.Frag) (ta : TE) : TE := fun σ H Q => ta σ H fun x H1 => ∃ (l : Addr) (ns : List Int), x = .ref l ∧ SqL K H1 l (ns.map V.int) ∧ ns.length ≤ 4000 ∧ ∀ c : Nat, (c = ns.length ↔ ns.Nodup) → Q (.int (c : Int)) H1
theorem pe_lenSetN {X : Cx} {a : Expr} {ta : TE} {p p2 q pos : Pos} (hg : Gl X "len") (hm : X.mg "len" = none) (hg2 : Gl X "set") (hm2 : X.mg "set" = none) (ha : PE X a ta) (hc : X.calm = true := by rfl)
    (na : starEach [a] X.env = (false, eval a X.env) :: starEach [] X.env := by rfl) : PE X (.Call (.Name "len" p) [.Call (.Name "set" p2) [a] [] q] [] pos) (tLenSetN X.K ta) := by
  constructor
  intro pins s σ H Q I h
  refine Call_ (ld_blt I hg hm boot_len (callWith_builtin1 (args_cons (Call_ (ld_blt I hg2 hm2 boot_set (callWith_type1 (args_cons (thn (ha.run pins s σ H _ I h) fun v s1 hv => args_nil ?_) na) na rfl))) rfl) rfl rfl))
  obtain ⟨x, H1, I1, r1, l, ns, rfl, hq, hl, q1⟩ := hv
  cases r1
  obtain ⟨its, r, pl, hz⟩ := I1.list hq
  have hn : its.toArray.size = ns.length := by rw [List.size_toArray, ← r.length, List.length_map]
  refine call_set_list (I1.ok.hd hc) pl.isList (by simpa using RZ.intsAre_vals r) (by rw [hn]; unfold scanBound; omega) fun h' tk hS hk => args_nil ?_
  obtain ⟨o, es, ep, t, ho, hex, hd, _, _, hb, hf, hsz⟩ := hS
  have I2 : Inv X pins σ H1 { s1 with heap := h', toks := tk } := I1.kept fun b o e => hk b o (Heap.lt_size e) e
  refine call_len_set ho hex hd hf (by unfold scanBound at hb; omega) ⟨.int es.size, H1, I2.tok _, ⟨_, rfl⟩, q1 es.size ?_⟩
  rw [hsz, hn]
  have e := (met_len ns ns.length (Nat.le_refl _)).1
  rwa [List.take_length] at e
/-- the same of a tuple -/
def tLenSetU (K : PySem.W.Frag) (ta : TE) : TE := fun σ H Q => ta σ H fun x H1 => ∃ (l : Addr) (ns : List Int), x = .ref l ∧ SqT K H1 l (ns.map V.int) ∧ ns.length ≤ 4000 ∧ ∀ c : Nat, (c = ns.length ↔ ns.Nodup) → Q (.int (c : Int)) H1
theorem nodup_same {as bs : List Int} (ha : as.Nodup) (hm : ∀ k, k ∈ bs ↔ k ∈ as) : as.length = bs.length ↔ bs.Nodup := by
  have sub : ∀ (as bs : List Int), as.Nodup → (∀ k, k ∈ as → k ∈ bs) → as.length ≤ bs.length := by
    intro as
    induction as with
    | nil => intro bs _ _; exact Nat.zero_le _
    | cons a r ih =>
      intro bs hn hs
      rw [List.nodup_cons] at hn
      have h1 : a ∈ bs := hs a List.mem_cons_self
      have h2 := ih (bs.erase a) hn.2 fun k hk => by
        have hne : k ≠ a := fun e => hn.1 (e ▸ hk)
        exact (List.mem_erase_of_ne hne).mpr (hs k (List.mem_cons_of_mem _ hk))
      rw [List.length_erase_of_mem h1] at h2
      have h3 : 0 < bs.length := List.length_pos_of_mem h1
      rw [List.length_cons]
      omega
  have strict : ∀ (bs as : List Int), as.Nodup → (∀ k, k ∈ as → k ∈ bs) → ¬ bs.Nodup → as.length < bs.length := by
    intro bs
    induction bs with
    | nil => intro as _ _ h; exact absurd List.nodup_nil h
    | cons b r ih =>
      intro as hn hs hb
      rw [List.length_cons]
      by_cases hbr : b ∈ r
      · have := sub as r hn fun k hk => by
          rcases List.mem_cons.mp (hs k hk) with e | e
          · rw [e]; exact hbr
          · exact e
        omega
      · have hr : ¬ r.Nodup := fun z => hb (List.nodup_cons.mpr ⟨hbr, z⟩)
        have h1 := ih (as.erase b) (hn.erase b) (fun k hk => by
          have h2 := hn.mem_erase_iff.mp hk
          rcases List.mem_cons.mp (hs k h2.2) with e | e
          · exact absurd e h2.1
          · exact e) hr
        by_cases ha : b ∈ as
        · rw [List.length_erase_of_mem ha] at h1
          omega
        · rw [List.erase_of_not_mem ha] at h1
          omega
  constructor
  · intro e
    apply Classical.byContradiction
    intro h
    have := strict bs as ha (fun k hk => (hm k).mpr hk) h
    omega
  · intro hb
    have h1 := sub as bs ha fun k hk => (hm k).mpr hk
    have h2 := sub bs as hb fun k hk => (hm k).mp hk
    omega
theorem pe_lenSetU {X : Cx} {a : Expr} {ta : TE} {p p2 q pos : Pos} (hg : Gl X "len") (hm : X.mg "len" = none) (hg2 : Gl X "set") (hm2 : X.mg "set" = none) (ha : PE X a ta) (hc : X.calm = true := by rfl)
    (na : starEach [a] X.env = (false, eval a X.env) :: starEach [] X.env := by rfl) : PE X (.Call (.Name "len" p) [.Call (.Name "set" p2) [a] [] q] [] pos) (tLenSetU X.K ta) := by
  constructor
  intro pins s σ H Q I h
  refine Call_ (ld_blt I hg hm boot_len (callWith_builtin1 (args_cons (Call_ (ld_blt I hg2 hm2 boot_set (callWith_type1 (args_cons (thn (ha.run pins s σ H _ I h) fun v s1 hv => args_nil ?_) na) na rfl))) rfl) rfl rfl))
  obtain ⟨x, H1, I1, r1, l, ns, rfl, hq, hl, q1⟩ := hv
  cases r1
  obtain ⟨its, r, pl, hz⟩ := I1.tuple hq
  refine call_set_tupI ns (I1.ok.hd hc) pl (by simpa using RZ.intsAre_vals r) (by unfold scanBound; omega) fun h' tk c hS hcl hk => args_nil ?_
  obtain ⟨o, es, ep, t, ho, hex, hd, _, hnd, hS2, hb, hf, hsz, _⟩ := hS
  have I2 : Inv X pins σ H1 { s1 with heap := h', toks := tk } := I1.kept hk
  refine call_len_set ho hex hd hf (by unfold scanBound at hb; omega) ⟨.int es.size, H1, I2.tok _, ⟨_, rfl⟩, q1 es.size ?_⟩
  have e := nodup_same (bs := ns) hnd fun k => by
    rw [← hS2 k]
    simp
  rwa [List.length_map, Array.length_toList] at e
/-! ### repr of data, where no repr is under way -/
def rRepr (K : PySem.W.Frag) : List V → Hp → VK → Prop := fun xs H Q => ∃ (a : Addr) (d : PyData), xs = [.ref a] ∧ Dp K H (.ref a) d ∧ d.showable = true ∧ d.hasDict = false ∧ d.depth ≤ 20 ∧ d.shown.length ≤ sizeLine ∧ Q (.str d.shown) H
theorem call_reprD {X : Cx} (hg : X.A.guards = some []) (hu : X.A.units + 64 < cLine) : CallR X (.builtin "repr") (rRepr X.K) := by
  intro pins s σ H xs us Q I r h
  obtain ⟨a, d, rfl, hd, hs, hn, hp, hz, q⟩ := h
  obtain ⟨u, rfl, ru⟩ := vals1 r
  cases ru
  obtain ⟨as, rd⟩ := Dp.reads I d _ _ hd rfl
  exact repr_of_reads' rd hs (PyData.noDict_hsm hn) hg (by omega) (fun _ _ e => e) (fun h' u tk hk => ⟨.str d.shown, H, I.kept hk, ⟨_, rfl⟩, q⟩) hz
/-! ### a call by keywords alone -/
theorem kbn_of {K : PySem.W.Frag} {x qual : Str} {st : Stmt} {f : Addr} {fd : FuncData} {ps : List Str} (F : Fun K x qual st f fd) (n : Nat) (ks : List Str) (g : {α : Type} → List α → List α → List α)
    (rel : ∀ {vs zs : List V} {us ws : List Value}, Vals vs us → Vals zs ws → Vals (g vs zs) (g us ws))
    (h : ∀ (kV doc pm : Value) (an : Option Addr) (cdv ct : Value) (us ws : List Value), us.length = n → ws.length = ks.length → bindArgs (PySem.W.fnOf x qual (defArgs st) (defBody st) (defScope st) .none kV doc pm an cdv ct) ⟨us, ks.zip ws⟩ = pure (ps.zip (g us ws))) :
    KBn K fd ps n ks (fun us ws => g us ws) (fun vs zs => g vs zs) := by
  obtain ⟨_, _, kV, doc, pm, an, cdv, ct, _, rfl, _, _⟩ := F.ex
  exact ⟨fun s us ws _ l1 l2 => .of_eq (h kV doc pm an cdv ct us ws l1 l2), rel⟩
theorem pe_callN0 {X : Cx} {CX : CXT} {k : Nat} {f : Addr} {fd : FuncData} {ps ks : List Str} {sp : Sp} {E : XK} {x : Str} {p pos : Pos} {kws : List Keyword} {tk : TA} {g : List Value → List Value → List Value} {gV : List V → List V → List V}
    (F : FnOk X.prog X.w X.K X.mg X.base CX k f fd ps sp) (hr : Room k X.A) (hg : Gl X x) (hm : X.mg x = some (.ref f)) (hk : PySem.W.keepIn X.K (.ref f) = true) (hb : KBn X.K fd ps 0 ks g gV) (hx : Passes CX X E)
    (hkw : PK X kws tk) (hall : (backToKw pos (keywordEach kws X.env)).all (·.1.isSome) = true := by rfl) (hks : (backToKw pos (keywordEach kws X.env)).filterMap (·.1) = ks := by rfl) (hdb : (x == ("__debug__" : Str)) = false := by decide)
    (hpl : ((backTo pos (starEach [] X.env)).any (·.1) || (backToKw pos (keywordEach kws X.env)).any (·.1.isNone)) = false := by rfl) :
    PE X (.Call (.Name x p) [] kws pos) (tCallN 0 ks.length sp gV E tNil tk) := by
  constructor
  intro pins s σ H Q I h
  refine wpAny_Call_Name_kw (ld_glob I hg hm (PySem.W.callWith_KW0 (h₀ := X.base) I.ok.mod.kin hk hall (thn (hkw.run pos pins s σ H _ I h) fun ws s2 hv => ?_) hpl) hdb)
  obtain ⟨zs, H2, I2, rz, l1, l2, q2⟩ := hv
  refine ⟨I2.kIn, ?_⟩
  rw [hks]
  exact run_fnN (us := []) (vs := []) F hr hb hx I2 .nil rz rfl l2 q2
/-! ### defs that are called where no repr is under way -/
structure FnG (P : Program) (w : World) (K : PySem.W.Frag) (mg : Str → Option Value) (base : Heap) (k : Nat) (f : Addr) (fd : FuncData) (ps : List Str) (sp : Sp) : Prop where
  len : ∀ {vs H Q E}, sp vs H Q E → vs.length = ps.length
  go : ∀ {A : Around} {outer : List Env} {s : Shared} {H : Hp} {args : Args} {us : List Value} {vs : List V} {Q : VK} {E : XK}, A.guards = some [] → Room k A → Env0 P w K mg base A outer s H → BindsTo s fd args (ps.zip us) → Vals vs us →
    sp vs H Q E → codeAny (model P w) A (.call (.ref f) args) (CR CX0 outer P w H s Q E) s
theorem fn_g {P : Program} {w : World} {K : PySem.W.Frag} {mg : Str → Option Value} {base : Heap} {x qual : Str} {st : Stmt} {f : Addr} {fd : FuncData} {N ps : List Str} {k : Nat} {sp : Sp} (F : Fun K x qual st f fd) (S : FnScope N ps (defScope st))
    (len : ∀ {vs H Q E}, sp vs H Q E → vs.length = ps.length)
    (hbody : ∀ (cdv : Value) (A : Around) (outer : List Env) (s : Shared) (H : Hp) (vs : List V) (Q : VK) (E : XK), A.guards = some [] → Room k (A.deeper (envOfC qual (defScope st) s.heap.objs.size f cdv)) → sp vs H Q E →
      ∃ t, PSs (cxOf CX0 P w K mg base N qual (defScope st) f cdv A outer s H E).nox (defBody st) t ∧ t { nx := fun _ H' => Q .non H', rt := Q } (start N vs) H) : FnG P w K mg base (k + 1) f fd ps sp := by
  obtain ⟨oc, od, kV, doc, pm, an, cdv, ct, osl, rfl, lk, hcd⟩ := F.ex
  refine ⟨len, fun {A outer s H args us vs Q E} hgd hr e0 hb r hsp => ?_⟩
  have kin : K.In s.heap := e0.mod.kin.keeps fun b o e => (e0.bs b o e).1
  have nl : s.heap.NoLimit := e0.mod.nolimit.keeps fun b o e => (e0.bs b o e).1
  refine codeAny_call_function hr.depth (kin _ _ lk) rfl S.co S.gen rfl (PySem.W.codeRec_of kin hcd) (hb _ _ _ _ (wpAny_newFunctionEnv_cells S.kind ?_ fun env he s1 x => ?_))
  · intro y hy
    have hp : y.1 ∈ ps := (List.of_mem_zip (a := y.1) (b := y.2) hy).1
    exact (S.par y.1 hp).imp id fun q => ⟨q, PySem.W.cellsFrom_some _ _ _ (.inl q)⟩
  · cases he
    obtain ⟨t, ht, hq⟩ := hbody cdv A outer s H vs Q E hgd (hr.deeper _) hsp
    have I := inv_start (CX := CX0) (P := P) (w := w) (base := base) (E := E) (qual := qual) (f := f) (cd := cdv) S hr.hd e0 (len hsp) r x
    refine ⟨nl.keeps x.toInCall.keep, codeAny_func (wpAny_mono (ht.nox.run [] s1 (start N vs) H _ I hq) (fun fl s' hs => ?_) fun _ _ hs => hs)⟩
    cases fl with
    | ret u =>
      obtain ⟨v, σ', H', J, rv, q⟩ := hs
      exact ⟨v, H', J.os, J.bare, J.base, J.hok, rv, q⟩
    | next =>
      obtain ⟨σ', H', J, q⟩ := hs
      exact ⟨.non, H', J.os, J.bare, J.base, J.hok, rfl, q⟩
    | brk => exact hs.elim fun _ h => h.elim fun _ h => h.2.elim
    | cont => exact hs.elim fun _ h => h.elim fun _ h => h.2.elim
/-- the call of the law itself: at its own room no repr is under way -/
theorem law_g {P : Program} {w : World} {K : PySem.W.Frag} {mg mb : Str → Option Value} {k : Nat} {fa a : Addr} {fd : FuncData} {x : Str} {sp : Sp} {s₁ : Shared} {vs : List Value} {ns : List Int}
    (kin : K.In s₁.heap) (hns : s₁.heap.Ns mainGlobals mg) (hb : s₁.heap.Ns builtinsNs mb) (hbb : ∀ x : Str, x ≠ "__name__" → mb x = bootBuiltins x) (hlim : s₁.heap.NoLimit) (hg : s₁.gens = #[])
    (ha : s₁.heap.get? a = some { cls := .type "list", data := .seq vs.toArray }) (hi : IntsAre vs ns) (hl : ns.length ≤ sizeLine) (hr : Room k callerA)
    (F : ∀ base : Heap, K.In base → base.Ns mainGlobals mg → FnG P w K mg base k fa fd [x] sp) (hbind : ∀ (s : Shared) (u : Value), BindsTo s fd ⟨[u], []⟩ [(x, u)])
    (hsp : ∀ H : Hp, Only H → SqL K H a (ns.map V.int) → sp [.ref a] H (fun v _ => v = .bl true) fun _ _ _ => False) :
    codeAny (model P w) callerA (.call (.ref fa) ⟨[.ref a], []⟩) (fun r s' => r = .ok (.ret (.bool true)) ∧ OldK s₁.heap s'.heap ∧ s'.os = s₁.os ∧ AllBare s'.gens) s₁ := by
  have rv := vals_ints hi
  have run : ∀ H : Hp, Only H → SqL K H a (ns.map V.int) → HOk P w H s₁.heap → (∀ b u, H b = some u → b = a ∧ K.lookup a = none) →
      codeAny (model P w) callerA (.call (.ref fa) ⟨[.ref a], []⟩) (fun r s' => r = .ok (.ret (.bool true)) ∧ OldK s₁.heap s'.heap ∧ s'.os = s₁.os ∧ AllBare s'.gens) s₁ := by
    intro H hO hS hok hA
    have none_of : ∀ b : Addr, (b = a → K.lookup a ≠ none) → H b = none := fun b hb => by
      cases q : H b with
      | none => rfl
      | some u =>
        obtain ⟨e1, e2⟩ := hA b u q
        exact absurd e2 (hb e1)
    have ns_of : ∀ {b : Addr} {m : Str → Option Value}, s₁.heap.Ns b m → (hidT s₁.heap H).Ns b m := fun {b m} hm => by
      obtain ⟨o, es, ep, e, d, r⟩ := hm
      refine ⟨o, es, ep, hidT_get e ?_, d, r⟩
      cases q : H b with
      | none => rfl
      | some u =>
        obtain ⟨e1, _⟩ := hA b u q
        rw [e1, ha] at e
        cases e
        exact absurd d (by intro z; cases z)
    have kb : K.In (hidT s₁.heap H) := fun b o e => hidT_get (kin b o e) (none_of b fun e1 z => by
      rw [e1, z] at e
      cases e)
    have hM : Mod K mg (hidT s₁.heap H) := ⟨kb, ns_of hns, ⟨mb, ns_of hb, hbb⟩, hlim.elim fun mc h => ⟨mc, ns_of h.1, h.2⟩⟩
    have e0 : Env0 P w K mg (hidT s₁.heap H) callerA [] s₁ H := ⟨rfl, hM, fun _ _ e => of_hidT e, by rw [hidT_size] <;> exact Nat.le_refl _, trivial, fun _ hb => (nomatch hb), hok, .of_eq hg⟩
    refine codeAny_mono ((F _ kb (ns_of hns)).go rfl hr e0 (us := [.ref a]) (hbind s₁ (.ref a)) (vs := [.ref a]) (.cons rfl .nil) (hsp H hO hS)) fun r s' h => ?_
    match r, h with
    | .ok (.ret u), h =>
      obtain ⟨v, H', os, bare, un, hok', r', q⟩ := h
      cases (show v = .bl true from q)
      cases (show u = Value.bool true from r')
      refine ⟨rfl, OldK.of_keep fun b o e => ?_, os, bare⟩
      rcases hO b with z | ⟨ob, xs, z⟩
      · exact un.keep b o e z (fun y => (nomatch y)) (fun y => (nomatch y))
      · obtain ⟨e1, _⟩ := hok b _ z
        obtain ⟨e2, _⟩ := hok' b _ (un.frzs b ob _ z)
        rw [e] at e1
        cases e1
        exact e2
    | .error e, h => exact False.elim h
    | .ok .next, h => exact False.elim h
    | .ok .brk, h => exact False.elim h
    | .ok .cont, h => exact False.elim h
  cases hk : K.lookup a with
  | some o =>
    have e := kin a o hk
    rw [ha] at e
    cases e
    refine run (fun _ => none) (fun _ => .inl rfl) (.inr ⟨_, vs.toArray, _, hk, rfl, rfl, rfl, ?_, by simpa using rv⟩) (fun b u z => (nomatch z)) (fun b u z => (nomatch z))
    rw [List.size_toArray, hi.length]
    exact hl
  | none =>
    have at_a : ∀ b u, (if b = a then some (HO.frz { cls := .type "list", data := .seq vs.toArray } (.lst (ns.map V.int))) else none) = some u → b = a ∧ u = HO.frz { cls := .type "list", data := .seq vs.toArray } (.lst (ns.map V.int)) := fun b u z => by
      by_cases hb : b = a
      · rw [if_pos hb] at z
        exact ⟨hb, (Option.some.inj z).symm⟩
      · rw [if_neg hb] at z
        cases z
    refine run (fun b => if b = a then some (.frz { cls := .type "list", data := .seq vs.toArray } (.lst (ns.map V.int))) else none) (fun b => ?_) (.inl (.inr ⟨_, if_pos rfl⟩)) (fun b u z => ?_) fun b u z => ⟨(at_a b u z).1, hk⟩
    · by_cases hb : b = a
      · exact .inr ⟨_, _, if_pos hb⟩
      · exact .inl (if_neg hb)
    · obtain ⟨e1, e2⟩ := at_a b u z
      subst e1
      subst e2
      exact ⟨ha, by rw [List.length_map]; exact hl, vs, _, rv, ha⟩
theorem walk_g {l : PySem.W.OpenLaw} {n k : Nat} {q : Program} {loose : List Str} {XP : (Str → Option Value) → Heap → Prop} {YP : World → Heap → Prop} {d : DefRec} {K : Params → PySem.W.Frag} {sp : World → Sp} {x : Str}
    (hn : l.most = some n) (hn2 : n ≤ sizeLine) (hdf : d.params.defaults = []) (hr : Room k callerA) (hY : ∀ (w : World) (h : Heap), YP w h → (K w.params).In h)
    (F : ∀ (w : World) (mg : Str → Option Value) (fa : Addr) (h : Heap), (K w.params).In h → h.Ns mainGlobals mg → mg d.name = some (.ref fa) →
      ∃ fd : FuncData, (∀ (s : Shared) (u : Value), BindsTo s fd ⟨[u], []⟩ [(x, u)]) ∧ ∀ base : Heap, (K w.params).In base → base.Ns mainGlobals mg → FnG l.prog w (K w.params) mg base k fa fd [x] (sp w))
    (hsp : ∀ (w : World) (H : Hp) (a : Addr) (ns : List Int), ns.length ≤ n → Only H → SqL (K w.params) H a (ns.map V.int) → sp w [.ref a] H (fun v _ => v = .bl true) fun _ _ _ => False) :
    PySem.W.WalkO q loose XP YP l.row.toRowW d [] (fun f vs => PySem.call f vs) := by
  refine Att.attach_call hn hdf fun w s₀ s₁ mg mb fa o pm cd doc a vs ns G Y ho hd hcd hmg hobj hints hlen hg => ?_
  obtain ⟨fd, h1, h2⟩ := F w mg fa _ (hY w _ Y) G.T.g hmg
  exact law_g (hY w _ Y) G.T.g G.T.b G.T.builtins G.T.nolimit hg hobj hints (Nat.le_trans hlen hn2) hr h2 h1 fun H hO hS => hsp w H a ns hlen hO hS
end Tl
end S_Ru
section S_Su
namespace Tl
open PySem PySem.Spec PyProof.Rows L2
/-! ### a method of a class that begins with super().__init__(..) -/
/-- names of such a def: locals first, no cell, the class's own cell free -/
structure SuScope (N P : List Str) (sc : Scope) : Prop where
  kind : sc.kind = .function
  co : sc.isCoroutine = false
  gen : sc.isGenerator = false
  nd : N.Nodup
  pre : N.take P.length = P
  par : ∀ x ∈ P, sc.names.lookup x = some .local
  nocell : ∀ y ∈ sc.names, y.2 ≠ .cell
  free : ∀ y ∈ sc.names, y.2 = .free → y.1 = "__class__"
  cls : sc.names.lookup ("__class__" : Str) = some .free
  sup : sc.names.lookup ("super" : Str) = some .globalImplicit
/-- the context of such a def's body -/
def suCx (P : Program) (w : World) (K : PySem.W.Frag) (mg : Str → Option Value) (base : Heap) (N : List Str) (qual : Str) (scope : Scope) (f : Addr) (cd : Value) (cc : Addr) (A : Around) (outer : List Env) (s : Shared) (H : Hp) (E : XK) : Cx where
  prog := P
  w := w
  K := K
  mg := mg
  base := base
  A := A.deeper (PySem.W.ksEnv qual scope s.heap.objs.size f cd cc)
  N := N
  s_0 := s
  H_0 := H
  env := PySem.W.ksEnv qual scope s.heap.objs.size f cd cc
  outer := outer
  stack := PySem.W.ksEnv qual scope s.heap.objs.size f cd cc :: outer
  ex := []
  calm := true
  fn := fun _ => false
  pn := []
  xe := fun _ _ => False
theorem lookup_rev {ps : List Str} {us : List Value} (nd : ps.Nodup) {i : Nat} {y : Str} {u : Value} (h1 : ps[i]? = some y) (h2 : us[i]? = some u) : (ps.zip us).reverse.lookup y = some u := by
  have hm : (y, u) ∈ (ps.zip us).reverse := by
    rw [List.mem_reverse]
    refine List.mem_of_getElem? (i := i) ?_
    rw [List.getElem?_zip_eq_some]
    exact ⟨h1, h2⟩
  have key : ∀ (l : List (Str × Value)), (l.map (·.1)).Nodup → (y, u) ∈ l → l.lookup y = some u := by
    intro l
    induction l with
    | nil => intro _ h; cases h
    | cons p r ih =>
      intro hn h
      rw [List.map_cons, List.nodup_cons] at hn
      rcases List.mem_cons.mp h with e | e
      · rw [← e, List.lookup_cons, beq_self_eq_true]
      · have hne : y ≠ p.1 := fun z => hn.1 (z ▸ List.mem_map_of_mem (f := (·.1)) e)
        rw [List.lookup_cons, beq_eq_false_iff_ne.mpr hne]
        exact ih hn.2 e
  refine key _ ?_ hm
  rw [List.map_reverse]
  refine List.pairwise_reverse.mpr (List.Pairwise.imp (fun h => Ne.symm h) ?_)
  refine (nd.sublist ?_)
  clear hm key h1 h2 nd
  induction ps generalizing us with
  | nil => exact List.Sublist.refl _
  | cons p r ih =>
    cases us with
    | nil => exact List.nil_sublist _
    | cons v t => exact (ih (us := t)).cons₂ p
theorem su_start {P : Program} {w : World} {K : PySem.W.Frag} {mg : Str → Option Value} {base : Heap} {N ps : List Str} {qual : Str} {scope : Scope} {f cc D : Addr} {cd cl : Value} {cld : Option Addr} {csl : Array (Option Value)} {A : Around} {outer : List Env} {s : Shared} {h₁ : Heap} {tk : Nat} {H : Hp} {E : XK} {us : List Value} {vs : List V}
    (S : SuScope N ps scope) (hcell : K.lookup cc = some ⟨cl, cld, .cell (some (.ref D)), csl⟩) (hd : A.handled = none) (e0 : Env0 P w K mg base A outer s H) (hl : vs.length = ps.length) (r : Vals vs us)
    (hns : h₁.Ns s.heap.objs.size fun x => (ps.zip us).reverse.lookup x) (kp : ∀ b o, s.heap.get? b = some o → h₁.get? b = some o) :
    Inv (suCx P w K mg base N qual scope f cd cc A outer s H E) [] (L2.start N vs) H { s with heap := h₁, toks := tk } := by
  have hpl : ps.length ≤ N.length := by
    have := congrArg List.length S.pre
    rw [List.length_take] at this
    omega
  have hcc : base.get? cc = some ⟨cl, cld, .cell (some (.ref D)), csl⟩ := e0.mod.kin _ _ hcell
  have one : ∀ {y : Str} {c : Addr}, ([("__class__", cc)] : List (Str × Addr)).lookup y = some c → y = "__class__" ∧ c = cc := fun {y c} h => by
    rw [List.lookup_cons] at h
    split at h
    · rename_i e
      exact ⟨beq_iff_eq.mp e, (Option.some.inj h).symm⟩
    · cases h
  have noA : ∀ b : Addr, b ∉ (suCx P w K mg base N qual scope f cd cc A outer s H E).ex := fun b z => (nomatch (show b ∈ ([] : List Addr) from z))
  refine ⟨⟨e0.mod, S.kind, rfl, rfl, Nat.le_refl _, fun y z c h1 h2 => ?_, fun y hy => ?_, fun y c h => ?_, fun _ => hd, Around.frames_deeper e0.frames, .inr ⟨rfl, rfl⟩, fun b z => absurd z (noA b), e0.bs, e0.bsz, fun b _ _ => noA b, fun b z => absurd z (noA b), e0.funs, e0.frf⟩,
    rfl, e0.bare, Un.kept kp, ⟨_, hns, fun i y v h1 h2 h3 => ?_⟩, fun y c h => ?_, e0.hok.fresh (Nat.le_refl _), fun y c h => ?_, fun p hp => (nomatch (show p ∈ ([] : List (Addr × Obj)) from hp)), e0.hok.kept kp, ?_⟩
  · exact (one h1).1.trans (one h2).1.symm
  · have hy : scope.names.lookup y = some .cell ∨ scope.names.lookup y = some .free := hy
    rcases hy with hy | hy
    · exact absurd rfl (S.nocell _ (PySem.mem_of_lookup hy))
    · have e := S.free _ (PySem.mem_of_lookup hy) rfl
      have e : y = "__class__" := e
      subst e
      exact ⟨cc, rfl⟩
  · cases (show false = true from h)
  · have hi : i < vs.length := by
      apply Classical.byContradiction
      intro hi
      unfold L2.start at h2
      rw [List.getElem?_append_right (by simpa using hi), List.getElem?_replicate] at h2
      split at h2 <;> cases h2
    have ha : vs[i]? = some v := by
      unfold L2.start at h2
      rw [List.getElem?_append_left (by simpa using hi), List.getElem?_map] at h2
      cases e : vs[i]? with
      | none => rw [e] at h2; cases h2
      | some a => rw [e] at h2; cases h2; rfl
    obtain ⟨u, hu, rv⟩ := r.get ha
    have hp : ps[i]? = some y := by
      rw [← S.pre, List.getElem?_take_of_lt (by omega)]
      exact h1
    have ndP : ps.Nodup := by
      rw [← S.pre]
      exact S.nd.sublist (List.take_sublist _ _)
    exact ⟨u, rv, .inl ⟨S.par y (List.mem_of_getElem? hp), lookup_rev ndP hp hu⟩⟩
  · obtain ⟨_, e2⟩ := one h
    subst e2
    exact ⟨_, _, kp _ _ (e0.bs _ _ hcc).1, rfl⟩
  · obtain ⟨_, e2⟩ := one h
    subst e2
    exact (e0.bs _ _ hcc).2
  · unfold L2.start
    show _ = N.length
    rw [List.length_append, List.length_map, List.length_replicate]
    omega
/-- what is told of the class D's def: its own cell, its code's file, the class and the next def above it -/
structure SuFacts (P : Program) (K : PySem.W.Frag) (f f2 D C cc cda : Addr) (fd : FuncData) (self : Str) : Prop where
  look : ∃ (oc : Value) (od : Option Addr) (osl : Array (Option Value)), K.lookup f = some ⟨oc, od, .func fd, osl⟩
  head : ∃ ar, (fd.params.posonlyargs ++ fd.params.args).head? = some ar ∧ ar.arg = self
  code : ∃ (ccl : Value) (cdd : Option Addr) (vs : Array Value) (ccs : Array (Option Value)) (file : Str) (tf : Tok), K.lookup cda = some ⟨ccl, cdd, .fields vs, ccs⟩ ∧ vs[2]? = some (.str file tf) ∧ ((P.main.file : Str) == file) = true
  cell : ∃ (cl : Value) (cld : Option Addr) (csl : Array (Option Value)), K.lookup cc = some ⟨cl, cld, .cell (some (.ref D)), csl⟩
  clsD : ∃ cd, PySem.W.clsIn K D = some cd
  sub : PySem.W.mroIn K C (.ref D) = some true
  opq : PySem.W.nsIn K cStatics "thirdparty.any" = some none
  above : PySem.W.ks_superIn K C D "__init__" = some (some (.ref f2))
  ty : PySem.W.typeIn K (.ref f2) = some (.type "function")
  fi : PySem.W.fnIn K f2 = true
  top : (P.main.scope.names.lookup ("super" : Str)).isSome = false
  notC : PySem.W.clsIn K C ≠ none
section
variable {P : Program} {w : World} {K : PySem.W.Frag} {mg : Str → Option Value} {base : Heap}
/-- its promise: first what stands in the arguments, then the def above, then the rest of the body -/
theorem fn_super {f f2 D C cc cda : Addr} {name qual : Str} {params : Arguments} {scope : Scope} {dV kV doc pm ct : Value} {an : Option Addr} {N ps : List Str} {self : Str} {k : Nat} {sp sp2 : Sp} {e1 : Expr} {es : List Expr} {rest : List Stmt} {p0 p1 apos pos spos : Pos}
    (B : SuFacts P K f f2 D C cc cda (PySem.W.ksFn name qual params (.Expr (.Call (.Attribute (.Call (.Name "super" p0) [] [] p1) "__init__" apos) (e1 :: es) [] pos) spos :: rest) scope dV kV doc pm an (.ref cda) ct cc) self)
    (hcd : PySem.W.codeIn K (.ref cda) qual = true) (S : SuScope N ps scope) (h0 : ps[0]? = some self) (ms : mg "super" = none)
    (F2 : FnR P w K mg base CX0 k f2 sp2) (len : ∀ {vs H Q E}, sp vs H Q E → vs.length = ps.length)
    (hbody : ∀ (A : Around) (outer : List Env) (s : Shared) (H : Hp) (vs : List V) (Q : VK) (E : XK), Room k (A.deeper (PySem.W.ksEnv qual scope s.heap.objs.size f (.ref cda) cc)) → sp vs H Q E →
      ∃ ta t x dx fs, PA (suCx P w K mg base N qual scope f (.ref cda) cc A outer s H E) (e1 :: es) ta ∧ PSs (suCx P w K mg base N qual scope f (.ref cda) cc A outer s H E) rest t ∧ vs[0]? = some (.ref x) ∧ H x = some (.ins C dx fs) ∧
        ∀ q, H q = none → ta (L2.start N vs) (upd H q (.met f2 x)) fun us H1 => H1 q = some (.met f2 x) ∧ sp2 (.ref x :: us) H1 (fun _ H2 => t { nx := fun _ H' => Q .non H', rt := Q } (L2.start N vs) H2) E0)
    {pl : Sem Bool} (hev : ∀ env : Env, eval (.Call (.Attribute (.Call (.Name "super" p0) [] [] p1) "__init__" apos) (e1 :: es) [] pos) env = (do
      let ov ← attributeBase (.Call (.Name "super" p0) [] [] p1) "__init__" env (eval (.Call (.Name "super" p0) [] [] p1) env)
      standAt apos.atName
      let (f, first) ← holding [ov] (getMethod ov "__init__" pl)
      callWith pos f first (backTo pos (starEach (e1 :: es) env)) []))
    (hsw : ∀ env : Env, swapsWith (.Call (.Attribute (.Call (.Name "super" p0) [] [] p1) "__init__" apos) (e1 :: es) [] pos) none spos.line env = pure false)
    (hst : ∀ env : Env, starEach (e1 :: es) env = (false, eval e1 env) :: starEach es env) (hpl : ∀ env : Env, ((backTo pos (starEach (e1 :: es) env)).any (·.1) || (backToKw pos (keywordEach [] env)).any (·.1.isNone)) = false) :
    FnOk P w K mg base CX0 (k + 1) f (PySem.W.ksFn name qual params (.Expr (.Call (.Attribute (.Call (.Name "super" p0) [] [] p1) "__init__" apos) (e1 :: es) [] pos) spos :: rest) scope dV kV doc pm an (.ref cda) ct cc) ps sp := by
  obtain ⟨⟨oc, od, osl, lk⟩, ⟨ar, har, hself⟩, ⟨ccl, cdd, cvs, ccs, file, tf, lkc, hvs, hfile⟩, ⟨cl, cld, csl, lkcell⟩, ⟨cdD, hclsD⟩, hsub, hopq, habove, hty, hfi, htop, hnotC⟩ := B
  refine ⟨fun _ _ _ _ h => len h, fun A outer s H args us vs Q E hr e0 hb r hsp => ?_⟩
  have kin : K.In s.heap := e0.mod.kin.keeps fun b o e => (e0.bs b o e).1
  have nl : s.heap.NoLimit := e0.mod.nolimit.keeps fun b o e => (e0.bs b o e).1
  have hl := len hsp
  refine ks_codeAny_call_defAt (fd := PySem.W.ksFn name qual params _ scope dV kV doc pm an (.ref cda) ct cc) (binds := ps.zip us) hr.depth (kin _ _ lk) rfl nl (PySem.W.codeRec_of kin hcd) rfl hb (fun y hy => S.nocell y hy) (fun y hy => S.par y.1 (List.of_mem_zip (a := y.1) (b := y.2) hy).1) (fun h₁ hns kp => ?_) S.co S.gen S.kind
  obtain ⟨ta, t, x, dx, fs, ha, ht, hx0, hx, hq⟩ := hbody A outer s H vs Q E (hr.deeper _) hsp
  have I : Inv (suCx P w K mg base N qual scope f (.ref cda) cc A outer s H E) [] (L2.start N vs) H { s with heap := h₁, toks := s.toks + (ps.zip us).length } := su_start S lkcell hr.hd e0 hl r hns kp
  have kin1 : K.In h₁ := I.kIn
  obtain ⟨oD, hD1, hD2⟩ : ∃ oD, h₁.get? D = some oD ∧ oD.data = .cls cdD := by
    unfold PySem.W.clsIn at hclsD
    split at hclsD
    · rename_i ho
      cases hclsD
      exact ⟨_, kin1 _ _ ho, rfl⟩
    · cases hclsD
  obtain ⟨mA, O, _⟩ := ins_get I.hok hx
  obtain ⟨u0, hu0, ru0⟩ := r.get hx0
  cases (show u0 = Value.ref x from ru0)
  have hsv : (ps.zip us).reverse.lookup ar.arg = some (.ref x) := by
    rw [hself]
    refine lookup_rev ?_ h0 hu0
    rw [← S.pre]
    exact S.nd.sublist (List.take_sublist _ _)
  have hsl : scope.names.lookup ar.arg = some .local := by
    rw [hself]
    exact S.par _ (List.mem_of_getElem? h0)
  have hxC : x ≠ C := by
    intro e
    cases hcl : PySem.W.clsIn K C with
    | none => exact hnotC hcl
    | some cdC =>
      unfold PySem.W.clsIn at hcl
      split at hcl
      · rename_i ho
        have e2 := kin1 _ _ ho
        rw [← e, O.obj] at e2
        cases e2
      · cases hcl
  obtain ⟨mb, hnb, hbb⟩ := I.ok.mod.blt
  refine ks_wpAt_execs_cons (ks_wpAt_Expr_any (ks_wpAt_MethodCall (pl := pl) (ks_wpAt_super_base (env := PySem.W.ksEnv qual scope s.heap.objs.size f (.ref cda) cc) S.sup S.cls (by decide) rfl (kin1 _ _ lk) rfl har rfl (kin1 _ _ lkc) rfl hvs hfile htop ?_) (hev _)) I.quiet (hsw _))
  refine PySem.W.ks_loadName_global S.kind S.sup (PySem.Calls.loadGlobal_builtin (env := PySem.W.ksEnv qual scope s.heap.objs.size f (.ref cda) cc) (I.ok.mod.glob.keeps I.bk) ms (hnb.keeps I.bk) ((hbb _ (by decide +kernel)).trans (by decide +kernel)) ⟨rfl, ?_⟩)
  refine wpAny_loadName_free S.kind S.cls rfl ⟨_, kin1 _ _ lkcell, rfl⟩ ?_
  refine wpAny_loadName_local S.kind hsl hns hsv ?_
  refine ks_wpAny_isType_cls hD1 hD2 ⟨rfl, ?_⟩
  refine ks_wpAny_call_super hD1 hD2 O.obj rfl (fun c e => by cases e) (PySem.W.looks_mroIn kin1 hsub) (fun h2 e2 k2 => ?_)
  have I2 := I.kept (t' := s.toks + (ps.zip us).length) k2
  have kin2 : K.In h2 := I2.kIn
  obtain ⟨of, hof, hofc⟩ : ∃ of, h2.get? f2 = some of ∧ of.cls = .type "function" := by
    have ht' : (K.lookup f2).map (·.cls) = some (.type "function") := hty
    cases z : K.lookup f2 with
    | none => rw [z] at ht'; cases ht'
    | some of => rw [z] at ht'; exact ⟨of, kin2 _ _ z, Option.some.inj ht'⟩
  cases hcl : PySem.W.clsIn K C with
  | none => exact absurd hcl hnotC
  | some cdC =>
    unfold PySem.W.ks_superIn at habove
    rw [hcl] at habove
    refine ks_wpAny_getMethod_super e2 (PySem.W.looks_opaque kin2 hopq) (l₀ := cdC.mro) (fun A Q E s k q => wpAny_bind ((PySem.W.looks_clsIn kin2 hcl) A _ E s k (wpAny_pure q))) rfl kin2 habove hof hofc hxC (by decide) ?_
    have hfree : H h2.objs.size = none := I2.hok.fresh (Nat.le_refl _)
    have I3 := I2.laid (a := h2.objs.size) (o := .met f2 x) (h' := h2.push { cls := .type "method", data := .fields #[.ref f2, .ref x] }) (t' := s.toks + (ps.zip us).length + 1) (fun b u e => Heap.get?_push_of_some _ e) (Nat.le_refl _) (Heap.get?_push_size _ rfl)
    have hx3 := hq _ hfree
    refine callwith_met (X := suCx P w K mg base N qual scope f (.ref cda) cc A outer s H E) (a := x) (hpl _) hfi ?_
    rw [hst]
    refine Calls.evalArgs_plain ?_
    have hrun := ha.run pos [] _ (L2.start N vs) _ _ I3 hx3
    rw [hst] at hrun
    refine wpAny_mono hrun (fun us4 s4 h4 => ?_) fun _ _ z => z.elim
    obtain ⟨vs4, H4, I4, rv4, hm4, hsp4⟩ := h4
    have hr4 : Room k (suCx P w K mg base N qual scope f (.ref cda) cc A outer s H E).A := hr.deeper _
    refine ⟨met_P I4 hm4, wpAny_call (PySem.W.method_call (met_P I4 hm4).1 (codeAny_mono (run_fnR (X := suCx P w K mg base N qual scope f (.ref cda) cc A outer s H E) (vs := V.ref x :: vs4) (us := Value.ref x :: us4) F2 hr4 pass0 I4 (.cons rfl rv4) hsp4) fun r5 s5 h5 => ?_))⟩
    match r5, h5 with
    | .ok (.ret u), h5 =>
      obtain ⟨v5, H5, I5, _, q5⟩ := h5
      refine wpAt_of_wpAny (wpAny_mono (ht.run [] s5 _ H5 _ I5 q5) (fun fl s' hs => ?_) fun _ _ z => z.elim)
      cases fl with
      | ret u =>
        obtain ⟨v, σ', H', J, rv, q⟩ := hs
        exact ⟨v, H', J.os, J.bare, J.base, J.hok, rv, q⟩
      | next =>
        obtain ⟨σ', H', J, q⟩ := hs
        exact ⟨.non, H', J.os, J.bare, J.base, J.hok, rfl, q⟩
      | brk => exact hs.elim fun _ h => h.elim fun _ h => h.2.elim
      | cont => exact hs.elim fun _ h => h.elim fun _ h => h.2.elim
    | .error e, h5 => exact False.elim h5
    | .ok .next, h5 => exact False.elim h5
    | .ok .brk, h5 => exact False.elim h5
    | .ok .cont, h5 => exact False.elim h5
end
end Tl
end S_Su
section S_Bo
namespace Tl
open PySem PySem.Spec PyProof.Rows L2
theorem plain_bool_new : plainId "bool.__new__" = true := by decide +kernel
section
variable {P : Program} {w : World} {A : Around} {E : Value → Shared → Prop} {s : Shared}
theorem code_bool_new {v : Value} {Q₁ : Value → Shared → Prop} (h : wpAny (model P w) A.in1 (truthy v) (fun b s' => Q₁ (.bool b) s') E s) :
    codeAny (model P w) A (.call (.builtin "bool.__new__") ⟨[.type "bool", v], []⟩) (wants Q₁ E) s := by
  refine codeAny_of_tree ?_
  show wpAny _ A.in1 (do checkBuiltinCall "bool.__new__" ⟨[.type "bool", v], []⟩; again (.builtin "bool.__new__" ⟨[.type "bool", v], []⟩)) _ _ s
  refine wpAny_bind (wpAny_of_eq (F.newCall_bool_1 v) (wpAny_pure ⟨plainId_quiet plain_bool_new _, codeAny_builtin F.entry_bool_new ?_⟩))
  rw [Around.under_plainId plain_bool_new _]
  unfold Builtin.«bool.__new__»
  have f1 := F.conv_sub_bool
  obtain ⟨hp, g, d, tk, os⟩ := s
  wp_walk
  show wpAny (model P w) A.in1 (truthy v) _ _ _
  exact wpAny_mono h (fun b s' hb => wpAny_pure hb) fun _ _ e => e
/-- bool(v), by what truth gives -/
theorem call_bool_by {v : Value} {Q : Value → Shared → Prop} (h : wpAny (model P w) A.in1.in1 (truthy v) (fun b s' => Q (.bool b) s') E s) : wpAny (model P w) A (call (.type "bool") [v]) Q E s := by
  refine callType_codes (Q₁ := fun obj s₁ => (∃ b, obj = .bool b) ∧ Q obj s₁) F.called_bool (F.typeCall_bool_1 v) F.entry_object_init (code_bool_new (wpAny_mono h (fun b s' hb => ⟨⟨b, rfl⟩, hb⟩) fun _ _ e => e)) fun obj s₁ hq => ?_
  obtain ⟨⟨b, rfl⟩, hq⟩ := hq
  exact ⟨PySem.typeIs_bool _ _, F.args_object_init_2 _ v, object_init_meets F.called_bool.init.lookup F.called_bool.made F.newNe_bool P w A.in1 _ s₁ ⟨PySem.typeIs_bool _ _, rfl, hq⟩⟩
end
/-- bool(o) of an instance whose class has its own __bool__ at f -/
theorem call_boolO {X : Cx} {CX : CXT} {k : Nat} {C f : Addr} {fd : FuncData} {ps : List Str} {sp : Sp} {E : XK} (F : FnOk X.prog X.w X.K X.mg X.base CX k f fd ps sp) (hr : Room (k + 2) X.A) (hb : Binds X.K fd ps []) (hx : Passes CX X E)
    (hs : PySem.W.findIn X.K (.ref C) "__bool__" = some (some (.ref f))) (hf : PySem.W.isFn X.K (.ref f) = true) :
    CallR X (.type "bool") (fun xs H Q => ∃ a dx fs, xs = [.ref a] ∧ H a = some (.ins C dx fs) ∧ sp [.ref a] H (fun v H1 => ∃ b, v = .bl b ∧ Q (.bl b) H1) E) := by
  intro pins s σ H xs us Q I r h
  obtain ⟨a, dx, fs, rfl, ha, hsp⟩ := h
  obtain rfl := Vals.ref1 r
  obtain ⟨mA, O, _⟩ := ins_get I.hok ha
  obtain ⟨od, J, _⟩ := O.look
  obtain ⟨m, hF⟩ := I.fr
  refine call_bool_by (PySem.W.truthy_K hF I.ok.mod.kin J hs hf ?_)
  have hl := F.len _ _ _ _ hsp
  have r2 : Vals [V.ref a] [Value.ref a] := .cons rfl .nil
  refine wpAny_call (codeAny_mono (F.run X.A.in1.in1 X.stack s H ⟨[.ref a], []⟩ [.ref a] [.ref a] _ E hr.in1.in1 I.env0.in1.in1 (by
    have := hb s [.ref a] I.kIn (by simpa using hl)
    simpa using this) r2 hsp) fun r s' hq => ?_)
  match r, hq with
  | .error e, hq => exact hx pins σ H s e s' I hq
  | .ok (.ret u), hq =>
    obtain ⟨z, H', I', rz, b, ez, q⟩ := I.after hq
    subst ez
    cases rz
    exact ⟨.bl b, H', I', rfl, q⟩
  | .ok .next, hq => exact False.elim hq
  | .ok .brk, hq => exact False.elim hq
  | .ok .cont, hq => exact False.elim hq
end Tl
end S_Bo
section S_Zp
namespace Tl
open PySem PySem.Spec PyProof.Rows L2
/-! ### dict(zip(t, u)) of two tuples -/
/-- what one asks of an iterator at i: it gives v, from S to S'; it ends in S -/
abbrev Gives1 (P : Program) (w : World) (i : Addr) (v : Value) (S S' : Heap → Prop) : Prop := ∀ (A : Around) (E : Value → Shared → Prop) (s : Shared) (Q : Value → Shared → Prop), S s.heap →
  (∀ h', S' h' → Heap.SameBut i s.heap h' → Q v { s with heap := h' }) → wpAny (model P w) A (Builtin.SmallTypes.nextOf (.ref i)) Q E s
abbrev Ends1 (P : Program) (w : World) (i : Addr) (S : Heap → Prop) : Prop := ∀ (A : Around) (E : Value → Shared → Prop) (s : Shared) (Q : Value → Shared → Prop), A.handled = none → S s.heap →
  (∀ h' e, Heap.ExtBut i s.heap h' → (∃ o, h'.get? e = some o ∧ o.cls = .type "StopIteration") → E (.ref e) { s with heap := h' }) → wpAny (model P w) A (Builtin.SmallTypes.nextOf (.ref i)) Q E s
/-- it stays where one object alone changes -/
abbrev Off (b : Addr) (S : Heap → Prop) : Prop := ∀ h h', Heap.SameBut b h h' → S h → S h'
section
variable {P : Program} {w : World} {A : Around} {E : Value → Shared → Prop} {s : Shared}
theorem held_item {z TI TO T i1 i2 : Addr} {f : Bool} {oT : Obj} {x y : Value} {S1 S1' S2 S2' : Heap → Prop} {Q : Value → Shared → Prop} (hz : IsZipHeld s.heap z TI TO T f) (hT : s.heap.get? T = some oT) (hTI : IsPair s.heap TI (.ref i1) (.ref i2)) (z1 : i1 ≠ z) (z2 : i2 ≠ z)
    (n1 : Gives1 P w i1 x S1 S1') (n2 : Gives1 P w i2 y S2 S2') (s1 : S1 s.heap) (s2 : S2 s.heap) (o1 : Off z S1) (o2 : Off z S2) (o21 : Off i1 S2) (o12 : Off i2 S1')
    (hQ : ∀ h', IsZipHeld h' z TI TO T true → S1' h' → S2' h' → h'.objs.size = s.heap.objs.size → (∀ c o, c ≠ z → c ≠ i1 → c ≠ i2 → s.heap.get? c = some o → h'.get? c = some o) →
      Q (.ref h'.objs.size) { s with heap := h'.push { cls := .type "tuple", data := .seq #[x, y] } }) :
    wpAny (model P w) A (Builtin.«zip.__next__» ⟨[.ref z], []⟩) (fun fin s' => ∃ v, fin = .done (.ret v) ∧ Q v s') E s := by
  show wpAny _ _ (field (.ref z) 2 >>= _) _ _ _
  refine wpAny_bind (wpAny_field hz rfl (x := .bool false) rfl (show wpAny _ _ (field (.ref z) 3 >>= _) _ _ _ from wpAny_bind (wpAny_field hz rfl (x := .ref TI) rfl (wpAny_bind (wpAny_seqItems hTI rfl ?_)))))
  show wpAny _ _ (Builtin.SmallTypes.ownedTupleIsFree (.ref z) >>= _) _ _ _
  refine wpAny_bind (wpAny_tupleHeld_zip hz hT fun ha hza sa => ?_)
  simp only [Bool.false_eq_true, if_false]
  refine wpAny_bind ?_
  rw [← Array.forIn_toList]
  simp only [List.forIn_cons, List.forIn_nil]
  refine wpAny_bind (wpAny_bind (wpAny_holding (show wpAny _ _ (Builtin.SmallTypes.nextOf (.ref i1) >>= _) _ _ _ from wpAny_bind (n1 _ _ { s with heap := ha } _ (o1 _ _ sa s1) fun hb sb1 sb => wpAny_pure (wpAny_pure ?_)))))
  refine wpAny_bind (wpAny_bind (wpAny_holding (show wpAny _ _ (Builtin.SmallTypes.nextOf (.ref i2) >>= _) _ _ _ from wpAny_bind (n2 _ _ { s with heap := hb } _ (o21 _ _ sb (o2 _ _ sa s2)) fun hc sc2 sc => wpAny_pure (wpAny_pure (wpAny_pure ?_))))))
  refine (show wpAny _ _ (newTuple [x, y] >>= _) _ _ _ from wpAny_bind (wpAny_newTuple (wpAny_pure ⟨_, rfl, ?_⟩)))
  exact hQ hc (sc.extBut _ _ z2.symm (sb.extBut _ _ z1.symm hza)) (o12 _ _ sc sb1) sc2 (by rw [sc.1, sb.1, sa.1]) fun c o c1 c2 c3 e => sc.extBut _ _ c3 (sb.extBut _ _ c2 (sa.extBut _ _ c1 e))
/-- the first one ends -/
theorem held_end {z TI TO T i1 i2 : Addr} {f : Bool} {oT : Obj} {S1 : Heap → Prop} {Q : Fin → Shared → Prop} (hh : A.handled = none) (hz : IsZipHeld s.heap z TI TO T f) (hT : s.heap.get? T = some oT) (hTI : IsPair s.heap TI (.ref i1) (.ref i2))
    (n1 : Ends1 P w i1 S1) (s1 : S1 s.heap) (o1 : Off z S1) (hE : ∀ h' e, (∀ c o, c ≠ z → c ≠ i1 → s.heap.get? c = some o → h'.get? c = some o) → (∃ o, h'.get? e = some o ∧ o.cls = .type "StopIteration") → E (.ref e) { s with heap := h' }) :
    wpAny (model P w) A (Builtin.«zip.__next__» ⟨[.ref z], []⟩) Q E s := by
  show wpAny _ _ (field (.ref z) 2 >>= _) _ _ _
  refine wpAny_bind (wpAny_field hz rfl (x := .bool false) rfl (show wpAny _ _ (field (.ref z) 3 >>= _) _ _ _ from wpAny_bind (wpAny_field hz rfl (x := .ref TI) rfl (wpAny_bind (wpAny_seqItems hTI rfl ?_)))))
  show wpAny _ _ (Builtin.SmallTypes.ownedTupleIsFree (.ref z) >>= _) _ _ _
  refine wpAny_bind (wpAny_tupleHeld_zip hz hT fun ha hza sa => ?_)
  simp only [Bool.false_eq_true, if_false]
  refine wpAny_bind ?_
  rw [← Array.forIn_toList]
  simp only [List.forIn_cons, List.forIn_nil]
  refine wpAny_bind (wpAny_bind (wpAny_holding (show wpAny _ _ (Builtin.SmallTypes.nextOf (.ref i1) >>= _) _ _ _ from wpAny_bind (n1 _ _ { s with heap := ha } _ hh (o1 _ _ sa s1) fun hb e sb he => ?_))))
  exact hE hb e (fun c o c1 c2 q => sb _ _ c2 (sa.extBut _ _ c1 q)) he
theorem next_by {z : Addr} {Q : Option Value → Shared → Prop} (hTy : s.TypeIs (.ref z) "zip") (h : wpAny (model P w) A.in1 (Builtin.«zip.__next__» ⟨[.ref z], []⟩) (fun fin s' => ∃ v, fin = .done (.ret v) ∧ Q (some v) s') (fun e s' => (∃ a o, e = .ref a ∧ s'.heap.get? a = some o ∧ o.cls = .type "StopIteration") ∧ Q none s') s) :
    wpAny (model P w) A (pyNext (.ref z)) Q E s := by
  unfold pyNext
  refine wpAny_bind (wpAny_attempt (wpAny_callSpecial?_slot (name := Str.ofString "__next__") hTy F.slot_zip_next (wpAny_call_entry F.slot_zip_next hTy F.entry_zip_next (wpAny_mono h (fun fin s' hf => ?_) fun e s' he => ?_) (F.args_zip_next_1 _))))
  · obtain ⟨v, rfl, hq⟩ := hf
    exact ⟨v, rfl, wpAny_pure hq⟩
  · obtain ⟨⟨a, o, rfl, ho, hc⟩, hq⟩ := he
    exact wpAny_bind (wpAny_isInstance (T := "StopIteration") (b := true) ⟨o, ho, hc⟩ isSubtype_stop (wpAny_pure hq))
end
/-- such an iterator of a tuple -/
abbrev TI1 (i l : Addr) (xs : Array Value) (k : Nat) (h : Heap) : Prop := h.IsTupleIter i l k ∧ h.IsTuple l xs
theorem ti_gives {P : Program} {w : World} {i l : Addr} {xs : Array Value} {k : Nat} {v : Value} (hne : l ≠ i) (hv : xs[k]? = some v) : Gives1 P w i v (TI1 i l xs k) (TI1 i l xs (k + 1)) := fun A E s Q hs hq =>
  RZ.nextOf_tuple_item hs.1 hs.2 hv fun h' a b => hq h' ⟨a, hs.2.extBut b.extBut hne⟩ b
theorem ti_ends {P : Program} {w : World} {i l : Addr} {xs : Array Value} {k : Nat} (hv : xs[k]? = none) : Ends1 P w i (TI1 i l xs k) := fun A E s Q hh hs hq => RZ.nextOf_tuple_end hh hs.1 hs.2 hv hq
theorem ti_off {b i l : Addr} {xs : Array Value} {k : Nat} (h1 : i ≠ b) (h2 : l ≠ b) : Off b (TI1 i l xs k) := fun h h' sb hs => ⟨hs.1.extBut sb.extBut h1, hs.2.extBut sb.extBut h2⟩
theorem ti_at {i l : Addr} {xs : Array Value} {k : Nat} {h h' : Heap} (hs : TI1 i l xs k h) (h1 : ∀ o, h.get? i = some o → h'.get? i = some o) (h2 : ∀ o, h.get? l = some o → h'.get? l = some o) : TI1 i l xs k h' := ⟨hs.1.at h1, hs.2.at h2⟩
/-- what stands where the zip of two tuples was made -/
def ZOk (z TI TO i1 i2 l1 l2 : Addr) (xs ys : Array Value) (h : Heap) : Prop := IsZip h z TI TO .none ∧ IsPair h TI (.ref i1) (.ref i2) ∧ (∃ a b, IsPair h TO a b) ∧ TI1 i1 l1 xs 0 h ∧ TI1 i2 l2 ys 0 h
/-- what stands at turn k, while a dict is filled at d -/
def ZSt (z TI TO i1 i2 l1 l2 : Addr) (xs ys : Array Value) (d : Addr) (k : Nat) (h : Heap) : Prop := IsPair h TI (.ref i1) (.ref i2) ∧ TI1 i1 l1 xs k h ∧ TI1 i2 l2 ys k h ∧
  ((IsZip h z TI TO .none ∧ ∃ a b, IsPair h TO a b) ∨ ∃ T f oT, IsZipHeld h z TI TO T f ∧ h.get? T = some oT ∧ T ≠ z ∧ T ≠ i1 ∧ T ≠ i2 ∧ T ≠ d)
theorem pair_arg_zip {P : Program} {w : World} {z TI TO i1 i2 l1 l2 : Addr} (D : ZipApart z TI TO i1 i2 l1 l2) {xs ys : Array Value} (hsz : ys.size = xs.size) :
    PairArg P w "zip" z [z, TI, TO, i1, i2, l1, l2] [z, TO, i1, i2] xs.size (fun i k v => xs[i]? = some k ∧ ys[i]? = some v) (ZOk z TI TO i1 i2 l1 l2 xs ys) := by
  refine { type := fun s ok => ⟨_, ok.1, rfl⟩, notDict := by decide, keep := fun h h' ok hk => ?_, there := fun h ok b hb => ?_, sub := fun b hb => ?_, noKeys := fun A s Q E hA ok h => getAttrOr_miss_zip ok.1 rfl rfl rfl zip_no_keys (by decide +kernel) hA h, iter := fun A s d Q E hA ok hd hdf h => ?_ }
  · obtain ⟨a1, a2, ⟨x, y, a3⟩, a4, a5⟩ := ok
    exact ⟨hk _ _ a1, hk _ _ a2, ⟨x, y, hk _ _ a3⟩, ti_at a4 (fun o => hk _ o) (fun o => hk _ o), ti_at a5 (fun o => hk _ o) fun o => hk _ o⟩
  · obtain ⟨a1, a2, ⟨x, y, a3⟩, ⟨⟨o1, b1, _⟩, ⟨o2, b2, _⟩⟩, ⟨⟨o3, b3, _⟩, ⟨o4, b4, _⟩⟩⟩ := ok
    simp only [List.mem_cons, List.not_mem_nil, or_false] at hb
    rcases hb with e | e | e | e | e | e | e <;> subst e <;> first | exact ⟨_, a1⟩ | exact ⟨_, a2⟩ | exact ⟨_, a3⟩ | exact ⟨_, b1⟩ | exact ⟨_, b2⟩ | exact ⟨_, b3⟩ | exact ⟨_, b4⟩
  · simp only [List.mem_cons, List.not_mem_nil, or_false] at hb ⊢
    rcases hb with e | e | e | e <;> simp [e]
  · obtain ⟨a1, a2, a3, a4, a5⟩ := ok
    simp only [List.mem_cons, List.not_mem_nil, or_false, not_or] at hdf
    obtain ⟨dz, dTI, dTO, di1, di2, dl1, dl2⟩ := hdf
    refine wpAny_pyIter_zip a1 (h z [z, TO, i1, i2] (ZSt z TI TO i1 i2 l1 l2 xs ys d) s.heap s.toks ?_ ⟨a2, a4, a5, .inl ⟨a1, a3⟩⟩ (fun _ _ e => e) fun b hb => .inl hb)
    refine { off := fun hm => ?_, frame := fun i g g' st hk => ?_, item := fun i s1 Q1 E1 hi st hds hQ => ?_, done := fun s1 Q1 E1 st hQ => ?_ }
    · simp only [List.mem_cons, List.not_mem_nil, or_false] at hm
      rcases hm with e | e | e | e
      · exact dz e
      · exact dTO e
      · exact di1 e
      · exact di2 e
    · obtain ⟨b1, b2, b3, b4⟩ := st
      refine ⟨hk _ _ (Ne.symm dTI) b1, ti_at b2 (fun o => hk _ o (Ne.symm di1)) (fun o => hk _ o (Ne.symm dl1)), ti_at b3 (fun o => hk _ o (Ne.symm di2)) (fun o => hk _ o (Ne.symm dl2)), ?_⟩
      rcases b4 with ⟨c1, x, y, c2⟩ | ⟨T, f, oT, c1, c2, c3, c4, c5, c6⟩
      · exact .inl ⟨hk _ _ (Ne.symm dz) c1, x, y, hk _ _ (Ne.symm dTO) c2⟩
      · exact .inr ⟨T, f, oT, hk _ _ (Ne.symm dz) c1, hk _ _ c6 c2, c3, c4, c5, c6⟩
    · obtain ⟨b1, b2, b3, b4⟩ := st
      have ex := Array.getElem?_eq_getElem (xs := xs) hi
      have ey := Array.getElem?_eq_getElem (xs := ys) (i := i) (by omega)
      have lt : ∀ {c : Addr} {o : Obj}, s1.heap.get? c = some o → s1.heap.objs.size ≠ c := fun e => Nat.ne_of_gt (Heap.lt_size e)
      have m1 : s1.heap.objs.size ≠ i1 := b2.1.elim fun _ e => lt e.1
      have m2 : s1.heap.objs.size ≠ i2 := b3.1.elim fun _ e => lt e.1
      rcases b4 with ⟨c1, x, y, c2⟩ | ⟨T, f, oT, c1, c2, c3, c4, c5, c6⟩
      · refine RZ.pyNext_zipT_item D c1 b1 c2 b2.1 b3.1 b2.2 b3.2 ex ey fun g' e1 e2 e3 e4 e5 _ hk => ?_
        refine hQ s1.heap.objs.size _ _ g' s1.toks ⟨ex, ey⟩ (.inl ⟨_, e5, rfl, _, rfl⟩) ⟨hk _ _ D.TIz D.TITO D.TIi1 D.TIi2 b1, ⟨e3, b2.2.at fun o => hk _ o D.l1z D.l1TO D.l1i1 D.l1i2⟩, ⟨e4, b3.2.at fun o => hk _ o D.l2z D.l2TO D.l2i1 D.l2i2⟩, .inr ⟨s1.heap.objs.size, false, _, e1, e5, lt c1, m1, m2, Nat.ne_of_gt hds⟩⟩ fun c o hc e => ?_
        simp only [List.mem_cons, List.not_mem_nil, or_false, not_or] at hc
        exact hk c o hc.1 hc.2.1 hc.2.2.1 hc.2.2.2 e
      · refine next_by ⟨_, c1, rfl⟩ (wpAny_mono (held_item c1 c2 b1 D.i1z D.i2z (ti_gives D.l1i1 ex) (ti_gives D.l2i2 ey) b2 b3 (ti_off D.i1z D.l1z) (ti_off D.i2z D.l2z) (ti_off D.i12.symm D.l2i1) (ti_off D.i12 D.l1i2) fun g' e1 e2 e3 e4 hk => ?_) (fun _ _ q => q) fun _ _ q => q)
        have up : ∀ (c : Addr) (o : Obj), g'.get? c = some o → (g'.push { cls := .type "tuple", data := .seq #[xs[i], ys[i]] }).get? c = some o := fun c o e => Heap.get?_push_of_some _ e
        refine hQ g'.objs.size _ _ _ s1.toks ⟨ex, ey⟩ (.inl ⟨_, Heap.get?_push_size _ rfl, rfl, _, rfl⟩) ⟨up _ _ (hk _ _ D.TIz D.TIi1 D.TIi2 b1), ti_at e2 (up _) (up _), ti_at e3 (up _) (up _), .inr ⟨T, true, oT, up _ _ e1, up _ _ (hk _ _ c3 c4 c5 c2), c3, c4, c5, c6⟩⟩ fun c o hc e => ?_
        simp only [List.mem_cons, List.not_mem_nil, or_false, not_or] at hc
        exact up _ _ (hk c o hc.1 hc.2.2.1 hc.2.2.2 e)
    · obtain ⟨b1, b2, b3, b4⟩ := st
      have ex : xs[xs.size]? = none := Array.getElem?_eq_none (Nat.le_refl _)
      rcases b4 with ⟨c1, x, y, c2⟩ | ⟨T, f, oT, c1, c2, c3, c4, c5, c6⟩
      · refine RZ.pyNext_zipT_end hA D c1 b1 c2 b2.1 b3.1 b2.2 b3.2 (.inl ex) fun g' hk => hQ g' s1.toks fun c o hc e => ?_
        simp only [List.mem_cons, List.not_mem_nil, or_false, not_or] at hc
        exact hk c o hc.1 hc.2.1 hc.2.2.1 hc.2.2.2 e
      · refine next_by ⟨_, c1, rfl⟩ (wpAny_mono (held_end (S1 := TI1 i1 l1 xs xs.size) (Q := fun _ _ => False) hA c1 c2 b1 (ti_ends ex) b2 (ti_off D.i1z D.l1z) fun g' e hk he => ?_) (fun _ _ q => q.elim) fun _ _ q => q)
        obtain ⟨o, ho, hc⟩ := he
        refine ⟨⟨e, o, rfl, ho, hc⟩, hQ g' s1.toks fun c o hc e => ?_⟩
        simp only [List.mem_cons, List.not_mem_nil, or_false, not_or] at hc
        exact hk c o hc.1 hc.2.2.1 e
end Tl
end S_Zp
section S_Ya
namespace Tl
open PySem PySem.Spec PyProof.Rows L2
/-! ### sorted(t) of a tuple of ints -/
section
variable {prog : Program} {w : World} {A : Around} {E : Value → Shared → Prop} {s : Shared}
abbrev heapL (h : Heap) (zs : List Value) : Heap := (h.push (seqObj "list" #[] 0)).update h.objs.size (Obj.mapSeq (· ++ zs.toArray))
theorem collect_tup {l : Addr} {zs : List Value} {Q : List Value → Shared → Prop} (hl : s.heap.IsTuple l zs.toArray) (hz : zs.length ≤ sizeLine)
    (h : Q zs { s with heap := heapL s.heap zs }) : wpAny (model prog w) A (collect (.ref l)) Q E s := by
  obtain ⟨ob, hob, hcl, m, hdt⟩ := id hl
  unfold collect
  refine wpAny_bind (wpAny_runValue (codeAny_builtin entry_proto_collect' ?_))
  show wpAny _ _ (do again (.builtin "list.__iadd__" ⟨[← newList [], .ref l], []⟩)) _ _ s
  refine wpAny_bind (wpAny_newList (wpAny_pure ⟨Code.quiet_builtin _ (by decide +kernel), codeAny_builtin entry_list_iadd' ?_⟩))
  show wpAny _ _ (Builtin.List.listExtendWith (.ref s.heap.objs.size) (.ref l) (.ref s.heap.objs.size)) _ _ { s with heap := s.heap.push (seqObj "list" #[] 0) }
  unfold Builtin.List.listExtendWith
  have hob' : (s.heap.push (seqObj "list" #[] 0)).get? l = some ob := Heap.get?_push_of_some _ hob
  refine wpAny_bind (wpAny_typeOf (T := "tuple") ⟨ob, hob', hcl⟩ ?_)
  have h1 : (Value.type "tuple" == Value.type "list") = false := by rfl
  have h2 : (Value.type "tuple" == Value.type "tuple") = true := by rfl
  rw [if_pos (by rw [h1, h2]; simp)]
  refine wpAny_bind (listItems_at hob' hdt ?_)
  refine wpAny_bind (listItems_at (xs := #[]) (n := 0) (Heap.get?_push_size _ rfl) rfl ?_)
  rw [if_neg (by simp)]
  refine wpAny_bind (listUpdate_at (xs := #[]) (n := 0) (Heap.get?_push_size _ rfl) rfl ?_ (Nat.zero_le _) (by
    show (#[] ++ zs.toArray).size ≤ sizeLine + 1
    simp only [Array.size_append, List.size_toArray, List.length_nil]
    omega))
  refine wpAny_pure ?_
  refine (show wpAny (model prog w) A (load s.heap.objs.size >>= _) Q E { s with heap := heapL s.heap zs } from wpAny_bind (wpAny_load (get?_update_seq (Heap.get?_push_size _ rfl) _) ?_))
  show wpAny _ _ (pure ((#[] : Array Value) ++ zs.toArray).toList) Q E _
  have e : ((#[] : Array Value) ++ zs.toArray).toList = zs := by simp
  rw [e]
  exact wpAny_pure h
theorem sorted_tup {l : Addr} {zs : List Value} {lt : Value → Value → Bool} {Q : Value → Shared → Prop} (O : SrtO.Swo lt) (hl : s.heap.IsTuple l zs.toArray) (hz : zs.length ≤ sizeLine)
    (hS : 2 ≤ zs.length → ∀ (g : Heap) (a : Addr), g.get? a = some (seqObj "list" zs.toArray 0) → (∀ b o, s.heap.get? b = some o → b ≠ a ∧ g.get? b = some o) → SrtO.SortableO prog w A.in1.in1 { s with heap := g } a zs lt)
    (h : ∀ out : List Value, SrtO.Srtd lt out → SrtO.Stb lt out zs → Q (.ref (s.heap.objs.size + 1)) { s with heap := sortedAll s.heap zs out.toArray }) :
    wpAny (model prog w) A (call (.builtin "sorted") [.ref l]) Q E s := by
  refine Calls.call_function_entry kind_sorted plain_sorted entry_sorted (args_sorted1 _) ?_
  unfold Builtin.«sorted»
  refine wpAny_bind (m := checkCount "sorted" 1 1 _) (wpAny_pure (wpAny_bind (collect_tup hl hz (wpAny_bind (wpAny_newList ?_ hz)))))
  have sz : (heapL s.heap zs).objs.size = s.heap.objs.size + 1 := by
    show ((s.heap.push (seqObj "list" #[] 0)).update s.heap.objs.size (Obj.mapSeq (· ++ zs.toArray))).objs.size = _
    rw [Heap.size_update, size_push']
  have at1 : ((heapL s.heap zs).push (seqObj "list" zs.toArray 0)).get? (s.heap.objs.size + 1) = some (seqObj "list" zs.toArray 0) := by
    rw [← sz]
    exact Heap.get?_push_size _ rfl
  have up : ∀ b o, s.heap.get? b = some o → b ≠ s.heap.objs.size + 1 ∧ ((heapL s.heap zs).push (seqObj "list" zs.toArray 0)).get? b = some o := fun b o q => by
    have lt : b < s.heap.objs.size := Heap.lt_size q
    refine ⟨Nat.ne_of_lt (Nat.lt_succ_of_lt lt), Heap.get?_push_of_some _ ?_⟩
    show ((s.heap.push (seqObj "list" #[] 0)).update s.heap.objs.size (Obj.mapSeq (· ++ zs.toArray))).get? b = some o
    rw [Heap.get?_update_ne _ _ _ _ (Nat.ne_of_lt lt)]
    exact Heap.get?_push_of_some _ q
  show wpAny _ _ _ _ _ { s with heap := (heapL s.heap zs).push (seqObj "list" zs.toArray 0) }
  rw [sz]
  refine wpAny_bind (wpAny_holding (wpAny_call_entry slot_list_sort ⟨_, at1, rfl⟩ entry_list_sort (SrtO.list_sort_ord O at1 hz (fun h2 => hS h2 _ _ at1 up) fun out a b => ⟨_, rfl, ?_⟩) (args_list_sort _)))
  exact wpAny_pure ⟨_, rfl, h out a b⟩
end
def rSortedU (K : PySem.W.Frag) : List V → Hp → VK → Prop := fun vs H Q => ∃ (a : Addr) (ns : List Int), vs = [V.ref a] ∧ (SqL K H a (ns.map V.int) ∨ SqT K H a (ns.map V.int)) ∧
  ∀ (ms : List Int) (p : Addr), ms.Perm ns → ms.Pairwise (· ≤ ·) → H p = none → Q (.ref p) (upd H p (.lst (ms.map V.int)))
/-- sorted(xs) of a list or a tuple of ints -/
theorem cr_sortedU {X : Cx} : CallR X (.builtin "sorted") (rSortedU X.K) := by
  intro pins s σ H vs us Q I r h
  obtain ⟨a, ns, rfl, hs | hs, q⟩ := h
  · exact cr_sortedI pins s σ H _ us Q I r ⟨a, ns, rfl, hs, q⟩
  · obtain ⟨its, rv, hl, hz⟩ := I.tuple hs
    rw [Vals.ref1 r]
    have hi := rv.ints
    refine sorted_tup SrtO.swo_int hl (by rw [← rv.length]; exact hz) (fun h2 g b _ _ => SrtO.ints_sortable hi h2) fun out h1 h2 => ?_
    obtain ⟨k1, k2, k3⟩ := SrtO.ints_out hi h1 h2
    obtain ⟨ep, hep⟩ := PyProof.Rows.sortedAll_at s.heap its out.toArray
    have hn : ((out.map SrtO.iv).map V.int).length ≤ sizeLine := by
      rw [List.length_map] at hz ⊢
      rw [k2.length_eq]
      exact hz
    exact ⟨.ref _, upd H (s.heap.objs.size + 1) (.lst ((out.map SrtO.iv).map V.int)), I.laid (t' := s.toks) (fun _ _ => PyProof.Rows.sortedAll_old) (Nat.le_succ _) ⟨hn, out, ep, vals_of_ints k1, hep⟩, rfl, q _ _ k2 k3 (I.hok.fresh (Nat.le_succ _))⟩
/-! ### enumerate(t) of a tuple -/
set_option maxHeartbeats 1000000 in
theorem enum_new1 {v : Value} {o : Obj} {G : Heap → Prop} (B : Begins v o G) :
    Meets (Builtin.«enumerate.__new__» ⟨[.type "enumerate", v], []⟩) (fun _ R z => G z.heap ∧
      R (.ok (.ret (.ref (z.heap.push o).objs.size))) { z with heap := (z.heap.push o).push { cls := .type "enumerate", data := .fields #[.none, .bool false, .ref z.heap.objs.size, rawInt 0, .none, .none] } }) :=
  .of_wp fun pr wo Ar R z h => by
    obtain ⟨hh, ge, dd, tt, oo⟩ := z
    obtain ⟨g1, h⟩ := h
    have sb := sub_enumerate
    have it1 : ∀ {A' : Around} {E : Value → Shared → Prop} {Q : Value → Shared → Prop}, Q (.ref hh.objs.size) ⟨hh.push o, ge, dd, tt, oo⟩ → wpAny (model pr wo) A' (pyIter v) Q E ⟨hh, ge, dd, tt, oo⟩ :=
      fun q => B.iter pr wo _ _ ⟨hh, ge, dd, tt, oo⟩ _ g1 q
    wp_walk using it1
    refine wpAny_stack_any fun st => wpAny_pure ?_
    split
    · rename_i c _ _ _ _ _
      cases (c == Value.type "enumerate") <;> (wp_walk using it1; exact ⟨_, rfl, h⟩)
    · wp_walk using it1
      exact ⟨_, rfl, h⟩
section
variable {prog : Program} {w : World} {A : Around} {E : Value → Shared → Prop} {s : Shared}
theorem enum_of {v : Value} {o : Obj} {G : Heap → Prop} {Q : Value → Shared → Prop} (B : Begins v o G) (g1 : G s.heap)
    (h : ∀ g, IsEnum g (s.heap.objs.size + 1) s.heap.objs.size 0 .none → g.get? s.heap.objs.size = some o → g.objs.size = s.heap.objs.size + 2 →
      (∀ b u, s.heap.get? b = some u → g.get? b = some u) → Q (.ref (s.heap.objs.size + 1)) { s with heap := g }) :
    wpAny (model prog w) A (call (.type "enumerate") [v]) Q E s := by
  refine callType_new F.called_enumerate (by decide) (F.typeCall_enumerate_1 _) (F.newCall_enumerate_1 _) (fun obj => F.args_object_init_2 obj _) F.entry_enumerate_new (enum_new1 B) ⟨g1, ?_⟩
  have z1 : (s.heap.push o).objs.size = s.heap.objs.size + 1 := Heap.size_push ..
  show _ ∧ _
  rw [z1]
  have he : IsEnum ((s.heap.push o).push { cls := .type "enumerate", data := .fields #[.none, .bool false, .ref s.heap.objs.size, rawInt 0, .none, .none] }) (s.heap.objs.size + 1) s.heap.objs.size 0 .none := z1 ▸ Heap.get?_push_size _ rfl
  exact ⟨⟨_, he, rfl⟩, h _ he (Heap.get?_push_of_some _ (Heap.get?_push_size _ B.free)) (by rw [Heap.size_push, z1]) fun b u x => Heap.get?_push_of_some _ (Heap.get?_push_of_some _ x)⟩
end
/-- the tuple at a as it stands at each turn, each item in a new pair -/
def IteT (K : PySem.W.Frag) (a : Addr) : It :=
  ⟨fun i H => ∃ (xs : List V) (x : V), SqT K H a xs ∧ xs[i]? = some x, fun i H v H' => ∃ T x, v = .ref T ∧ H T = none ∧ H' = upd H T (.tup [.int (i : Nat), x]) ∧ ∀ xs, SqT K H a xs → xs[i]? = some x, fun i H => ∃ xs : List V, SqT K H a xs ∧ xs.length ≤ i⟩
theorem tup_ne {h : Heap} {a b l : Addr} {k : Nat} {xs : Array Value} (p : h.IsTuple a xs) (q : h.IsTupleIter b l k) : a ≠ b := fun z => by
  obtain ⟨o, ho, hc, _⟩ := p
  obtain ⟨u, hu, hd, _⟩ := q
  rw [z, hu] at ho
  cases ho
  rw [hd] at hc
  exact absurd (Value.type.inj hc) (by decide)
theorem tup_ne2 {h : Heap} {a e it : Addr} {i : Int} {old : Value} {xs : Array Value} (p : h.IsTuple a xs) (q : IsEnum h e it i old) : a ≠ e := fun z => by
  obtain ⟨o, ho, hc, _⟩ := p
  rw [z, q] at ho
  cases ho
  exact absurd (Value.type.inj hc) (by decide)
abbrev EnT (a e it : Addr) (i : Nat) (h : Heap) : Prop := (∃ old, IsEnum h e it ((i : Nat) : Int) old) ∧ h.IsTupleIter it a i ∧ e ≠ it
theorem turn_enumT {P : Program} {w : World} {K : PySem.W.Frag} {elts : List Expr} {kk : Nat} {tpos : Pos} (a e it : Addr) : Turn P w K (.Tuple elts kk tpos) (IteT K a) [e, it] e (EnT a e it) where
  mem := List.mem_cons_self
  obj := fun i h st b hb => by
    obtain ⟨⟨old, he⟩, ⟨o, ho, hc, hd⟩, _⟩ := st
    rcases List.mem_cons.mp hb with z | z
    · rw [z]; exact ⟨_, he, fun v q => nomatch q⟩
    · rw [List.mem_singleton.mp z]; exact ⟨o, ho, fun v q => by rw [hd] at q; cases q⟩
  keep := fun i h h' st k => ⟨st.1.imp fun old he => k e (by simp) _ he, st.2.1.at fun o q => k it (by simp) o q, st.2.2⟩
  item := by
    intro X hP hw hK hc i pins s σ H E I hf st hg
    subst hP hw hK
    obtain ⟨⟨old, he⟩, hit, hne⟩ := st
    obtain ⟨xs, x, hq, hx⟩ := hg
    obtain ⟨its, rv, p, hz⟩ := I.tuple hq
    obtain ⟨u, hu, ru⟩ := rv.get hx
    have hai : a ≠ it := tup_ne p hit
    have hae : a ≠ e := tup_ne2 p he
    have le : e < s.heap.objs.size := Heap.lt_size he
    have li : it < s.heap.objs.size := by obtain ⟨_, q, _⟩ := hit; exact Heap.lt_size q
    have isz : i < its.toArray.size := by simpa using (List.getElem?_eq_some_iff.mp hu).1
    refine wpAny_pyNext_enum_itemC (Draws.tuple (show X.A.in1.handled = none from I.ok.hd hc) it a hai its.toArray) he ⟨hit, p⟩ isz hne (by simp [hne, Ne.symm hae]) fun y g tk hy ho hst hT hsz hk => ?_
    have ey : y = u := by
      rw [show its.toArray[i]? = its[i]? by simp, hu] at hy
      exact (Option.some.inj hy).symm
    subst ey
    refine ⟨_, rfl, wpAny_letOwnedTupleGo_enum (s := { s with heap := g, toks := tk + 1 }) ho fun g2 he' sb => ?_⟩
    have at2 : g2.get? s.heap.objs.size = some { cls := .type "tuple", data := .seq #[.int i tk, y] } := (sb.2 _ (Nat.ne_of_gt le)).trans hT
    have new : ObjOk X.prog X.w (upd H s.heap.objs.size (.tup [.int (i : Nat), x])) g2 s.heap.objs.size (.tup [.int (i : Nat), x]) :=
      ⟨by show 2 ≤ sizeLine; decide, [.int i tk, y], .cons ⟨_, rfl⟩ (.cons ru .nil), ⟨_, at2, rfl, _, rfl⟩⟩
    have old2 : ∀ b ob, b ∉ [e, it] → s.heap.get? b = some ob → g2.get? b = some ob := fun b ob hb q =>
      (sb.2 b fun z => hb (by simp [z])).trans (hk b ob (fun z => hb (by simp [z])) (fun z => hb (by simp [z])) q)
    have I1 : Inv X pins σ (upd H s.heap.objs.size (.tup [.int (i : Nat), x])) { s with heap := g2, toks := tk + 1 } := I.turnedNew (ch := [e, it]) old2 hf (Nat.le_refl _) new
    refine ⟨.ref s.heap.objs.size, _, I1, rfl, ⟨_, x, rfl, I.hok.fresh (Nat.le_refl _), rfl, fun ys hy => by rw [I.tuple_inj hy hq]; exact hx⟩, ⟨⟨y, ?_⟩, hst.1.at fun o q => (sb.2 it (Ne.symm hne)).trans q, hne⟩, fun b hb => ?_⟩
    · show IsEnum g2 e it ((i + 1 : Nat) : Int) y
      rw [show ((i + 1 : Nat) : Int) = (i : Int) + 1 by omega]
      exact he'
    · have lb : b < s.heap.objs.size := by
        rcases List.mem_cons.mp hb with z | z
        · rw [z]; exact le
        · rw [List.mem_singleton.mp z]; exact li
      rw [upd_ne (Nat.ne_of_lt lb)]
      exact (hf b hb).1
  done := by
    intro X hP hw hK hc i pins s σ H E I hf st hg
    subst hP hw hK
    obtain ⟨⟨old, he⟩, hit, hne⟩ := st
    obtain ⟨xs, hq, hx⟩ := hg
    obtain ⟨its, rv, p, hz⟩ := I.tuple hq
    obtain ⟨f0, f1, f2, f3, f4, f5⟩ := hf it (by simp)
    have hn := rv.length
    have hai : a ≠ it := tup_ne p hit
    have D : Draws X.prog X.w X.A.in1 it [it, a] i (fun _ _ => False) (fun j h => h.IsTupleIter it a j ∧ h.IsTuple a its.toArray ∧ j = i) :=
      { live := fun _ _ st => let ⟨o, ho, _⟩ := st.1; ⟨o, ho⟩
        frame := fun _ _ _ st hk => ⟨st.1.at fun o e => hk it (by simp) o e, st.2.1.at fun o e => hk a (by simp) o e, st.2.2⟩
        item := fun j s Q E hj st _ => absurd st.2.2 (Nat.ne_of_lt hj)
        done := fun s Q E st hE => RZ.nextOf_tuple_end (show X.A.in1.handled = none from I.ok.hd hc) st.1 st.2.1 (by simp; omega) hE }
    exact wpAny_pyNext_enum_endD D he ⟨hit, p, rfl⟩ fun g eb => ⟨rfl, I.turned (t' := s.toks) (fun b o hb q => eb b o hb q) f0 f1 f3 f4 f5⟩
  self := fun A i s Q E st h => let ⟨⟨_, he⟩, _⟩ := st; wpAny_pyIter_enum he h
def iEnumT (K : PySem.W.Frag) (ta : TA) : TI := fun σ H R => ta σ H fun vs H1 => ∃ a xs, vs = [.ref a] ∧ SqT K H1 a xs ∧ R (IteT K a) H1
theorem pi_enumT {X : Cx} {e : Expr} {ta : TA} {p pos tpos : Pos} {elts : List Expr} {kk : Nat} (hg : Gl X "enumerate") (hm : X.mg "enumerate" = none) (ha : PA X [e] ta) (hs : starEach [e] X.env = [(false, eval e X.env)] := by rfl) :
    PI X (.Tuple elts kk tpos) (.Call (.Name "enumerate" p) [e] [] pos) (iEnumT X.K ta) := by
  refine ⟨fun pins s σ H R I h => ?_⟩
  refine Call_ (ld_blt I hg hm boot_enumerate (PyProof.Rows.callWith_type1 (thn (ha.run pos pins s σ H _ I h) fun us s1 hv => ?_) hs rfl))
  obtain ⟨vs, H1, I1, r1, a, xs, rfl, hq, q⟩ := hv
  obtain rfl := Vals.ref1 r1
  obtain ⟨its, rv, p', hz⟩ := I1.tuple hq
  refine enum_of (begins_tuple a its.toArray) p' fun g he hit hsz hk => wpAny_pyIter_enum he ?_
  refine ⟨s1.heap.objs.size + 1, [s1.heap.objs.size + 1, s1.heap.objs.size], _, _, H1, rfl, I1.kept (t' := s1.toks) hk, turn_enumT a (s1.heap.objs.size + 1) s1.heap.objs.size, ⟨⟨.none, he⟩, ⟨_, hit, rfl, rfl⟩, Nat.succ_ne_self _⟩, fun b hb => ?_, q⟩
  have le : s1.heap.objs.size ≤ b := by
    rcases List.mem_cons.mp hb with z | z
    · rw [z]; exact Nat.le_add_right _ _
    · rw [List.mem_singleton.mp z]; exact Nat.le_refl _
  exact I1.fpOk le (I1.hok.fresh le)
end Tl
end S_Ya
section S_Yw
namespace Tl
open PySem PySem.Spec PyProof.Rows L2
open Evl
/-! ### walks that only lay new objects -/
/-- C holds what came between A and B -/
abbrev Since (A B C : Hp) : Prop := ∀ a o, A a = none → B a = some o → C a = some o
/-- what a for walks: n turns, told by Y, as long as what stood at H stays, and what is new -/
def EvI (wi : TI) (σ : L2.St) (H : Hp) (n : Nat) (Y : Nat → Hp → V → Hp → Prop) : Prop := ∀ H1, Ex H H1 → ∀ R : It → Hp → Prop,
  (∀ (J : It) (G : Hp → Prop) H2, Ex H1 H2 → Walk J n G Y → (∀ A, Ex H A → Since H1 H2 A → G A) → R J H2) → wi σ H1 R
/-- a value of which R holds, in each heap that has what stood at H and what is new -/
def EvN (te : TE) (σ : L2.St) (H : Hp) (R : V → Hp → Prop) : Prop := ∀ H1, Ex H H1 → ∀ Q : VK, (∀ v H2, Ex H1 H2 → (∀ H3, Ex H H3 → Since H1 H2 H3 → R v H3) → Q v H2) → te σ H1 Q
/-- a new list: what it holds is told by L -/
def EvNL (te : TE) (σ : L2.St) (H : Hp) (L : List V → Hp → Prop) : Prop := ∀ H1, Ex H H1 → ∀ Q : VK,
  (∀ p xs H2, H1 p = none → Ex H1 H2 → H2 p = some (.lst xs) → (∀ H3, Ex H H3 → (∀ a o, a ≠ p → H1 a = none → H2 a = some o → H3 a = some o) → L xs H3) → Q (.ref p) H2) → te σ H1 Q
/-- the target's stores -/
def Aims (g : TG) (n : Nat) (Y : Nat → Hp → V → Hp → Prop) (s : Nat → L2.St → L2.St) : Prop := ∀ i σ H x H', i < n → Y i H x H' → Ex H H' ∧ ∀ Q : L2.St → Hp → Prop, Q (s i σ) H' → g x σ H' Q
theorem aims_at {xs : List V} {j : Nat} : Aims (gName j) xs.length (YAt xs) (fun i σ => σ.set j (some (xs.getD i .non))) := fun i σ H x H' hi y => by
  obtain ⟨rfl, hx⟩ := y
  obtain rfl : xs.getD i .non = x := by rw [List.getD_eq_getElem?_getD, hx]; rfl
  exact ⟨Ex.refl _, fun Q q => q⟩
theorem aims_fn {f : Nat → V} {n j : Nat} : Aims (gName j) n (YFn f) (fun i σ => σ.set j (some (f i))) := fun i σ H x H' hi y => by
  obtain ⟨rfl, rfl⟩ := y
  exact ⟨Ex.refl _, fun Q q => q⟩
/-- a pair of the turn's number and the item -/
theorem aims_enum {K : PySem.W.Frag} {xs : List V} {j1 j2 : Nat} : Aims (gTup K 2 (gCons (gName j1) (gCons (gName j2) gNil))) xs.length (YPair (fun i => some (.int (i : Nat))) (fun i => xs[i]?))
    (fun i σ => (σ.set j1 (some (.int (i : Nat)))).set j2 (some (xs.getD i .non))) := fun i σ H v H' hi y => by
  obtain ⟨T, x, y, rfl, hT, rfl, h1, h2⟩ := y
  cases h1
  have h3 : xs[i]? = some y := h2
  obtain rfl : xs.getD i .non = y := by rw [List.getD_eq_getElem?_getD, h3]; rfl
  exact ⟨Ex.new hT, fun Q q => ⟨T, _, rfl, st_of upd_same, rfl, _, _, rfl, _, _, rfl, rfl, q⟩⟩
section
variable {K : PySem.W.Frag} {σ : L2.St} {H : Hp}
theorem ei_list {a : Addr} {xs : List V} {tl : TE} (h : Ev tl σ H (.ref a)) (hx : SqL K H a xs) : EvI (iList K tl) σ H xs.length (YAt xs) := fun H1 e R k =>
  h H1 e _ fun H2 e2 => ⟨a, rfl, ⟨xs, ex_l (e.trans e2) hx⟩, k _ _ H2 e2 walk_list fun A ab _ => ex_l ab hx⟩
theorem ei_listN {xs : List V} {tl : TE} (h : EvL tl σ H xs) : EvI (iList K tl) σ H xs.length (YAt xs) := fun H1 e R k =>
  h H1 e _ fun a H2 ha e2 hx => ⟨a, rfl, ⟨xs, sq_of hx⟩, k _ _ H2 e2 walk_list fun A _ ab => sq_of (ab _ _ ha hx)⟩
theorem ei_tup {a : Addr} {xs : List V} {tl : TE} (h : Ev tl σ H (.ref a)) (hx : SqT K H a xs) : EvI (iTup K tl) σ H xs.length (YAt xs) := fun H1 e R k =>
  h H1 e _ fun H2 e2 => ⟨a, rfl, ⟨xs, ex_t (e.trans e2) hx⟩, k _ _ H2 e2 walk_tup fun A ab _ => ex_t ab hx⟩
theorem walk_enumT {a : Addr} {xs : List V} : Walk (IteT K a) xs.length (fun H => SqT K H a xs) (YPair (fun i => some (.int (i : Nat))) (fun i => xs[i]?)) := by
  refine ⟨fun i _ hi q => ⟨xs, xs[i], q, by simp [hi]⟩, fun _ q => ⟨xs, q, Nat.le_refl _⟩, fun i H v H' _ q y => ?_⟩
  obtain ⟨T, x, h1, h2, h3, h4⟩ := y
  exact ⟨T, .int (i : Nat), x, h1, h2, h3, rfl, h4 xs q⟩
theorem ei_enum {a : Addr} {xs : List V} {ta : TA} (h : EvA ta σ H [.ref a]) (hx : SqL K H a xs) : EvI (iEnum K ta) σ H xs.length (YPair (fun i => some (.int (i : Nat))) (fun i => xs[i]?)) := fun H1 e R k =>
  h H1 e _ fun H2 e2 => ⟨a, xs, rfl, ex_l (e.trans e2) hx, k _ _ H2 e2 walk_enum fun A ab _ => ex_l ab hx⟩
theorem ei_enumT {a : Addr} {xs : List V} {ta : TA} (h : EvA ta σ H [.ref a]) (hx : SqT K H a xs) : EvI (iEnumT K ta) σ H xs.length (YPair (fun i => some (.int (i : Nat))) (fun i => xs[i]?)) := fun H1 e R k =>
  h H1 e _ fun H2 e2 => ⟨a, xs, rfl, ex_t (e.trans e2) hx, k _ _ H2 e2 walk_enumT fun A ab _ => ex_t ab hx⟩
theorem ei_rng1 {ta : TA} {j : Int} (h : EvA ta σ H [.int j]) (h0 : 0 ≤ j) (h1 : j ≤ 100000) : EvI (iRng1 ta) σ H j.toNat (YFn fun i => .int (0 + i)) := fun H1 e R k =>
  h H1 e _ fun H2 e2 => ⟨j, rfl, by omega, by omega, k _ _ H2 e2 walk_range fun _ _ _ => trivial⟩
theorem ei_rng2 {ta : TA} {i j : Int} (h : EvA ta σ H [.int i, .int j]) (h0 : -100000 ≤ i ∧ i ≤ 100000) (h1 : -100000 ≤ j ∧ j ≤ 100000) : EvI (iRng2 ta) σ H (j - i).toNat (YFn fun k => .int (i + k)) := fun H1 e R k =>
  h H1 e _ fun H2 e2 => ⟨i, j, rfl, ⟨by omega, by omega, by omega, by omega⟩, k _ _ H2 e2 walk_range fun _ _ _ => trivial⟩
theorem en_v {te : TE} {v : V} (h : Ev te σ H v) : EvN te σ H (fun u _ => u = v) := fun H1 e Q q => h H1 e Q fun H2 e2 => q v H2 e2 fun _ _ _ => rfl
theorem en_l {te : TE} {xs : List V} (h : EvL te σ H xs) : EvN te σ H (fun u H' => ∃ a, u = .ref a ∧ H' a = some (.lst xs)) := fun H1 e Q q => h H1 e Q fun p H2 hp e2 h2 => q _ H2 e2 fun H3 _ s => ⟨p, rfl, s _ _ hp h2⟩
theorem en_u {te : TE} {xs : List V} (h : ∀ H1, Ex H H1 → ∀ Q : VK, (∀ p H2, H1 p = none → Ex H1 H2 → H2 p = some (.tup xs) → Q (.ref p) H2) → te σ H1 Q) : EvN te σ H (fun u H' => ∃ a, u = .ref a ∧ H' a = some (.tup xs)) := fun H1 e Q q => h H1 e Q fun p H2 hp e2 h2 => q _ H2 e2 fun H3 _ s => ⟨p, rfl, s _ _ hp h2⟩
theorem en_nl {te : TE} {L : List V → Hp → Prop} (h : EvNL te σ H L) : EvN te σ H (fun u H' => ∃ a xs, u = .ref a ∧ H' a = some (.lst xs) ∧ L xs H') := fun H1 e Q q => h H1 e Q fun p xs H2 hp e2 h2 hL => q _ H2 e2 fun H3 e3 s => ⟨p, xs, rfl, s _ _ hp h2, hL H3 e3 fun a o _ ha hb => s a o ha hb⟩
/-- what the comprehension's list holds: what R tells, turn by turn -/
def Holds (R : Nat → V → Hp → Prop) (n : Nat) (xs : List V) (H : Hp) : Prop := xs.length = n ∧ ∀ i v, xs[i]? = some v → R i v H
theorem snoc_at {xs : List V} {v u : V} {i : Nat} (h : (xs ++ [v])[i]? = some u) : (i < xs.length ∧ xs[i]? = some u) ∨ (i = xs.length ∧ v = u) := by
  rcases Nat.lt_or_ge i xs.length with hi | hi
  · rw [List.getElem?_append_left hi] at h
    exact .inl ⟨hi, h⟩
  · rw [List.getElem?_append_right hi] at h
    have e : i - xs.length = 0 := by
      have := (List.getElem?_eq_some_iff.mp h).1
      simp at this
      omega
    rw [e] at h
    cases h
    exact .inr ⟨by omega, rfl⟩
theorem en_lc {wi : TI} {g : TG} {te : TE} {vs : List Nat} {n : Nat} {Y : Nat → Hp → V → Hp → Prop} {s : Nat → L2.St → L2.St} (hw : EvI wi σ H n Y) (aim : Aims g n Y s) (hs : ∀ i, wipe (s i (wipe σ vs)) vs = wipe σ vs) (hn : n ≤ 90000)
    (R : Nat → V → Hp → Prop) (he : ∀ i, i < n → EvN te (s i (wipe σ vs)) H (R i)) : EvNL (tLc wi g tYes te vs) σ H (Holds R n) := fun H1 e Q q =>
  hw H1 e _ fun J G H2 e2 w sG D hD => lc_it w (fun i H' => Ex H2 H' ∧ ∃ acc, H' D = some (.lst acc) ∧ acc.length = i ∧ ∀ k v, acc[k]? = some v → ∀ H3, Ex H H3 → (∀ a o, a ≠ D → H1 a = none → H' a = some o → H3 a = some o) → R k v H3)
    ⟨Ex.new hD, [], upd_same, rfl, fun i v h => by simp at h⟩ (fun i H' _ p => sG H' ((e.trans e2).trans p.1) fun a o _ ha => p.1 _ _ ha)
    (fun i x A B hi p y => by
      obtain ⟨p1, acc, p3, p4, p5⟩ := p
      obtain ⟨ab, k⟩ := aim i (wipe σ vs) A x B hi y
      refine k _ ⟨hs i, ?_⟩
      show te (s i (wipe σ vs)) B _
      have hHB : Ex H B := ((e.trans e2).trans p1).trans ab
      refine he i hi B hHB _ fun v C eC hv => ⟨acc, eC _ _ (ab _ _ p3), sz_lt (by omega), ?_, acc ++ [v], upd_same, by rw [List.length_append, p4] <;> rfl, fun k u hk H3 h3 keep => ?_⟩
      · exact ((p1.trans ab).trans eC).mut hD
      · have at4 : ∀ a o, a ≠ D → H1 a = none → C a = some o → H3 a = some o := fun a o hne hn hc => keep a o hne hn (by rw [upd_ne hne]; exact hc)
        rcases snoc_at hk with ⟨hlt, hk⟩ | ⟨rfl, rfl⟩
        · exact p5 k u hk H3 h3 fun a o hne hn ha => at4 a o hne hn (eC _ _ (ab _ _ ha))
        · rw [p4]
          refine hv H3 h3 fun a o hb hc => at4 a o (fun z => ?_) (fresh_back ((e2.trans p1).trans ab) hb) hc
          rw [z, ab _ _ p3] at hb
          cases hb)
    (fun H' p => by
      obtain ⟨p1, acc, p3, p4, p5⟩ := p
      exact q D acc H' (fresh_back e2 hD) (e2.trans p1) p3 fun H3 h3 keep => ⟨p4, fun i v hv => p5 i v hv H3 h3 keep⟩)
/-- two walks, one in another: what the list holds is told by the row of b's -/
def Row2 {β : Type} (Rb : β → V → Hp → Prop) (bs : List β) (xs : List V) (H : Hp) : Prop := xs.length = bs.length ∧ ∀ (k : Nat) (b : β) (v : V), bs[k]? = some b → xs[k]? = some v → Rb b v H
def els {β : Type} (m : Nat → Nat) (f : Nat → Nat → Bool) (b : Nat → Nat → β) (i : Nat) : List β := ((List.range (m i)).filter (f i)).map (b i)
def rows {β : Type} (m : Nat → Nat) (f : Nat → Nat → Bool) (b : Nat → Nat → β) (n : Nat) : List β := (List.range n).flatMap (els m f b)
theorem rows_succ {β : Type} {m : Nat → Nat} {f : Nat → Nat → Bool} {b : Nat → Nat → β} {n : Nat} : rows m f b (n + 1) = rows m f b n ++ els m f b n := by
  unfold rows
  rw [List.range_succ, List.flatMap_append]
  simp
def part {β : Type} (f : Nat → Bool) (b : Nat → β) (j : Nat) : List β := ((List.range j).filter f).map b
theorem part_succ {β : Type} {f : Nat → Bool} {b : Nat → β} {j : Nat} : part f b (j + 1) = part f b j ++ (if f j = true then [b j] else []) := by
  unfold part
  rw [List.range_succ, List.filter_append, List.map_append]
  congr 1
  cases h : f j <;> simp [h]
theorem part_le {β : Type} {f : Nat → Bool} {b : Nat → β} {j k : Nat} (h : j ≤ k) : (part f b j).length ≤ (part f b k).length := by
  induction k with
  | zero => rw [Nat.le_zero.mp h] <;> exact Nat.le_refl _
  | succ k ih =>
    rcases Nat.lt_or_ge k j with h2 | h2
    · rw [show j = k + 1 by omega] <;> exact Nat.le_refl _
    · rw [part_succ, List.length_append]
      exact Nat.le_trans (ih h2) (Nat.le_add_right _ _)
theorem rows_le {β : Type} {m : Nat → Nat} {f : Nat → Nat → Bool} {b : Nat → Nat → β} {j k : Nat} (h : j ≤ k) : (rows m f b j).length ≤ (rows m f b k).length := by
  induction k with
  | zero => rw [Nat.le_zero.mp h] <;> exact Nat.le_refl _
  | succ k ih =>
    rcases Nat.lt_or_ge k j with h2 | h2
    · rw [show j = k + 1 by omega] <;> exact Nat.le_refl _
    · rw [rows_succ, List.length_append]
      exact Nat.le_trans (ih h2) (Nat.le_add_right _ _)
theorem en_lc2 {β : Type} {wi wi1 : TI} {g g1 : TG} {tt1 : TT} {te : TE} {vs vs1 : List Nat} {n : Nat} {m : Nat → Nat} {Y : Nat → Hp → V → Hp → Prop} {Y1 : Nat → Nat → Hp → V → Hp → Prop} {s : Nat → L2.St → L2.St} {s1 : Nat → Nat → L2.St → L2.St}
    (hw : EvI wi σ H n Y) (aim : Aims g n Y s) (hs : ∀ i, wipe (s i (wipe σ vs)) vs = wipe σ vs)
    (hw1 : ∀ i, i < n → EvI wi1 (s i (wipe σ vs)) H (m i) (Y1 i)) (aim1 : ∀ i, Aims g1 (m i) (Y1 i) (s1 i)) (hs1 : ∀ i j, wipe (s1 i j (wipe (s i (wipe σ vs)) vs1)) vs1 = wipe (s i (wipe σ vs)) vs1)
    (f : Nat → Nat → Bool) (b : Nat → Nat → β) (Rb : β → V → Hp → Prop) (ht : ∀ i j, i < n → j < m i → EvT tt1 (s1 i j (wipe (s i (wipe σ vs)) vs1)) H (f i j))
    (he : ∀ i j, i < n → j < m i → f i j = true → EvN te (s1 i j (wipe (s i (wipe σ vs)) vs1)) H (Rb (b i j))) (hz : (rows m f b n).length ≤ 90000) :
    EvNL (tLc2 wi g tYes wi1 g1 tt1 te vs vs1) σ H (Row2 Rb (rows m f b n)) := fun H1 e Q q => by
  refine hw H1 e _ fun J G H2 e2 w sG D hD => ?_
  -- what stands while ds are made
  let St : List β → Hp → Prop := fun ds H' => Ex H2 H' ∧ ∃ acc, H' D = some (.lst acc) ∧ acc.length = ds.length ∧ ∀ (k : Nat) (d : β) (v : V), ds[k]? = some d → acc[k]? = some v → ∀ H3, Ex H H3 → (∀ a o, a ≠ D → H1 a = none → H' a = some o → H3 a = some o) → Rb d v H3
  have grow : ∀ {ds : List β} {A B : Hp}, St ds A → Ex A B → St ds B := fun {ds A B} p ab => by
    obtain ⟨p1, acc, p3, p4, p5⟩ := p
    exact ⟨p1.trans ab, acc, ab _ _ p3, p4, fun k d v h1 h2 H3 h3 keep => p5 k d v h1 h2 H3 h3 fun a o hne hn ha => keep a o hne hn (ab _ _ ha)⟩
  refine ⟨fun i k H' => k = n - i ∧ i ≤ n ∧ St (rows m f b i) H', ⟨n, by simp, Nat.zero_le _, Ex.new hD, [], upd_same, rfl, fun k d v h => by simp [rows] at h⟩, ?_⟩
  rintro i k A ⟨rfl, hin, p⟩
  have gA : G A := sG A ((e.trans e2).trans p.1) fun a o _ ha => p.1 _ _ ha
  by_cases hi : i < n
  · refine .inr ⟨w.goes i A hi gA, St (rows m f b (i + 1)), fun H' p' => ⟨n - (i + 1), by omega, rfl, hi, p'⟩, fun x B yl => ?_⟩
    have y := w.yields i A x B hi gA yl
    obtain ⟨ab, k⟩ := aim i (wipe σ vs) A x B hi y
    refine k _ ⟨hs i, ?_⟩
    have pB := grow p ab
    refine hw1 i hi B (((e.trans e2).trans p.1).trans ab) _ fun J1 G1 C bC w1 sG1 => ?_
    refine ⟨fun j k H' => k = m i - j ∧ j ≤ m i ∧ St (rows m f b i ++ part (f i) (b i) j) H' ∧ Since B C H', ⟨m i, by simp, Nat.zero_le _, ?_, fun _ _ _ h => h⟩, ?_⟩
    · simpa [part] using grow pB bC
    · rintro j k H' ⟨rfl, hj, pj, sj⟩
      have gj : G1 H' := sG1 H' ((e.trans e2).trans pj.1) sj
      by_cases hlt : j < m i
      · refine .inr ⟨w1.goes j H' hlt gj, fun H4 => St (rows m f b i ++ part (f i) (b i) (j + 1)) H4 ∧ Since B C H4, fun H4 p4 => ⟨m i - (j + 1), by omega, rfl, hlt, p4⟩, fun x1 B1 y1 => ?_⟩
        obtain ⟨ab1, k1⟩ := aim1 i j (wipe (s i (wipe σ vs)) vs1) H' x1 B1 hlt (w1.yields j H' x1 B1 hlt gj y1)
        refine k1 _ ⟨hs1 i j, ?_⟩
        have pB1 := grow pj ab1
        refine ht i j hi hlt B1 ((e.trans e2).trans pB1.1) _ fun H6 e6 => ?_
        have p6 := grow pB1 e6
        have s6 : Since B C H6 := fun a o ha hc => e6 _ _ (ab1 _ _ (sj a o ha hc))
        rw [part_succ]
        cases hf : f i j with
        | false =>
          show St _ H6 ∧ Since B C H6
          rw [if_neg (by decide), List.append_nil]
          exact ⟨p6, s6⟩
        | true =>
          refine he i j hi hlt hf H6 ((e.trans e2).trans p6.1) _ fun v C6 eC hv => ?_
          obtain ⟨q1, acc, q3, q4, q5⟩ := p6
          have small : acc.length < 90000 := by
            rw [q4, List.length_append]
            have a1 : (rows m f b (i + 1)).length ≤ 90000 := Nat.le_trans (rows_le hi) hz
            rw [rows_succ, List.length_append] at a1
            have a2 : (part (f i) (b i) (j + 1)).length ≤ (els m f b i).length := part_le (f := f i) (b := b i) (show j + 1 ≤ m i from hlt)
            rw [part_succ, hf, List.length_append] at a2
            simp at a2
            omega
          refine ⟨acc, eC _ _ q3, sz_lt (by omega), ⟨(q1.trans eC).mut hD, acc ++ [v], upd_same, ?_, ?_⟩, ?_⟩
          · rw [if_pos rfl, ← List.append_assoc, List.length_append, List.length_append, q4, List.length_append]
            rfl
          · intro k d u hd hu H3 h3 keep
            have at4 : ∀ a o, a ≠ D → H1 a = none → C6 a = some o → H3 a = some o := fun a o hne hn hc => keep a o hne hn (by rw [upd_ne hne]; exact hc)
            rw [if_pos rfl, ← List.append_assoc] at hd
            rcases snoc_at hu with ⟨hlt2, hu2⟩ | ⟨rfl, rfl⟩
            · rw [q4] at hlt2
              rw [List.getElem?_append_left hlt2] at hd
              exact q5 k d u hd hu2 H3 h3 fun a o hne hn ha => at4 a o hne hn (eC _ _ ha)
            · rw [q4, List.getElem?_append_right (Nat.le_refl _), Nat.sub_self] at hd
              cases hd
              refine hv H3 h3 fun a o hb hc => at4 a o (fun z => ?_) (fresh_back (e2.trans q1) hb) hc
              rw [z, q3] at hb
              cases hb
          · intro a o ha hc
            rw [upd_ne (fun z => ?_)]
            · exact eC _ _ (s6 a o ha hc)
            · obtain ⟨acc0, r3, _⟩ := pB.2
              rw [z, r3] at ha
              cases ha
      · have ej : j = m i := by omega
        subst ej
        refine .inl ⟨w1.stops H' gj, ?_⟩
        show St (rows m f b (i + 1)) H'
        rw [rows_succ]
        exact pj
  · have ei : i = n := by omega
    subst ei
    refine .inl ⟨w.stops A gA, ?_⟩
    obtain ⟨p1, acc, p3, p4, p5⟩ := p
    exact q D acc A (fresh_back e2 hD) (e2.trans p1) p3 fun H3 h3 keep => ⟨p4, fun k d v h1 h2 => p5 k d v h1 h2 H3 h3 keep⟩
/-- the dict of the first keys, each with True -/
def dOf (kf : Nat → Int) : Nat → List (L2.Key × V)
  | 0 => []
  | i + 1 => putK (dOf kf i) (.inl (kf i)) (.bl true)
theorem dOf_len (kf : Nat → Int) : ∀ n, (dOf kf n).length ≤ n
  | 0 => Nat.le_refl _
  | n + 1 => Nat.le_trans (length_putK _ _ _) (Nat.succ_le_succ (dOf_len kf n))
theorem dOf_at (kf : Nat → Int) (x : Int) : ∀ n, (valV (dOf kf n) (.inl x)).isSome = true ↔ ∃ i, i < n ∧ kf i = x
  | 0 => ⟨fun h => (by cases h), fun ⟨i, h, _⟩ => absurd h (Nat.not_lt_zero i)⟩
  | n + 1 => by
    show (valV (putK (dOf kf n) (.inl (kf n)) (.bl true)) (.inl x)).isSome = true ↔ _
    rw [valV_put]
    by_cases e : (Sum.inl x : L2.Key) = .inl (kf n)
    · rw [if_pos e]
      exact ⟨fun _ => ⟨n, Nat.lt_succ_self n, (Sum.inl.inj e).symm⟩, fun _ => rfl⟩
    · rw [if_neg e, dOf_at kf x n]
      constructor
      · rintro ⟨i, h1, h2⟩
        exact ⟨i, Nat.lt_succ_of_lt h1, h2⟩
      · rintro ⟨i, h1, h2⟩
        refine ⟨i, Nat.lt_of_le_of_ne (Nat.le_of_lt_succ h1) fun z => ?_, h2⟩
        rw [z] at h2
        exact e (by rw [h2])
theorem en_dc {wi : TI} {g : TG} {tk tv : TE} {vs : List Nat} {n : Nat} {Y : Nat → Hp → V → Hp → Prop} {s : Nat → L2.St → L2.St} {kf : Nat → Int} (hw : EvI wi σ H n Y) (aim : Aims g n Y s) (hs : ∀ i, wipe (s i (wipe σ vs)) vs = wipe σ vs) (hn : n ≤ 90000)
    (hk : ∀ i, i < n → Ev tk (s i (wipe σ vs)) H (.int (kf i))) (hv : ∀ i, i < n → Ev tv (s i (wipe σ vs)) H (.bl true)) : EvN (tDc wi g tYes tk tv vs) σ H (fun u H' => ∃ d, u = .ref d ∧ H' d = some (.dK (dOf kf n))) := fun H1 e Q q =>
  hw H1 e _ fun J G H2 e2 w sG D hD => by
    refine ⟨fun i m H' => m = n - i ∧ i ≤ n ∧ Ex H2 H' ∧ H' D = some (.dK (dOf kf i)), ⟨n, by simp, Nat.zero_le _, Ex.new hD, upd_same⟩, ?_⟩
    rintro i m A ⟨rfl, hin, p1, p2⟩
    have gA : G A := sG A ((e.trans e2).trans p1) fun a o _ ha => p1 _ _ ha
    by_cases hi : i < n
    · refine .inr ⟨w.goes i A hi gA, fun H' => Ex H2 H' ∧ H' D = some (.dK (dOf kf (i + 1))), fun H' p' => ⟨n - (i + 1), by omega, rfl, hi, p'⟩, fun x B yl => ?_⟩
      obtain ⟨ab, k⟩ := aim i (wipe σ vs) A x B hi (w.yields i A x B hi gA yl)
      refine k _ ⟨hs i, ?_⟩
      refine hk i hi B (((e.trans e2).trans p1).trans ab) _ fun C eC => ?_
      refine hv i hi C ((((e.trans e2).trans p1).trans ab).trans eC) _ fun C2 eC2 => ?_
      have := dOf_len kf i
      exact ⟨dOf kf i, .inl (kf i), rfl, eC2 _ _ (eC _ _ (ab _ _ p2)), sz_lt (by omega), (((p1.trans ab).trans eC).trans eC2).mut hD, upd_same⟩
    · have ei : i = n := by omega
      subst ei
      refine .inl ⟨w.stops A gA, q _ A (e2.trans p1) fun H3 h3 keep => ⟨D, rfl, keep _ _ (fresh_back e2 hD) p2⟩⟩
theorem ev_din {ty td : TE} {d : Addr} {kvs : List (L2.Key × V)} {x : Int} (h1 : Ev ty σ H (.int x)) (h2 : Ev td σ H (.ref d)) (hd : H d = some (.dK kvs)) : Ev (tDIn ty td) σ H (.bl (valV kvs (.inl x)).isSome) := fun H1 e Q q =>
  h1 H1 e _ fun H2 e2 => h2 H2 (e.trans e2) _ fun H3 e3 => ⟨d, _, rfl, DGet.k (k := Sum.inl x) (((e.trans e2).trans e3) _ _ hd), q H3 (e2.trans e3)⟩
end
end Tl
end S_Yw
section S_Wa
namespace Hk
open PySem PySem.Spec PyProof.Rows L2
/-! ### a caught error that is kept behind its try -/
/-- at a stands an error of the class cls, whose own dict is d -/
def ErrAt (cls : Value) (d : Option Addr) (a : Addr) : HO := .ext fun h => ∃ (oe : Obj) (vs : Array Value), h.get? a = some oe ∧ Zc cls d oe ∧ oe.data = .fields vs
section
variable {X : Cx} {pins : List (Addr × Obj)} {σ : L2.St} {H : Hp} {s : Shared}
/-- what stands at a, new since the entry, is told of from now on -/
theorem told_at {a : Addr} {oe : Obj} {vs : Array Value} {cls : Value} {d : Option Addr} (I : Inv X pins σ H s) (at_ : s.heap.get? a = some oe) (z : Zc cls d oe) (hd : oe.data = .fields vs) (na : H a = none) (n0 : X.s_0.heap.get? a = none) (nL : a ≠ X.env.locals)
    (np : ∀ p ∈ X.pn ++ pins, p.1 ≠ a) : Inv X pins σ (upd H a (ErrAt cls d a)) s where
  ok := I.ok
  os := I.os
  bare := I.bare
  base :=
    { keep := I.base.keep, slot := I.base.slot, there := I.base.there
      free := fun b o e n x => by
        have hb : b ≠ a := fun q => by rw [q, n0] at e; cases e
        rw [upd_ne hb]; exact I.base.free b o e n x
      tups := fun b xs e => by
        have q := I.base.tups b xs e
        rw [upd_ne (ne_of_none q na)]; exact q
      frzs := fun b o xs e => by
        have q := I.base.frzs b o xs e
        rw [upd_ne (ne_of_none q na)]; exact q
      tbls := fun b ps e => by
        obtain ⟨m, q⟩ := I.base.tbls b ps e
        exact ⟨m, by rw [upd_ne (ne_of_none q na)]; exact q⟩ }
  loc := I.loc
  cell := I.cell
  free := by rw [upd_ne (Ne.symm nL)]; exact I.free
  freeC := fun x c e => by
    have hb : c ≠ a := fun q => by
      obtain ⟨v, o, ho, hc⟩ := I.cell x c e
      rw [q, at_] at ho
      cases ho
      rw [hd] at hc
      cases hc
    rw [upd_ne hb]; exact I.freeC x c e
  pin := fun p hp => by
    obtain ⟨h1, h2, h3⟩ := I.pin p hp
    exact ⟨h1, by rw [upd_ne (np p hp)]; exact h2, h3⟩
  hok := fun b u e => by
    by_cases hb : b = a
    · subst hb
      rw [upd_same] at e
      cases e
      exact ⟨⟨oe, vs, at_, z, hd⟩, ⟨oe, at_⟩, fun _ _ ⟨o, v, q, r⟩ k => ⟨o, v, k o q, r⟩⟩
    · rw [upd_ne hb] at e
      exact (I.hok b u e).stay (fun _ _ _ q => q) (fun c q => by rw [upd_ne (ne_of_none q na)]; exact q) fun c xs q => by rw [upd_ne (ne_of_none q na)]; exact q
  len := I.len
/-- the wish of the body of such a try: the clause takes every error of the body; the slot i is the clause's name's -/
def wKeep (K : PySem.W.Frag) (c : Value) (i : Nat) (ts : Addr → Value → Option Addr → TS) (D : Ends) : WX := fun cls d σ H =>
  PySem.W.exmOne K cls c = some true ∧ ∀ a, H a = none → ts a cls d { nx := fun σ' H' => H' a = none → D.nx (σ'.set i none) (upd H' a (ErrAt cls d a)), rt := fun _ _ => False, bk := fun _ _ => False, ct := fun _ _ => False } (σ.set i (some (.ref a))) H
theorem ps_keep {x n : Str} {c : Value} {i : Nat} {body suite : List Stmt} {b₀ : Stmt} {np pos pos' : Pos} {tb : WX → TS} {ts : Addr → Value → Option Addr → TS}
    (hst : X.stack = X.env :: X.outer) (hf : X.env.frame = some X.env.locals) (hex : X.ex = []) (nd : X.N.Nodup) (hi : X.N[i]? = some n) (kn : X.env.kindOf n = some .local) (hc : Names X x c)
    (hb : ∀ (W : WX) (pn : List (Addr × Obj)) (xe : Value → Shared → Prop), Takes (X.tr pn xe) W → PassesOwn (model X.prog X.w) X.A X.env xe → PSs (X.tr pn xe) body (tb W))
    (hsu : ∀ (a : Addr) (oe : Obj) (cls : Value) (d : Option Addr) (pn : List (Addr × Obj)), Zc cls d oe → (∃ vs, oe.data = .fields vs) → PSs (X.suite a ((a, oe) :: pn)) (b₀ :: suite) (ts a cls d)) :
    PS X (.Try body [.ExceptHandler (some (.Name x np)) (some n) (b₀ :: suite) pos'] [] [] pos) (fun D σ H => tb (wKeep X.K c i ts D) D σ H) := by
  constructor
  intro pins s σ H D I h
  have frs_ : X.A.frames = some (X.env :: X.outer) := by rw [I.ok.frames, hst]
  have ok := I.ok
  refine wpAny_Try_except (wpAny_mono ((hb (wKeep X.K c i ts D) (X.pn ++ pins) (fun e s₁ => wpAny (model X.prog X.w) X.A (noteFrame e X.env) (fun _ s₂ => wpAny (model X.prog X.w) X.A (setFlight e none) (fun _ s₃ =>
    wpAny (model X.prog X.w) X.A (handleBy e X.env [.ExceptHandler (some (.Name x np)) (some n) (b₀ :: suite) pos']) (SP X pins D) X.xe s₃) X.xe s₂) X.xe s₁) (fun u s' air => ?_) PassesOwn.looking).run [] s σ H D (I.toTry _) h) (fun f s1 hsp => ?_) fun _ _ z => z)
  · obtain ⟨a, B, sI, pins', σ', H', cls, d, rfl, J0, nb, up, sky, na, os, ag, hexm, hts⟩ := air
    have J : Inv X pins σ' H' sI := J0.ofTry ok
    have Ba : B.get? a = none := by
      rcases sky with q | q | q
      · exact q.2.1
      · exact q.2.1
      · exact q.2.1
    rw [hst] at sky
    show wpAny (model X.prog X.w) X.A (noteFrame (.ref a) X.env) _ _ _
    refine Sky.land Zc.steady frs_ hf sky fun h3 fl3 up3 => ?_
    have J3 : Inv X pins σ' H' { s' with heap := h3 } := J.landed nb fl3.1 (up.trans up3) os ag
    obtain ⟨o3, v3, at3, z3, d3⟩ := fl3.there
    have off : ∀ {hh : Heap} {o : Obj} {vs : Array Value}, hh.FunFrames B (X.env :: X.outer) → hh.get? a = some o → o.data = .fields vs → a ∉ frs (X.env :: X.outer) := by
      intro hh o vs ff e dd hm
      obtain ⟨_, o', e', q⟩ := ff.mem hm
      rw [e] at e'
      cases e'
      exact q _ dd
    have offa := off fl3.2.2.1 at3 d3
    have nL : a ≠ X.env.locals := fun q => offa (List.mem_filterMap.mpr ⟨X.env, List.mem_cons_self, by rw [hf, q]⟩)
    have nF : a ∉ X.fs := fun hm => by
      obtain ⟨e, he, q⟩ := List.mem_filterMap.mp hm
      exact offa (List.mem_filterMap.mpr ⟨e, List.mem_cons_of_mem _ he, q⟩)
    -- a is new: nothing of the state without it stands there
    have nI : sI.heap.get? a = none := by
      cases q : sI.heap.get? a with
      | none => rfl
      | some o =>
        have z := nb a o q (by rw [hst]; exact offa)
        rw [Ba] at z
        cases z
    have n0 : a ∉ X.ex → X.s_0.heap.get? a = none := fun nx => by
      cases q : X.s_0.heap.get? a with
      | none => rfl
      | some o =>
        obtain ⟨o', z⟩ := J.base.there a o q nx
        rw [nI] at z
        cases z
    have npin : ∀ p ∈ X.pn ++ pins, p.1 ≠ a := fun p hp q => by
      have z := (J.pin p hp).1
      rw [q, nI] at z
      cases z
    have S3 := J3.suite at3 d3 na nL nF
    refine wpAny_handleBy_cons (codeAny_handlers_test ?_) (fun q => nomatch q)
    have LT : PySem.W.Looks (model X.prog X.w) h3 (typeOf (.ref a)) cls := fun A Q E s k q => wpAny_typeOf_ref (k _ _ at3) (by rw [z3.1]; exact q)
    have LM := PySem.W.exm_one (M := model X.prog X.w) (J3.kIn) LT hexm
    have look : ∀ {Q : Value → Shared → Prop} {E : Value → Shared → Prop}, Q c { s' with heap := h3 } → wpAny (model X.prog X.w) (X.A.mark (some (.ref a))) (eval (.Name x np) X.env) Q E { s' with heap := h3 } := by
      intro Q E q
      rcases hc with ⟨hg, hdb, hm | ⟨hm, hv, hnn⟩⟩
      · exact ld_glob (X := X.suite a ((a, o3) :: (X.pn ++ pins))) S3 hg hm q hdb
      · exact ld_blt (X := X.suite a ((a, o3) :: (X.pn ++ pins))) S3 hg hm hv q hnn hdb
    refine look (LM.here (codeAny_handlers_suite_as (HandSPX.lands_againZ fl3 fun h4 fl4 up4 => ?_)))
    have J4 : Inv X pins σ' H' { s' with heap := h4 } := J.landed nb fl4.1 ((up.trans up3).trans up4) os ag
    obtain ⟨o4, v4, at4, z4, d4⟩ := fl4.there
    refine store_ok (X := X.suite a ((a, o4) :: (X.pn ++ pins))) (v := .ref a) (J4.suite at4 d4 na nL nF) nd hi (.inl kn) rfl (fun s5 S5 => ?_) (.inr kn)
    refine wpAny_mono ((hsu a o4 cls d (X.pn ++ pins) z4 ⟨_, d4⟩).run [] s5 _ H' _ S5 (hts a na)) (fun f s6 hsp => ?_) (fun _ _ z => False.elim z)
    cases f with
    | next =>
      obtain ⟨σ6, H6, S6, q6⟩ := hsp
      obtain ⟨at6, na6, _⟩ := S6.pin (a, o4) (List.mem_append_left _ List.mem_cons_self)
      have T6 := told_at (S6.unsuite ok) at6 z4 d4 na6 (n0 (by rw [hex]; exact fun z => nomatch z)) nL npin
      exact gone_ok T6 nd hi kn fun s7 J7 => ⟨_, _, J7, q6 na6⟩
    | brk => exact hsp.elim fun _ q => q.elim fun _ q => q.2.elim
    | cont => exact hsp.elim fun _ q => q.elim fun _ q => q.2.elim
    | ret u =>
      obtain ⟨_, _, _, _, _, q⟩ := hsp
      exact q.elim
  · cases f with
    | next =>
      obtain ⟨σ', H', J', q⟩ := hsp
      exact wpAny_execs_nil ⟨σ', H', J'.ofTry ok, q⟩
    | ret u =>
      obtain ⟨v, σ', H', J', r, q⟩ := hsp
      exact ⟨v, σ', H', J'.ofTry ok, r, q⟩
    | brk =>
      obtain ⟨σ', H', J', q⟩ := hsp
      exact ⟨σ', H', J'.ofTry ok, q⟩
    | cont =>
      obtain ⟨σ', H', J', q⟩ := hsp
      exact ⟨σ', H', J'.ofTry ok, q⟩
end
end Hk
end S_Wa
section S_Wb
namespace Hk
open PySem PySem.Spec PyProof.Rows L2
/-- what the written part must say of an own error's class at D, whose errors are asked about -/
structure ErrC (K : PySem.W.Frag) (D : Addr) : Prop where
  ga : PySem.W.findIn K (.ref D) "__getattribute__" = some (some (.builtin "BaseException.__getattribute__"))
  gg : PySem.W.findIn K (.ref D) "__getattr__" = some none
  ex : PySem.W.subIn K (.ref D) (.type "BaseException") = some true
  hd : PySem.W.hasDictIn K D = true
  ci : PySem.W.isClsIn K D = true
  ha : PySem.W.findIn K (.ref D) "__class__" = some (some (.builtin "object.__class__"))
  hn : PySem.W.specialIn K (.builtin "object.__class__") "__get__" = some (some (.builtin "getset_descriptor.__get__"))
  ht : PySem.W.takesIn K (.builtin "object.__class__") = some true
  hm : PySem.W.mroIn K D (.type "object") = some true
/-- the error's own dict, if it has one, is told of -/
def DictAt (H : Hp) (d : Option Addr) (fs : List (Str × V)) : Prop := ∃ dd, d = some dd ∧ H dd = some (.xd fs)
/-- isinstance(e, c) of a kept error -/
def rIsK (K : PySem.W.Frag) : List V → Hp → VK → Prop := fun xs H Q => ∃ (a D : Addr) (d : Option Addr) (fs : List (Str × V)) (c : V) (u : Value) (b : Bool), xs = [.ref a, c] ∧ H a = some (ErrAt (.ref D) d a) ∧ DictAt H d fs ∧ ErrC K D ∧ ClsV c u ∧ PySem.W.kitOne K (.ref D) u = some b ∧ Q (.bl b) H
section
variable {X : Cx} {pins : List (Addr × Obj)} {σ : L2.St} {H : Hp} {s : Shared}
theorem at_inst {a D : Addr} {d : Option Addr} {fs : List (Str × V)} (I : Inv X pins σ H s) (ha : H a = some (ErrAt (.ref D) d a)) (hd : DictAt H d fs) :
    ∃ (oe od : Obj) (mA : Str → Option Value), PySem.W.InstAt s.heap a oe D (some od) ∧ (∀ name, PySem.W.lookIn name od = some (mA name)) ∧ ∀ f, RelO (fs.lookup f) (mA f) := by
  obtain ⟨⟨oe, vs, he, hz, hv⟩, _, _⟩ := (show ObjOk X.prog X.w H s.heap a (ErrAt (.ref D) d a) from I.hok a _ ha)
  obtain ⟨dd, rfl, hdd⟩ := hd
  obtain ⟨mA, hns, hr⟩ := (show ObjOk X.prog X.w H s.heap dd (.xd fs) from I.hok dd _ hdd)
  obtain ⟨od, ho, hl⟩ := lookIn_ns hns
  exact ⟨oe, od, mA, ⟨he, hz.1, by unfold PySem.W.notCls; rw [hv] <;> rfl, by rw [hz.2]; exact ho⟩, hl, hr⟩
theorem call_isKept : CallR X (.builtin "isinstance") (rIsK X.K) := by
  intro pins s σ H xs us Q I r h
  obtain ⟨a, D, d, fs, c, u, b, rfl, ha, hd, C, hc, e, q⟩ := h
  cases r with
  | cons rx rr =>
    cases rr with
    | cons rt rr =>
      cases rr
      cases rx
      have ec := hc.eq rt
      subst ec
      obtain ⟨oe, od, mA, J, _, _⟩ := at_inst I ha hd
      exact PySem.W.kia_one (PySem.W.kitx_exc C.ci C.ga C.gg C.ex C.ha C.hn C.ht C.hm) I.kIn J e (fun z => nomatch z) fun tk => ⟨.bl b, H, I.kept (t' := tk) fun _ _ z => z, rfl, q⟩
/-- of either -/
theorem call_isAny : CallR X (.builtin "isinstance") (fun xs H Q => rIsi X.K xs H Q ∨ rIsK X.K xs H Q) := by
  intro pins s σ H xs us Q I r h
  rcases h with h | h
  · exact call_isi _ _ _ _ _ _ _ I r h
  · exact call_isKept _ _ _ _ _ _ _ I r h
/-- e.f, e a kept error -/
def tKeptF (K : PySem.W.Frag) (f : Str) (te : TE) : TE := fun σ H Q => te σ H fun x H1 => ∃ (a D : Addr) (d : Option Addr) (fs : List (Str × V)) (v : V), x = .ref a ∧ H1 a = some (ErrAt (.ref D) d a) ∧ DictAt H1 d fs ∧ ErrC K D ∧ PySem.W.findIn K (.ref D) f = some none ∧ fs.lookup f = some v ∧ Q v H1
theorem pe_keptF {e : Expr} {te : TE} {pos : Pos} {f : Str} (he : PE X e te) (hb : attributeBase e f X.env (eval e X.env) = eval e X.env := by rfl) : PE X (.Attribute e f pos) (tKeptF X.K f te) := by
  refine ⟨fun pins s σ H Q I h => attr_of hb (thn (he.run pins s σ H _ I h) fun u s1 hh => ?_)⟩
  obtain ⟨x, H1, I1, rx, a, D, d, fs, v, rfl, ha, hd, C, hno, hl, q⟩ := hh
  obtain rfl : u = Value.ref a := rx
  obtain ⟨oe, od, mA, J, look, rel⟩ := at_inst I1 ha hd
  obtain ⟨w, hw, rw_⟩ := RelO.some_of (v := v) (o := mA f) (by rw [← hl]; exact rel f)
  exact HandSPX.exc_get I1.kIn J C.ga C.gg C.ex (PySem.W.findObj_own C.hd hno rfl (by rw [look, hw])) (handed_of rw_) ⟨v, H1, I1.tok _, rw_, q⟩
end
end Hk
end S_Wb
section S_Wc
set_option maxHeartbeats 2000000
namespace PySem
namespace PartX
open PySem.W PySem.Calls PyProof.Rows PySem.HandSPX
/-! ### the text of __init__ -/
def iA (p1 p2 : Pos) : Arguments := { posonlyargs := [], args := [{ arg := "self", annotation := none, pos := p1 }, { arg := "part", annotation := none, pos := p2 }], vararg := none, kwonlyargs := [], kw_defaults := [], kwarg := none, defaults := [] }
def iB (q1 q2 q3 q4 : Pos) : List Stmt := [.Assign [.Attribute (.Name "self" q1) "part" q2] (.Name "part" q3) q4]
def iS : Scope := { kind := .function, names := [(PySem.Str.ofString "self", .local), (PySem.Str.ofString "part", .local)], isGenerator := false, isCoroutine := false, more := [] }
/-- what the written part says of Low, at C, and of its __init__, at fI -/
structure PartTxt (K : Frag) (mg : Str → Option Value) (nmE qI : Str) (C fI : Addr) : Prop where
  gC : mg nmE = some (.ref C)
  cls : ∃ nm q N bs bm sn sub ab col dd k0 k1 k2 k3 k5, K.lookup C = some (excClassObj nm q C N bs bm true sn sub ab col dd k0 k1 k2 k3 k5 "ValueError.__new__") ∧ refsVE bm = true
  sa : findIn K (.ref C) "__setattr__" = some (some (.builtin "object.__setattr__"))
  ga : findIn K (.ref C) "__getattribute__" = some (some (.builtin "BaseException.__getattribute__"))
  gg : findIn K (.ref C) "__getattr__" = some none
  noN : findIn K (.ref C) "part" = some none
  iC : findIn K (.ref C) "__init__" = some (some (.ref fI))
  tC : typeIn K (.ref fI) = some (.type "function")
  kC : keepIn K (.ref C) = true
  exC : subIn K (.ref C) (.type "BaseException") = some true
  tyC : typeIn K (.ref C) = some (.type "type")
  hdC : hasDictIn K C = true
  fn : ∃ (oc : Value) (od : Option Addr) (doc pm : Value) (an : Option Addr) (cdv ct : Value) (osl : Array (Option Value)) (p1 p2 q1 q2 q3 q4 : Pos),
    K.lookup fI = some ⟨oc, od, .func (fnOf "__init__" qI (iA p1 p2) (iB q1 q2 q3 q4) iS .none .none doc pm an cdv ct), osl⟩ ∧ codeIn K cdv qI = true
theorem one_size (v : Value) : [v].length ≤ sizeLine := by
  rw [sizeLine_eq]
  exact (by decide : 1 ≤ 16777216)
theorem kept_but {K : Frag} {h h' : Heap} {x : Addr} (X : K.In h) (hx : K.lookup x = none) (k : ∀ b o, b ≠ x → h.get? b = some o → h'.get? b = some o) : K.In h' := fun a o e =>
  k a o (fun z => by rw [z, hx] at e; cases e) (X a o e)
theorem ldC {M : Model} {s : Shared} {name : Str} {scope : Scope} {L a : Addr} {cd : Value} {m : Str → Option Value} {x : Str} {pos : Pos} {v : Value} {Q : Value → Shared → Prop} {A : Around} {E : Value → Shared → Prop} (hn : s.heap.Ns L m) (hv : m x = some v) (h : Q v s)
    (hk : scope.kind = .function := by rfl) (hl : (envOfC name scope L a cd).kindOf x = some .local := by rfl) (hd : (x == ("__debug__" : Str)) = false := by decide) :
    wpAny M A (eval (.Name x pos) (envOfC name scope L a cd)) Q E s := wpAny_Name (wpAny_loadName_local hk hl hn hv h) hd
/-- what __init__ leaves of a fresh exception at x -/
structure InitEnd (h h' : Heap) (x C dx t1 : Addr) (v : Value) : Prop where
  keep : ∀ b o, b ≠ x → h.get? b = some o → h'.get? b = some o
  obj : h'.get? x = some { cls := .ref C, dict := some dx, data := .fields #[.ref t1, .none, .none, .none, .bool false, .none] }
  dbig : h.objs.size ≤ dx
  dne : dx ≠ x
  ns : h'.Ns1 dx (fun y => if y = "part" then some v else none)
/-- a made Low -/
structure OwnMade (h h' : Heap) (e C d : Addr) (v : Value) : Prop where
  keep : ∀ b o, h.get? b = some o → h'.get? b = some o
  new : h.objs.size ≤ e
  obj : ∃ oe vs, h'.get? e = some oe ∧ oe.cls = .ref C ∧ oe.dict = some d ∧ oe.data = .fields vs ∧ vs[1]? = some .none
  dbig : h.objs.size ≤ d
  dne : d ≠ e
  ns : h'.Ns1 d (fun y => if y = "part" then some v else none)
section
variable {prog : Program} {w : World} {A : Around} {E : Value → Shared → Prop} {R : Result → Shared → Prop} {s : Shared} {K : Frag} {mg : Str → Option Value} {nmE qI : Str} {C fI : Addr}
theorem part_init (T : PartTxt K mg nmE qI C fI) {x t0 : Addr} {v : Value} (X : K.In s.heap) (hlim : s.heap.NoLimit) (hx : s.heap.get? x = some (excO C t0)) (hnx : K.lookup x = none) (hroom : A.depth < recursionLimit)
    (hq : ∀ h' tk dx, InitEnd s.heap h' x C dx t0 v → R (.ok (.ret .none)) { s with heap := h', toks := tk }) :
    codeAny (model prog w) A (.call (.ref fI) ⟨[.ref x, v], []⟩) R s := by
  obtain ⟨oc, od, doc, pm, an, cdv, ct, osl, p1, p2, q1, q2, q3, q4, ho, hcd⟩ := T.fn
  obtain ⟨nm, q, N, bs, bm, sn, sub, ab, col, dd, k0, k1, k2, k3, k5, hC, hbm⟩ := T.cls
  have hcl : clsIn K C = some { name := nm, bases := bs, mro := .ref C :: bm, ns := N, qualname := q, hasDict := true, slotNames := sn, subclasses := sub, abstract := ab, collection := col, hasDel := false } := by unfold clsIn; rw [hC] <;> rfl
  refine Att.call_fn (binds := [("self", .ref x), ("part", v)]) X hlim ho hcd hroom (BindsTo.of_eq (by first | rfl | with_unfolding_all rfl)) (by first | rfl | decide | with_unfolding_all rfl) (fun s₁ IC => ?_) rfl rfl rfl
  obtain ⟨h₁, tk₁, rfl⟩ := IC.toInCall.same
  have k : ∀ b o, s.heap.get? b = some o → h₁.get? b = some o := IC.toInCall.keep
  have hn := IC.toInCall.ns
  have hxL : s.heap.objs.size ≠ x := Nat.ne_of_gt (Heap.lt_size hx)
  have X₁ : K.In h₁ := X.keeps k
  have hx₁ := k _ _ hx
  -- self.by = by
  show wpAny _ _ (execs _ _) _ _ _
  refine wpAny_execs_cons (plainObj_wpAny_Assign_Attribute ?_)
  refine ldC (v := v) hn (by first | rfl | with_unfolding_all rfl | kernel_rfl) (ldC (v := .ref x) hn (by first | rfl | with_unfolding_all rfl | kernel_rfl) ?_)
  refine set_plain X₁ (ox := excO C t0) (od := none) ⟨hx₁, rfl, rfl, trivial⟩ T.sa ?_
  refine exc_osa X₁ hx₁ hcl (show refsVE (.ref C :: bm) = true from hbm) rfl T.noN (fun h₃ tk₃ dx k₃ dn dne hx₃ hn₃ => ?_)
  show wpAny _ _ (execs _ _) _ _ _
  have z : s.heap.objs.size < h₁.objs.size := hn.lt
  exact wpAny_execs_nil (hq h₃ tk₃ dx ⟨fun b o hb e => k₃ b o hb (k b o e), hx₃, Nat.le_of_lt (Nat.lt_of_lt_of_le z dn), dne, hn₃⟩)
theorem part_made (T : PartTxt K mg nmE qI C fI) {v : Value} (X : K.In s.heap) (hlim : s.heap.NoLimit) (hroom : A.depth + 1 < recursionLimit)
    (hq : ∀ h' tk e d, OwnMade s.heap h' e C d v → R (.ok (.ret (.ref e))) { s with heap := h', toks := tk }) :
    codeAny (model prog w) A (.call (.ref C) ⟨[v], []⟩) R s := by
  obtain ⟨nm, q, N, bs, bm, sn, sub, ab, col, dd, k0, k1, k2, k3, k5, hC, hbm⟩ := T.cls
  obtain ⟨hp, g, dr, tk, os⟩ := s
  have k : ∀ b o, hp.get? b = some o → ((hp.push (kdv_tup [v])).push (excO C hp.objs.size)).get? b = some o := fun b o e => Heap.get?_push_of_some _ (Heap.get?_push_of_some _ e)
  have hget : ((hp.push (kdv_tup [v])).push (excO C hp.objs.size)).get? (hp.objs.size + 1) = some (excO C hp.objs.size) := by heap_get
  have hnx : K.lookup (hp.objs.size + 1) = none := by
    cases e : K.lookup (hp.objs.size + 1) with
    | none => rfl
    | some o =>
      have z : hp.get? (hp.objs.size + 1) = some o := X _ _ e
      exact absurd (Nat.lt_of_succ_lt (Heap.lt_size z)) (Nat.lt_irrefl _)
  refine call_own F.excBase_ValueError (fun X => refsVE_contains X bm hbm) (X _ _ hC) (looks_findIn X T.iC) (fun self => bind_fn X self T.tC) (one_size v) ?_
  refine part_init (s := ⟨(hp.push (kdv_tup [v])).push (excO C hp.objs.size), g, dr, tk, os⟩) T (X.keeps k) (hlim.keeps k) hget hnx ?_ fun h' tk' dx ⟨k', hx, dn, dne, hns⟩ => ?_
  · show A.depth + 1 < recursionLimit
    exact hroom
  · have old : ∀ b o, hp.get? b = some o → h'.get? b = some o := fun b o e => k' b o (Nat.ne_of_lt (Nat.lt_succ_of_lt (Heap.lt_size e))) (k b o e)
    have z : hp.objs.size + 1 + 1 ≤ dx := by
      first
        | (simpa only [Heap.size_push] using dn)
        | exact dn
        | (have q := dn; rw [Heap.size_push, Heap.size_push] at q; exact q)
    exact ⟨rfl, hq h' tk' (hp.objs.size + 1) dx ⟨old, Nat.le_succ _, ⟨_, _, hx, rfl, rfl, rfl, rfl⟩, Nat.le_trans (Nat.le_trans (Nat.le_succ _) (Nat.le_succ _)) z, dne, hns⟩⟩
end
end PartX
end PySem
namespace L2
open PySem PySem.Spec PyProof.Rows
theorem relO_part {v : V} {v' : Value} (r : RelV v v') (f : Str) : RelO (List.lookup f [(("part" : Str), v)]) (if f = "part" then some v' else none) := by
  by_cases hw : f = "part"
  · subst hw
    rw [if_pos rfl]
    have q : List.lookup ("part" : Str) [(("part" : Str), v)] = some v := by simp [List.lookup]
    rw [q]
    exact r
  · rw [if_neg hw]
    have qw : (f == ("part" : Str)) = false := by simpa using hw
    have q2 : List.lookup f [(("part" : Str), v)] = none := by simp [List.lookup, qw]
    rw [q2]
    trivial
section
variable {X : Cx} {nmE qI : Str} {C fI : Addr}
/-- Low(e) -/
def tMkPart (C : Addr) (ta : TA) : St → Hp → XK → Prop := fun σ H Q => ta σ H fun vs H1 => ∃ v, vs = [v] ∧ ∀ d, H1 d = none → Q (.ref C) (some d) (upd H1 d (.xd [(("part" : Str), v)]))
theorem pmk_part {a : Expr} {ta : TA} {p pos : Pos} {k : Nat} (T : PySem.PartX.PartTxt X.K X.mg nmE qI C fI) (hr : Room k X.A) (ha : PA X [a] ta) (hg : Gl X nmE) (hdb : (nmE == ("__debug__" : Str)) = false := by decide)
    (he : starEach (a :: []) X.env = (false, eval a X.env) :: starEach [] X.env := by rfl) (hpl : (backTo pos (starEach [] X.env)).any (·.1) = false := by rfl) :
    PMk X (.Call (.Name nmE p) [a] [] pos) (tMkPart C ta) := by
  intro pins s σ H Q I h
  refine wpAny_Call_Name_kw (ld_glob I hg T.gC ?_ hdb)
  refine PySem.W.callWith_K (h₀ := X.base) I.ok.mod.kin T.kC (thn (ha.run pos pins s σ H _ I h) fun us s1 hh => ?_) he hpl
  obtain ⟨vs, H1, I1, r1, v, ev, q1⟩ := hh
  subst ev
  refine ⟨I1.kIn, ?_⟩
  cases r1 with
  | cons rv rn =>
    rename_i v' us'
    cases rn
    show wpAny _ _ (call (.ref C) [v']) _ _ _
    have hlim := I1.nolimit
    obtain ⟨hp, g, dr, tk, os⟩ := s1
    refine wpAny_call (PySem.PartX.part_made T I1.kIn hlim (by have := hr.dp; omega) fun h' tk' e d M => ?_)
    show MkP X pins σ Q (.ref e) ⟨h', g, dr, tk', os⟩
    obtain ⟨oe, fv, hoe, hc, hd, hdat, h1⟩ := M.obj
    have hns := M.ns
    obtain ⟨G', g1, g2⟩ := restrict h' fun b => decide (b ≠ e)
    have gk : ∀ b, b ≠ e → G'.get? b = h'.get? b := fun b hb => g1 b (decide_eq_true hb)
    have ge : G'.get? e = none := g2 e (by simp)
    have old : ∀ b o, hp.get? b = some o → G'.get? b = some o := fun b o q => (gk b (Nat.ne_of_lt (Nat.lt_of_lt_of_le (Heap.lt_size q) M.new))).trans (M.keep b o q)
    have ob : ObjOk X.prog X.w (upd H1 d (.xd [(("part" : Str), v)])) G' d (.xd [(("part" : Str), v)]) :=
      ⟨_, hns.at (fun o q => (gk d M.dne).trans q), fun f => relO_part rv f⟩
    have J : Inv X pins σ (upd H1 d (.xd [(("part" : Str), v)])) ⟨G', g, dr, tk', os⟩ := I1.laid (t' := tk') old M.dbig ob
    refine ⟨e, oe, fv, ⟨G', g, dr, tk', os⟩, _, .ref C, some d, rfl, J, fun b o q => ?_, ge, hoe, ⟨hc, hd⟩, hdat, h1, ?_, rfl, I1.bare, raises_own T.exC T.tyC, q1 d (I1.hok.fresh M.dbig)⟩
    · by_cases hb : b = e
      · have q' : G'.get? b = some o := q
        rw [hb, ge] at q'; cases q'
      · exact (gk b hb).symm.trans q
    · rw [upd_ne (Ne.symm M.dne)]
      exact I1.hok.fresh M.new
/-- raise Low(e) -/
def tRaisePart (C : Addr) (W : WX) (ta : TA) : TS := fun _ σ H => tMkPart C ta σ H fun cls d H' => W cls d σ H'
theorem ps_raisePart {a : Expr} {ta : TA} {W : WX} {p pos pos2 : Pos} {k : Nat} (hc : X.calm = true) (T : PySem.PartX.PartTxt X.K X.mg nmE qI C fI) (hr : Room k X.A) (tk : Takes X W) (ha : PA X [a] ta) (hg : Gl X nmE) (hdb : (nmE == ("__debug__" : Str)) = false := by decide)
    (he : starEach (a :: []) X.env = (false, eval a X.env) :: starEach [] X.env := by rfl) (hpl : (backTo pos (starEach [] X.env)).any (·.1) = false := by rfl) :
    PS X (.Raise (some (.Call (.Name nmE p) [a] [] pos)) none pos2) (tRaisePart C W ta) := ps_raise hc tk (pmk_part T hr ha hg hdb he hpl)

end
end L2
end S_Wc
section S_Wd
namespace Hk
open PySem PySem.Spec PyProof.Rows L2 LamX
theorem takes_len {X : Cx} {W : WX} (tk : L2.Takes X W) : L2.Takes X (fun cls d σ H => σ.length = X.N.length → W cls d σ H) := fun u s' ⟨a, B, sI, pins, σ, H, cls, d, e, I, nb, up, sky, na, os, ag, w⟩ =>
  tk u s' ⟨a, B, sI, pins, σ, H, cls, d, e, I, nb, up, sky, na, os, ag, w I.len⟩
abbrev nAsk : List Str := ["ask", "caught", "error"]
/-- caught = None / try: ask() / except E as error: caught = error / return ret -/
def THeard (K : PySem.W.Frag) (CS : Addr) (tr : TE) : (XK → Hp → VK → Prop) → Hp → VK → Prop := fun tl H Q => ∀ f : Addr,
  tl (fun cls d H' => PySem.W.exmOne K cls (.ref CS) = some true ∧ ∀ a, H' a = none → ∀ σ' : L2.St, σ'.length = 3 → σ'[1]? = some (some (.ref a)) → tr σ' (upd H' a (ErrAt cls d a)) Q) H
    fun _ H' => tr [some (.ref f), some .non, none] H' Q
abbrev cxA (X : Cx) (x : Str) (sg : Scope) (g : Addr) (cdg : Value) (A : Around) (s : Shared) (H : Hp) : Cx := (cxOf C8.CX0 X.prog X.w X.K X.mg X.base nAsk x sg g cdg A X.stack s H C8.E0).nox
theorem heard_gives {X : Cx} {x e q : Str} {sg : Scope} {g CS : Addr} {cdg : Value} {j : Nat} {rt : Expr} {tr : TE} {p1 p2 p3 p4 p5 p6 p7 p8 p9 r1 r2 r3 r4 : Pos} (Sg : FnScope nAsk ["ask"] sg) (k1 : sg.names.lookup ("caught" : Str) = some NameKind.local) (k2 : sg.names.lookup ("error" : Str) = some NameKind.local)
    (hge : sg.names.lookup e = some .globalImplicit) (hme : X.mg e = some (.ref CS)) (hde : (e == ("__debug__" : Str)) = false)
    (hrt : ∀ (A : Around) (s : Shared) (H : Hp), PE (cxA X x sg g cdg A s H) rt tr) :
    GivesTo X nAsk x sg g cdg [.Assign [.Name "caught" p1] (.Constant .none j p2) p3, .Try [.Expr (.Call (.Name "ask" r1) [] [] r2) r3] [.ExceptHandler (some (.Name e p4)) (some "error") [.Assign [.Name "caught" p5] (.Name "error" p6) p7] p8] [] [] p9, .Return (some rt) r4] "ask" q (THeard X.K CS tr) := by
  intro f c' s H Q tl act hc h
  have gE : Gl (cxA X x sg g cdg X.A s H) e := hge
  have l1 : ∀ {Y : Cx}, Y.env.scope = sg → (Y.fn "caught" = true ∨ Y.env.scope.names.lookup ("caught" : Str) = some NameKind.local) := fun e => .inr (by rw [e]; exact k1)
  refine ⟨_, pss_cons (ps_set (X := cxA X x sg g cdg X.A s H) (i := 1) Sg.nd rfl (Or.inl k1) pe_non rfl (l1 rfl)) (pss_cons (ps_keep (X := cxA X x sg g cdg X.A s H) (i := 2) (c := .ref CS) (ts := fun _ _ _ => tAsg (tVar 2) (gName 1))
      (tb := fun W D σ H => ∃ Ech : XK, (∀ cls d σ' H', Ech cls d H' → σ'.length = 3 → W cls d σ' H') ∧ σ[0]? = some (some (.ref f)) ∧ H c' = some (CodeO c' q) ∧ tl Ech H (fun _ H' => D.nx σ H'))
      rfl rfl rfl Sg.nd rfl k2 ⟨gE, hde, Or.inl hme⟩ (fun W pn xe tk _ => ?_) (fun a oe cls d pn _ _ => pss_one (ps_set (i := 1) Sg.nd rfl (Or.inl k1) (pe_var (i := 2) rfl (Or.inl k2)) rfl (l1 rfl)))) (pss_one (ps_ret (hrt X.A s H)))), ?_⟩
  · refine ⟨fun pins s' σ H' D I h' => ?_⟩
    obtain ⟨Ech, hW, h1, h2, h3⟩ := h'
    have hp := act (fun cls d σ H => σ.length = nAsk.length → W cls d σ H) pn xe Ech r1 r2 (takes_len tk) hW
    exact (pss_one (ps_expr (pos := r3) hp)).run pins s' σ H' D I ⟨h1, h2, h3⟩
  · have h' : tl (fun cls d H' => PySem.W.exmOne X.K cls (.ref CS) = some true ∧ ∀ a, H' a = none → ∀ σ' : L2.St, σ'.length = 3 → σ'[1]? = some (some (.ref a)) → tr σ' (upd H' a (ErrAt cls d a)) Q) H (fun _ H' => tr [some (V.ref f), some .non, none] H' Q) := h f
    refine ⟨fun cls d H' => PySem.W.exmOne X.K cls (.ref CS) = some true ∧ ∀ a, H' a = none → ∀ σ' : L2.St, σ'.length = 3 → σ'[1]? = some (some (.ref a)) → tr σ' (upd H' a (ErrAt cls d a)) Q, ?_, rfl, hc, h'⟩
    intro cls d σ' H' hh hl
    obtain ⟨he, hk⟩ := hh
    refine ⟨he, fun a na => ?_⟩
    exact ⟨.ref a, by rw [List.getElem?_set_self (by omega)] <;> rfl, fun na' => hk a na' _ (by simp [hl]) (by rw [List.getElem?_set_ne (by decide), List.getElem?_set_self (by simp [hl])] <;> rfl)⟩
end Hk
end S_Wd
section S_We
namespace Hk
open PySem PySem.Spec PyProof.Rows L2 LamX Tl
/-- the law's own call where no repr is under way, its code object's table tracked -/
theorem law_gT {P : Program} {w : World} {K : PySem.W.Frag} {mg mb : Str → Option Value} {k : Nat} {fa a c T : Addr} {fd : FuncData} {x : Str} {sp : Sp} {s₁ : Shared} {vs : List Value} {ns : List Int}
    (kin : K.In s₁.heap) (hns : s₁.heap.Ns mainGlobals mg) (hb : s₁.heap.Ns builtinsNs mb) (hbb : ∀ x : Str, x ≠ "__name__" → mb x = bootBuiltins x) (hlim : s₁.heap.NoLimit) (hg : s₁.gens = #[])
    (hT : s₁.heap.get? T = some { cls := .none, data := .fields #[] }) (nT : K.lookup T = none) (hC : PySem.W.CodeHd s₁.heap c T)
    (hbm : ∃ (bm : Addr) (ob : Obj), mg "__builtins__" = some (.ref bm) ∧ bm ≠ builtinsNs ∧ s₁.heap.get? bm = some ob ∧ ob.cls = .type "module" ∧ ob.dict = some builtinsNs ∧ ob.data = .plain)
    (ha : s₁.heap.get? a = some { cls := .type "list", data := .seq vs.toArray }) (hi : IntsAre vs ns) (hl : ns.length ≤ sizeLine) (hr : Room k callerA)
    (F : ∀ base : Heap, K.In base → base.Ns mainGlobals mg → TabB base mg c T → FnG P w K mg base k fa fd [x] sp) (hbind : ∀ (s : Shared) (u : Value), BindsTo s fd ⟨[u], []⟩ [(x, u)])
    (hsp : ∀ H : Hp, H T = some (.tbl #[]) → SqL K H a (ns.map V.int) → sp [.ref a] H (fun v _ => v = .bl true) fun _ _ _ => False) :
    codeAny (model P w) callerA (.call (.ref fa) ⟨[.ref a], []⟩) (fun r s' => r = .ok (.ret (.bool true)) ∧ OldK s₁.heap s'.heap ∧ s'.os = s₁.os ∧ AllBare s'.gens) s₁ := by
  have rv := vals_ints hi
  have aT : a ≠ T := fun z => by
    rw [z, hT] at ha
    have z' : Data.fields #[] = Data.seq vs.toArray _ := congrArg Obj.data (Option.some.inj ha)
    cases z'
  have run : ∀ H : Hp, H T = some (.tbl #[]) → SqL K H a (ns.map V.int) → HOk P w H s₁.heap → (∀ b u, H b = some u → b = T ∨ (b = a ∧ K.lookup a = none ∧ ∃ o xs, u = .frz o (.lst xs))) →
      codeAny (model P w) callerA (.call (.ref fa) ⟨[.ref a], []⟩) (fun r s' => r = .ok (.ret (.bool true)) ∧ OldK s₁.heap s'.heap ∧ s'.os = s₁.os ∧ AllBare s'.gens) s₁ := by
    intro H hHT hS hok hA
    have keepB : ∀ {b : Addr} {o : Obj}, s₁.heap.get? b = some o → (∀ vs n, o.data ≠ .seq vs n) → o.data ≠ .fields #[] → (hidT s₁.heap H).get? b = some o := fun {b o} e h1 h2 => by
      refine hidT_get e ?_
      cases q : H b with
      | none => rfl
      | some u =>
        rcases hA b u q with e1 | ⟨e1, _⟩
        · rw [e1, hT] at e
          cases e
          exact absurd rfl h2
        · rw [e1, ha] at e
          cases e
          exact absurd rfl (h1 _ _)
    have ns_of : ∀ {b : Addr} {m : Str → Option Value}, s₁.heap.Ns b m → (hidT s₁.heap H).Ns b m := fun {b m} hm => by
      obtain ⟨o, es, ep, e, d, r⟩ := hm
      exact ⟨o, es, ep, keepB e (fun vs n z => by rw [d] at z; cases z) (fun z => by rw [d] at z; cases z), d, r⟩
    have kb : K.In (hidT s₁.heap H) := fun b o e => hidT_get (kin b o e) (by
      cases q : H b with
      | none => rfl
      | some u =>
        rcases hA b u q with e1 | ⟨e1, e2, _⟩
        · rw [e1, nT] at e
          cases e
        · rw [e1, e2] at e
          cases e)
    have hM : Mod K mg (hidT s₁.heap H) := ⟨kb, ns_of hns, ⟨mb, ns_of hb, hbb⟩, hlim.elim fun mc h => ⟨mc, ns_of h.1, h.2⟩⟩
    have e0 : Env0 P w K mg (hidT s₁.heap H) callerA [] s₁ H := ⟨rfl, hM, fun _ _ e => of_hidT e, by rw [hidT_size] <;> exact Nat.le_refl _, trivial, fun _ hb => (nomatch hb), hok, .of_eq hg⟩
    have TB : TabB (hidT s₁.heap H) mg c T := by
      refine ⟨?_, ?_, fun z => ?_⟩
      · obtain ⟨o, us, file, tf, flags, tg, inF, text, tt, e1, r1, r2, r3, r4⟩ := hC
        exact ⟨o, us, file, tf, flags, tg, inF, text, tt, keepB e1 (fun vs n z => by rw [r2] at z; cases z) (fun z => by rw [r2] at z; cases z; simp at r3), r1, r2, r3, r4⟩
      · obtain ⟨bm, ob, b1, b2, b3, b4, b5, b6⟩ := hbm
        refine ⟨bm, ob, b1, b2, fun q => ?_, fun q => ?_, keepB b3 (fun vs n z => by rw [b6] at z; cases z) (fun z => by rw [b6] at z; cases z), b4, b5, b6⟩
        · obtain ⟨o, es, ep, e, hd, _⟩ := hns
          rw [q, e] at b3
          cases b3
          rw [hd] at b6
          cases b6
        · rw [q, hT] at b3
          cases b3
          cases b6
      · obtain ⟨o, es, ep, e, hd, _⟩ := hns
        rw [z, hT] at e
        cases e
        cases hd
    refine codeAny_mono ((F _ kb (ns_of hns) TB).go rfl hr e0 (us := [.ref a]) (hbind s₁ (.ref a)) (vs := [.ref a]) (.cons rfl .nil) (hsp H hHT hS)) fun r s' h => ?_
    match r, h with
    | .ok (.ret u), h =>
      obtain ⟨v, H', os, bare, un, hok', r', q⟩ := h
      cases (show v = .bl true from q)
      cases (show u = Value.bool true from r')
      obtain ⟨more, zT⟩ := un.tbls T #[] hHT
      have grown : s'.heap.get? T = some { cls := .none, data := .fields more } := by
        have q := hok' T _ zT
        rw [Array.empty_append] at q
        exact q
      have others : ∀ b o, b ≠ T → s₁.heap.get? b = some o → s'.heap.get? b = some o := fun b o nb e => by
        cases q : H b with
        | none => exact un.keep b o e q (fun y => (nomatch y)) (fun y => (nomatch y))
        | some u =>
          rcases hA b u q with z | ⟨_, _, ob, xs, rfl⟩
          · exact absurd z nb
          · obtain ⟨e1, _⟩ := hok b _ q
            obtain ⟨e2, _⟩ := hok' b _ (un.frzs b ob _ q)
            rw [e] at e1
            cases e1
            exact e2
      refine ⟨rfl, ⟨fun b o e => ?_, fun b o e => ?_⟩, os, bare⟩
      · by_cases hb : b = T
        · subst hb
          rw [hT] at e
          cases e
          exact .inr (.inl ⟨(hC.tab hT).isCodeTable, rfl, #[], more, rfl, by rw [Array.empty_append]; exact grown⟩)
        · exact .inl (others b o hb e)
      · by_cases hb : b = T
        · subst hb
          exact ⟨_, grown⟩
        · exact ⟨o, others b o hb e⟩
    | .error e, h => exact False.elim h
    | .ok .next, h => exact False.elim h
    | .ok .brk, h => exact False.elim h
    | .ok .cont, h => exact False.elim h
  have tT : (if T = T then some (HO.tbl #[]) else none) = some (HO.tbl #[]) := if_pos rfl
  cases hk : K.lookup a with
  | some o =>
    have e := kin a o hk
    rw [ha] at e
    cases e
    refine run (fun b => if b = T then some (.tbl #[]) else none) tT (.inr ⟨_, vs.toArray, _, hk, rfl, rfl, rfl, ?_, by simpa using rv⟩) (fun b u z => ?_) (fun b u z => ?_)
    · rw [List.size_toArray, hi.length]
      exact hl
    · dsimp only at z
      by_cases hb : b = T
      · rw [if_pos hb] at z
        cases z
        rw [hb]
        exact hT
      · rw [if_neg hb] at z
        cases z
    · skip
      by_cases hb : b = T
      · exact .inl hb
      · rw [if_neg hb] at z
        cases z
  | none =>
    refine run (fun b => if b = T then some (.tbl #[]) else if b = a then some (.frz { cls := .type "list", data := .seq vs.toArray } (.lst (ns.map V.int))) else none) (if_pos rfl) (.inl (.inr ⟨_, by dsimp only; rw [if_neg aT, if_pos rfl]⟩)) (fun b u z => ?_) fun b u z => ?_
    · dsimp only at z
      by_cases hb : b = T
      · rw [if_pos hb] at z
        cases z
        rw [hb]
        exact hT
      · rw [if_neg hb] at z
        by_cases hb2 : b = a
        · rw [if_pos hb2] at z
          cases z
          subst hb2
          exact ⟨ha, by rw [List.length_map]; exact hl, vs, _, rv, ha⟩
        · rw [if_neg hb2] at z
          cases z
    · skip
      by_cases hb : b = T
      · exact .inl hb
      · rw [if_neg hb] at z
        by_cases hb2 : b = a
        · rw [if_pos hb2] at z
          cases z
          exact .inr ⟨hb2, hk, _, _, rfl⟩
        · rw [if_neg hb2] at z
          cases z
theorem walk_gT {l : PySem.W.OpenLaw} {n k : Nat} {q : Program} {loose : List Str} {XP : (Str → Option Value) → Heap → Prop} {YP : World → Heap → Prop} {d : DefRec} {K : Params → PySem.W.Frag} {x : Str}
    (hn : l.most = some n) (hn2 : n ≤ sizeLine) (hdf : d.params.defaults = []) (hr : Room k callerA) (hrec : ((recsOf q).any fun e => e.name == d.name) = true) (hY : ∀ (w : World) (h : Heap), YP w h → (K w.params).In h)
    (F : ∀ (w : World) (mg : Str → Option Value) (fa : Addr) (h : Heap), (K w.params).In h → h.Ns mainGlobals mg → mg d.name = some (.ref fa) →
      ∃ (fd : FuncData) (T c : Addr) (o : Obj) (sp : Sp) (e : Value) (dd : Option Addr) (vs : Array Value) (sl : Array (Option Value)), (K w.params).lookup fa = some o ∧ o.data = .func fd ∧ fd.code = .ref c ∧ (K w.params).lookup c = some ⟨e, dd, .fields vs, sl⟩ ∧ vs[11]? = some (.ref T) ∧ (K w.params).lookup T = none ∧ (∀ (s : Shared) (u : Value), BindsTo s fd ⟨[u], []⟩ [(x, u)]) ∧
        (∀ (H : Hp) (a : Addr) (ns : List Int), ns.length ≤ n → H T = some (.tbl #[]) → SqL (K w.params) H a (ns.map V.int) → sp [.ref a] H (fun v _ => v = .bl true) fun _ _ _ => False) ∧
        ∀ base : Heap, (K w.params).In base → base.Ns mainGlobals mg → TabB base mg c T → FnG l.prog w (K w.params) mg base k fa fd [x] sp) :
    PySem.W.WalkO q loose XP YP l.row.toRowW d [] (fun f vs => PySem.call f vs) := by
  refine Att.attach_call hn hdf fun w s₀ s₁ mg mb fa o pm cd doc a vs ns G Y ho hd hcd hmg hobj hints hlen hg => ?_
  have kin := hY w _ Y
  obtain ⟨fd, T, c, o1, sp, e, dd, us, sl, k1, k2, k3, k4, k5, nT, h1, hs, h2⟩ := F w mg fa _ kin G.T.g hmg
  obtain ⟨dL, hm, hn1⟩ := List.any_eq_true.mp hrec
  have hn2' : dL.name = d.name := beq_iff_eq.mp hn1
  obtain ⟨a', o', fd', c', P', g1, g2, g3, g4, g5, g6⟩ := G.T.tab dL hm
  rw [hn2', hmg] at g1
  cases g1
  have q1 := kin _ _ k1
  rw [q1] at g2
  cases g2
  rw [k2] at g3
  cases g3
  rw [k3] at g4
  cases g4
  have hC := PySem.W.CodeHd.of g5 g6
  obtain ⟨⟨oc, vc, e1, _, e3, e4⟩, hP⟩ := g6
  have q2 := kin _ _ k4
  rw [q2] at e1
  cases e1
  cases e3
  rw [k5] at e4
  cases e4
  exact law_gT kin G.T.g G.T.b G.T.builtins G.T.nolimit hg hP nT hC G.T.bmain hobj hints (Nat.le_trans hlen hn2) hr h2 h1 fun H hHT hS => hs H a ns hlen hHT hS
end Hk
end S_We
section S_Ca
namespace P05
open PySem PySem.Spec PyProof.Rows L2 Tl Hk
def topS (i : Nat) : Stmt := PySem.Challenge.pw_threelanes_k05_whole_faces_by_own_walks.main.body.getD i (.Pass ⟨0, 0, 0, 0⟩)
abbrev sInteger : Stmt := topS 2
abbrev sWithin : Stmt := topS 3
abbrev sList : Stmt := topS 4
abbrev sRow : Stmt := topS 5
abbrev sUn : Stmt := topS 6
abbrev sLot : Stmt := topS 7
abbrev sNumC : Stmt := topS 10
abbrev sWebC : Stmt := topS 11
abbrev sFitC : Stmt := topS 12
abbrev sTextC : Stmt := topS 13
abbrev sWant : Stmt := topS 19
abbrev sWeb : Stmt := topS 22
abbrev sWantWeb : Stmt := topS 23
abbrev sAreTurns : Stmt := topS 24
abbrev sIsTurn : Stmt := topS 25
abbrev sTies : Stmt := topS 26
abbrev sTurnText : Stmt := topS 27
abbrev sFacesOf : Stmt := topS 30
abbrev sFaceAt : Stmt := topS 31
abbrev sSidesOf : Stmt := topS 32
abbrev sFromLeast : Stmt := topS 33
abbrev sBehind : Stmt := topS 34
abbrev sTaken : Stmt := topS 35
abbrev sFaceFrom : Stmt := topS 36
abbrev sTub : Stmt := topS 38
abbrev sScoop : Stmt := topS 39
abbrev sPick : Stmt := topS 40
abbrev sLFaces : Stmt := topS 41
abbrev sLCorners : Stmt := topS 42
abbrev sLPut : Stmt := topS 43
abbrev sLBridged : Stmt := topS 44
abbrev sLRolled : Stmt := topS 45
abbrev sLGrown : Stmt := topS 46
abbrev sDrawn : Stmt := topS 47
abbrev sCaught : Stmt := topS 48
abbrev sLRefused : Stmt := topS 49
abbrev sLaw : Stmt := topS 50
/-- a plain value and the name of its type -/
inductive Ty7 (K : PySem.W.Frag) (H : Hp) : V → String → Prop where
  | non : Ty7 K H .non "NoneType"
  | bl (b : Bool) : Ty7 K H (.bl b) "bool"
  | int (i : Int) : Ty7 K H (.int i) "int"
  | str (s : Str) : Ty7 K H (.str s) "str"
  | lst {a : Addr} {xs : List V} (h : SqL K H a xs) : Ty7 K H (.ref a) "list"
  | tup {a : Addr} {xs : List V} (h : SqT K H a xs) : Ty7 K H (.ref a) "tuple"
  | dK {a : Addr} {kvs : List (L2.Key × V)} (h : H a = some (.dK kvs)) : Ty7 K H (.ref a) "dict"
section
variable {K : PySem.W.Frag} {H H' : Hp} {x : V} {n : String}
theorem Ty7.tyx (h : Ty7 K H x n) : TyX K H x (.type n) := by
  cases h with
  | non => exact .base .non
  | bl b => exact .base (.bl b)
  | int i => exact .base (.int i)
  | str s => exact .base (.str s)
  | lst h =>
    rcases h with (h | ⟨o, h⟩) | ⟨o, its, m, h1, h2, _⟩
    · exact .base (.lst h)
    · exact .base (.frz h)
    · exact .kList h1 h2
  | tup h =>
    rcases h with (h | ⟨o, h⟩) | ⟨o, its, m, h1, h2, _⟩
    · exact .base (.tup h)
    · exact .fTuple h
    · exact .kTuple h1 h2
  | dK h => exact .base (.dK h)
theorem Ty7.ex (h : Ty7 K H x n) (e : Evl.Ex H H') : Ty7 K H' x n := by
  cases h with
  | non => exact .non
  | bl b => exact .bl b
  | int i => exact .int i
  | str s => exact .str s
  | lst h => exact .lst (Evl.ex_l e h)
  | tup h => exact .tup (Evl.ex_t e h)
  | dK h => exact .dK (e _ _ h)
/-- isinstance of one built-in class -/
def is7 (n c : String) : Bool := (L2.kitB n c).getD false
theorem Ty7.kit (h : Ty7 K H x n) {c : String} (hc : c = "int" ∨ c = "bool" ∨ c = "list" ∨ c = "tuple") : PySem.W.kitOne K (.type n) (.type c) = some (is7 n c) := by
  refine kit_ty ?_
  rcases hc with rfl | rfl | rfl | rfl <;> cases h <;> decide +kernel
theorem Ty7.isInt (h : Ty7 K H x n) : (is7 n "int" && !is7 n "bool") = decide (n = "int") := by
  cases h <;> decide +kernel
theorem Ty7.isSeq (h : Ty7 K H x n) : (is7 n "list" || is7 n "tuple") = (decide (n = "list") || decide (n = "tuple")) := by
  cases h <;> decide +kernel
theorem rc_isi (h : Ty7 K H x n) {c : String} (hc : c = "int" ∨ c = "bool" ∨ c = "list" ∨ c = "tuple") : Evl.RC (rIsi K) [x, .ty c] H (.bl (is7 n c)) :=
  fun H1 e _ q => ⟨x, .ty c, .type n, .type c, is7 n c, rfl, .ty c, (h.ex e).tyx, (h.ex e).kit hc, q H1 (Evl.Ex.refl H1)⟩
theorem rv_isN : Evl.RV (fun x y H Q => y = .non ∧ Q (.bl (decide (x = .non))) H) x .non H (.bl (decide (x = .non))) := fun H1 _ _ q => ⟨rfl, q H1 (Evl.Ex.refl H1)⟩
end
/-- None, or an integer -/
def Bnd : V → Prop
  | .non => True
  | .int _ => True
  | _ => False
def okLo : V → Int → Bool
  | .int j, i => decide (j ≤ i)
  | _, _ => true
def okHi : V → Int → Bool
  | .int j, i => decide (i ≤ j)
  | _, _ => true
/-- whether it is an integer within the bounds -/
def wi : V → V → V → Bool
  | .int i, lo, hi => okLo lo i && okHi hi i
  | _, _, _ => false
def spInteger (K : PySem.W.Frag) : Sp := fun vs H Q _ => ∃ (x : V) (n : String), vs = [x] ∧ Ty7 K H x n ∧ ∀ H1, Evl.Ex H H1 → Q (.bl (decide (n = "int"))) H1
theorem spv_integer {K : PySem.W.Frag} {H : Hp} {x : V} {n : String} (h : Ty7 K H x n) : Evl.SpV (spInteger K) [x] H (.bl (decide (n = "int"))) := fun H1 e Q q E => ⟨x, n, rfl, h.ex e, q⟩
def spWithin (K : PySem.W.Frag) : Sp := fun vs H Q _ => ∃ (x lo hi : V) (n : String), vs = [x, lo, hi] ∧ Ty7 K H x n ∧ Bnd lo ∧ Bnd hi ∧ ∀ H1, Evl.Ex H H1 → Q (.bl (wi x lo hi)) H1
theorem spv_within {K : PySem.W.Frag} {H : Hp} {x lo hi : V} {n : String} (h : Ty7 K H x n) (h1 : Bnd lo) (h2 : Bnd hi) : Evl.SpV (spWithin K) [x, lo, hi] H (.bl (wi x lo hi)) := fun H1 e Q q E => ⟨x, lo, hi, n, rfl, h.ex e, h1, h2, q⟩
def spList (K : PySem.W.Frag) : Sp := fun vs H Q _ => ∃ (x : V) (n : String), vs = [x] ∧ Ty7 K H x n ∧ ∀ H1, Evl.Ex H H1 → Q (.bl (decide (n = "list") || decide (n = "tuple"))) H1
theorem spv_list {K : PySem.W.Frag} {H : Hp} {x : V} {n : String} (h : Ty7 K H x n) : Evl.SpV (spList K) [x] H (.bl (decide (n = "list") || decide (n = "tuple"))) := fun H1 e Q q E => ⟨x, n, rfl, h.ex e, q⟩
theorem scInteger : FnScope ["value"] ["value"] (defScope sInteger) := ⟨rfl, rfl, rfl, by decide +kernel, rfl, by decide +kernel, by decide +kernel⟩
theorem scWithin : FnScope ["value", "least", "most"] ["value", "least", "most"] (defScope sWithin) := ⟨rfl, rfl, rfl, by decide +kernel, rfl, by decide +kernel, by decide +kernel⟩
theorem scList : FnScope ["value"] ["value"] (defScope sList) := ⟨rfl, rfl, rfl, by decide +kernel, rfl, by decide +kernel, by decide +kernel⟩
section
variable {P : Program} {w : World} {K : PySem.W.Frag} {mg : Str → Option Value} {base : Heap}
theorem ok_integer {f : Addr} {fd : FuncData} {k : Nat} (F : Fun K "is_integer" "is_integer" sInteger f fd) (mi : mg "isinstance" = none) (mint : mg "int" = none) (mbool : mg "bool" = none) : FnOk P w K mg base CX0 (k + 1) f fd ["value"] (spInteger K) := by
  refine F.ok scInteger (fun vs H Q E h => ?_) (fun cdv A outer s H vs Q E hr h => ?_)
  · obtain ⟨x, n, rfl, _⟩ := h
    rfl
  · obtain ⟨x, n, rfl, h, q⟩ := h
    refine ⟨_, pss_one (ps_ret (pe_and (pe_callB call_isi (by rfl) mi (by decide +kernel) (pa_cons (pv 0) (pa_cons (pe_bltn (v := .ty "int") (by rfl) mint (by decide +kernel) rfl) pa_nil)))
      (pe_one (pe_not (pe_callB call_isi (by rfl) mi (by decide +kernel) (pa_cons (pv 0) (pa_cons (pe_bltn (v := .ty "bool") (by rfl) mbool (by decide +kernel) rfl) pa_nil))))))), ?_⟩
    refine Evl.s_ret (v := .bl (is7 n "int" && !is7 n "bool")) (Evl.ev_andV (Evl.ev_cb (Evl.ea_cons (Evl.ev_var rfl) (Evl.ea_cons Evl.ev_c Evl.ea_nil)) (rc_isi h (.inl rfl))) fun _ =>
      Evl.ev_notV (Evl.ev_cb (Evl.ea_cons (Evl.ev_var rfl) (Evl.ea_cons Evl.ev_c Evl.ea_nil)) (rc_isi h (.inr (.inl rfl))))) fun H1 e1 => ?_
    rw [h.isInt]
    exact q H1 e1
theorem ok_list {f : Addr} {fd : FuncData} {k : Nat} (F : Fun K "is_list" "is_list" sList f fd) (mi : mg "isinstance" = none) (ml : mg "list" = none) (mt : mg "tuple" = none) : FnOk P w K mg base CX0 (k + 1) f fd ["value"] (spList K) := by
  refine F.ok scList (fun vs H Q E h => ?_) (fun cdv A outer s H vs Q E hr h => ?_)
  · obtain ⟨x, n, rfl, _⟩ := h
    rfl
  · obtain ⟨x, n, rfl, h, q⟩ := h
    refine ⟨_, pss_one (ps_ret (pe_callB call_isiT (by rfl) mi (by decide +kernel) (pa_cons (pv 0) (pa_cons (pe_tup (pa_cons (pe_bltn (v := .ty "list") (by rfl) ml (by decide +kernel) rfl) (pa_cons (pe_bltn (v := .ty "tuple") (by rfl) mt (by decide +kernel) rfl) pa_nil))) pa_nil)))), ?_⟩
    refine ⟨x, rfl, (by show 2 ≤ sizeLine; decide), fun T hT => ⟨x, T, [.ty "list", .ty "tuple"], .type n, [.type "list", .type "tuple"], is7 n "list" || is7 n "tuple", rfl, upd_same, .cons (.ty _) (.cons (.ty _) .nil), (h.ex (Evl.Ex.new hT)).tyx, ?_, ?_⟩⟩
    · refine kitAny_cons (h.kit (.inr (.inr (.inl rfl)))) (fun hb => kitAny_cons (h.kit (.inr (.inr (.inr rfl)))) (fun hb2 => ?_) fun hb2 => ?_) fun hb => ?_
      · rw [hb, hb2]; exact kitAny_nil
      · rw [hb2, Bool.or_true]
      · rw [hb, Bool.true_or]
    · show Q _ _
      rw [h.isSeq]
      exact q _ (Evl.Ex.new hT)
theorem ok_within {f fI : Addr} {fd fdI : FuncData} {k : Nat} (F : Fun K "is_within" "is_within" sWithin f fd) (FI : Fun K "is_integer" "is_integer" sInteger fI fdI) (GI : FnOk P w K mg base CX0 k fI fdI ["value"] (spInteger K)) (bI : Binds K fdI ["value"] []) (gI : mg "is_integer" = some (.ref fI)) :
    FnOk P w K mg base CX0 (k + 1) f fd ["value", "least", "most"] (spWithin K) := by
  refine F.ok scWithin (fun vs H Q E h => ?_) (fun cdv A outer s H vs Q E hr h => ?_)
  · obtain ⟨x, lo, hi, n, rfl, _⟩ := h
    rfl
  · obtain ⟨x, lo, hi, n, rfl, h, hlo, hhi, q⟩ := h
    refine ⟨_, pss_cons (ps_if (pt_not (pt_val (pe_call GI hr (by rfl) gI FI.kp bI .nil pass0 (pa_cons (pv 0) pa_nil)))) (pss_one (ps_ret pe_bl)) pss_nil)
      (pss_one (ps_ret (pe_and (pe_or (pe_cmpR op_isN (pv 1) pe_non (nomark _)) (pe_one (pe_cmpR op_ge (pv 0) (pv 1) (nomark _)))) (pe_one (pe_or (pe_cmpR op_isN (pv 2) pe_non (nomark _)) (pe_one (pe_cmpR op_le (pv 0) (pv 2) (nomark _)))))))), ?_⟩
    refine Evl.q_when (Evl.et_not (Evl.et_B (Evl.ev_call (Evl.ea_cons (Evl.ev_var rfl) Evl.ea_nil) (spv_integer h)))) (fun hb H1 e1 => ?_) (fun hb H1 e1 => ?_)
    · refine Evl.s_ret Evl.ev_c fun H2 e2 => ?_
      have hw : wi x lo hi = false := by
        cases h with
        | int i => exact absurd hb (by decide)
        | _ => rfl
      rw [← hw]
      exact q H2 (e1.trans e2)
    · cases h with
      | int i =>
        have hA : Evl.Ev (tOrV (tOp (fun x y H Q => y = .non ∧ Q (.bl (decide (x = .non))) H) (tVar 1) (tC .non)) (tOp (rI0 fun i j => V.bl (decide (j ≤ i))) (tVar 0) (tVar 1))) (start ["value", "least", "most"] [.int i, lo, hi]) H1 (.bl (okLo lo i)) := by
          cases lo with
          | non => exact Evl.ev_is (Evl.ev_orV (b := true) (Evl.ev_op (Evl.ev_var rfl) Evl.ev_c rv_isN) fun z => absurd z (by decide)) rfl
          | int j => exact Evl.ev_is (Evl.ev_orV (Evl.ev_op (Evl.ev_var rfl) Evl.ev_c rv_isN) fun _ => Evl.ev_op (Evl.ev_var rfl) (Evl.ev_var rfl) Evl.rv_I0) (by rw [show decide (V.int j = V.non) = false from rfl] <;> rfl)
          | _ => exact hlo.elim
        have hB : Evl.Ev (tOrV (tOp (fun x y H Q => y = .non ∧ Q (.bl (decide (x = .non))) H) (tVar 2) (tC .non)) (tOp (rI0 fun i j => V.bl (decide (i ≤ j))) (tVar 0) (tVar 2))) (start ["value", "least", "most"] [.int i, lo, hi]) H1 (.bl (okHi hi i)) := by
          cases hi with
          | non => exact Evl.ev_is (Evl.ev_orV (b := true) (Evl.ev_op (Evl.ev_var rfl) Evl.ev_c rv_isN) fun z => absurd z (by decide)) rfl
          | int j => exact Evl.ev_is (Evl.ev_orV (Evl.ev_op (Evl.ev_var rfl) Evl.ev_c rv_isN) fun _ => Evl.ev_op (Evl.ev_var rfl) (Evl.ev_var rfl) Evl.rv_I0) (by rw [show decide (V.int j = V.non) = false from rfl] <;> rfl)
          | _ => exact hhi.elim
        exact Evl.s_ret (Evl.ev_andV hA fun _ => hB) fun H2 e2 => q H2 (e1.trans e2)
      | _ => exact absurd hb (by decide)
end

theorem ev_allN {K : PySem.W.Frag} {ta : TE} {σ : L2.St} {H : Hp} {bs : List Bool} (h : Evl.EvL ta σ H (bs.map V.bl)) : Evl.Ev (tCB (rAll K) (tCons ta tNil)) σ H (.bl (bs.all id)) := fun H1 e Q q =>
  h H1 e _ fun p H2 _ e2 h2 => ⟨p, bs, rfl, Evl.sq_of h2, q H2 e2⟩
/-- a comprehension over a tuple that stands -/
theorem el_lcT {K : PySem.W.Frag} {a : Addr} {xs : List V} {tl te : TE} {t : TT} {σ : L2.St} {H : Hp} {j : Nat} {vs : List Nat} (f : Nat → Bool) (v : Nat → V) (h : Evl.Ev tl σ H (.ref a)) (hx : SqT K H a xs) (hz : xs.length ≤ 40000)
    (hw : ∀ x, wipe ((wipe σ vs).set j (some x)) vs = wipe σ vs) (ht : ∀ (i : Nat) (x : V) H1, Evl.Ex H H1 → xs[i]? = some x → Evl.EvT t ((wipe σ vs).set j (some x)) H1 (f i))
    (he : ∀ (i : Nat) (x : V) H1, Evl.Ex H H1 → xs[i]? = some x → f i = true → Evl.Ev te ((wipe σ vs).set j (some x)) H1 (v i)) : Evl.EvL (tLc (iTup K tl) (gName j) t te vs) σ H (Evl.given xs.length f v) := by
  intro H0 e Q q
  refine h H0 e _ fun H1 e1 => ⟨a, rfl, ⟨xs, Evl.ex_t (e.trans e1) hx⟩, fun Dl hD => lc_tup (xs := xs) (Evl.Cw H1 f v Dl) ⟨hD, Evl.Ex.new hD, upd_same⟩ (fun i H' _ p => Evl.ex_t ((e.trans e1).trans p.2.1) hx) (fun i x H' hi p => ⟨hw x, ?_⟩) fun H' p => q Dl H' (Evl.fresh_back e1 p.1) (e1.trans p.2.1) p.2.2⟩
  have hlt := (List.getElem?_eq_some_iff.mp hi).1
  exact Evl.cw_turn p (by omega) (ht i x H1 (e.trans e1) hi) fun hf => he i x H1 (e.trans e1) hi hf

end P05
end S_Ca
section S_Cb
namespace P05
open PySem PySem.Spec PyProof.Rows L2 Tl Hk
theorem scScoop : FnScope ["carousel", "many", "rest", "turn", "cell", "mixed"] ["carousel", "many"] (defScope sScoop) := ⟨rfl, rfl, rfl, by decide +kernel, rfl, by decide +kernel, by decide +kernel⟩

/-- all but the object at t is as it was -/
def Kept (t : Addr) (H H' : Hp) : Prop := ∀ a o, a ≠ t → H a = some o → H' a = some o
theorem Kept.refl (t : Addr) (H : Hp) : Kept t H H := fun _ _ _ h => h
theorem Kept.trans {t : Addr} {H H1 H2 : Hp} (a : Kept t H H1) (b : Kept t H1 H2) : Kept t H H2 := fun x o n h => b x o n (a x o n h)
theorem Kept.of {t : Addr} {H H' : Hp} (e : Same H H') : Kept t H H' := fun x o _ h => e x o h
theorem Kept.upd (t : Addr) (H : Hp) (o : HO) : Kept t H (upd H t o) := fun a u n e => by
  rw [upd_ne n]
  exact e
theorem Kept.seq {K : PySem.W.Frag} {t : Addr} {H H' : Hp} {c : Addr} {xs : List V} (k : Kept t H H') (n : c ≠ t) (h : SqL K H c xs) : SqL K H' c xs := by
  rcases h with (h | ⟨o, h⟩) | h
  · exact .inl (.inl (k _ _ n h))
  · exact .inl (.inr ⟨o, k _ _ n h⟩)
  · exact .inr h
/-- the drawer of numbers at t: its cells at c, its turn of n at most, its rest -/
def Tub (H : Hp) (t c : Addr) (n : Nat) : Prop := ∃ (cs : List Int) (turn rest : Int),
  H t = some (.lst [.ref c, .int turn, .int rest]) ∧ H c = some (.lst (cs.map V.int)) ∧ c ≠ t ∧ cs.length ≤ 60 ∧ 0 ≤ turn ∧ turn ≤ n ∧ 0 ≤ rest
theorem Tub.mono {H : Hp} {t c : Addr} {n m : Nat} (T : Tub H t c n) (h : n ≤ m) : Tub H t c m := by
  obtain ⟨cs, turn, rest, h1, h2, h3, h4, h5, h6, h7⟩ := T
  exact ⟨cs, turn, rest, h1, h2, h3, h4, h5, by omega, h7⟩
theorem Tub.same {H H' : Hp} {t c : Addr} {n : Nat} (T : Tub H t c n) (e : Same H H') : Tub H' t c n := by
  obtain ⟨cs, turn, rest, h1, h2, h3, h4, h5, h6, h7⟩ := T
  exact ⟨cs, turn, rest, e _ _ h1, e _ _ h2, h3, h4, h5, h6, h7⟩
theorem Tub.ne {H : Hp} {t c p : Addr} {n : Nat} (T : Tub H t c n) (h : H p = none) : p ≠ t ∧ p ≠ c := by
  obtain ⟨cs, turn, rest, h1, h2, _⟩ := T
  exact ⟨(ne_of_none h1 h).symm, (ne_of_none h2 h).symm⟩
/-- an object that is neither of the drawer's two may change -/
theorem Tub.upd {H : Hp} {t c p : Addr} {n : Nat} {o : HO} (T : Tub H t c n) (h1 : p ≠ t) (h2 : p ≠ c) : Tub (upd H p o) t c n := by
  obtain ⟨cs, turn, rest, a1, a2, h⟩ := T
  refine ⟨cs, turn, rest, ?_, ?_, h⟩
  · rw [upd_ne h1.symm]
    exact a1
  · rw [upd_ne h2.symm]
    exact a2
theorem same_new {H : Hp} {p : Addr} {o : HO} (h : H p = none) : Same H (upd H p o) := fun b x e => by
  rw [upd_ne (ne_of_none e h)]
  exact e

open Evl in
theorem kept_ex {t : Addr} {H H' : Hp} (e : Evl.Ex H H') : Kept t H H' := fun x o _ h => e x o h
theorem Tub.ex {H H' : Hp} {t c : Addr} {n : Nat} (T : Tub H t c n) (e : Evl.Ex H H') : Tub H' t c n := T.same e
section
open Evl
variable {K : PySem.W.Frag} {σ : L2.St} {H H' : Hp} {ta tb te : TE} {x y z v : V}
theorem ev_int {i : Int} (h : Ev ta σ H (.int i)) : Ev (tCB (fun xs H Q => (∃ i, xs = [V.int i] ∧ Q (V.int i) H) ∨ ∃ k, xs = [V.bl k] ∧ Q (V.int (if k = true then 1 else 0)) H) (tCons ta tNil)) σ H (.int i) :=
  ev_cb (ea_cons h ea_nil) fun H1 _ _ q => .inl ⟨i, rfl, q H1 (Ex.refl H1)⟩
theorem ev_intB {b : Bool} (h : Ev ta σ H (.bl b)) : Ev (tCB (fun xs H Q => (∃ i, xs = [V.int i] ∧ Q (V.int i) H) ∨ ∃ k, xs = [V.bl k] ∧ Q (V.int (if k = true then 1 else 0)) H) (tCons ta tNil)) σ H (.int (if b = true then 1 else 0)) :=
  ev_cb (ea_cons h ea_nil) fun H1 _ _ q => .inr ⟨b, rfl, q H1 (Ex.refl H1)⟩
theorem ev_abs {i : Int} (h : Ev ta σ H (.int i)) : Ev (tCB (fun xs H Q => ∃ i, xs = [V.int i] ∧ Q (V.int (if i < 0 then -i else i)) H) (tCons ta tNil)) σ H (.int (if i < 0 then -i else i)) :=
  ev_cb (ea_cons h ea_nil) fun H1 _ _ q => ⟨i, rfl, q H1 (Ex.refl H1)⟩
theorem dp_ints {c : Addr} : ∀ (cs : List Int), DpAll K H (cs.map V.int) (cs.map PyData.int)
  | [] => .nil
  | i :: r => .cons (.int i) (dp_ints (c := c) r)
/-- a list of ints is not the empty one -/
theorem ev_neNil {c : Addr} {cs : List Int} (h : Ev ta σ H (.ref c)) (hc : SqL K H c (cs.map V.int)) : Ev (tOp (rNeD K) ta (tLst tNil)) σ H (.bl (!cs.isEmpty)) :=
  ev_opL (xs := []) h (el_lst ea_nil (Nat.zero_le _)) fun p H1 hp e => fun H2 e2 Q q => by
    refine ⟨.list (cs.map PyData.int), .list [], .lst (ex_l (e.trans e2) hc) (dp_ints (c := c) cs), .lst (sq_of (e2 _ _ hp)) .nil, PySem.W.ke_shaped_ints cs, by decide +kernel, ?_⟩
    have e3 : PyData.eqv (.list (cs.map PyData.int)) (.list []) = cs.isEmpty := by cases cs <;> rfl
    rw [e3]
    exact q H2 (Ex.refl H2)
theorem ev_eqNil {c : Addr} {cs : List Int} (h : Ev ta σ H (.ref c)) (hc : SqL K H c (cs.map V.int)) : Ev (tOp (rEqD K) ta (tLst tNil)) σ H (.bl cs.isEmpty) :=
  ev_opL (xs := []) h (el_lst ea_nil (Nat.zero_le _)) fun p H1 hp e => fun H2 e2 Q q => by
    refine ⟨.list (cs.map PyData.int), .list [], .lst (ex_l (e.trans e2) hc) (dp_ints (c := c) cs), .lst (sq_of (e2 _ _ hp)) .nil, PySem.W.ke_shaped_ints cs, by decide +kernel, ?_⟩
    have e3 : PyData.eqv (.list (cs.map PyData.int)) (.list []) = cs.isEmpty := by cases cs <;> rfl
    rw [e3]
    exact q H2 (Ex.refl H2)
theorem fmod_pos {a b : Int} (hb : 1 ≤ b) : 0 ≤ a.fmod b ∧ a.fmod b < b := by
  rw [Int.fmod_eq_emod_of_nonneg a (by omega)]
  exact ⟨Int.emod_nonneg _ (by omega), Int.emod_lt_of_pos _ (by omega)⟩
theorem fdiv_pos {a b : Int} (ha : 0 ≤ a) (hb : 1 ≤ b) : 0 ≤ a.fdiv b := by
  rw [Int.fdiv_eq_ediv_of_nonneg a (by omega)]
  exact Int.ediv_nonneg ha (by omega)
theorem mix_a {x turn : Int} (hx0 : 0 ≤ x) (hx : x < 2147483648) (h0 : 0 ≤ turn) (h1 : turn ≤ 1000000) : (x + 30367 * turn + 9343).natAbs < 2 ^ 64 := by omega
theorem mix_b {m turn : Int} (hm0 : 0 ≤ m) (hm : m < 2147483648) (h0 : 0 ≤ turn) (h1 : turn ≤ 1000000) : (m * (2 * turn + 3697) + 64123 * turn * turn + 30367).natAbs < 2 ^ 64 := by
  have a1 : m * (2 * turn + 3697) ≤ 2147483648 * 2003697 := Int.mul_le_mul (by omega) (by omega) (by omega) (by omega)
  have a2 : 0 ≤ m * (2 * turn + 3697) := Int.mul_nonneg hm0 (by omega)
  have b1 : 64123 * turn * turn ≤ 64123000000 * 1000000 := Int.mul_le_mul (by omega) (by omega) (by omega) (by omega)
  have b2 : 0 ≤ 64123 * turn * turn := Int.mul_nonneg (by omega) (by omega)
  generalize m * (2 * turn + 3697) = p at *
  generalize 64123 * turn * turn = r at *
  omega
theorem cell_at (cs : List Int) (turn d : Int) (h0 : 0 ≤ turn) : ∃ z, (cs.isEmpty = false → atI (cs.map V.int) (turn.fmod ((cs.map V.int).length : Int)) = some (.int z)) ∧ (cs.isEmpty = true → z = d) := by
  cases cs with
  | nil => exact ⟨d, fun h => (nomatch h), fun _ => rfl⟩
  | cons x r =>
    have hb := fmod_pos (a := turn) (b := (((x :: r).map V.int).length : Int)) (by rw [List.length_map, List.length_cons]; omega)
    obtain ⟨j, hj⟩ : ∃ j : Nat, turn.fmod (((x :: r).map V.int).length : Int) = (j : Int) := ⟨(turn.fmod (((x :: r).map V.int).length : Int)).toNat, by omega⟩
    rw [hj] at hb ⊢
    have hl : j < (x :: r).length := by
      rw [List.length_map] at hb
      omega
    refine ⟨(x :: r)[j], fun _ => atI_nat ?_, fun h => (nomatch h)⟩
    rw [List.getElem?_map, List.getElem?_eq_getElem hl]
    rfl
end

def spScoop : Sp := fun vs H Q _ => ∃ (t c : Addr) (many : Int) (n : Nat), vs = [.ref t, .int many] ∧ Tub H t c n ∧ n ≤ 1000000 ∧ 1 ≤ many ∧ many ≤ 100000 ∧
  ∀ r H', 0 ≤ r → r < many → Kept t H H' → Tub H' t c (n + 1) → Q (.int r) H'
section
variable {P : Program} {w : World} {K : PySem.W.Frag} {mg : Str → Option Value} {base : Heap}
theorem ok_scoop {f : Addr} {fd : FuncData} {k : Nat} (F : Fun K "_law_spin" "_law_spin" sScoop f fd) (mint : mg "int" = none) (mlen : mg "len" = none) (mabs : mg "abs" = none) : FnOk P w K mg base CX0 (k + 1) f fd ["carousel", "many"] spScoop := by
  refine F.ok scScoop (fun vs H Q E h => ?_) (fun cdv A outer s H vs Q E hr h => ?_)
  · obtain ⟨t, c, m, n, rfl, _⟩ := h
    rfl
  · obtain ⟨t, c, many, n, rfl, hT, hn, hm1, hm2, q⟩ := h
    have nd := scScoop.nd
    refine ⟨_, pss_cons (ps_if (pt_cmpR (op_eqD hr.units) (pe_ix ix_list (pv 0) pe_int (fun _ _ => rfl)) (pe_lst pa_nil) (nomark _)) (pss_one (ps_ret pe_int)) pss_nil)
      (pss_cons (ps_if (pt_cmpR op_gt (pe_ix ix_list (pv 0) pe_int (fun _ _ => rfl)) pe_int (nomark _))
        (pss_cons (ps_set (i := 2) nd rfl (.inl rfl) (pe_callTy call_int1 (by rfl) mint (by decide +kernel) (pa_cons (pe_ix ix_list (pv 0) pe_int (fun _ _ => rfl)) pa_nil)))
        (pss_cons (ps_asg (pe_op op_fdivN (pv 2) (pv 1)) (pg_sub (pv 0) pe_int set_list))
        (pss_one (ps_ret (pe_op op_modN (pe_callTy call_int1 (by rfl) mint (by decide +kernel) (pa_cons (pv 2) pa_nil)) (pv 1)))))) pss_nil)
      (pss_cons (ps_set (i := 3) nd rfl (.inl rfl) (pe_ix ix_list (pv 0) pe_int (fun _ _ => rfl)))
      (pss_cons (ps_asg (pe_op op_add (pv 3) pe_int) (pg_sub (pv 0) pe_int set_list))
      (pss_cons (ps_set (i := 4) nd rfl (.inl rfl) (pe_ix ix_list (pe_ix ix_list (pv 0) pe_int (fun _ _ => rfl)) (pe_op op_modN (pe_callTy call_int1 (by rfl) mint (by decide +kernel) (pa_cons (pv 3) pa_nil)) (pe_callB call_len_seq (by rfl) mlen PySem.boot_len (pa_cons (pe_ix ix_list (pv 0) pe_int (fun _ _ => rfl)) pa_nil))) (fun _ _ => rfl)))
      (pss_cons (ps_if (PW.pt (pw_and (pt_cmpR op_lt (pv 3) (pe_callB call_len_seq (by rfl) mlen PySem.boot_len (pa_cons (pe_ix ix_list (pv 0) pe_int (fun _ _ => rfl)) pa_nil)) (nomark _)) (pw_and1 (pt_cmpR op_ge (pe_callB call_abs (by rfl) mabs (by decide +kernel) (pa_cons (pv 4) pa_nil)) (pe_op op_pow pe_int pe_int) (nomark _)))))
        (pss_cons (ps_set (i := 2) nd rfl (.inl rfl) (pe_op op_add (pe_op op_mul pe_int (pe_op op_sub (pe_callB call_abs (by rfl) mabs (by decide +kernel) (pa_cons (pv 4) pa_nil)) (pe_op op_pow pe_int pe_int))) (pe_callTy call_int1 (by rfl) mint (by decide +kernel) (pa_cons (pe_cmpR op_lt (pv 4) pe_int (nomark _)) pa_nil))))
        (pss_cons (ps_asg (pe_op op_fdivN (pe_callTy call_int1 (by rfl) mint (by decide +kernel) (pa_cons (pv 2) pa_nil)) (pv 1)) (pg_sub (pv 0) pe_int set_list))
        (pss_one (ps_ret (pe_op op_modN (pe_callTy call_int1 (by rfl) mint (by decide +kernel) (pa_cons (pv 2) pa_nil)) (pv 1)))))) pss_nil)
      (pss_cons (ps_set (i := 5) nd rfl (.inl rfl) (pe_op op_modN (pe_callTy call_int1 (by rfl) mint (by decide +kernel) (pa_cons (pe_op op_pow (pe_op op_add (pe_op op_add (pe_op op_modN (pe_callTy call_int1 (by rfl) mint (by decide +kernel) (pa_cons (pv 4) pa_nil)) pe_int) (pe_op op_mul pe_int (pv 3))) pe_int) pe_int) pa_nil)) pe_int))
      (pss_cons (ps_set (i := 5) nd rfl (.inl rfl) (pe_op op_modN (pe_callTy call_int1 (by rfl) mint (by decide +kernel) (pa_cons (pe_op op_pow (pe_op op_add (pe_op op_add (pe_op op_mul (pv 5) (pe_op op_add (pe_op op_mul pe_int (pv 3)) pe_int)) (pe_op op_mul (pe_op op_mul pe_int (pv 3)) (pv 3))) pe_int) pe_int) pa_nil)) pe_int))
      (pss_one (ps_ret (pe_op op_modN (pe_callTy call_int1 (by rfl) mint (by decide +kernel) (pa_cons (pe_op op_fdivN (pv 5) pe_int) pa_nil)) (pv 1))))))))))), ?_⟩
    obtain ⟨cs, turn, rest, ht, hc, hct, hcl, hu0, hun, hr0⟩ := hT
    have tubAt : ∀ {σ : L2.St} {H' : Hp} {j : Nat} {v : V} {xs : List V}, σ[0]? = some (some (.ref t)) → H' t = some (.lst xs) → xs[j]? = some v → Evl.Ev (tOp (rIxL K) (tVar 0) (tC (.int (j : Int)))) σ H' v :=
      fun hs h hv => Evl.ev_op (Evl.ev_var hs) Evl.ev_c (Evl.rv_ixL (Evl.sq_of h) (atI_nat hv))
    have turnS : turn ≤ 1000000 := by omega
    refine Evl.q_when (b := cs.isEmpty) (Evl.et_test (ev_eqNil (tubAt (j := 0) rfl ht rfl) (Evl.sq_of hc))) (fun _ H0 e0 => Evl.s_ret Evl.ev_c fun H1 e1 => q 0 H1 (Int.le_refl _) (by omega) (kept_ex (e0.trans e1)) ((Tub.ex ⟨cs, turn, rest, ht, hc, hct, hcl, hu0, hun, hr0⟩ (e0.trans e1)).mono (by omega))) fun hce H0 e0 => ?_
    have ht0 := e0 _ _ ht
    have hc0 := e0 _ _ hc
    have k0 : Kept t H H0 := kept_ex e0
    refine Evl.q_when (b := decide (0 < rest)) (Evl.et_test (Evl.ev_op (tubAt (j := 2) rfl ht0 rfl) Evl.ev_c Evl.rv_I0)) (fun hb H1 e1' => ?_) (fun hb H1 e1' => ?_)
    · have e1 := e0.trans e1'
      refine Evl.q_asg (ev_int (tubAt (j := 2) rfl (e1 _ _ ht) rfl)) fun H2 e2 => ?_
      refine Evl.q_setL (l := t) (j := 2) (e2 _ _ (e1 _ _ ht)) (Evl.ev_op (Evl.ev_var rfl) (Evl.ev_var rfl) (Evl.rv_I ⟨by omega, by omega⟩)) (Evl.ev_var rfl) Evl.ev_c (by show 2 < 3; omega) fun H3 e3 => ?_
      refine Evl.s_ret (Evl.ev_op (ev_int (Evl.ev_var rfl)) (Evl.ev_var rfl) (Evl.rv_I (by omega))) fun H4 e4 => ?_
      have e13 := (e1.trans e2).trans e3
      refine q _ _ (fmod_pos hm1).1 (fmod_pos hm1).2 (((kept_ex e13).trans (Kept.upd t H3 _)).trans (kept_ex e4)) (Tub.ex ?_ e4)
      exact ⟨cs, turn, rest.fdiv many, upd_same, Kept.upd t H3 _ _ _ hct (e13 _ _ hc), hct, hcl, hu0, by omega, fdiv_pos hr0 hm1⟩
    · have e1 := e0.trans e1'
      clear e1' k0 hc0 ht0
      refine Evl.q_asg (tubAt (j := 1) rfl (e1 _ _ ht) rfl) fun H2 e2 => ?_
      refine Evl.q_setL (l := t) (j := 1) (e2 _ _ (e1 _ _ ht)) (Evl.ev_op (Evl.ev_var rfl) Evl.ev_c Evl.rv_I0) (Evl.ev_var rfl) Evl.ev_c (by show 1 < 3; omega) fun H3 e3 => ?_
      have e13 := (e1.trans e2).trans e3
      have k3 : Kept t H (upd H3 t (.lst [.ref c, .int (turn + 1), .int rest])) := (kept_ex e13).trans (Kept.upd t H3 _)
      have h3 : (upd H3 t (.lst [.ref c, .int (turn + 1), .int rest])) t = some (.lst [.ref c, .int (turn + 1), .int rest]) := upd_same
      show tSeq _ _ _ _ (upd H3 t (.lst [.ref c, .int (turn + 1), .int rest]))
      generalize upd H3 t (.lst [.ref c, .int (turn + 1), .int rest]) = H3' at k3 h3 ⊢
      have hc3 : H3' c = some (.lst (cs.map V.int)) := k3 _ _ hct hc
      obtain ⟨cell, z1, z2⟩ := cell_at cs turn (64123 * turn + 9343) hu0
      have hne : ((cs.map V.int).length : Int) ≠ 0 := by
        rw [List.length_map]
        cases cs with
        | nil => cases hce
        | cons x r => rw [List.length_cons]; omega
      refine Evl.q_asg (v := .int cell) (Evl.ev_op (tubAt (j := 0) rfl h3 rfl) (Evl.ev_op (ev_int (Evl.ev_var rfl)) (Evl.ev_len (tubAt (j := 0) rfl h3 rfl) (Evl.sq_of hc3)) (Evl.rv_I hne)) (Evl.rv_ixL (Evl.sq_of hc3) (z1 hce))) fun H5 e35 => ?_
      have k5 : Kept t H H5 := k3.trans (kept_ex e35)
      have h5 := e35 _ _ h3
      have hc5 := e35 _ _ hc3
      clear e35 h3 hc3 k3 e1 e2 e3 e13 e0
      refine Evl.q_when (Evl.et_and (Evl.et_test (Evl.ev_op (Evl.ev_var rfl) (Evl.ev_len (tubAt (j := 0) rfl h5 rfl) (Evl.sq_of hc5)) Evl.rv_I0)) fun _ => Evl.et_test (Evl.ev_op (ev_abs (Evl.ev_var rfl)) (Evl.ev_op Evl.ev_c Evl.ev_c (Evl.rv_I ⟨by decide, by decide, by decide⟩)) Evl.rv_I0)) (fun hb H6 e6 => ?_) (fun hb H6 e6 => ?_)
      · have hb2 := (Bool.and_eq_true_iff.mp hb).2
        have hbig : (10 : Int) ^ 18 ≤ (if cell < 0 then -cell else cell) := of_decide_eq_true hb2
        refine Evl.q_asg (Evl.ev_op (Evl.ev_op Evl.ev_c (Evl.ev_op (ev_abs (Evl.ev_var rfl)) (Evl.ev_op Evl.ev_c Evl.ev_c (Evl.rv_I ⟨by decide, by decide, by decide⟩)) Evl.rv_I0) (Evl.rv_I (.inl ⟨by decide, by decide⟩))) (ev_intB (Evl.ev_op (Evl.ev_var rfl) Evl.ev_c Evl.rv_I0)) Evl.rv_I0) fun H7 e7 => ?_
        have hr2 : (0 : Int) ≤ 2 * ((if cell < 0 then -cell else cell) - 10 ^ (18 : Int).toNat) + (if decide (cell < 0) = true then 1 else 0) := by
          have e18 : (18 : Int).toNat = 18 := rfl
          rw [e18]
          split <;> omega
        generalize (2 * ((if cell < 0 then -cell else cell) - 10 ^ (18 : Int).toNat) + (if decide (cell < 0) = true then 1 else 0) : Int) = rest2 at hr2 ⊢
        refine Evl.q_setL (l := t) (j := 2) (e7 _ _ (e6 _ _ h5)) (Evl.ev_op (ev_int (Evl.ev_var rfl)) (Evl.ev_var rfl) (Evl.rv_I ⟨by omega, by omega⟩)) (Evl.ev_var rfl) Evl.ev_c (by show 2 < 3; omega) fun H8 e8 => ?_
        refine Evl.s_ret (Evl.ev_op (ev_int (Evl.ev_var rfl)) (Evl.ev_var rfl) (Evl.rv_I (by omega))) fun H9 e9 => ?_
        have e68 := (e6.trans e7).trans e8
        refine q _ _ (fmod_pos hm1).1 (fmod_pos hm1).2 (((k5.trans (kept_ex e68)).trans (Kept.upd t H8 _)).trans (kept_ex e9)) (Tub.ex ?_ e9)
        exact ⟨cs, turn + 1, rest2.fdiv many, upd_same, Kept.upd t H8 _ _ _ hct (e68 _ _ hc5), hct, hcl, by omega, by omega, fdiv_pos hr2 hm1⟩
      · have c1 := fmod_pos (a := cell) (b := 2147483399) (by decide)
        refine Evl.q_asg (Evl.ev_op (ev_int (Evl.ev_op (Evl.ev_op (Evl.ev_op (Evl.ev_op (ev_int (Evl.ev_var rfl)) Evl.ev_c (Evl.rv_I (by decide))) (Evl.ev_op Evl.ev_c (Evl.ev_var rfl) (Evl.rv_I (.inl ⟨by decide, by decide⟩))) Evl.rv_I0) Evl.ev_c Evl.rv_I0) Evl.ev_c (Evl.rv_I ⟨by decide, by decide, mix_a c1.1 (by omega) hu0 turnS⟩))) Evl.ev_c (Evl.rv_I (by decide))) fun H7 e7 => ?_
        have m1 := fmod_pos (a := (cell.fmod 2147483399 + 30367 * turn + 9343) ^ (5 : Int).toNat) (b := 2147483353) (by decide)
        generalize ((cell.fmod 2147483399 + 30367 * turn + 9343) ^ (5 : Int).toNat).fmod 2147483353 = mx at m1 ⊢
        refine Evl.q_asg (Evl.ev_op (ev_int (Evl.ev_op (Evl.ev_op (Evl.ev_op (Evl.ev_op (Evl.ev_var rfl) (Evl.ev_op (Evl.ev_op Evl.ev_c (Evl.ev_var rfl) (Evl.rv_I (.inl ⟨by decide, by decide⟩))) Evl.ev_c Evl.rv_I0) (Evl.rv_I (.inl ⟨by omega, by omega⟩))) (Evl.ev_op (Evl.ev_op Evl.ev_c (Evl.ev_var rfl) (Evl.rv_I (.inl ⟨by decide, by decide⟩))) (Evl.ev_var rfl) (Evl.rv_I (.inl ⟨by omega, by omega⟩))) Evl.rv_I0) Evl.ev_c Evl.rv_I0) Evl.ev_c (Evl.rv_I ⟨by decide, by decide, mix_b m1.1 (by omega) hu0 turnS⟩))) Evl.ev_c (Evl.rv_I (by decide))) fun H8 e8 => ?_
        refine Evl.s_ret (Evl.ev_op (ev_int (Evl.ev_op (Evl.ev_var rfl) Evl.ev_c (Evl.rv_I ⟨by decide, by decide⟩))) (Evl.ev_var rfl) (Evl.rv_I (by omega))) fun H9 e9 => ?_
        have e69 := ((e6.trans e7).trans e8).trans e9
        exact q _ _ (fmod_pos hm1).1 (fmod_pos hm1).2 (k5.trans (kept_ex e69)) ⟨cs, turn + 1, rest, e69 _ _ h5, e69 _ _ hc5, hct, hcl, by omega, by omega, hr0⟩
end

theorem scPick : FnScope ["carousel", "some"] ["carousel", "some"] (defScope sPick) := ⟨rfl, rfl, rfl, by decide +kernel, rfl, by decide +kernel, by decide +kernel⟩
theorem scTub : FnScope ["script", "cell"] ["script"] (defScope sTub) := ⟨rfl, rfl, rfl, by decide +kernel, rfl, by decide +kernel, by decide +kernel⟩
/-- an item at a drawn place -/
theorem at_drawn {xs : List V} {r : Int} (h0 : 0 ≤ r) (h1 : r < (xs.length : Int)) : ∃ (j : Nat) (v : V), xs[j]? = some v ∧ atI xs r = some v := by
  obtain ⟨j, rfl⟩ : ∃ j : Nat, r = (j : Int) := ⟨r.toNat, by omega⟩
  have hj : j < xs.length := by omega
  exact ⟨j, xs[j], List.getElem?_eq_getElem hj, atI_nat (List.getElem?_eq_getElem hj)⟩
def spPick (K : PySem.W.Frag) : Sp := fun vs H Q _ => ∃ (t c l : Addr) (xs : List V) (n : Nat), vs = [.ref t, .ref l] ∧ Tub H t c n ∧ n < 1000000 ∧ l ≠ t ∧ SqL K H l xs ∧ 1 ≤ xs.length ∧ xs.length ≤ 10000 ∧
  ∀ (j : Nat) (v : V) (H' : Hp), xs[j]? = some v → Kept t H H' → Tub H' t c (n + 1) → Q v H'
/-- the drawer as it is made: new -/
def spTub (K : PySem.W.Frag) : Sp := fun vs H Q _ => ∃ (a : Addr) (ns : List Int), vs = [.ref a] ∧ SqL K H a (ns.map V.int) ∧ ns.length ≤ 1000 ∧ ∀ t c H', H t = none → H c = none → Same H H' → Tub H' t c 0 → Q (.ref t) H'
theorem given_all {α : Type} (ns : List α) (d : α) (f : α → V) : Evl.given ns.length (fun _ => true) (fun i => f (ns.getD i d)) = ns.map f := by
  unfold Evl.given
  rw [List.filter_eq_self.mpr (fun _ _ => rfl)]
  refine List.ext_getElem (by simp) fun i h1 h2 => ?_
  have h3 : i < ns.length := by simpa using h2
  simp [List.getD_eq_getElem?_getD, h3]
theorem erase_map : ∀ (l : List Int) (j : Nat), (l.map V.int).eraseIdx j = (l.eraseIdx j).map V.int
  | [], j => by simp
  | _ :: _, 0 => rfl
  | a :: r, j + 1 => by
    have ih := erase_map r j
    simp [ih]
/-! ### going on behind an argument, a list made, a call -/
theorem ret_lst {t : TA} {D : Ends} {σ : L2.St} {H : Hp} (h : t σ H fun xs H1 => xs.length ≤ sizeLine ∧ ∀ p, H1 p = none → D.rt (.ref p) (upd H1 p (.lst xs))) : tRet (tLst t) D σ H := h
theorem go_l {te : TE} {σ : L2.St} {H : Hp} {Q : VK} {xs : List V} (h : Evl.EvL te σ H xs) (k : ∀ p H1, H p = none → Evl.Ex H H1 → H1 p = some (.lst xs) → Q (.ref p) H1) : te σ H Q := h H (Evl.Ex.refl H) Q k
theorem go_v {te : TE} {σ : L2.St} {H : Hp} {Q : VK} {v : V} (h : Evl.Ev te σ H v) (k : ∀ H1, Evl.Ex H H1 → Q v H1) : te σ H Q := h H (Evl.Ex.refl H) Q k
theorem cons_l {ta : TE} {tr : TA} {σ : L2.St} {H : Hp} {Q : List V → Hp → Prop} {xs : List V} (h : Evl.EvL ta σ H xs) (k : ∀ p H1, H p = none → Evl.Ex H H1 → H1 p = some (.lst xs) → tr σ H1 fun vs H2 => Q (.ref p :: vs) H2) : tCons ta tr σ H Q := h H (Evl.Ex.refl H) _ k
theorem cons_v {ta : TE} {tr : TA} {σ : L2.St} {H : Hp} {Q : List V → Hp → Prop} {v : V} (h : Evl.Ev ta σ H v) (k : ∀ H1, Evl.Ex H H1 → tr σ H1 fun vs H2 => Q (v :: vs) H2) : tCons ta tr σ H Q := h H (Evl.Ex.refl H) _ k
theorem et_yes {σ : L2.St} {H : Hp} : Evl.EvT tYes σ H true := fun H1 _ _ q => q H1 (Evl.Ex.refl H1)
theorem cut60 (xs : List V) : cutV xs none (some 60) = xs.take 60 := by
  unfold cutV
  rw [HT.sIx_none, show HT.sIx xs.length xs.length (some 60) = min 60 xs.length from HT.sIx_nat _ _ 60, List.drop_zero, Nat.sub_zero]
  by_cases h : 60 ≤ xs.length
  · rw [Nat.min_eq_left h]
  · rw [Nat.min_eq_right (by omega), List.take_length, List.take_of_length_le (by omega)]
section
variable {P : Program} {w : World} {K : PySem.W.Frag} {mg : Str → Option Value} {base : Heap}
theorem ok_pick {f fS : Addr} {fd fdS : FuncData} {k : Nat} (F : Fun K "_law_pick" "_law_pick" sPick f fd) (FS : Fun K "_law_spin" "_law_spin" sScoop fS fdS) (GS : FnOk P w K mg base CX0 k fS fdS ["carousel", "many"] spScoop) (bS : Binds K fdS ["carousel", "many"] [])
    (gS : mg "_law_spin" = some (.ref fS)) (mlen : mg "len" = none) : FnOk P w K mg base CX0 (k + 1) f fd ["carousel", "some"] (spPick K) := by
  refine F.ok scPick (fun vs H Q E h => ?_) (fun cdv A outer s H vs Q E hr h => ?_)
  · obtain ⟨t, c, l, xs, n, rfl, _⟩ := h
    rfl
  · obtain ⟨t, c, l, xs, n, rfl, hT, hn, hlt, hS, h1, h2, q⟩ := h
    refine ⟨_, pss_one (ps_ret (pe_ix ix_list (pv 1) (pe_call GS hr (by rfl) gS FS.kp bS .nil pass0 (pa_cons (pv 0) (pa_cons (pe_callB call_len_seq (by rfl) mlen PySem.boot_len (pa_cons (pv 1) pa_nil)) pa_nil))) (fun _ _ => rfl))), ?_⟩
    refine ⟨.ref l, rfl, .ref t, rfl, .ref l, rfl, l, xs, rfl, .inl hS, t, c, (xs.length : Int), n, rfl, hT, by omega, by omega, by omega, fun r H' r0 r1 hk hT' => ?_⟩
    obtain ⟨j, v, hj, ha⟩ := at_drawn r0 r1
    exact ⟨l, xs, r, v, rfl, rfl, hk.seq hlt hS, ha, q j v H' hj hk hT'⟩
theorem ok_tub {f : Addr} {fd : FuncData} {k : Nat} (F : Fun K "_law_carousel" "_law_carousel" sTub f fd) (mint : mg "int" = none) : FnOk P w K mg base CX0 (k + 1) f fd ["script"] (spTub K) := by
  refine F.ok scTub (fun vs H Q E h => ?_) (fun cdv A outer s H vs Q E hr h => ?_)
  · obtain ⟨a, ns, rfl, _⟩ := h
    rfl
  · obtain ⟨a, ns, rfl, hS, hl, q⟩ := h
    have nd := scTub.nd
    refine ⟨_, pss_one (ps_ret (pe_lst (pa_cons (pe_lc (own := [("cell", 1)]) (g := gName 1) (tt := tYes) rfl nd (pi_list (pe_slice sl_list (pv 0) po_none (po_some pe_int))) (blkOk_by (N := ["script", "cell"]) (sc := defScope sTub) (by decide +kernel)) (fun _ _ _ _ _ => pg_name (i := 1) nd rfl (Or.inl rfl)) (fun _ _ _ _ _ => pts_nil) (fun _ _ _ _ _ => pe_callTy call_int1 (by rfl) mint (by decide +kernel) (pa_cons (pv 1) pa_nil))) (pa_cons pe_int (pa_cons pe_int pa_nil))))), ?_⟩
    have e0 : cutV (ns.map V.int) none (some 60) = (ns.take 60).map V.int := by rw [cut60, List.map_take]
    refine ret_lst (cons_l (Evl.el_lcNL (K := K) (H := H) (j := 1) (xs := (ns.take 60).map V.int) (fun _ => true) (fun i => V.int ((ns.take 60).getD i 0)) ?_ ?_ ?_ ?_ ?_) (fun p H1 hp e1 h1 => ?_))
    · rw [← e0]
      exact Evl.el_sl (Evl.ev_var rfl) Evl.eo_none (Evl.eo_some Evl.ev_c) hS
    · rw [List.length_map, List.length_take]
      omega
    · exact fun x => rfl
    · exact fun i x H1 _ _ => et_yes
    · intro i x H1 _ hx _
      have hx2 : x = V.int ((ns.take 60).getD i 0) := by
        rw [List.getElem?_map] at hx
        cases hz : (ns.take 60)[i]? with
        | none => rw [hz] at hx; cases hx
        | some z =>
          rw [hz] at hx
          rw [List.getD_eq_getElem?_getD, hz]
          exact (Option.some.inj hx).symm
      subst hx2
      exact ev_int (Evl.ev_var rfl)
    · rw [List.length_map, given_all (ns.take 60) 0 V.int] at h1
      refine ⟨by show 3 ≤ sizeLine; decide, fun t ht => ?_⟩
      refine q t p _ (Evl.fresh_back e1 ht) hp (fun b o hb => ?_) ⟨ns.take 60, 0, 0, upd_same, ?_, ne_of_none h1 ht, by rw [List.length_take]; omega, Int.le_refl _, Int.le_refl _, Int.le_refl _⟩
      · rw [upd_ne (ne_of_none (e1 _ _ hb) ht)]
        exact e1 _ _ hb
      · rw [upd_ne (ne_of_none h1 ht)]
        exact h1
end

end P05
end S_Cb
section S_Wf
namespace Hk
open PySem PySem.Spec PyProof.Rows L2
theorem args_minD (a v : Value) : argsOk "min" ⟨[a], [(Str.ofString "default", v)]⟩ := by unfold argsOk; kernel_rfl
section
variable {prog : Program} {w : World} {A : Around} {E : Value → Shared → Prop} {s : Shared}
/-- min of an empty list, with what is told for none -/
theorem min_none {l : Addr} {d : Value} {Q : Value → Shared → Prop} (hh : A.handled = none) (hl : s.heap.IsList l #[]) (k : ∀ h' tk, (∀ b o, s.heap.get? b = some o → h'.get? b = some o) → Q d { s with heap := h', toks := tk }) :
    wpAny (model prog w) A (call (.builtin "min") [.ref l] [(Str.ofString "default", d)]) Q E s := by
  refine PyProof.Rows.kmk_tree PySem.F.kind_min PySem.F.plain_min PySem.F.entry_min (args_minD _ _) ?_
  show wpAny _ A.in1 (Builtin.Builtins.bindParams "min" ["key", "default"] 0 ⟨[], [(Str.ofString "default", d)]⟩ >>= _) _ _ s
  refine wpAny_bind (wpAny_of_eq (show Builtin.Builtins.bindParams "min" ["key", "default"] 0 ⟨[], [(Str.ofString "default", d)]⟩ = pure [none, some d] from rfl) (wpAny_bind (wpAny_pure (wpAny_bind (wpAny_pyIter_list hl (wpAny_bind (wpAny_newList ?_ (Nat.zero_le _))))))))
  rw [show (toString "min" ++ toString ".loop" : String) = "min.loop" by decide]
  have ll : l < s.heap.objs.size := by
    obtain ⟨o, ho, _⟩ := hl
    exact Heap.lt_size ho
  refine wpAny_pure ⟨plainId_quiet PySem.F.plain_min_loop _, ?_⟩
  have up : ∀ b o, s.heap.get? b = some o → ((s.heap.push { cls := .type "list_iterator", data := .fields #[.ref l, .int 0 0] }).push (seqObj "list" #[] 0)).get? b = some o := fun b o e => Heap.get?_push_of_some _ (Heap.get?_push_of_some _ e)
  have gI : ((s.heap.push { cls := .type "list_iterator", data := .fields #[.ref l, .int 0 0] }).push (seqObj "list" #[] 0)).get? s.heap.objs.size = some { cls := .type "list_iterator", data := .fields #[.ref l, .int 0 0] } := Heap.get?_push_of_some _ (Heap.get?_push_size _ rfl)
  have gS : ((s.heap.push { cls := .type "list_iterator", data := .fields #[.ref l, .int 0 0] }).push (seqObj "list" #[] 0)).get? (s.heap.push { cls := .type "list_iterator", data := .fields #[.ref l, .int 0 0] }).objs.size = some (seqObj "list" #[] 0) := Heap.get?_push_size _ rfl
  refine codeAny_builtin PySem.F.entry_min_loop ?_
  rw [Around.under_plainId PySem.F.plain_min_loop _]
  refine wpAny_bind (wpAny_seqItems gS rfl (wpAny_bind (wpAny_tryCatch (wpAny_pyNext_list_end (i := 0) (items := #[]) hh ⟨_, gI, rfl, rfl⟩ (let ⟨o, ho, r⟩ := hl; ⟨o, up _ _ ho, r⟩) rfl fun h' ext => ?_))))
  show wpAny _ _ (do rule (toString "min" ++ toString ".default"); (ret d : Sem Fin)) _ _ _
  exact wpAny_bind (wpAny_rule (wpAny_pure (k _ _ fun b o e => ext b o (Nat.ne_of_lt (Heap.lt_size e)) (up b o e))))
end
def rMinN (K : PySem.W.Frag) : List V → List V → Hp → VK → Prop := fun xs zs H Q => ∃ (l : Addr) (z : V), xs = [.ref l] ∧ zs = [z] ∧ SqL K H l [] ∧ Q z H
theorem call_minN {X : Cx} (hc : X.calm = true) : CallRK X (.builtin "min") ["default"] (rMinN X.K) := by
  intro pins s σ H xs zs us ws Q I r r2 h
  obtain ⟨l, z, rfl, rfl, hS, q⟩ := h
  cases r with
  | cons rx rr =>
    cases rr
    cases rx
    cases r2 with
    | cons rz rr =>
      cases rr
      obtain ⟨its, rv, pl, hz⟩ := I.list hS
      have e : its = [] := by cases rv; rfl
      subst e
      exact min_none (I.ok.hd hc) pl.isList fun h' tk kp => ⟨z, H, I.kept (t' := tk) kp, rz, q⟩
end Hk
end S_Wf
section S_Wg
namespace Hk
open PySem PySem.Spec PyProof.Rows L2 Tl
section
open Evl
variable {K : PySem.W.Frag} {σ : L2.St} {H H' B : Hp} {ta tb te : TE} {x y z v : V}
theorem s_retN {te : TE} {D : Ends} {R : V → Hp → Prop} (h : EvN te σ H R) (k : ∀ v H1, Ex H H1 → (∀ H3, Ex H H3 → Since H H1 H3 → R v H3) → D.rt v H1) : tRet te D σ H := h H (Ex.refl H) D.rt k
theorem s_retB {te : TE} {D : Ends} {R : V → Hp → Prop} {B : Hp} (hB : Ex B H) (h : EvN te σ B R) (k : ∀ v H1, Ex H H1 → (∀ H3, Ex B H3 → Since H H1 H3 → R v H3) → D.rt v H1) : tRet te D σ H := h H hB D.rt k
theorem q_asgN {te : TE} {tz : TS} {i : Nat} {D : Ends} {R : V → Hp → Prop} {B : Hp} (hB : Ex B H) (h : EvN te σ B R) (k : ∀ v H1, Ex H H1 → (∀ H3, Ex B H3 → Since H H1 H3 → R v H3) → tz D (σ.set i (some v)) H1) : tSeq (tAsg te (gName i)) tz D σ H := h H hB _ k
def SpN (sp : Sp) (vs : List V) (H : Hp) (R : V → Hp → Prop) : Prop := ∀ H1, Ex H H1 → ∀ Q : VK, (∀ v H2, Ex H1 H2 → (∀ H3, Ex H H3 → Since H1 H2 H3 → R v H3) → Q v H2) → ∀ E : XK, sp vs H1 Q E
theorem en_call {sp : Sp} {dvs vs : List V} {E : XK} {ta : TA} {R : V → Hp → Prop} (h : EvA ta σ H vs) (hs : SpN sp (vs ++ dvs) H R) : EvN (tCall sp dvs E ta) σ H R := fun H1 e Q q =>
  h H1 e _ fun H2 e2 => hs H2 (e.trans e2) Q (fun v H3 e3 hv => q v H3 (e2.trans e3) fun H4 h4 s4 => hv H4 h4 fun a o ha hc => s4 a o (fresh_back e2 ha) hc) E
theorem en_tup {ta : TE} {a : Addr} {xs : List V} (h : Ev ta σ H (.ref a)) (hs : SqL K H a xs) : EvN (tCB (fun xs H Q => ∃ p ys, xs = [V.ref p] ∧ ((SqL K H p ys ∧ ∀ l, H l = none → Q (V.ref l) (upd H l (HO.tup ys))) ∨ (SqT K H p ys ∧ Q (V.ref p) H))) (tCons ta tNil)) σ H
    (fun u H' => ∃ t, u = .ref t ∧ H' t = some (.tup xs)) := fun H1 e Q q =>
  h H1 e _ fun H2 e2 => ⟨a, xs, rfl, .inl ⟨ex_l (e.trans e2) hs, fun t ht => q _ _ (e2.trans (Ex.new ht)) fun H3 _ s3 => ⟨t, rfl, s3 _ _ (fresh_back e2 ht) upd_same⟩⟩⟩
theorem ei_rng2c {σ : L2.St} {H : Hp} {ta : TA} {i j : Int} {n : Nat} (hn : (j - i).toNat = n) (h : Evl.EvA ta σ H [.int i, .int j]) (h0 : -100000 ≤ i ∧ i ≤ 100000) (h1 : -100000 ≤ j ∧ j ≤ 100000) : EvI (iRng2 ta) σ H n (YFn fun k => .int (i + k)) := by
  subst hn
  exact ei_rng2 h h0 h1
theorem ei_rng1c {σ : L2.St} {H : Hp} {ta : TA} {j : Int} {n : Nat} (hn : j.toNat = n) (h : Evl.EvA ta σ H [.int j]) (h0 : 0 ≤ j) (h1 : j ≤ 100000) : EvI (iRng1 ta) σ H n (YFn fun k => .int (0 + k)) := by
  subst hn
  exact ei_rng1 h h0 h1
end
end Hk
end S_Wg
section S_Cc
namespace P05
open PySem PySem.Spec PyProof.Rows L2 Tl Hk
/-- a value, and whether it is a list of integers within bounds -/
inductive RowR (K : PySem.W.Frag) (H : Hp) (lo hi : V) : V → Bool → Prop where
  | no {x : V} {n : String} (h : Ty7 K H x n) (h1 : n ≠ "list") (h2 : n ≠ "tuple") : RowR K H lo hi x false
  | lst {a : Addr} {xs : List V} (h : SqL K H a xs) (hl : xs.length ≤ 4000) (hi_ : ∀ v ∈ xs, ∃ n, Ty7 K H v n) : RowR K H lo hi (.ref a) (xs.all fun v => wi v lo hi)
  | tup {a : Addr} {xs : List V} (h : SqT K H a xs) (hl : xs.length ≤ 4000) (hi_ : ∀ v ∈ xs, ∃ n, Ty7 K H v n) : RowR K H lo hi (.ref a) (xs.all fun v => wi v lo hi)
theorem RowR.ex {K : PySem.W.Frag} {H H' : Hp} {lo hi x : V} {r : Bool} (h : RowR K H lo hi x r) (e : Evl.Ex H H') : RowR K H' lo hi x r := by
  cases h with
  | no h h1 h2 => exact .no (h.ex e) h1 h2
  | lst h hl hi => exact .lst (Evl.ex_l e h) hl fun v hv => (hi v hv).imp fun n hn => hn.ex e
  | tup h hl hi => exact .tup (Evl.ex_t e h) hl fun v hv => (hi v hv).imp fun n hn => hn.ex e
def spRow (K : PySem.W.Frag) : Sp := fun vs H Q _ => ∃ (x lo hi : V) (r : Bool), vs = [x, lo, hi] ∧ RowR K H lo hi x r ∧ Bnd lo ∧ Bnd hi ∧ ∀ H1, Evl.Ex H H1 → Q (.bl r) H1
theorem scRow : FnScope ["value", "least", "most", "item"] ["value", "least", "most"] (defScope sRow) := ⟨rfl, rfl, rfl, by decide +kernel, rfl, by decide +kernel, by decide +kernel⟩
section
variable {P : Program} {w : World} {K : PySem.W.Frag} {mg : Str → Option Value} {base : Heap}
theorem ok_row {f fW fL : Addr} {fd fdW fdL : FuncData} {k : Nat} (F : Fun K "is_row" "is_row" sRow f fd)
    (FW : Fun K "is_within" "is_within" sWithin fW fdW) (GW : FnOk P w K mg base CX0 k fW fdW ["value", "least", "most"] (spWithin K)) (bW : Binds K fdW ["value", "least", "most"] []) (gW : mg "is_within" = some (.ref fW))
    (FL : Fun K "is_list" "is_list" sList fL fdL) (GL : FnOk P w K mg base CX0 k fL fdL ["value"] (spList K)) (bL : Binds K fdL ["value"] []) (gL : mg "is_list" = some (.ref fL)) (mall : mg "all" = none) :
    FnOk P w K mg base CX0 (k + 1) f fd ["value", "least", "most"] (spRow K) := by
  refine F.ok scRow (fun vs H Q E h => ?_) (fun cdv A outer s H vs Q E hr h => ?_)
  · obtain ⟨x, lo, hi, r, rfl, _⟩ := h
    rfl
  · obtain ⟨x, lo, hi, r, rfl, h, hlo, hhi, q⟩ := h
    have nd := scRow.nd
    have isl : ∀ {n : String}, Ty7 K H x n → Evl.Ev (tCall (spList K) [] E0 (tCons (tVar 0) tNil)) (start ["value", "least", "most", "item"] [x, lo, hi]) H (.bl (decide (n = "list") || decide (n = "tuple"))) :=
      fun h7 => Evl.ev_call (Evl.ea_cons (Evl.ev_var rfl) Evl.ea_nil) (spv_list h7)
    have items : ∀ {H1 : Hp} {xs : List V} {i : Nat} {v : V}, Evl.Ex H H1 → (∀ v ∈ xs, ∃ n, Ty7 K H v n) → xs[i]? = some v → Evl.Ev (tCall (spWithin K) [] E0 (tCons (tVar 3) (tCons (tVar 1) (tCons (tVar 2) tNil)))) [none, some lo, some hi, some v] H1 (.bl (wi (xs.getD i .non) lo hi)) :=
      fun {H1 xs i v} e hi' hv => by
        obtain ⟨n, hn⟩ := hi' v (List.mem_of_getElem? hv)
        have ev : xs.getD i .non = v := by rw [List.getD_eq_getElem?_getD, hv]; rfl
        rw [ev]
        exact Evl.ev_call (Evl.ea_cons (Evl.ev_var rfl) (Evl.ea_cons (Evl.ev_var rfl) (Evl.ea_cons (Evl.ev_var rfl) Evl.ea_nil))) (spv_within (hn.ex e) hlo hhi)
    have ebs : ∀ xs : List V, Evl.given xs.length (fun _ => true) (fun i => V.bl (wi (xs.getD i .non) lo hi)) = (xs.map fun v => wi v lo hi).map V.bl := fun xs => by
      rw [given_all xs .non fun v => V.bl (wi v lo hi), List.map_map]
      rfl
    have eall : ∀ xs : List V, (true && (xs.map fun v => wi v lo hi).all id) = xs.all fun v => wi v lo hi := fun xs => by
      rw [Bool.true_and, List.all_map]
      rfl
    cases h with
    | @no x n h7 h1 h2 =>
      refine ⟨_, pss_one (ps_ret (pe_and (pe_call GL hr (by rfl) gL FL.kp bL .nil pass0 (pa_cons (pv 0) pa_nil)) (pe_one (pe_callB (cr_all rfl) (by rfl) mall (by decide +kernel) (pa_cons
          (pe_lc (own := [("item", 3)]) (g := gName 3) (tt := tYes) rfl nd (pi_list (pv 0)) (blkOk_by (N := ["value", "least", "most", "item"]) (sc := defScope sRow) (by decide +kernel)) (fun _ _ _ _ _ => pg_name (i := 3) nd rfl (Or.inl rfl)) (fun _ _ _ _ _ => pts_nil)
            (fun _ _ _ _ _ => pe_call GW (hr) (by rfl) gW FW.kp bW .nil pass0 (pa_cons (pv 3) (pa_cons (pv 1) (pa_cons (pv 2) pa_nil))))) pa_nil))))), ?_⟩
      have eb : (decide (n = "list") || decide (n = "tuple")) = false := by simp [h1, h2]
      exact Evl.s_ret (Evl.ev_is (Evl.ev_andV (b := false) (isl h7) fun z => by rw [eb] at z; cases z) (by rw [eb] <;> rfl)) q
    | @lst a xs hS hl hi0 =>
      refine ⟨_, pss_one (ps_ret (pe_and (pe_call GL hr (by rfl) gL FL.kp bL .nil pass0 (pa_cons (pv 0) pa_nil)) (pe_one (pe_callB (cr_all rfl) (by rfl) mall (by decide +kernel) (pa_cons
          (pe_lc (own := [("item", 3)]) (g := gName 3) (tt := tYes) rfl nd (pi_list (pv 0)) (blkOk_by (N := ["value", "least", "most", "item"]) (sc := defScope sRow) (by decide +kernel)) (fun _ _ _ _ _ => pg_name (i := 3) nd rfl (Or.inl rfl)) (fun _ _ _ _ _ => pts_nil)
            (fun _ _ _ _ _ => pe_call GW (hr) (by rfl) gW FW.kp bW .nil pass0 (pa_cons (pv 3) (pa_cons (pv 1) (pa_cons (pv 2) pa_nil))))) pa_nil))))), ?_⟩
      refine Evl.s_ret (Evl.ev_is (Evl.ev_andV (isl (.lst hS)) fun _ => ev_allN (bs := xs.map fun v => wi v lo hi) ?_) (congrArg V.bl (eall xs))) q
      rw [← ebs]
      exact Evl.el_lcL (fun _ => true) _ (Evl.ev_var rfl) hS (by omega) (fun _ => rfl) (fun _ _ _ _ _ => et_yes) fun i v H1 e1 hv _ => items e1 hi0 hv
    | @tup a xs hS hl hi0 =>
      refine ⟨_, pss_one (ps_ret (pe_and (pe_call GL hr (by rfl) gL FL.kp bL .nil pass0 (pa_cons (pv 0) pa_nil)) (pe_one (pe_callB (cr_all rfl) (by rfl) mall (by decide +kernel) (pa_cons
          (pe_lc (own := [("item", 3)]) (g := gName 3) (tt := tYes) rfl nd (pi_tup (pv 0)) (blkOk_by (N := ["value", "least", "most", "item"]) (sc := defScope sRow) (by decide +kernel)) (fun _ _ _ _ _ => pg_name (i := 3) nd rfl (Or.inl rfl)) (fun _ _ _ _ _ => pts_nil)
            (fun _ _ _ _ _ => pe_call GW (hr) (by rfl) gW FW.kp bW .nil pass0 (pa_cons (pv 3) (pa_cons (pv 1) (pa_cons (pv 2) pa_nil))))) pa_nil))))), ?_⟩
      refine Evl.s_ret (Evl.ev_is (Evl.ev_andV (isl (.tup hS)) fun _ => ev_allN (bs := xs.map fun v => wi v lo hi) ?_) (congrArg V.bl (eall xs))) q
      rw [← ebs]
      exact el_lcT (fun _ => true) _ (Evl.ev_var rfl) hS (by omega) (fun _ => rfl) (fun _ _ _ _ _ => et_yes) fun i v H1 e1 hv _ => items e1 hi0 hv
end
end P05
end S_Cc
section S_Cd
namespace P05
open PySem PySem.Spec PyProof.Rows L2 Tl Hk
theorem scLot : FnScope ["value"] ["value"] (defScope sLot) := ⟨rfl, rfl, rfl, by decide +kernel, rfl, by decide +kernel, by decide +kernel⟩
/-- whether these items are a lot -/
def lotV (xs : List V) : Bool := xs.all (fun v => wi v (.int 1) .non) && decide xs.Nodup
/-- a value, and whether it is a lot -/
inductive LotR (K : PySem.W.Frag) (H : Hp) : V → Bool → Prop where
  | no {x : V} {n : String} (h : Ty7 K H x n) (h1 : n ≠ "list") (h2 : n ≠ "tuple") : LotR K H x false
  | lst {a : Addr} {xs : List V} (h : SqL K H a xs) (hl : xs.length ≤ 4000) (hi : ∀ v ∈ xs, ∃ n, Ty7 K H v n) : LotR K H (.ref a) (lotV xs)
  | tup {a : Addr} {xs : List V} (h : SqT K H a xs) (hl : xs.length ≤ 4000) (hi : ∀ v ∈ xs, ∃ n, Ty7 K H v n) : LotR K H (.ref a) (lotV xs)
theorem LotR.ex {K : PySem.W.Frag} {H H' : Hp} {x : V} {r : Bool} (h : LotR K H x r) (e : Evl.Ex H H') : LotR K H' x r := by
  cases h with
  | no h h1 h2 => exact .no (h.ex e) h1 h2
  | lst h hl hi => exact .lst (Evl.ex_l e h) hl fun v hv => (hi v hv).imp fun n hn => hn.ex e
  | tup h hl hi => exact .tup (Evl.ex_t e h) hl fun v hv => (hi v hv).imp fun n hn => hn.ex e
def spLot (K : PySem.W.Frag) : Sp := fun vs H Q _ => ∃ (x : V) (r : Bool), vs = [x] ∧ LotR K H x r ∧ ∀ H1, Evl.Ex H H1 → Q (.bl r) H1
theorem spv_lot {K : PySem.W.Frag} {H : Hp} {x : V} {r : Bool} (h : LotR K H x r) : Evl.SpV (spLot K) [x] H (.bl r) := fun H1 e Q q E => ⟨x, r, rfl, h.ex e, q⟩
theorem all_ints : ∀ {xs : List V}, xs.all (fun v => wi v (.int 1) .non) = true → ∃ ns : List Int, xs = ns.map V.int
  | [], _ => ⟨[], rfl⟩
  | x :: r, h => by
    rw [List.all_cons, Bool.and_eq_true_iff] at h
    obtain ⟨ns, e⟩ := all_ints h.2
    cases x with
    | int i => exact ⟨i :: ns, by rw [e]; rfl⟩
    | _ => exact absurd h.1 (by intro z; cases z)
theorem nodup_int (ns : List Int) : (ns.map V.int).Nodup ↔ ns.Nodup := by
  induction ns with
  | nil => exact ⟨fun _ => List.nodup_nil, fun _ => List.nodup_nil⟩
  | cons a r ih =>
    rw [List.map_cons, List.nodup_cons, List.nodup_cons, ih]
    refine and_congr (not_congr ?_) Iff.rfl
    rw [List.mem_map]
    exact ⟨fun ⟨b, hb, e⟩ => V.int.inj e ▸ hb, fun h => ⟨a, h, rfl⟩⟩
theorem spv_row {K : PySem.W.Frag} {H : Hp} {x lo hi : V} {r : Bool} (h : RowR K H lo hi x r) (h1 : Bnd lo) (h2 : Bnd hi) : Evl.SpV (spRow K) [x, lo, hi] H (.bl r) := fun H1 e Q q E => ⟨x, lo, hi, r, rfl, h.ex e, h1, h2, q⟩
/-- whether these items are unlike integers from lo on -/
def unV (lo : V) (xs : List V) : Bool := xs.all (fun v => wi v lo .non) && decide xs.Nodup
inductive UnR (K : PySem.W.Frag) (H : Hp) (lo : V) : V → Bool → Prop where
  | no {x : V} {n : String} (h : Ty7 K H x n) (h1 : n ≠ "list") (h2 : n ≠ "tuple") : UnR K H lo x false
  | lst {a : Addr} {xs : List V} (h : SqL K H a xs) (hl : xs.length ≤ 4000) (hi : ∀ v ∈ xs, ∃ n, Ty7 K H v n) : UnR K H lo (.ref a) (unV lo xs)
  | tup {a : Addr} {xs : List V} (h : SqT K H a xs) (hl : xs.length ≤ 4000) (hi : ∀ v ∈ xs, ∃ n, Ty7 K H v n) : UnR K H lo (.ref a) (unV lo xs)
theorem UnR.ex {K : PySem.W.Frag} {H H' : Hp} {lo x : V} {r : Bool} (h : UnR K H lo x r) (e : Evl.Ex H H') : UnR K H' lo x r := by
  cases h with
  | no h h1 h2 => exact .no (h.ex e) h1 h2
  | lst h hl hi => exact .lst (Evl.ex_l e h) hl fun v hv => (hi v hv).imp fun n hn => hn.ex e
  | tup h hl hi => exact .tup (Evl.ex_t e h) hl fun v hv => (hi v hv).imp fun n hn => hn.ex e
def spUn (K : PySem.W.Frag) : Sp := fun vs H Q _ => ∃ (x lo : V) (r : Bool), vs = [x, lo] ∧ UnR K H lo x r ∧ Bnd lo ∧ ∀ H1, Evl.Ex H H1 → Q (.bl r) H1
theorem spv_un {K : PySem.W.Frag} {H : Hp} {x lo : V} {r : Bool} (h : UnR K H lo x r) (h1 : Bnd lo) : Evl.SpV (spUn K) [x, lo] H (.bl r) := fun H1 e Q q E => ⟨x, lo, r, rfl, h.ex e, h1, q⟩
theorem ints_of {lo : V} : ∀ {xs : List V}, xs.all (fun v => wi v lo .non) = true → ∃ ns : List Int, xs = ns.map V.int
  | [], _ => ⟨[], rfl⟩
  | x :: r, h => by
    rw [List.all_cons, Bool.and_eq_true_iff] at h
    obtain ⟨ns, e⟩ := ints_of h.2
    cases x with
    | int i => exact ⟨i :: ns, by rw [e]; rfl⟩
    | _ => exact absurd h.1 (by intro z; cases z)
theorem un_end {xs : List V} {ns : List Int} {c : Nat} (e : xs = ns.map V.int) (hc : c = ns.length ↔ ns.Nodup) : decide (V.int (c : Int) = V.int (xs.length : Int)) = decide xs.Nodup := by
  subst e
  refine decide_eq_decide.mpr ?_
  rw [nodup_int, ← hc, List.length_map]
  exact ⟨fun z => by have := V.int.inj z; omega, fun z => by rw [z]⟩
theorem scUn : FnScope ["value", "least"] ["value", "least"] (defScope sUn) := ⟨rfl, rfl, rfl, by decide +kernel, rfl, by decide +kernel, by decide +kernel⟩
section
variable {P : Program} {w : World} {K : PySem.W.Frag} {mg : Str → Option Value} {base : Heap}
theorem ok_unlike {f fR : Addr} {fd fdR : FuncData} {k : Nat} (F : Fun K "are_unlike" "are_unlike" sUn f fd)
    (FR : Fun K "is_row" "is_row" sRow fR fdR) (GR : FnOk P w K mg base CX0 k fR fdR ["value", "least", "most"] (spRow K)) (bR : Binds K fdR ["value", "least", "most"] []) (gR : mg "is_row" = some (.ref fR))
    (mlen : mg "len" = none) (mset : mg "set" = none) : FnOk P w K mg base CX0 (k + 1) f fd ["value", "least"] (spUn K) := by
  refine F.ok scUn (fun vs H Q E h => ?_) (fun cdv A outer s H vs Q E hr h => ?_)
  · obtain ⟨x, lo, r, rfl, _⟩ := h
    rfl
  · obtain ⟨x, lo, r, rfl, h, hlo, q⟩ := h
    cases h with
    | @no x n h7 h1 h2 =>
      refine ⟨_, pss_one (ps_ret (pe_and (pe_call GR hr (by rfl) gR FR.kp bR .nil pass0 (pa_cons (pv 0) (pa_cons (pv 1) (pa_cons pe_non pa_nil)))) (pe_one (pe_cmpR op_eq (pe_lenSetN (by rfl) mlen (by rfl) mset (pv 0)) (pe_callB call_len_seq (by rfl) mlen PySem.boot_len (pa_cons (pv 0) pa_nil)) (nomark _))))), ?_⟩
      exact Evl.s_ret (Evl.ev_andV (b := false) (Evl.ev_call (Evl.ea_cons (Evl.ev_var rfl) (Evl.ea_cons (Evl.ev_var rfl) (Evl.ea_cons Evl.ev_c Evl.ea_nil))) (spv_row (.no h7 h1 h2) hlo trivial)) fun z => nomatch z) q
    | @lst a xs hS hl hi =>
      refine ⟨_, pss_one (ps_ret (pe_and (pe_call GR hr (by rfl) gR FR.kp bR .nil pass0 (pa_cons (pv 0) (pa_cons (pv 1) (pa_cons pe_non pa_nil)))) (pe_one (pe_cmpR op_eq (pe_lenSetN (by rfl) mlen (by rfl) mset (pv 0)) (pe_callB call_len_seq (by rfl) mlen PySem.boot_len (pa_cons (pv 0) pa_nil)) (nomark _))))), ?_⟩
      refine Evl.s_ret (v := .bl (unV lo xs)) (Evl.ev_andV (Evl.ev_call (Evl.ea_cons (Evl.ev_var rfl) (Evl.ea_cons (Evl.ev_var rfl) (Evl.ea_cons Evl.ev_c Evl.ea_nil))) (spv_row (.lst hS hl hi) hlo trivial)) fun ha H1 e Q' q' => ?_) q
      obtain ⟨ns, en⟩ := ints_of ha
      refine ⟨.ref a, rfl, a, ns, rfl, en ▸ Evl.ex_l e hS, by rw [en, List.length_map] at hl; exact hl, fun c hc => ⟨.ref a, rfl, a, xs, rfl, .inl (Evl.ex_l e hS), rfl, ?_⟩⟩
      rw [un_end en hc]
      exact q' H1 (Evl.Ex.refl _)
    | @tup a xs hS hl hi =>
      refine ⟨_, pss_one (ps_ret (pe_and (pe_call GR hr (by rfl) gR FR.kp bR .nil pass0 (pa_cons (pv 0) (pa_cons (pv 1) (pa_cons pe_non pa_nil)))) (pe_one (pe_cmpR op_eq (pe_lenSetU (by rfl) mlen (by rfl) mset (pv 0)) (pe_callB call_len_seq (by rfl) mlen PySem.boot_len (pa_cons (pv 0) pa_nil)) (nomark _))))), ?_⟩
      refine Evl.s_ret (v := .bl (unV lo xs)) (Evl.ev_andV (Evl.ev_call (Evl.ea_cons (Evl.ev_var rfl) (Evl.ea_cons (Evl.ev_var rfl) (Evl.ea_cons Evl.ev_c Evl.ea_nil))) (spv_row (.tup hS hl hi) hlo trivial)) fun ha H1 e Q' q' => ?_) q
      obtain ⟨ns, en⟩ := ints_of ha
      refine ⟨.ref a, rfl, a, ns, rfl, en ▸ Evl.ex_t e hS, by rw [en, List.length_map] at hl; exact hl, fun c hc => ⟨.ref a, rfl, a, xs, rfl, .inr (Evl.ex_t e hS), rfl, ?_⟩⟩
      rw [un_end en hc]
      exact q' H1 (Evl.Ex.refl _)
theorem LotR.un {H : Hp} {x : V} {r : Bool} (h : LotR K H x r) : UnR K H (.int 1) x r := by
  cases h with
  | no h h1 h2 => exact .no h h1 h2
  | lst h hl hi => exact .lst h hl hi
  | tup h hl hi => exact .tup h hl hi
theorem ok_lot {f fU : Addr} {fd fdU : FuncData} {k : Nat} (F : Fun K "is_lot" "is_lot" sLot f fd) (FU : Fun K "are_unlike" "are_unlike" sUn fU fdU) (GU : FnOk P w K mg base CX0 k fU fdU ["value", "least"] (spUn K)) (bU : Binds K fdU ["value", "least"] []) (gU : mg "are_unlike" = some (.ref fU)) :
    FnOk P w K mg base CX0 (k + 1) f fd ["value"] (spLot K) := by
  refine F.ok scLot (fun vs H Q E h => ?_) (fun cdv A outer s H vs Q E hr h => ?_)
  · obtain ⟨x, r, rfl, _⟩ := h
    rfl
  · obtain ⟨x, r, rfl, h, q⟩ := h
    refine ⟨_, pss_one (ps_ret (pe_call GU hr (by rfl) gU FU.kp bU .nil pass0 (pa_cons (pv 0) (pa_cons pe_int pa_nil)))), ?_⟩
    exact Evl.s_ret (Evl.ev_call (Evl.ea_cons (Evl.ev_var rfl) (Evl.ea_cons Evl.ev_c Evl.ea_nil)) (spv_un h.un trivial)) q
end
end P05
end S_Cd
section S_Yz
namespace Tl
open PySem PySem.Spec PyProof.Rows L2
/-- the pairs of a zip: keys by ints -/
abbrev zipK (ks : List Int) (ys : List V) : List (L2.Key × V) := (ks.map Sum.inl).zip ys
def tDictZip (K : PySem.W.Frag) (ta : TA) : TE := fun σ H Q => ta σ H fun vs H1 => ∃ (a b : Addr) (ks : List Int) (ys : List V), vs = [.ref a, .ref b] ∧ SqT K H1 a (ks.map V.int) ∧ SqT K H1 b ys ∧ ys.length = ks.length ∧
  ∀ p, H1 p = none → Q (.ref p) (upd H1 p (.dK (mergeK [] (zipK ks ys))))
theorem kv_zip {P : Program} {w : World} : ∀ {ks : List Int} {ys : List V} {us vs : List Value}, Vals (ks.map V.int) us → Vals ys vs → KV (zipK ks ys) ((ks.map (Sum.inl : Int → L2.Key)).zip vs) ∧ ∀ (i : Nat) (k v : Value), us[i]? = some k → vs[i]? = some v → ∃ q, ((ks.map (Sum.inl : Int → L2.Key)).zip vs)[i]? = some (q, v) ∧ (mixKind P w).is q k = true
  | [], ys, us, vs, r1, r2 => by
    cases r1
    exact ⟨.nil, fun i k v h => by simp at h⟩
  | k :: ks, [], us, vs, r1, r2 => by
    cases r2
    exact ⟨.nil, fun i k v _ h => by simp at h⟩
  | k :: ks, y :: ys, _, _, r1, r2 => by
    rw [List.map_cons] at r1
    cases r1 with
    | @cons _ u _ us hu t1 =>
      cases r2 with
      | @cons _ v _ vs hv t2 =>
        obtain ⟨a1, a2⟩ := kv_zip (P := P) (w := w) t1 t2
        refine ⟨.cons ⟨rfl, hv⟩ a1, fun i k' v' h1 h2 => ?_⟩
        cases i with
        | zero =>
          cases h1
          cases h2
          exact ⟨_, rfl, kV_is (P := P) (w := w) (k := Sum.inl k) hu⟩
        | succ i => exact a2 i k' v' (by simpa using h1) (by simpa using h2)
theorem pe_dictZip {X : Cx} {e e2 : Expr} {ta : TA} {p p2 q pos : Pos} (hg : Gl X "dict") (hm : X.mg "dict" = none) (hg2 : Gl X "zip") (hm2 : X.mg "zip" = none) (ha : PA X [e, e2] ta) (hc : X.calm = true := by rfl)
    (ns : starEach [e, e2] X.env = (false, eval e X.env) :: starEach [e2] X.env := by rfl) (np : (backTo q (starEach [e2] X.env)).any (·.1) = false := by rfl)
    (na : starEach [Expr.Call (.Name "zip" p2) [e, e2] [] q] X.env = (false, eval (Expr.Call (.Name "zip" p2) [e, e2] [] q) X.env) :: starEach [] X.env := by rfl) :
    PE X (.Call (.Name "dict" p) [.Call (.Name "zip" p2) [e, e2] [] q] [] pos) (tDictZip X.K ta) := by
  constructor
  intro pins s σ H Q I h
  refine Call_ (ld_blt I hg hm (show bootBuiltins "dict" = some (.type "dict") by decide +kernel) (PyProof.Rows.callWith_type1 (args_cons (Call_ (ld_blt I hg2 hm2 boot_zip (PyProof.Rows.callWith_type1 (thn (ha.run q pins s σ H _ I h) fun us s1 hv => ?_) ns np))) na) na rfl))
  obtain ⟨vs, H1, I1, r1, a, b, ks, ys, rfl, hA, hB, hl, q1⟩ := hv
  obtain ⟨u1, u2, rfl, ra, rb⟩ := vals2 r1
  cases ra
  cases rb
  obtain ⟨ua, va, pa, za⟩ := I1.tuple hA
  obtain ⟨ub, vb, pb, zb⟩ := I1.tuple hB
  have la : a < s1.heap.objs.size := by obtain ⟨o, ho, _⟩ := pa; exact Heap.lt_size ho
  have lb : b < s1.heap.objs.size := by obtain ⟨o, ho, _⟩ := pb; exact Heap.lt_size ho
  have D : ZipApart (s1.heap.objs.size + 4) (s1.heap.objs.size + 2) (s1.heap.objs.size + 3) s1.heap.objs.size (s1.heap.objs.size + 1) a b := PySem.W.ktu_apart _ _ _ la lb
  have n1 : ua.length = ks.length := by rw [← va.length, List.length_map]
  have n2 : ub.length = ks.length := by rw [← vb.length, hl]
  obtain ⟨rel, fits⟩ := kv_zip (P := X.prog) (w := X.w) va vb
  refine RZ.call_zipT pa pb fun g hz hTI hTO hi1 hi2 hsz hk => args_nil ?_
  have ok : ZOk (s1.heap.objs.size + 4) (s1.heap.objs.size + 2) (s1.heap.objs.size + 3) s1.heap.objs.size (s1.heap.objs.size + 1) a b ua.toArray ub.toArray g :=
    ⟨hz, hTI, ⟨_, _, hTO⟩, ⟨hi1, Heap.IsTuple.at pa fun o => hk _ o⟩, hi2, Heap.IsTuple.at pb fun o => hk _ o⟩
  have I2 : Inv X pins σ H1 { s1 with heap := g } := I1.kept (t' := s1.toks) hk
  refine call_dict_pairs (knd := mixKind X.prog X.w) (kvs := (ks.map (Sum.inl : Int → L2.Key)).zip ub) (pair_arg_zip (P := X.prog) (w := X.w) D (xs := ua.toArray) (ys := ub.toArray) (by simp [n1, n2])) (I1.ok.hd hc) ok ⟨by simp [n1, n2], fun i k v h => fits i k v (by simpa using h.1) (by simpa using h.2)⟩ (by
    rw [List.length_map] at za
    simp only [List.size_toArray]
    rw [n1]
    exact za) fun g2 tk hd hk2 => ?_
  have gz : g.objs.size = s1.heap.objs.size + 5 := hsz
  have hlen : (mergeK [] (zipK ks ys)).length ≤ sizeLine := by
    refine Nat.le_trans (length_mergeK _ []) ?_
    rw [List.length_nil, Nat.zero_add, List.length_zip, List.length_map, hl, Nat.min_self]
    rw [List.length_map] at za
    exact za
  have hm3 : (g.objs.size == sysModules) = false := beq_eq_false_iff_ne.mpr (Nat.ne_of_gt (by rw [gz]; exact Nat.lt_add_right 5 I1.big))
  have hold : ∀ b o, s1.heap.get? b = some o → g2.get? b = some o := fun b o e => by
    have lt := Heap.lt_size e
    have e5 : ∀ k, b ≠ s1.heap.objs.size + k := fun k z => Nat.lt_irrefl _ (Nat.lt_of_le_of_lt (Nat.le_add_right s1.heap.objs.size k) (z ▸ lt))
    refine hk2 b o (fun z => ?_) (hk b o e)
    simp only [List.mem_cons, List.not_mem_nil, or_false] at z
    rcases z with z | z | z | z
    · exact e5 4 z
    · exact e5 3 z
    · exact e5 0 z
    · exact e5 1 z
  have le : s1.heap.objs.size ≤ g.objs.size := by rw [gz]; exact Nat.le_add_right _ _
  exact ⟨.ref g.objs.size, upd H1 g.objs.size (.dK (mergeK [] (zipK ks ys))), I1.laid (t' := tk) hold le (show ObjOk X.prog X.w _ _ _ (.dK (mergeK [] (zipK ks ys))) from ⟨hlen, hm3, merged [] ((ks.map (Sum.inl : Int → L2.Key)).zip ub), KV.merge rel .nil, hd⟩), rfl, q1 _ (I1.hok.fresh le)⟩
end Tl
end S_Yz
section S_Ce
namespace P05
open PySem PySem.Spec PyProof.Rows L2 Tl Hk
theorem lot_yes {ns : List Int} (h1 : ∀ x ∈ ns, 1 ≤ x) (h2 : ns.Nodup) : lotV (ns.map V.int) = true := by
  unfold lotV
  rw [decide_eq_true ((nodup_int ns).mpr h2), Bool.and_true, List.all_eq_true]
  intro v hv
  obtain ⟨i, hi, rfl⟩ := List.mem_map.mp hv
  show (decide (1 ≤ i) && true) = true
  rw [decide_eq_true (h1 i hi)]
  rfl
theorem in_ints (x : Int) (ns : List Int) : inV (.int x) (ns.map V.int) = decide (x ∈ ns) := by
  unfold inV
  induction ns with
  | nil => rfl
  | cons a r ih =>
    rw [List.map_cons, List.any_cons, ih]
    have e : eqV (.int a) (.int x) = decide (x = a) := by
      show decide (a = x) = decide (x = a)
      exact decide_eq_decide.mpr eq_comm
    rw [e, ← Bool.decide_or]
    exact decide_eq_decide.mpr List.mem_cons.symm
theorem flat_ints (ns : List Int) : (ns.map V.int).all flatV = true := by
  rw [List.all_eq_true]
  intro v hv
  obtain ⟨i, _, rfl⟩ := List.mem_map.mp hv
  rfl
/-- turns that a web may have -/
structure OkT (ts : List (List Int)) : Prop where
  pos : 1 ≤ ts.length
  most : ts.length ≤ 1000
  pl : ∀ (i : Nat) (ns : List Int), ts[i]? = some ns → ns.Nodup ∧ (∀ x ∈ ns, 1 ≤ x ∧ x ≤ (ts.length : Int)) ∧ ((i : Int) + 1) ∉ ns
  sym : ∀ (i : Nat) (ns : List Int) (o : Int), ts[i]? = some ns → o ∈ ns → ∃ ms, ts[(o - 1).toNat]? = some ms ∧ ((i : Int) + 1) ∈ ms
  few : (ts.map List.length).sum ≤ 30000
theorem nodup_len {n : Nat} : ∀ {ns : List Int}, ns.Nodup → (∀ x ∈ ns, 1 ≤ x ∧ x ≤ (n : Int)) → ns.length ≤ n := by
  induction n with
  | zero =>
    intro ns _ h
    cases ns with
    | nil => exact Nat.le_refl _
    | cons x r => have := h x List.mem_cons_self; omega
  | succ n ih =>
    intro ns hn h
    by_cases hm : ((n + 1 : Nat) : Int) ∈ ns
    · have h2 := ih (hn.erase ((n + 1 : Nat) : Int)) fun x hx => by
        have := hn.mem_erase_iff.mp hx
        have := h x this.2
        omega
      rw [List.length_erase_of_mem hm] at h2
      omega
    · have h2 := ih hn fun x hx => by
        have := h x hx
        have : x ≠ ((n + 1 : Nat) : Int) := fun z => hm (z ▸ hx)
        omega
      omega
theorem OkT.short {ts : List (List Int)} (T : OkT ts) {i : Nat} {ns : List Int} (h : ts[i]? = some ns) : ns.length ≤ 1000 := by
  obtain ⟨a, b, _⟩ := T.pl i ns h
  exact Nat.le_trans (nodup_len a b) T.most
/-- the lists (tuples) of ints at as -/
def RowsL (H : Hp) (as : List Addr) (ts : List (List Int)) : Prop := as.length = ts.length ∧ ∀ (i : Nat) (a : Addr) (ns : List Int), as[i]? = some a → ts[i]? = some ns → H a = some (.lst (ns.map V.int))
def RowsT (H : Hp) (as : List Addr) (ts : List (List Int)) : Prop := as.length = ts.length ∧ ∀ (i : Nat) (a : Addr) (ns : List Int), as[i]? = some a → ts[i]? = some ns → H a = some (.tup (ns.map V.int))
/-- a list of lists, a tuple of tuples -/
def LL (H : Hp) (l : Addr) (ts : List (List Int)) : Prop := ∃ as : List Addr, H l = some (.lst (as.map V.ref)) ∧ RowsL H as ts
def TT (H : Hp) (l : Addr) (ts : List (List Int)) : Prop := ∃ as : List Addr, H l = some (.tup (as.map V.ref)) ∧ RowsT H as ts
theorem RowsL.ex {A B : Hp} {as : List Addr} {ts : List (List Int)} (h : RowsL A as ts) (e : Evl.Ex A B) : RowsL B as ts := ⟨h.1, fun i a ns h1 h2 => e _ _ (h.2 i a ns h1 h2)⟩
theorem RowsT.ex {A B : Hp} {as : List Addr} {ts : List (List Int)} (h : RowsT A as ts) (e : Evl.Ex A B) : RowsT B as ts := ⟨h.1, fun i a ns h1 h2 => e _ _ (h.2 i a ns h1 h2)⟩
theorem LL.ex {A B : Hp} {l : Addr} {ts : List (List Int)} (h : LL A l ts) (e : Evl.Ex A B) : LL B l ts := h.imp fun as h => ⟨e _ _ h.1, h.2.ex e⟩
theorem TT.ex {A B : Hp} {l : Addr} {ts : List (List Int)} (h : TT A l ts) (e : Evl.Ex A B) : TT B l ts := h.imp fun as h => ⟨e _ _ h.1, h.2.ex e⟩
theorem refs_getD {as : List Addr} {i : Nat} {a : Addr} (h : as[i]? = some a) : (as.map V.ref).getD i .non = .ref a := by
  rw [List.getD_eq_getElem?_getD, List.getElem?_map, h]
  rfl
theorem ints_getD {ns : List Int} {i : Nat} (h : i < ns.length) : (ns.map V.int).getD i .non = .int (ns.getD i 0) := by
  rw [List.getD_eq_getElem?_getD, List.getElem?_map, List.getD_eq_getElem?_getD, List.getElem?_eq_getElem h]
  rfl
theorem both_at {α β : Type} {as : List α} {bs : List β} (h : as.length = bs.length) {i : Nat} (hi : i < as.length) : ∃ a b, as[i]? = some a ∧ bs[i]? = some b := ⟨as[i], bs[i]'(h ▸ hi), List.getElem?_eq_getElem hi, List.getElem?_eq_getElem _⟩
section
open Evl
variable {K : PySem.W.Frag} {σ : L2.St} {H : Hp}
theorem ev_allH {ta : TE} {n : Nat} (h : EvNL ta σ H (Holds (fun _ v _ => v = .bl true) n)) : Ev (tCB (rAll K) (tCons ta tNil)) σ H (.bl true) := fun H1 e Q q =>
  h H1 e _ fun p xs H2 hp e2 h2 hL => by
    obtain ⟨_, a2⟩ := hL H2 (e.trans e2) fun a o _ _ h => h
    have ex : xs = (List.replicate xs.length true).map V.bl := by
      rw [List.map_replicate]
      exact List.eq_replicate_iff.mpr ⟨rfl, fun v hv => by
        obtain ⟨i, hi, rfl⟩ := List.mem_iff_getElem.mp hv
        exact a2 i _ (List.getElem?_eq_getElem hi)⟩
    refine ⟨p, List.replicate xs.length true, rfl, sq_of (by rw [← ex]; exact h2), ?_⟩
    have : (List.replicate xs.length true).all id = true := List.all_eq_true.mpr fun b hb => (List.mem_replicate.mp hb).2
    rw [this]
    exact q H2 e2
theorem ev_allR {ta : TE} {β : Type} {bs : List β} (h : EvNL ta σ H (Row2 (fun _ v _ => v = .bl true) bs)) : Ev (tCB (rAll K) (tCons ta tNil)) σ H (.bl true) :=
  ev_allH (n := bs.length) fun H1 e Q q => h H1 e Q fun p xs H2 hp e2 h2 hL => q p xs H2 hp e2 h2 fun H3 h3 k => by
    obtain ⟨a1, a2⟩ := hL H3 h3 k
    exact ⟨a1, fun i v hv => by
      have hi := (List.getElem?_eq_some_iff.mp hv).1
      exact a2 i (bs[i]'(by omega)) v (List.getElem?_eq_getElem _) hv⟩
end
theorem scIsTurn : FnScope ["turn", "place", "many", "other"] ["turn", "place", "many"] (defScope sIsTurn) := ⟨rfl, rfl, rfl, by decide +kernel, rfl, by decide +kernel, by decide +kernel⟩
theorem scAre : FnScope ["turns", "many", "at", "turn", "tied", "other"] ["turns"] (defScope sAreTurns) := ⟨rfl, rfl, rfl, by decide +kernel, rfl, by decide +kernel, by decide +kernel⟩
def spIsTurn (K : PySem.W.Frag) : Sp := fun vs H Q _ => ∃ (a : Addr) (ns : List Int) (p m : Int), vs = [.ref a, .int p, .int m] ∧ SqL K H a (ns.map V.int) ∧ ns.length ≤ 4000 ∧ ns.Nodup ∧ (∀ x ∈ ns, 1 ≤ x ∧ x ≤ m) ∧ p ∉ ns ∧ ∀ H1, Evl.Ex H H1 → Q (.bl true) H1
theorem spv_isTurn {K : PySem.W.Frag} {H : Hp} {a : Addr} {ns : List Int} {p m : Int} (h : SqL K H a (ns.map V.int)) (hl : ns.length ≤ 4000) (hn : ns.Nodup) (hb : ∀ x ∈ ns, 1 ≤ x ∧ x ≤ m) (hp : p ∉ ns) : Evl.SpV (spIsTurn K) [.ref a, .int p, .int m] H (.bl true) :=
  fun H1 e Q q E => ⟨a, ns, p, m, rfl, Evl.ex_l e h, hl, hn, hb, hp, q⟩
section
variable {P : Program} {w : World} {K : PySem.W.Frag} {mg : Str → Option Value} {base : Heap}
theorem ok_isTurn {f fO : Addr} {fd fdO : FuncData} {k : Nat} (F : Fun K "_is_turn" "_is_turn" sIsTurn f fd)
    (FO : Fun K "is_lot" "is_lot" sLot fO fdO) (GO : FnOk P w K mg base CX0 k fO fdO ["value"] (spLot K)) (bO : Binds K fdO ["value"] []) (gO : mg "is_lot" = some (.ref fO)) (mall : mg "all" = none) :
    FnOk P w K mg base CX0 (k + 1) f fd ["turn", "place", "many"] (spIsTurn K) := by
  refine F.ok scIsTurn (fun vs H Q E h => ?_) (fun cdv A outer s H vs Q E hr h => ?_)
  · obtain ⟨a, ns, p, m, rfl, _⟩ := h
    rfl
  · obtain ⟨a, ns, p, m, rfl, hS, hl, hn, hb, hp, q⟩ := h
    have nd := scIsTurn.nd
    refine ⟨_, pss_one (ps_ret (pe_and (pe_call GO hr (by rfl) gO FO.kp bO .nil pass0 (pa_cons (pv 0) pa_nil)) (pe_and (pe_cmpR op_notIn_seq (pv 1) (pv 0) (by rfl)) (pe_one (pe_callB (cr_all rfl) (by rfl) mall (by decide +kernel) (pa_cons
      (pe_lc (own := [("other", 3)]) (g := gName 3) (tt := tYes) rfl nd (pi_list (pv 0)) (blkOk_by (N := ["turn", "place", "many", "other"]) (sc := defScope sIsTurn) (by decide +kernel)) (fun _ _ _ _ _ => pg_name (i := 3) nd rfl (Or.inl rfl)) (fun _ _ _ _ _ => pts_nil)
        (fun _ _ _ _ _ => pe_cmpR op_le (pv 3) (pv 2) (nomark _))) pa_nil)))))), ?_⟩
    have hlot := lot_yes (ns := ns) (fun x hx => (hb x hx).1) hn
    refine Evl.s_ret (v := .bl true) (Evl.ev_is (Evl.ev_andV (a := true) (b := true) (Evl.ev_is (Evl.ev_call (Evl.ea_cons (Evl.ev_var rfl) Evl.ea_nil) (spv_lot (.lst hS (by rw [List.length_map]; exact hl) fun v hv => by
      obtain ⟨i, _, rfl⟩ := List.mem_map.mp hv
      exact ⟨_, .int i⟩))) (by rw [hlot])) fun _ => Evl.ev_is (Evl.ev_andV (a := true) (b := true) (Evl.ev_is (Evl.ev_op (Evl.ev_var rfl) (Evl.ev_var rfl) (Evl.rv_niL hS rfl (flat_ints ns))) (by rw [in_ints, decide_eq_false hp] <;> rfl)) fun _ => ?_) rfl) rfl) fun H1 e1 => q H1 e1
    refine ev_allH (n := ns.length) ?_
    have e0 : ns.length = (ns.map V.int).length := by rw [List.length_map]
    rw [e0]
    refine en_lc (ei_list (Evl.ev_var rfl) hS) aims_at (fun _ => rfl) (by rw [List.length_map]; omega) _ fun i hi => en_v ?_
    rw [List.length_map] at hi
    have hm := (hb _ (List.getElem_mem hi)).2
    refine Evl.ev_is (Evl.ev_op (x := .int ns[i]) (Evl.ev_is (Evl.ev_var rfl) ?_) (Evl.ev_var rfl) Evl.rv_I0) (by rw [decide_eq_true hm])
    rw [ints_getD hi, List.getD_eq_getElem?_getD, List.getElem?_eq_getElem hi]
    rfl
end
end P05
end S_Ce
section S_Cf
namespace P05
open PySem PySem.Spec PyProof.Rows L2 Tl Hk
def spAre (K : PySem.W.Frag) : Sp := fun vs H Q _ => ∃ (l : Addr) (ts : List (List Int)), vs = [.ref l] ∧ LL H l ts ∧ OkT ts ∧ ∀ H1, Evl.Ex H H1 → Q (.bl true) H1
theorem spv_are {K : PySem.W.Frag} {H : Hp} {l : Addr} {ts : List (List Int)} (h : LL H l ts) (T : OkT ts) : Evl.SpV (spAre K) [.ref l] H (.bl true) := fun H1 e Q q E => ⟨l, ts, rfl, h.ex e, T, q⟩
/-- the places each row tells, one by one -/
theorem len_rows (ts : List (List Int)) : ∀ n, n ≤ ts.length → (rows (fun i => (ts.getD i []).length) (fun _ _ => true) (fun i j => (i, j)) n).length = ((ts.take n).map List.length).sum
  | 0, _ => rfl
  | n + 1, h => by
    rw [rows_succ, List.length_append, len_rows ts n (by omega)]
    have e : (els (fun i => (ts.getD i []).length) (fun _ _ => true) (fun i j => (i, j)) n).length = (ts.getD n []).length := by
      unfold els
      rw [List.length_map, List.filter_eq_self.mpr (fun _ _ => rfl), List.length_range]
    have e2 : ts.getD n [] = ts[n]'(by omega) := by rw [List.getD_eq_getElem?_getD, List.getElem?_eq_getElem (by omega)] <;> rfl
    rw [e, List.take_add_one, List.getElem?_eq_getElem (by omega), e2, List.map_append, List.sum_append]
    simp
theorem rows_most {β : Type} {m : Nat → Nat} {f : Nat → Nat → Bool} {b : Nat → Nat → β} : ∀ n, (rows m f b n).length ≤ (rows m (fun _ _ => true) (fun i j => (i, j)) n).length
  | 0 => Nat.le_refl _
  | n + 1 => by
    rw [rows_succ, rows_succ, List.length_append, List.length_append]
    refine Nat.add_le_add (rows_most n) ?_
    unfold els
    rw [List.length_map, List.length_map, List.filter_eq_self.mpr (fun _ _ => rfl)]
    exact List.length_filter_le _ _
theorem OkT.rows {ts : List (List Int)} (T : OkT ts) {β : Type} {f : Nat → Nat → Bool} {b : Nat → Nat → β} : (rows (fun i => (ts.getD i []).length) f b ts.length).length ≤ 90000 := by
  refine Nat.le_trans (rows_most _) ?_
  rw [len_rows ts _ (Nat.le_refl _), List.take_length]
  exact Nat.le_trans T.few (by decide)
section
open Evl
theorem go_nl {te : TE} {σ : L2.St} {H : Hp} {L : List V → Hp → Prop} {Q : VK} (h : EvNL te σ H L) (k : ∀ p xs H1, H p = none → Ex H H1 → H1 p = some (.lst xs) → L xs H1 → Q (.ref p) H1) : te σ H Q := h H (Ex.refl H) Q fun p xs H1 hp e h1 hL => k p xs H1 hp e h1 (hL H1 e fun _ _ _ _ h => h)
theorem go_n {te : TE} {σ : L2.St} {H : Hp} {R : V → Hp → Prop} {Q : VK} (h : EvN te σ H R) (k : ∀ v H1, Ex H H1 → R v H1 → Q v H1) : te σ H Q := h H (Ex.refl H) Q fun v H1 e hR => k v H1 e (hR H1 e fun _ _ _ h => h)
theorem q_asgNL {te : TE} {tz : TS} {i : Nat} {σ : L2.St} {H : Hp} {D : Ends} {L : List V → Hp → Prop} (h : EvNL te σ H L) (k : ∀ p xs H1, H p = none → Ex H H1 → H1 p = some (.lst xs) → L xs H1 → tz D (σ.set i (some (.ref p))) H1) : tSeq (tAsg te (gName i)) tz D σ H :=
  go_nl h k
end
section
variable {P : Program} {w : World} {K : PySem.W.Frag} {mg : Str → Option Value} {base : Heap}
set_option maxHeartbeats 2000000 in
theorem ok_are {f fW fL fI : Addr} {fd fdW fdL fdI : FuncData} {k : Nat} (F : Fun K "_are_turns" "_are_turns" sAreTurns f fd)
    (FW : Fun K "is_within" "is_within" sWithin fW fdW) (GW : FnOk P w K mg base CX0 k fW fdW ["value", "least", "most"] (spWithin K)) (bW : Binds K fdW ["value", "least", "most"] []) (gW : mg "is_within" = some (.ref fW))
    (FL : Fun K "is_list" "is_list" sList fL fdL) (GL : FnOk P w K mg base CX0 k fL fdL ["value"] (spList K)) (bL : Binds K fdL ["value"] []) (gL : mg "is_list" = some (.ref fL))
    (FI : Fun K "_is_turn" "_is_turn" sIsTurn fI fdI) (GI : FnOk P w K mg base CX0 k fI fdI ["turn", "place", "many"] (spIsTurn K)) (bI : Binds K fdI ["turn", "place", "many"] []) (gI : mg "_is_turn" = some (.ref fI))
    {tM : Tok} (gM : mg "MOST_PLACES" = some (.int 1000 tM)) (mall : mg "all" = none) (mlen : mg "len" = none) (menum : mg "enumerate" = none) :
    FnOk P w K mg base CX0 (k + 1) f fd ["turns"] (spAre K) := by
  refine F.ok scAre (fun vs H Q E h => ?_) (fun cdv A outer s H vs Q E hr h => ?_)
  · obtain ⟨l, ts, rfl, _⟩ := h
    rfl
  · obtain ⟨l, ts, rfl, hL, hT, q⟩ := h
    have nd := scAre.nd
    refine ⟨_, pss_cons (ps_if (PW.pt (pw_or (pt_not (pt_val (pe_call GL hr (by rfl) gL FL.kp bL .nil pass0 (pa_cons (pv 0) pa_nil)))) (pw_or1 (pt_not (pt_val (pe_call GW hr (by rfl) gW FW.kp bW .nil pass0
          (pa_cons (pe_callB call_len_seq (by rfl) mlen PySem.boot_len (pa_cons (pv 0) pa_nil)) (pa_cons pe_int (pa_cons (pe_glob (v := .int 1000) (by rfl) gM ⟨_, rfl⟩) pa_nil))))))))) (pss_one (ps_ret pe_bl)) pss_nil)
      (pss_cons (ps_set (i := 1) nd rfl (.inr rfl) (pe_callB call_len_seq (by rfl) mlen PySem.boot_len (pa_cons (pv 0) pa_nil)))
      (pss_cons (ps_if (pt_not (pt_val (pe_callB (cr_all rfl) (by rfl) mall (by decide +kernel) (pa_cons
          (pe_lc (own := [("at", 2), ("turn", 3)]) (g := gTup K 2 (gCons (gName 2) (gCons (gName 3) gNil))) (tt := tYes) rfl nd (pi_enum (by rfl) menum (pa_cons (pv 0) pa_nil)) (blkOk_by (N := ["turns", "many", "at", "turn", "tied", "other"]) (sc := defScope sAreTurns) (by decide +kernel))
            (fun _ _ _ _ _ => pg_tup (by rfl) (pgs_cons (pg_name (i := 2) nd rfl (Or.inl rfl)) (pgs_cons (pg_name (i := 3) nd rfl (Or.inl rfl)) pgs_nil))) (fun _ _ _ _ _ => pts_nil)
            (fun _ _ _ _ _ => pe_call GI hr (by rfl) gI FI.kp bI .nil pass0 (pa_cons (pv 3) (pa_cons (pe_op op_add (pv 2) pe_int) (pa_cons (pv 1) pa_nil))))) pa_nil)))) (pss_one (ps_ret pe_bl)) pss_nil)
      (pss_cons (ps_set (i := 4) nd rfl (.inr rfl) (pe_lc (own := [("turn", 3)]) (g := gName 3) (tt := tYes) rfl nd (pi_list (pv 0)) (blkOk_by (N := ["turns", "many", "at", "turn", "tied", "other"]) (sc := defScope sAreTurns) (by decide +kernel))
            (fun _ _ _ _ _ => pg_name (i := 3) nd rfl (Or.inl rfl)) (fun _ _ _ _ _ => pts_nil)
            (fun _ _ _ _ _ => pe_dc (own := [("other", 5)]) (wi := iList K (tVar 3)) (g := gName 5) (tt := tYes) rfl nd (pi_list (pv 3)) (blkOk_by (N := ["turns", "many", "at", "turn", "tied", "other"]) (sc := { kind := .function, names := [(".0", .local), ("turn", .local)], isGenerator := false, isCoroutine := false }) (by decide +kernel))
              (fun _ _ _ _ _ => pg_name (i := 5) nd rfl (Or.inl rfl)) (fun _ _ _ _ _ => pts_nil) (fun _ _ _ _ _ => pv 5) (fun _ _ _ _ _ => pe_bl))))
      (pss_one (ps_ret (pe_callB (cr_all rfl) (by rfl) mall (by decide +kernel) (pa_cons
          (pe_lc2 (own := [("at", 2), ("turn", 3), ("other", 5)]) (vs1 := [5]) (wi1 := iList K (tVar 3)) (g := gTup K 2 (gCons (gName 2) (gCons (gName 3) gNil))) (g1 := gName 5) (tt := tYes) (tt1 := tYes) rfl nd (pi_enum (by rfl) menum (pa_cons (pv 0) pa_nil)) (blkOk_by (N := ["turns", "many", "at", "turn", "tied", "other"]) (sc := defScope sAreTurns) (by decide +kernel)) (by decide)
            (fun _ _ _ _ _ => pg_tup (by rfl) (pgs_cons (pg_name (i := 2) nd rfl (Or.inl rfl)) (pgs_cons (pg_name (i := 3) nd rfl (Or.inl rfl)) pgs_nil))) (fun _ _ _ _ _ => pts_nil)
            (fun _ _ _ _ _ => pi_list (pv 3)) (fun _ _ _ _ _ => pg_name (i := 5) nd rfl (Or.inl rfl)) (fun _ _ _ _ _ => pts_nil)
            (fun _ _ _ _ _ => pe_cmp (pc_din (hu_of hr) (pe_op op_add (pv 2) pe_int) (pe_ix (r := rIxL K) ix_list (pv 4) (pe_op op_sub (pv 5) pe_int) (fun _ _ => rfl))) rfl)) pa_nil))))))), ?_⟩
    obtain ⟨as, hl, ha, hrow⟩ := hL
    have hmap : (as.map V.ref).length = ts.length := by rw [List.length_map, ha]
    have item : ∀ i, i < ts.length → ∃ a ns, as[i]? = some a ∧ ts[i]? = some ns ∧ H a = some (.lst (ns.map V.int)) := fun i hi => by
      obtain ⟨a, ns, h1, h2⟩ := both_at ha (show i < as.length by omega)
      exact ⟨a, ns, h1, h2, hrow i a ns h1 h2⟩
    have p1 := hT.pos
    have p2 := hT.most
    refine Evl.q_when (b := false) (Evl.et_is (Evl.et_or (b := false) (Evl.et_is (Evl.et_not (Evl.et_B (Evl.ev_call (Evl.ea_cons (Evl.ev_var rfl) Evl.ea_nil) (spv_list (.lst (Evl.sq_of hl)))))) (b := false) (by decide)) fun _ =>
      Evl.et_is (Evl.et_not (Evl.et_B (Evl.ev_call (Evl.ea_cons (Evl.ev_len (Evl.ev_var rfl) (Evl.sq_of hl)) (Evl.ea_cons Evl.ev_c (Evl.ea_cons Evl.ev_c Evl.ea_nil))) (spv_within (.int _) True.intro True.intro)))) (b := false) ?_) rfl) (fun z => by cases z) fun _ H1 e1 => ?_
    · show (!(decide ((1 : Int) ≤ ((as.map V.ref).length : Int)) && decide (((as.map V.ref).length : Int) ≤ 1000))) = false
      rw [decide_eq_true (by omega), decide_eq_true (by omega)]
      rfl
    refine Evl.q_asg (Evl.ev_len (Evl.ev_var rfl) (Evl.sq_of (e1 _ _ hl))) fun H2 e2 => ?_
    have e02 := e1.trans e2
    refine Evl.q_when (b := false) (Evl.et_is (Evl.et_not (Evl.et_B (ev_allH (n := (as.map V.ref).length) (en_lc (ei_enum (Evl.ea_cons (Evl.ev_var rfl) Evl.ea_nil) (Evl.sq_of (e02 _ _ hl))) aims_enum (fun _ => rfl) (by omega) _ fun i hi => en_v ?_)))) rfl) (fun z => by cases z) fun _ H3 e3 => ?_
    · obtain ⟨a, ns, h1, h2, h3⟩ := item i (by omega)
      obtain ⟨t1, t2, t3⟩ := hT.pl i ns h2
      have := hT.short h2
      refine Evl.ev_call (Evl.ea_cons (x := .ref a) (Evl.ev_is (Evl.ev_var rfl) (refs_getD h1)) (Evl.ea_cons (Evl.ev_op (Evl.ev_var rfl) Evl.ev_c Evl.rv_I0) (Evl.ea_cons (Evl.ev_var rfl) Evl.ea_nil))) (spv_isTurn (Evl.sq_of (e02 _ _ h3)) (by omega) t1 (fun x hx => ?_) t3)
      rw [hmap]
      exact t2 x hx
    have e03 := e02.trans e3
    refine q_asgNL (L := Holds (fun i v H' => ∃ ns d, ts[i]? = some ns ∧ v = .ref d ∧ H' d = some (.dK (dOf (fun j => ns.getD j 0) ns.length))) (as.map V.ref).length) (en_lc (ei_list (Evl.ev_var rfl) (Evl.sq_of (e03 _ _ hl))) aims_at (fun _ => rfl) (by omega) _ fun i hi => ?_) fun p xs H4 hp e4 h4 hL4 => ?_
    · obtain ⟨a, ns, h1, h2, h3⟩ := item i (by omega)
      have hs := hT.short h2
      have e0 : (ns.map V.int).length = ns.length := List.length_map ..
      refine fun H5 e5 Q q => en_dc (kf := fun j => ns.getD j 0) (n := (ns.map V.int).length) (ei_list (Evl.ev_is (Evl.ev_var rfl) (refs_getD h1)) (Evl.sq_of (e03 _ _ h3))) aims_at (fun _ => rfl) (by omega) (fun j hj => Evl.ev_is (Evl.ev_var rfl) (ints_getD (by omega))) (fun j hj => Evl.ev_c) H5 e5 Q fun v H6 e6 hv => q v H6 e6 fun H7 e7 s7 => ?_
      obtain ⟨d, rfl, hd⟩ := hv H7 e7 s7
      exact ⟨ns, d, h2, rfl, by rw [← e0]; exact hd⟩
    have e04 := e03.trans e4
    obtain ⟨l4, h4at⟩ := hL4
    refine Evl.s_ret (ev_allR (bs := rows (fun i => (ts.getD i []).length) (fun _ _ => true) (fun i j => (i, j)) (as.map V.ref).length) ?_) fun H5 e5 => q H5 (e04.trans e5)
    refine en_lc2 (Y1 := fun i => YAt ((ts.getD i []).map V.int)) (s1 := fun i j σ => σ.set 5 (some (((ts.getD i []).map V.int).getD j .non))) (ei_enum (Evl.ea_cons (Evl.ev_var rfl) Evl.ea_nil) (Evl.sq_of (e04 _ _ hl))) aims_enum (fun _ => rfl) (fun i hi => ?_) (fun i => ?_) (fun i j => rfl) _ _ _ (fun i j hi hj => et_yes) (fun i j hi hj _ => en_v ?_) ?_
    · obtain ⟨a, ns, h1, h2, h3⟩ := item i (by omega)
      have ed : ts.getD i [] = ns := by rw [List.getD_eq_getElem?_getD, h2]; rfl
      rw [ed]
      have e0 : (ns.map V.int).length = ns.length := List.length_map ..
      rw [← e0]
      exact ei_list (Evl.ev_is (Evl.ev_var rfl) (refs_getD h1)) (Evl.sq_of (e04 _ _ h3))
    · have e0 : ((ts.getD i []).map V.int).length = (ts.getD i []).length := List.length_map ..
      have := aims_at (xs := (ts.getD i []).map V.int) (j := 5)
      rw [e0] at this
      exact this
    · obtain ⟨a, ns, h1, h2, h3⟩ := item i (by omega)
      have ed : ts.getD i [] = ns := by rw [List.getD_eq_getElem?_getD, h2]; rfl
      rw [ed] at hj ⊢
      obtain ⟨t1, t2, t3⟩ := hT.pl i ns h2
      have hm : ns[j] ∈ ns := List.getElem_mem hj
      have hb := t2 _ hm
      obtain ⟨ms, hms, hmem⟩ := hT.sym i ns ns[j] h2 hm
      have hx : (ns[j] - 1).toNat < xs.length := by rw [l4]; omega
      obtain ⟨ns2, d, k1, k2, k3⟩ := h4at _ _ (List.getElem?_eq_getElem hx)
      rw [hms] at k1
      cases k1
      have ej : ns.getD j 0 = ns[j] := by rw [List.getD_eq_getElem?_getD, List.getElem?_eq_getElem hj]; rfl
      have hin : (valV (dOf (fun j => ms.getD j 0) ms.length) (.inl ((i : Int) + 1))).isSome = true := by
        rw [dOf_at]
        obtain ⟨j2, hj2, e2⟩ := List.mem_iff_getElem.mp hmem
        exact ⟨j2, hj2, by rw [List.getD_eq_getElem?_getD, List.getElem?_eq_getElem hj2, ← e2]; rfl⟩
      refine Evl.ev_is (ev_din (d := d) (Evl.ev_op (Evl.ev_var rfl) Evl.ev_c Evl.rv_I0) (Evl.ev_op (Evl.ev_var rfl) (Evl.ev_op (x := .int ns[j]) (Evl.ev_is (Evl.ev_var rfl) (by rw [ints_getD hj, ej])) Evl.ev_c Evl.rv_I0) (Evl.rv_ixL (Evl.sq_of h4) ?_)) k3) (by rw [hin])
      have en : ns[j] - 1 = ((ns[j] - 1).toNat : Int) := by omega
      rw [en]
      exact atI_nat (by rw [← k2]; exact List.getElem?_eq_getElem hx)
    · rw [hmap]
      exact hT.rows
end
end P05
end S_Cf
section S_Cg
namespace P05
open PySem PySem.Spec PyProof.Rows L2 Tl Hk
/-! ### sorted -/
def ins (x : Int) : List Int → List Int
  | [] => [x]
  | y :: r => if x ≤ y then x :: y :: r else y :: ins x r
def srt : List Int → List Int
  | [] => []
  | x :: r => ins x (srt r)
theorem ins_perm (x : Int) : ∀ l, (ins x l).Perm (x :: l)
  | [] => .refl _
  | y :: r => by
    unfold ins
    split
    · exact .refl _
    · exact ((ins_perm x r).cons y).trans (.swap x y r)
theorem srt_perm : ∀ l, (srt l).Perm l
  | [] => .refl _
  | x :: r => (ins_perm x _).trans ((srt_perm r).cons x)
theorem ins_up (x : Int) : ∀ l, l.Pairwise (· ≤ ·) → (ins x l).Pairwise (· ≤ ·)
  | [], _ => List.pairwise_singleton _ _
  | y :: r, h => by
    have h2 := List.pairwise_cons.mp h
    unfold ins
    split
    · rename_i hxy
      refine List.pairwise_cons.mpr ⟨fun a ha => ?_, h⟩
      rcases List.mem_cons.mp ha with e | e
      · rw [e]; exact hxy
      · exact Int.le_trans hxy (h2.1 a e)
    · rename_i hxy
      refine List.pairwise_cons.mpr ⟨fun a ha => ?_, ins_up x r h2.2⟩
      rcases List.mem_cons.mp ((ins_perm x r).mem_iff.mp ha) with e | e
      · rw [e]; omega
      · exact h2.1 a e
theorem srt_up : ∀ l, (srt l).Pairwise (· ≤ ·)
  | [] => List.Pairwise.nil
  | x :: r => ins_up x _ (srt_up r)
theorem up_uniq : ∀ {a b : List Int}, a.Perm b → a.Pairwise (· ≤ ·) → b.Pairwise (· ≤ ·) → a = b
  | [], b, p, _, _ => (List.nil_perm.mp p).symm
  | x :: r, [], p, _, _ => absurd p.length_eq (by simp)
  | x :: r, y :: q, p, h1, h2 => by
    have a1 := List.pairwise_cons.mp h1
    have a2 := List.pairwise_cons.mp h2
    have e : x = y := by
      have m1 : x ∈ y :: q := p.mem_iff.mp List.mem_cons_self
      have m2 : y ∈ x :: r := p.mem_iff.mpr List.mem_cons_self
      rcases List.mem_cons.mp m1 with e | e
      · exact e
      · rcases List.mem_cons.mp m2 with z | z
        · exact z.symm
        · exact Int.le_antisymm (a1.1 y z) (a2.1 x e)
    subst e
    rw [up_uniq (List.Perm.cons_inv p) a1.2 a2.2]
theorem srt_of {a b : List Int} (p : a.Perm b) (h : a.Pairwise (· ≤ ·)) : a = srt b := up_uniq (p.trans (srt_perm b).symm) h (srt_up b)
section
open Evl
variable {K : PySem.W.Frag} {σ : L2.St} {H : Hp}
theorem el_sorted {ta : TE} {a : Addr} {ns : List Int} (h : Ev ta σ H (.ref a)) (hs : SqL K H a (ns.map V.int) ∨ SqT K H a (ns.map V.int)) : EvL (tCB (rSortedU K) (tCons ta tNil)) σ H ((srt ns).map V.int) := fun H1 e Q q =>
  h H1 e _ fun H2 e2 => ⟨a, ns, rfl, hs.imp (ex_l (e.trans e2)) (ex_t (e.trans e2)), fun ms p hp hu hn => by
    rw [srt_of hp hu]
    exact q p _ (fresh_back e2 hn) (e2.trans (Ex.new hn)) upd_same⟩
theorem s_retN {te : TE} {D : Ends} {R : V → Hp → Prop} (h : EvN te σ H R) (k : ∀ v H1, Ex H H1 → (∀ H3, Ex H H3 → Since H H1 H3 → R v H3) → D.rt v H1) : tRet te D σ H := h H (Ex.refl H) D.rt k
theorem s_retB {te : TE} {D : Ends} {R : V → Hp → Prop} {B : Hp} (hB : Ex B H) (h : EvN te σ B R) (k : ∀ v H1, Ex H H1 → (∀ H3, Ex B H3 → Since H H1 H3 → R v H3) → D.rt v H1) : tRet te D σ H := h H hB D.rt k
theorem q_asgN {te : TE} {tz : TS} {i : Nat} {D : Ends} {R : V → Hp → Prop} {B : Hp} (hB : Ex B H) (h : EvN te σ B R) (k : ∀ v H1, Ex H H1 → (∀ H3, Ex B H3 → Since H H1 H3 → R v H3) → tz D (σ.set i (some v)) H1) : tSeq (tAsg te (gName i)) tz D σ H := h H hB _ k
theorem q_fldN {ta te : TE} {tz : TS} {D : Ends} {R : V → Hp → Prop} {B : Hp} {f : Str} (hB : Ex B H) (h : EvN te σ B R) (k : ∀ v H1, Ex H H1 → (∀ H3, Ex B H3 → Since H H1 H3 → R v H3) →
    ta σ H1 fun x H2 => ∃ a C dx fs, x = .ref a ∧ H2 a = some (.ins C dx fs) ∧ Cls K C ∧ NoAttr K C f ∧ fs.length < 1000 ∧ tz D σ (upd H2 a (.ins C dx (putF f v fs)))) : tSeq (sFld K ta te f) tz D σ H := h H hB _ k
/-- C: what came between A and B makes R hold -/
def SpN (sp : Sp) (vs : List V) (H : Hp) (R : V → Hp → Prop) : Prop := ∀ H1, Ex H H1 → ∀ Q : VK, (∀ v H2, Ex H1 H2 → (∀ H3, Ex H H3 → Since H1 H2 H3 → R v H3) → Q v H2) → ∀ E : XK, sp vs H1 Q E
theorem en_call {sp : Sp} {dvs vs : List V} {E : XK} {ta : TA} {R : V → Hp → Prop} (h : EvA ta σ H vs) (hs : SpN sp (vs ++ dvs) H R) : EvN (tCall sp dvs E ta) σ H R := fun H1 e Q q =>
  h H1 e _ fun H2 e2 => hs H2 (e.trans e2) Q (fun v H3 e3 hv => q v H3 (e2.trans e3) fun H4 h4 s4 => hv H4 h4 fun a o ha hc => s4 a o (fresh_back e2 ha) hc) E
/-- tuple(list made now) -/
theorem en_tupNL {ta : TE} {L : List V → Hp → Prop} (h : EvNL ta σ H L) : EvN (tCB (fun xs H Q => ∃ p ys, xs = [V.ref p] ∧ ((SqL K H p ys ∧ ∀ l, H l = none → Q (V.ref l) (upd H l (HO.tup ys))) ∨ (SqT K H p ys ∧ Q (V.ref p) H))) (tCons ta tNil)) σ H
    (fun u H' => ∃ t xs, u = .ref t ∧ H' t = some (.tup xs) ∧ L xs H') := fun H1 e Q q =>
  h H1 e _ fun p xs H2 hp e2 h2 hL => ⟨p, xs, rfl, .inl ⟨sq_of h2, fun t ht => q _ _ (e2.trans (Ex.new ht)) fun H3 h3 s3 => ⟨t, xs, rfl, s3 _ _ (fresh_back e2 ht) upd_same, hL H3 h3 fun a o _ ha hb => by
    refine s3 a o ha ?_
    rw [upd_ne (ne_of_none hb ht)]
    exact hb⟩⟩⟩
/-- tuple(list that stands) -/
theorem en_tup {ta : TE} {a : Addr} {xs : List V} (h : Ev ta σ H (.ref a)) (hs : SqL K H a xs) : EvN (tCB (fun xs H Q => ∃ p ys, xs = [V.ref p] ∧ ((SqL K H p ys ∧ ∀ l, H l = none → Q (V.ref l) (upd H l (HO.tup ys))) ∨ (SqT K H p ys ∧ Q (V.ref p) H))) (tCons ta tNil)) σ H
    (fun u H' => ∃ t, u = .ref t ∧ H' t = some (.tup xs)) := fun H1 e Q q =>
  h H1 e _ fun H2 e2 => ⟨a, xs, rfl, .inl ⟨ex_l (e.trans e2) hs, fun t ht => q _ _ (e2.trans (Ex.new ht)) fun H3 _ s3 => ⟨t, rfl, s3 _ _ (fresh_back e2 ht) upd_same⟩⟩⟩
end
/-- the ties: by rows, the lesser place first -/
def tiesOf (ts : List (List Int)) : List (Int × Int) := rows (fun i => (srt (ts.getD i [])).length) (fun i j => decide ((i : Int) + 1 < (srt (ts.getD i [])).getD j 0)) (fun i j => ((i : Int) + 1, (srt (ts.getD i [])).getD j 0)) ts.length
def Tie (p : Int × Int) (v : V) (H : Hp) : Prop := ∃ a, v = .ref a ∧ H a = some (.tup [.int p.1, .int p.2])
/-- the tuple of the ties -/
def TiesAt (H : Hp) (t : Addr) (ts : List (List Int)) : Prop := ∃ xs, H t = some (.tup xs) ∧ Row2 Tie (tiesOf ts) xs H
theorem TiesAt.ex {A B : Hp} {t : Addr} {ts : List (List Int)} (h : TiesAt A t ts) (e : Evl.Ex A B) : TiesAt B t ts := by
  obtain ⟨xs, h1, h2, h3⟩ := h
  refine ⟨xs, e _ _ h1, h2, fun k b v hb hv => ?_⟩
  obtain ⟨a, h4, h5⟩ := h3 k b v hb hv
  exact ⟨a, h4, e _ _ h5⟩
theorem scTies : FnScope ["turns", "at", "turn", "other"] ["turns"] (defScope sTies) := ⟨rfl, rfl, rfl, by decide +kernel, rfl, by decide +kernel, by decide +kernel⟩
def spTies : Sp := fun vs H Q _ => ∃ (l : Addr) (ts : List (List Int)) (B : Hp), vs = [.ref l] ∧ Evl.Ex B H ∧ TT B l ts ∧ OkT ts ∧ ∀ v H1, Evl.Ex H H1 → (∀ H3, Evl.Ex B H3 → Since H H1 H3 → ∃ t, v = .ref t ∧ TiesAt H3 t ts) → Q v H1
section
variable {P : Program} {w : World} {K : PySem.W.Frag} {mg : Str → Option Value} {base : Heap}
theorem srt_len (ns : List Int) : (srt ns).length = ns.length := (srt_perm ns).length_eq
set_option maxHeartbeats 2000000 in
theorem ok_ties {f : Addr} {fd : FuncData} {k : Nat} (F : Fun K "_ties_of" "_ties_of" sTies f fd) (mtup : mg "tuple" = none) (msort : mg "sorted" = none) (menum : mg "enumerate" = none) :
    FnOk P w K mg base CX0 (k + 1) f fd ["turns"] spTies := by
  refine F.ok scTies (fun vs H Q E h => ?_) (fun cdv A outer s H vs Q E hr h => ?_)
  · obtain ⟨l, ts, B, rfl, _⟩ := h
    rfl
  · obtain ⟨l, ts, B, rfl, hB, hL, hT, q⟩ := h
    have nd := scTies.nd
    refine ⟨_, pss_one (ps_ret (pe_callTy call_tuple_of (by rfl) mtup (by decide +kernel) (pa_cons
        (pe_lc2 (own := [("at", 1), ("turn", 2), ("other", 3)]) (vs1 := [3]) (wi1 := iList K (tCB (rSortedU K) (tCons (tVar 2) tNil))) (g := gTup K 2 (gCons (gName 1) (gCons (gName 2) gNil))) (g1 := gName 3) (tt := tYes) rfl nd (pi_enumT (by rfl) menum (pa_cons (pv 0) pa_nil)) (blkOk_by (N := ["turns", "at", "turn", "other"]) (sc := defScope sTies) (by decide +kernel)) (by decide)
          (fun _ _ _ _ _ => pg_tup (by rfl) (pgs_cons (pg_name (i := 1) nd rfl (Or.inl rfl)) (pgs_cons (pg_name (i := 2) nd rfl (Or.inl rfl)) pgs_nil))) (fun _ _ _ _ _ => pts_nil)
          (fun _ _ _ _ _ => pi_list (pe_callB cr_sortedU (by rfl) msort (by decide +kernel) (pa_cons (pv 2) pa_nil))) (fun _ _ _ _ _ => pg_name (i := 3) nd rfl (Or.inl rfl))
          (fun _ _ _ _ _ => pts_one (pt_cmpR op_gt (pv 3) (pe_op op_add (pv 1) pe_int) (nomark _)))
          (fun _ _ _ _ _ => pe_tup (pa_cons (pe_op op_add (pv 1) pe_int) (pa_cons (pv 3) pa_nil)))) pa_nil))), ?_⟩
    obtain ⟨as, hl, ha, hrow⟩ := hL
    have hmap : (as.map V.ref).length = ts.length := by rw [List.length_map, ha]
    have item : ∀ i, i < ts.length → ∃ a ns, as[i]? = some a ∧ ts[i]? = some ns ∧ B a = some (.tup (ns.map V.int)) := fun i hi => by
      obtain ⟨a, ns, h1, h2⟩ := both_at ha (show i < as.length by omega)
      exact ⟨a, ns, h1, h2, hrow i a ns h1 h2⟩
    have p2 := hT.most
    refine s_retB (R := fun u H' => ∃ t xs, u = .ref t ∧ H' t = some (.tup xs) ∧ Row2 Tie (tiesOf ts) xs H') hB ?_ fun v H1 e1 hv => q v H1 e1 fun H3 e3 s3 => ?_
    rotate_left
    · obtain ⟨t, xs, rfl, h1, h2⟩ := hv H3 e3 s3
      exact ⟨t, rfl, xs, h1, h2⟩
    · refine en_tupNL ?_
      unfold tiesOf
      rw [← hmap]
      refine en_lc2 (Y1 := fun i => YAt ((srt (ts.getD i [])).map V.int)) (s1 := fun i j σ => σ.set 3 (some (((srt (ts.getD i [])).map V.int).getD j .non))) (ei_enumT (Evl.ea_cons (Evl.ev_var rfl) Evl.ea_nil) (Evl.st_of hl)) aims_enum (fun _ => rfl) (fun i hi => ?_) (fun i => ?_) (fun i j => rfl) _ _ _ (fun i j hi hj => ?_) (fun i j hi hj _ => ?_) ?_
      · obtain ⟨a, ns, h1, h2, h3⟩ := item i (by omega)
        have ed : ts.getD i [] = ns := by rw [List.getD_eq_getElem?_getD, h2]; rfl
        rw [ed]
        have e0 : ((srt ns).map V.int).length = (srt ns).length := List.length_map ..
        rw [← e0]
        exact ei_listN (el_sorted (Evl.ev_is (Evl.ev_var rfl) (refs_getD h1)) (.inr (Evl.st_of h3)))
      · have e0 : ((srt (ts.getD i [])).map V.int).length = (srt (ts.getD i [])).length := List.length_map ..
        have := aims_at (xs := (srt (ts.getD i [])).map V.int) (j := 3)
        rw [e0] at this
        exact this
      · exact Evl.et_test (Evl.ev_op (x := .int ((srt (ts.getD i [])).getD j 0)) (Evl.ev_is (Evl.ev_var rfl) (ints_getD hj)) (Evl.ev_op (Evl.ev_var rfl) Evl.ev_c Evl.rv_I0) Evl.rv_I0)
      · refine fun H5 e5 Q q => en_u (xs := [.int ((i : Int) + 1), .int ((srt (ts.getD i [])).getD j 0)]) (Evl.eu_tup (Evl.ea_cons (Evl.ev_op (Evl.ev_var rfl) Evl.ev_c Evl.rv_I0) (Evl.ea_cons (Evl.ev_is (Evl.ev_var rfl) (ints_getD hj)) Evl.ea_nil)) (by show 2 ≤ 100000; omega)) H5 e5 Q fun v H6 e6 hv => q v H6 e6 fun H7 e7 s7 => hv H7 e7 s7
      · rw [hmap]
        have := hT.rows (f := fun i j => decide ((i : Int) + 1 < (srt (ts.getD i [])).getD j 0)) (b := fun i j => (((i : Int) + 1, (srt (ts.getD i [])).getD j 0) : Int × Int))
        have e0 : (fun i => (ts.getD i []).length) = (fun i => (srt (ts.getD i [])).length) := funext fun i => (srt_len _).symm
        rw [e0] at this
        exact this
end
end P05
end S_Cg
section S_Ch
namespace P05
open PySem PySem.Spec PyProof.Rows L2 Tl Hk
abbrev sWebI : Stmt := inClass sWeb 0
abbrev sWebE : Stmt := inClass sWeb 1
abbrev rTup (K : PySem.W.Frag) : List V → Hp → VK → Prop := fun xs H Q => ∃ p ys, xs = [V.ref p] ∧ ((SqL K H p ys ∧ ∀ l, H l = none → Q (V.ref l) (upd H l (HO.tup ys))) ∨ (SqT K H p ys ∧ Q (V.ref p) H))
/-- the attributes, in the order of their stores -/
def wf (t : Addr) (n : Nat) (ti : Addr) : List (Str × V) := putF "ties" (.ref ti) (putF "many" (.int n) (putF "turns" (.ref t) []))
theorem kTM : ¬ (("turns" : Str) = "many") := by decide +kernel
theorem kTT : ¬ (("turns" : Str) = "ties") := by decide +kernel
theorem kMT : ¬ (("many" : Str) = "ties") := by decide +kernel
theorem wf_t (t : Addr) (n : Nat) (ti : Addr) : (wf t n ti).lookup ("turns" : Str) = some (.ref t) := by
  unfold wf
  rw [lookup_putF, if_neg kTT, lookup_putF, if_neg kTM, lookup_putF, if_pos rfl]
theorem wf_m (t : Addr) (n : Nat) (ti : Addr) : (wf t n ti).lookup ("many" : Str) = some (.int n) := by
  unfold wf
  rw [lookup_putF, if_neg kMT, lookup_putF, if_pos rfl]
theorem wf_i (t : Addr) (n : Nat) (ti : Addr) : (wf t n ti).lookup ("ties" : Str) = some (.ref ti) := by
  unfold wf
  rw [lookup_putF, if_pos rfl]
/-- a Web stands at x with these turns -/
def WebAt (C : Addr) (H : Hp) (x : Addr) (ts : List (List Int)) : Prop := ∃ dx t ti, H x = some (.ins C dx (wf t ts.length ti)) ∧ TT H t ts ∧ TiesAt H ti ts
theorem WebAt.ex {C : Addr} {A B : Hp} {x : Addr} {ts : List (List Int)} (h : WebAt C A x ts) (e : Evl.Ex A B) : WebAt C B x ts := by
  obtain ⟨dx, t, ti, h1, h2, h3⟩ := h
  exact ⟨dx, t, ti, e _ _ h1, h2.ex e, h3.ex e⟩
/-- the heap without x -/
def less (H : Hp) (x : Addr) : Hp := fun a => if a = x then none else H a
theorem less_ex (H : Hp) (x : Addr) : Evl.Ex (less H x) H := fun a o h => by
  unfold less at h
  by_cases e : a = x
  · rw [if_pos e] at h; cases h
  · rw [if_neg e] at h; exact h
theorem less_at {H : Hp} {x a : Addr} {o : HO} (h : less H x a = some o) : a ≠ x := fun e => by
  unfold less at h
  rw [if_pos e] at h
  cases h
theorem less_none (H : Hp) (x : Addr) : less H x x = none := if_pos rfl
theorem less_of {H : Hp} {x a : Addr} {o : HO} (h : H a = some o) (hn : a ≠ x) : less H x a = some o := by
  unfold less
  rw [if_neg hn]
  exact h
/-- tuple([tuple(turn) for turn in turns]) -/
theorem en_tuples {K : PySem.W.Frag} {σ : L2.St} {B : Hp} {i j : Nat} {l : Addr} {ts : List (List Int)} (hs2 : σ[i]? = some (some (.ref l))) (hw : ∀ x, wipe ((wipe σ [j]).set j (some x)) [j] = wipe σ [j]) (hj : ∀ x, ((wipe σ [j]).set j (some x))[j]? = some (some x))
    (hL : LL B l ts) (hz : ts.length ≤ 40000) : EvN (tCB (rTup K) (tCons (tLc (iList K (tVar i)) (gName j) tYes (tCB (rTup K) (tCons (tVar j) tNil)) [j]) tNil)) σ B (fun u H' => ∃ t, u = .ref t ∧ TT H' t ts) := by
  obtain ⟨as, hl, ha, hrow⟩ := hL
  have hmap : (as.map V.ref).length = ts.length := by rw [List.length_map, ha]
  have h1 : EvN (tCB (rTup K) (tCons (tLc (iList K (tVar i)) (gName j) tYes (tCB (rTup K) (tCons (tVar j) tNil)) [j]) tNil)) σ B (fun u H' => ∃ t xs, u = .ref t ∧ H' t = some (.tup xs) ∧ Holds (fun i v H' => ∃ ns, ts[i]? = some ns ∧ ∃ a, v = .ref a ∧ H' a = some (.tup (ns.map V.int))) (as.map V.ref).length xs H') := by
    refine en_tupNL (en_lc (ei_list (Evl.ev_var hs2) (Evl.sq_of hl)) aims_at (fun _ => hw _) (by omega) _ fun k hk => ?_)
    obtain ⟨a, ns, h1, h2⟩ := both_at ha (show k < as.length by omega)
    exact fun H5 e5 Q q => en_tup (Evl.ev_is (Evl.ev_var (hj _)) (refs_getD h1)) (Evl.sq_of (hrow k a ns h1 h2)) H5 e5 Q fun v H6 e6 hv => q v H6 e6 fun H7 e7 s7 => ⟨ns, h2, hv H7 e7 s7⟩
  exact fun H5 e5 Q q => h1 H5 e5 Q fun v H6 e6 hv => q v H6 e6 fun H7 e7 s7 => by
    obtain ⟨t, xs, rfl, k1, k2, k3⟩ := hv H7 e7 s7
    have hex : ∃ bs : List Addr, xs = bs.map V.ref := by
      have : ∀ v ∈ xs, ∃ a, v = V.ref a := fun v hv => by
        obtain ⟨i, hi, rfl⟩ := List.mem_iff_getElem.mp hv
        obtain ⟨_, _, a, h, _⟩ := k3 i _ (List.getElem?_eq_getElem hi)
        exact ⟨a, h⟩
      clear k1 k2 k3 hv
      induction xs with
      | nil => exact ⟨[], rfl⟩
      | cons v r ih =>
        obtain ⟨a, rfl⟩ := this v List.mem_cons_self
        obtain ⟨bs, rfl⟩ := ih fun u hu => this u (List.mem_cons_of_mem _ hu)
        exact ⟨a :: bs, rfl⟩
    obtain ⟨bs, rfl⟩ := hex
    refine ⟨t, rfl, bs, k1, by rw [List.length_map] at k2; omega, fun i a ns h1 h2 => ?_⟩
    obtain ⟨ns2, h3, b, h4, h5⟩ := k3 i (.ref a) (by rw [List.getElem?_map, h1]; rfl)
    rw [h2] at h3
    cases h3
    cases h4
    exact h5
structure TWeb (K : PySem.W.Frag) (mg : Str → Option Value) (C : Addr) : Prop where
  cl : Cls K C
  nT : NoAttr K C "turns"
  nM : NoAttr K C "many"
  nI : NoAttr K C "ties"
  mgC : mg "Web" = some (.ref C)
theorem scWebI : FnScope ["self", "turns", "turn"] ["self", "turns"] (defScope sWebI) := ⟨rfl, rfl, rfl, by decide +kernel, rfl, by decide +kernel, by decide +kernel⟩
def spWebI (C : Addr) : Sp := fun vs H Q _ => ∃ (x dx l : Addr) (ts : List (List Int)) (B : Hp), vs = [.ref x, .ref l] ∧ H x = some (.ins C dx []) ∧ Evl.Ex B H ∧ B x = none ∧ LL B l ts ∧ OkT ts ∧
  ∀ H', Evl.Ex (less H x) H' → (∀ H3, Evl.Ex B H3 → Since H H' H3 → H3 x = H' x → WebAt C H3 x ts) → Q .non H'
/-- what stands at B, and what came between A and H -/
def plus (B A H : Hp) : Hp := fun a => if (B a).isSome = true ∨ (A a).isNone = true then H a else none
theorem plus_le {B A H : Hp} : Evl.Ex (plus B A H) H := fun a o h => by
  unfold plus at h
  split at h
  · exact h
  · cases h
theorem plus_base {B A H : Hp} (h : Evl.Ex B H) : Evl.Ex B (plus B A H) := fun a o hb => by
  unfold plus
  rw [if_pos (.inl (by rw [hb]; rfl))]
  exact h _ _ hb
theorem plus_new {B A H : Hp} : Since A H (plus B A H) := fun a o hn h => by
  unfold plus
  rw [if_pos (.inr (by rw [hn]; rfl))]
  exact h
theorem plus_none {B A H : Hp} {a : Addr} (h1 : B a = none) (h2 : (A a).isSome = true) : plus B A H a = none := by
  unfold plus
  rw [if_neg]
  rintro (h | h)
  · rw [h1] at h; cases h
  · cases hq : A a with
    | none => rw [hq] at h2; cases h2
    | some o => rw [hq] at h; cases h
/-- it stands in each heap that has both -/
theorem plus_in {B A H H3 : Hp} (hB : Evl.Ex B H) (h1 : Evl.Ex B H3) (h2 : Since A H H3) : Evl.Ex (plus B A H) H3 := fun a o h => by
  unfold plus at h
  split at h
  · rename_i c
    rcases c with c | c
    · cases hq : B a with
      | none => rw [hq] at c; cases c
      | some o' =>
        have := hB _ _ hq
        rw [h] at this
        cases this
        exact h1 _ _ hq
    · refine h2 _ _ ?_ h
      cases hq : A a with
      | none => rfl
      | some o' => rw [hq] at c; cases c
  · cases h
theorem ex_less {A B : Hp} {x : Addr} {o : HO} (h : Evl.Ex A B) (hx : A x = none) : Evl.Ex A (upd B x o) := h.mut hx
section
variable {P : Program} {w : World} {K : PySem.W.Frag} {mg : Str → Option Value} {base : Heap}
set_option maxHeartbeats 2000000 in
theorem ok_webI {C f fA fT : Addr} {fd fdA fdT : FuncData} {k : Nat} (F : Fun K "__init__" "Web.__init__" sWebI f fd) (T : TWeb K mg C)
    (FA : Fun K "_are_turns" "_are_turns" sAreTurns fA fdA) (GA : FnOk P w K mg base CX0 k fA fdA ["turns"] (spAre K)) (bA : Binds K fdA ["turns"] []) (gA : mg "_are_turns" = some (.ref fA))
    (FT : Fun K "_ties_of" "_ties_of" sTies fT fdT) (GT : FnOk P w K mg base CX0 k fT fdT ["turns"] spTies) (bT : Binds K fdT ["turns"] []) (gT : mg "_ties_of" = some (.ref fT))
    (mtup : mg "tuple" = none) (mlen : mg "len" = none) :
    FnOk P w K mg base CX0 (k + 1) f fd ["self", "turns"] (spWebI C) := by
  refine F.ok scWebI (fun vs H Q E h => ?_) (fun cdv A outer s H vs Q E hr h => ?_)
  · obtain ⟨x, dx, l, ts, B, rfl, _⟩ := h
    rfl
  · obtain ⟨x, dx, l, ts, B, rfl, hx, b0, n0, hL, hT, q⟩ := h
    have nd := scWebI.nd
    refine ⟨_, pss_cons (ps_if (pt_not (pt_val (pe_call GA hr (by rfl) gA FA.kp bA .nil pass0 (pa_cons (pv 1) pa_nil)))) (pss_one (ps_never)) pss_nil)
      (pss_cons (ps_fld (pv 0) (pe_callTy call_tuple_of (by rfl) mtup (by decide +kernel) (pa_cons
          (pe_lc (own := [("turn", 2)]) (g := gName 2) (tt := tYes) (te := tCB (rTup K) (tCons (tVar 2) tNil)) rfl nd (pi_list (pv 1)) (blkOk_by (N := ["self", "turns", "turn"]) (sc := defScope sWebI) (by decide +kernel)) (fun _ _ _ _ _ => pg_name (i := 2) nd rfl (Or.inl rfl)) (fun _ _ _ _ _ => pts_nil)
            (fun _ _ _ _ _ => pe_callTy call_tuple_of (by rfl) mtup (by decide +kernel) (pa_cons (pv 2) pa_nil))) pa_nil)) rfl)
      (pss_cons (ps_fld (pv 0) (pe_callB call_len_seq (by rfl) mlen PySem.boot_len (pa_cons (pe_fld (pv 0) rfl) pa_nil)) rfl)
      (pss_one (ps_fld (pv 0) (pe_call GT hr (by rfl) gT FT.kp bT .nil pass0 (pa_cons (pe_fld (pv 0) rfl) pa_nil)) rfl)))), ?_⟩
    refine Evl.q_when (b := false) (Evl.et_is (Evl.et_not (Evl.et_B (Evl.ev_call (Evl.ea_cons (Evl.ev_var rfl) Evl.ea_nil) (spv_are (hL.ex b0) hT)))) rfl) (fun z => by cases z) fun _ H1 e1 => ?_
    obtain ⟨as, hl, ha, hrow⟩ := hL
    have hmap : (as.map V.ref).length = ts.length := by rw [List.length_map, ha]
    have p2 := hT.most
    have item : ∀ i, i < ts.length → ∃ a ns, as[i]? = some a ∧ ts[i]? = some ns ∧ B a = some (.lst (ns.map V.int)) := fun i hi => by
      obtain ⟨a, ns, h1, h2⟩ := both_at ha (show i < as.length by omega)
      exact ⟨a, ns, h1, h2, hrow i a ns h1 h2⟩
    -- self.turns
    refine q_fldN (b0.trans e1) (en_tuples (K := K) (i := 1) (j := 2) rfl (fun _ => rfl) (fun _ => rfl) ⟨as, hl, ha, hrow⟩ (by omega)) fun u H2 e2 hu => ?_
    obtain ⟨t, rfl, tt2⟩ := hu H2 ((b0.trans e1).trans e2) fun _ _ _ h => h
    have hx2 := e2 _ _ (e1 _ _ hx)
    refine ⟨_, rfl, x, C, dx, [], rfl, hx2, T.cl, T.nT, (by show 0 < 1000; decide), ?_⟩
    -- self.many
    have xt : x ≠ t := fun z => by
      obtain ⟨as2, h2, _⟩ := tt2
      rw [← z, hx2] at h2
      cases h2
    obtain ⟨as2, ht2, hl2, hr2⟩ := id tt2
    refine ⟨_, rfl, x, C, dx, _, .ref t, rfl, upd_same, T.cl, T.nT, (by rw [lookup_putF, if_pos rfl]), t, as2.map V.ref, rfl, .inr (Evl.st_of (by rw [upd_ne xt.symm]; exact ht2)), _, rfl, x, C, dx, _, rfl, upd_same, T.cl, T.nM, (by show 1 < 1000; decide), ?_⟩
    have hml : ((as2.map V.ref).length : Int) = (ts.length : Int) := by rw [List.length_map, hl2]
    rw [hml]
    -- self.ties
    have n2 : plus B H1 H2 x = none := plus_none n0 (by rw [e1 _ _ hx]; rfl)
    have b3 : Evl.Ex (plus B H1 H2) (upd (upd H2 x (.ins C dx (putF "turns" (.ref t) []))) x (.ins C dx (putF "many" (.int ts.length) (putF "turns" (.ref t) [])))) := (plus_le.mut n2).mut n2
    have tt2l : TT (plus B H1 H2) t ts := by
      obtain ⟨t', et, h⟩ := hu (plus B H1 H2) (plus_base ((b0.trans e1).trans e2)) plus_new
      cases et
      exact h
    refine ⟨_, rfl, x, C, dx, _, .ref t, rfl, upd_same, T.cl, T.nT, (by rw [lookup_putF, if_neg kTM, lookup_putF, if_pos rfl]), ?_⟩
    refine ⟨t, ts, plus B H1 H2, rfl, b3, tt2l, hT, fun v H4 e4 hv => ?_⟩
    obtain ⟨ti, rfl, ti4⟩ := hv H4 (b3.trans e4) fun _ _ _ h => h
    have hx4 := e4 _ _ upd_same
    refine ⟨_, rfl, x, C, dx, _, rfl, hx4, T.cl, T.nI, (by show 2 < 1000; decide), ?_⟩
    have lx := less_none H x
    have exA : Evl.Ex (less H x) H4 := (((((less_ex H x).trans e1).trans e2).mut lx).mut lx).trans e4
    refine q _ (exA.mut lx) fun H3 h3 s3 hx3 => ?_
    have at3 : ∀ a o, a ≠ x → H a = none → H4 a = some o → H3 a = some o := fun a o hne hn h4 => s3 a o hn (by rw [upd_ne hne]; exact h4)
    have fromH1 : ∀ a, H1 a = none → H a = none := fun a h => Evl.fresh_back e1 h
    have up24 : ∀ a o, a ≠ x → H2 a = some o → H4 a = some o := fun a o hne h => e4 _ _ (by rw [upd_ne hne, upd_ne hne]; exact h)
    refine ⟨dx, t, ti, by rw [hx3, upd_same] <;> rfl, ?_, ?_⟩
    · obtain ⟨t', et, h⟩ := hu H3 h3 fun a o hn h2 => at3 a o (fun z => by rw [z, e1 _ _ hx] at hn; cases hn) (fromH1 a hn) (up24 a o (fun z => by rw [z, e1 _ _ hx] at hn; cases hn) h2)
      cases et
      exact h
    · have hp1 : Evl.Ex (plus B H1 H2) H3 := plus_in ((b0.trans e1).trans e2) h3 fun a o hn h2 => at3 a o (fun z => by rw [z, e1 _ _ hx] at hn; cases hn) (fromH1 a hn) (up24 a o (fun z => by rw [z, e1 _ _ hx] at hn; cases hn) h2)
      obtain ⟨t', et, h⟩ := hv H3 hp1 fun a o hn h4 => by
        have hne : a ≠ x := fun z => by rw [z, upd_same] at hn; cases hn
        rw [upd_ne hne, upd_ne hne] at hn
        exact at3 a o hne (fromH1 a (Evl.fresh_back e2 hn)) h4
      cases et
      exact h
end
section
open Evl
variable {K : PySem.W.Frag} {σ : L2.St} {B : Hp}
/-- Web(turns) -/
theorem en_make {C : Addr} {ta : TE} {E : XK} {ts : List (List Int)} (h : EvN ta σ B (fun u H' => ∃ l, u = .ref l ∧ LL H' l ts)) (hT : OkT ts) : EvN (tMake C (spWebI C) [] E (tCons ta tNil)) σ B (fun u H' => ∃ x, u = .ref x ∧ WebAt C H' x ts) := fun H1 e Q q =>
  h H1 e _ fun v H2 e2 hv => by
    obtain ⟨l, rfl, hl⟩ := hv (plus B H1 H2) (plus_base (e.trans e2)) plus_new
    intro x dx nx ndx nex
    have px : plus B H1 H2 x = none := fresh_back plus_le nx
    have pd : plus B H1 H2 dx = none := fresh_back plus_le ndx
    have lx := less_none (upd (upd H2 dx (.own x)) x (.ins C dx [])) x
    refine ⟨x, dx, l, ts, plus B H1 H2, rfl, upd_same, (plus_le.mut pd).mut px, px, hl, hT, fun H' ex' hw => ⟨rfl, ?_⟩⟩
    have e2' : Ex H2 H' := fun a o h => ex' a o (less_of (by rw [upd_ne (ne_of_none h nx), upd_ne (ne_of_none h ndx)]; exact h) (ne_of_none h nx))
    have h1x : H1 x = none := fresh_back e2 nx
    obtain ⟨_, _, _, hx', _⟩ := hw H' ((plus_le).trans e2') (fun _ _ _ h => h) rfl
    refine q _ H' (e2.trans e2') fun H3 h3 s3 => ⟨x, rfl, hw H3 (plus_in (e.trans e2) h3 fun a o hn h2 => s3 a o hn (e2' _ _ h2)) (fun a o hn h2 => ?_) ?_⟩
    · refine s3 a o (fresh_back e2 ?_) h2
      by_cases ax : a = x
      · rw [ax]; exact nx
      · by_cases ad : a = dx
        · rw [ad]; exact ndx
        · rw [upd_ne ax, upd_ne ad] at hn
          exact hn
    · rw [hx', s3 _ _ h1x hx']
end
end P05
end S_Ch
section S_Ci
namespace P05
open PySem PySem.Spec PyProof.Rows L2 Tl Hk
/-! ### data of tuples of tuples -/
def dT (ts : List (List Int)) : PyData := .tuple (ts.map fun ns => .tuple (ns.map PyData.int))
theorem dT_lay : ∀ ts : List (List Int), PyData.canLayAll0 (ts.map fun ns => .tuple (ns.map PyData.int)) = true
  | [] => rfl
  | ns :: r => by
    show (PyData.canLay0 (.tuple (ns.map PyData.int)) && PyData.canLayAll0 (r.map fun ns => .tuple (ns.map PyData.int))) = true
    rw [dT_lay r, Bool.and_true]
    exact PySem.W.ke_canLayAll0 ns
theorem dT_deep : ∀ ts : List (List Int), PyData.depthAll (ts.map fun ns => .tuple (ns.map PyData.int)) ≤ 1
  | [] => Nat.zero_le _
  | ns :: r => by
    show max (PyData.depth (.tuple (ns.map PyData.int))) (PyData.depthAll (r.map fun ns => .tuple (ns.map PyData.int))) ≤ 1
    have h1 : PyData.depth (.tuple (ns.map PyData.int)) = 1 := by
      show PyData.depthAll (ns.map PyData.int) + 1 = 1
      rw [PySem.W.ke_depthAll]
    have := dT_deep r
    omega
theorem dT_shaped (ts : List (List Int)) : SeqAt.shaped (dT ts) = true := by
  unfold SeqAt.shaped
  rw [Bool.and_eq_true_iff]
  refine ⟨dT_lay ts, decide_eq_true ?_⟩
  show PyData.depthAll (ts.map fun ns => .tuple (ns.map PyData.int)) + 1 ≤ 64
  have := dT_deep ts
  omega
theorem dT_same (ts : List (List Int)) : PyData.eqv (dT ts) (dT ts) = true := SeqAt.eqv_refl _ (SeqAt.canLay_of_shaped (dT_shaped ts))
theorem dpAll_of {K : PySem.W.Frag} {H : Hp} : ∀ {vs : List V} {ds : List PyData}, vs.length = ds.length → (∀ (i : Nat) (v : V) (d : PyData), vs[i]? = some v → ds[i]? = some d → Dp K H v d) → DpAll K H vs ds
  | [], [], _, _ => .nil
  | v :: vs, d :: ds, hl, h => .cons (h 0 v d rfl rfl) (dpAll_of (by simpa using hl) fun i v d h1 h2 => h (i + 1) v d (by simpa using h1) (by simpa using h2))
theorem TT.dp {K : PySem.W.Frag} {H : Hp} {t : Addr} {ts : List (List Int)} (h : TT H t ts) : Dp K H (.ref t) (dT ts) := by
  obtain ⟨as, h1, h2, h3⟩ := h
  refine .tup (Evl.st_of h1) (dpAll_of (by simp [h2]) fun i v d hv hd => ?_)
  rw [List.getElem?_map] at hv hd
  cases ha : as[i]? with
  | none => rw [ha] at hv; cases hv
  | some a =>
    cases hn : ts[i]? with
    | none => rw [hn] at hd; cases hd
    | some ns =>
      rw [ha] at hv
      rw [hn] at hd
      cases hv
      cases hd
      exact .tup (Evl.st_of (h3 i a ns ha hn)) (dp_ints (c := a) ns)
/-- what isinstance asks of the class -/
structure TIns (K : PySem.W.Frag) (C : Addr) : Prop where
  ha : PySem.W.findIn K (.ref C) "__class__" = some (some (.builtin "object.__class__"))
  hn : PySem.W.specialIn K (.builtin "object.__class__") "__get__" = some (some (.builtin "getset_descriptor.__get__"))
  ht : PySem.W.takesIn K (.builtin "object.__class__") = some true
  hm : PySem.W.mroIn K C (.type "object") = some true
  kit : PySem.W.kitOne K (.ref C) (.ref C) = some true
theorem rc_web {K : PySem.W.Frag} {mg : Str → Option Value} {C : Addr} {H : Hp} {x : Addr} {ts : List (List Int)} (T : TWeb K mg C) (I : TIns K C) (h : WebAt C H x ts) : Evl.RC (rIsi K) [.ref x, .ref C] H (.bl true) := fun H1 e _ q => by
  obtain ⟨dx, t, ti, h1, _⟩ := h.ex e
  exact ⟨.ref x, .ref C, .ref C, .ref C, true, rfl, .own C, .base (.ins h1 T.cl I.ha I.hn I.ht I.hm), I.kit, q H1 (Evl.Ex.refl H1)⟩
section
open Evl
variable {K : PySem.W.Frag} {σ : L2.St} {H : Hp}
theorem ev_fld {ta : TE} {C x dx : Addr} {fs : List (Str × V)} {f : Str} {v : V} (h : Ev ta σ H (.ref x)) (hx : H x = some (.ins C dx fs)) (cl : Cls K C) (na : NoAttr K C f) (hl : fs.lookup f = some v) : Ev (tFld K ta f) σ H v := fun H1 e Q q =>
  h H1 e _ fun H2 e2 => ⟨x, C, dx, fs, v, rfl, e2 _ _ (e _ _ hx), cl, na, hl, q H2 e2⟩
end
end P05
end S_Ci
section S_Wh
namespace Hk
open PySem PySem.Spec PyProof.Rows L2 LamX Tl
/-- a def called where no repr is under way, its code object known -/
theorem fn_gC {P : Program} {w : World} {K : PySem.W.Frag} {mg : Str → Option Value} {base : Heap} {x qual : Str} {st : Stmt} {f c : Addr} {fd : FuncData} {N ps : List Str} {k : Nat} {sp : Sp} (F : Fun K x qual st f fd) (hcode : fd.code = .ref c) (S : FnScope N ps (defScope st))
    (len : ∀ {vs H Q E}, sp vs H Q E → vs.length = ps.length)
    (hbody : ∀ (A : Around) (outer : List Env) (s : Shared) (H : Hp) (vs : List V) (Q : VK) (E : XK), A.guards = some [] → Room k (A.deeper (envOfC qual (defScope st) s.heap.objs.size f (.ref c))) → sp vs H Q E →
      ∃ t, PSs (cxOf CX0 P w K mg base N qual (defScope st) f (.ref c) A outer s H E).nox (defBody st) t ∧ t { nx := fun _ H' => Q .non H', rt := Q } (start N vs) H) : FnG P w K mg base (k + 1) f fd ps sp := by
  obtain ⟨oc, od, kV, doc, pm, an, cdv, ct, osl, rfl, lk, hcd⟩ := F.ex
  obtain rfl : cdv = .ref c := hcode
  refine ⟨len, fun {A outer s H args us vs Q E} hgd hr e0 hb r hsp => ?_⟩
  have kin : K.In s.heap := e0.mod.kin.keeps fun b o e => (e0.bs b o e).1
  have nl : s.heap.NoLimit := e0.mod.nolimit.keeps fun b o e => (e0.bs b o e).1
  refine codeAny_call_function hr.depth (kin _ _ lk) rfl S.co S.gen rfl (PySem.W.codeRec_of kin hcd) (hb _ _ _ _ (wpAny_newFunctionEnv_cells S.kind ?_ fun env he s1 x => ?_))
  · intro y hy
    have hp : y.1 ∈ ps := (List.of_mem_zip (a := y.1) (b := y.2) hy).1
    exact (S.par y.1 hp).imp id fun q => ⟨q, PySem.W.cellsFrom_some _ _ _ (.inl q)⟩
  · cases he
    obtain ⟨t, ht, hq⟩ := hbody A outer s H vs Q E hgd (hr.deeper _) hsp
    have I := inv_start (CX := CX0) (P := P) (w := w) (base := base) (E := E) (qual := qual) (f := f) (cd := .ref c) S hr.hd e0 (len hsp) r x
    refine ⟨nl.keeps x.toInCall.keep, codeAny_func (wpAny_mono (ht.nox.run [] s1 (start N vs) H _ I hq) (fun fl s' hs => ?_) fun _ _ hs => hs)⟩
    cases fl with
    | ret u =>
      obtain ⟨v, σ', H', J, rv, q⟩ := hs
      exact ⟨v, H', J.os, J.bare, J.base, J.hok, rv, q⟩
    | next =>
      obtain ⟨σ', H', J, q⟩ := hs
      exact ⟨.non, H', J.os, J.bare, J.base, J.hok, rfl, q⟩
    | brk => exact hs.elim fun _ h => h.elim fun _ h => h.2.elim
    | cont => exact hs.elim fun _ h => h.elim fun _ h => h.2.elim
theorem passF {X : Cx} {P : Program} {w : World} : Passes (L2.CX P w) X E0 := fun _ _ _ _ _ _ _ c => by
  obtain ⟨_, _, _, _, _, _, _, _, _, _, _, _, h⟩ := c
  exact h.elim
section
open Evl
variable {K : PySem.W.Frag} {σ : L2.St} {H H' : Hp} {ta tb te : TE}
theorem el_listT {p : Addr} {xs : List V} (ha : Ev ta σ H (.ref p)) (h : SqT K H p xs) : EvL (tCB (rListS K) (tCons ta tNil)) σ H xs := fun H1 e Q q =>
  ha H1 e _ fun H2 e2 => ⟨p, xs, rfl, .inr (ex_t (e.trans e2) h), fun l hl => q l _ (fresh_back e2 hl) (e2.trans (Ex.new hl)) upd_same⟩
theorem el_listU {xs : List V} (ha : EvU ta σ H xs) : EvL (tCB (rListS K) (tCons ta tNil)) σ H xs := fun H1 e Q q =>
  ha H1 e _ fun p H2 hp e2 h2 => ⟨p, xs, rfl, .inr (st_of h2), fun l hl => q l _ (fresh_back e2 hl) (e2.trans (Ex.new hl)) upd_same⟩
theorem ev_lenU {xs : List V} (ha : EvU ta σ H xs) : Ev (tCB (rLenS K) (tCons ta tNil)) σ H (.int (xs.length : Int)) := fun H1 e Q q =>
  ha H1 e _ fun p H2 _ e2 h2 => ⟨p, xs, rfl, .inr (st_of h2), q H2 e2⟩
/-- a tuple with these items, new or not -/
def EvTp (K : PySem.W.Frag) (te : TE) (σ : L2.St) (H : Hp) (xs : List V) : Prop := ∀ H1, Ex H H1 → ∀ Q : VK, (∀ p H2, Ex H1 H2 → SqT K H2 p xs → Q (.ref p) H2) → te σ H1 Q
theorem tp_u {xs : List V} (h : EvU te σ H xs) : EvTp K te σ H xs := fun H1 e Q q => h H1 e Q fun p H2 _ e2 h2 => q p H2 e2 (st_of h2)
theorem tp_slTo {th : TO} {a : Addr} {xs : List V} {n : Nat} (h : Ev te σ H (.ref a)) (h2 : EvO th σ H (some (n : Int))) (hs : SqT K H a xs) (hn : n ≤ xs.length) : EvTp K (tSl (rSlA K) te tNoPart th) σ H (xs.take n) := fun H1 e Q q =>
  h H1 e _ fun H2 e2 => h2 H2 (e.trans e2) _ fun H4 e4 => by
    have hh := ex_t ((e.trans e2).trans e4) hs
    have ec : cutV xs none (some (n : Int)) = xs.take n := by
      unfold cutV
      rw [HT.sIx_none, HT.sIx_nat, List.drop_zero, Nat.sub_zero, Nat.min_eq_left hn]
    refine ⟨a, xs, rfl, hh, fun hw => ?_, fun _ p hp => ?_⟩
    · have e1 := hw.2
      rw [HT.sIx_nat, Nat.min_eq_left hn] at e1
      refine q a H4 (e2.trans e4) ?_
      rw [e1, List.take_length]
      exact hh
    · rw [ec]
      exact q p _ ((e2.trans e4).trans (Ex.new hp)) (st_of upd_same)
/-- ints, as data -/
def dz (ns : List Int) : List PyData := ns.map PyData.int
theorem dp_z : ∀ (ns : List Int), DpAll K H (ns.map V.int) (dz ns)
  | [] => .nil
  | i :: r => .cons (.int i) (dp_z r)
theorem z_shT (ns : List Int) : SeqAt.shaped (.tuple (dz ns)) = true := by
  unfold dz
  simp [SeqAt.shaped, PyData.canLay0, PyData.depth, PySem.W.ke_canLayAll0, PySem.W.ke_depthAll]
theorem z_shL (ns : List Int) : SeqAt.shaped (.list (dz ns)) = true := PySem.W.ke_shaped_ints ns
theorem et_neTp {ns : List Int} (ha : EvTp K ta σ H (ns.map V.int)) (hb : EvTp K tb σ H (ns.map V.int)) : EvT (tTest (tOp (rNeD K) ta tb)) σ H false := fun H1 e Q q =>
  ha H1 e _ fun p H2 e2 h2 => hb H2 (e.trans e2) _ fun p3 H3 e3 h3 => by
    refine ⟨.tuple (dz ns), .tuple (dz ns), .tup (ex_t e3 h2) (dp_z ns), .tup h3 (dp_z ns), z_shT ns, z_shT ns, ?_⟩
    rw [SeqAt.eqv_refl _ (SeqAt.canLay_of_shaped (z_shT ns))]
    exact ⟨false, rfl, q H3 (e2.trans e3)⟩
theorem et_neLL {ns : List Int} (ha : EvL ta σ H (ns.map V.int)) (hb : EvL tb σ H (ns.map V.int)) : EvT (tTest (tOp (rNeD K) ta tb)) σ H false := fun H1 e Q q =>
  ha H1 e _ fun p H2 _ e2 h2 => hb H2 (e.trans e2) _ fun p3 H3 _ e3 h3 => by
    refine ⟨.list (dz ns), .list (dz ns), .lst (sq_of (e3 _ _ h2)) (dp_z ns), .lst (sq_of h3) (dp_z ns), z_shL ns, z_shL ns, ?_⟩
    rw [SeqAt.eqv_refl _ (SeqAt.canLay_of_shaped (z_shL ns))]
    exact ⟨false, rfl, q H3 (e2.trans e3)⟩
theorem piled_le : ∀ {ts : List Str} {c : Nat}, (∀ t ∈ ts, t.length ≤ c) → piled ts ≤ ts.length * (c + 2)
  | [], c, _ => Nat.zero_le _
  | t :: r, c, h => by
    have h1 := h t List.mem_cons_self
    have h2 := piled_le (ts := r) (c := c) fun u hu => h u (List.mem_cons_of_mem _ hu)
    rw [List.length_cons, Nat.succ_mul]
    show t.length + 2 + piled r ≤ _
    omega
theorem listText_le {ts : List Str} {c : Nat} (h : ∀ t ∈ ts, t.length ≤ c) : (listText ts).length ≤ ts.length * (c + 2) + 3 := by
  have hp := piled_le h
  unfold listText
  rw [strLen_append, show (("]" : String) : Str).length = 1 from rfl]
  cases ts with
  | nil =>
    show ((("[" : String) : Str)).length + 1 ≤ _
    rw [show (("[" : String) : Str).length = 1 from rfl]
    omega
  | cons t r =>
    show (textFrom (0 + 1) _ r).length + 1 ≤ _
    rw [textFrom_length_pos r (0 + 1) _ (by decide), strLen_append, strLen_append, show (("[" : String) : Str).length = 1 from rfl]
    have e2 : (((if 0 > 0 then ", " else "" : String)) : Str).length = 0 := rfl
    rw [e2]
    have e3 : piled (t :: r) = t.length + 2 + piled r := piled_cons t r
    omega
theorem shownAll_eq : ∀ ds : List PyData, PyData.shownAll ds = ds.map PyData.shown
  | [] => rfl
  | d :: r => by rw [PyData.shownAll, shownAll_eq r] <;> rfl
theorem z_len {ns : List Int} {b : Nat} (h1 : ns.length ≤ 10000) (h2 : ∀ x ∈ ns, x.natAbs ≤ 64) : (PyData.list (dz ns)).shown.length ≤ sizeLine := by
  show (listText (PyData.shownAll (dz ns))).length ≤ _
  rw [shownAll_eq]
  have := listText_le (ts := (dz ns).map PyData.shown) (c := 66) fun u hu => by
    unfold dz at hu
    rw [List.map_map] at hu
    obtain ⟨x, hx, rfl⟩ := List.mem_map.mp hu
    have b1 := len_str_of_int x
    have b2 := h2 x hx
    show (Str.ofString (toString x)).length ≤ 66
    omega
  rw [List.length_map] at this
  unfold dz at this
  rw [List.length_map] at this
  have h3 : ns.length * (66 + 2) ≤ 10000 * 68 := Nat.mul_le_mul h1 (Nat.le_refl _)
  rw [sizeLine_eq]
  unfold dz
  omega
theorem z_show : ∀ {ns : List Int}, (∀ x ∈ ns, x.natAbs ≤ 64) → PyData.showableAll (dz ns) = true
  | [], _ => rfl
  | x :: r, h => by
    show (decide (x.natAbs.log2 < 1920) && PyData.showableAll (dz r)) = true
    rw [z_show fun y hy => h y (List.mem_cons_of_mem _ hy), Bool.and_true]
    have h1 := h x List.mem_cons_self
    exact decide_eq_true (Nat.lt_of_le_of_lt (Nat.log2_le_self _) (by omega))
theorem z_nd : ∀ ns : List Int, PyData.hasDictAll (dz ns) = false
  | [] => rfl
  | x :: r => by show (false || PyData.hasDictAll (dz r)) = false; rw [z_nd r] <;> rfl
theorem z_deep (ns : List Int) : (PyData.list (dz ns)).depth ≤ 20 := by
  unfold dz
  simp [PyData.depth, PySem.W.ke_depthAll]
/-- repr of a new list of small ints -/
theorem ev_reprZ {ns : List Int} (h : EvL te σ H (ns.map V.int)) (h1 : ns.length ≤ 10000) (h2 : ∀ x ∈ ns, x.natAbs ≤ 64) : Ev (tCB (rRepr K) (tCons te tNil)) σ H (.str (PyData.list (dz ns)).shown) := fun H1 e Q q =>
  h H1 e _ fun p H2 _ e2 h2' => ⟨p, _, rfl, .lst (sq_of h2') (dp_z ns), z_show h2, z_nd ns, z_deep ns, z_len (b := 0) h1 h2, q H2 e2⟩
theorem et_neStr {z : Str} (h1 : Ev ta σ H (.str z)) (h2 : Ev tb σ H (.str z)) : EvT (tTest (tOp rNe ta tb)) σ H false :=
  et_is (et_test (ev_op h1 h2 (rv_ne rfl))) (by rw [decide_eq_true rfl] <;> rfl)
end
end Hk
end S_Wh
section S_Wl
namespace Hk
open PySem PySem.Spec PyProof.Rows L2 Tl
theorem cutAt (xs : List V) {b h : Nat} (hl : b + h ≤ xs.length) : cutV xs (some (b : Int)) (some ((b + h : Nat) : Int)) = (xs.drop b).take h := by
  unfold cutV
  rw [HT.sIx_nat, HT.sIx_nat, Nat.min_eq_left hl, Nat.min_eq_left (by omega), show b + h - b = h by omega]
section
open Evl
variable {K : PySem.W.Frag} {σ : L2.St} {H : Hp} {ta tb : TE}
def zD (ns : List Int) : List PyData := ns.map PyData.int
theorem dp_zD : ∀ (ns : List Int), DpAll K H (ns.map V.int) (zD ns)
  | [] => .nil
  | i :: r => .cons (.int i) (dp_zD r)
theorem eqv_zD (ns ms : List Int) : PyData.eqv (.list (zD ns)) (.list (zD ms)) = decide (ns = ms) := PySem.W.Datum.eqv (α := List Int) ns ms
/-- two new lists of ints, alike or not -/
theorem ev_eqLL {ns ms : List Int} (ha : EvL ta σ H (ns.map V.int)) (hb : EvL tb σ H (ms.map V.int)) : Ev (tOp (rEqD K) ta tb) σ H (.bl (decide (ns = ms))) :=
  ev_opLL ha hb fun p q H1 h1 h2 _ => fun H2 e2 Q k => by
    refine ⟨.list (zD ns), .list (zD ms), .lst (sq_of (e2 _ _ h1)) (dp_zD ns), .lst (sq_of (e2 _ _ h2)) (dp_zD ms), PySem.W.ke_shaped_ints ns, PySem.W.ke_shaped_ints ms, ?_⟩
    rw [eqv_zD]
    exact k H2 (Ex.refl H2)
end
end Hk
namespace Hk
open PySem PySem.Spec PyProof.Rows L2 Tl
section
open Evl
variable {K : PySem.W.Frag} {σ : L2.St} {H : Hp} {ta tb te : TE} {t : TT}
/-- a comprehension over anything that is walked, with a test: the turns that give, and what -/
theorem el_lcI {wi : TI} {g : TG} {vs : List Nat} {n : Nat} {Y : Nat → Hp → V → Hp → Prop} {s : Nat → L2.St → L2.St} (f : Nat → Bool) (v : Nat → V) (hw : EvI wi σ H n Y) (aim : Aims g n Y s) (hs : ∀ i, wipe (s i (wipe σ vs)) vs = wipe σ vs) (hn : n ≤ 40000)
    (ht : ∀ i H1, Ex H H1 → i < n → EvT t (s i (wipe σ vs)) H1 (f i)) (he : ∀ i H1, Ex H H1 → i < n → f i = true → Ev te (s i (wipe σ vs)) H1 (v i)) : EvL (tLc wi g t te vs) σ H (given n f v) := fun H1 e Q q =>
  hw H1 e _ fun J G H2 e2 w sG D hD => lc_it w (Cw H2 f v D) ⟨hD, Ex.new hD, upd_same⟩ (fun i H' _ p => sG H' ((e.trans e2).trans p.2.1) fun a o _ ha => p.2.1 _ _ ha)
    (fun i x A B hi p y => by
      obtain ⟨ab, k⟩ := aim i (wipe σ vs) A x B hi y
      exact k _ ⟨hs i, cw_turn ⟨p.1, p.2.1.trans ab, ab _ _ p.2.2⟩ (by omega) (ht i H2 (e.trans e2) hi) fun hf => he i H2 (e.trans e2) hi hf⟩)
    (fun H' p => q D H' (fresh_back e2 p.1) (e2.trans p.2.1) p.2.2)
theorem el_catN {xs ys : List V} (ha : EvL ta σ H xs) (hb : EvL tb σ H ys) (hz : xs.length + ys.length ≤ 100000) : EvL (tOp rCat ta tb) σ H (xs ++ ys) := fun H1 e Q q =>
  ha H1 e _ fun a H2 ha' e2 h2 => hb H2 (e.trans e2) _ fun p H3 _ e3 h3 => ⟨a, p, xs, ys, rfl, rfl, e3 _ _ h2, h3, sz_of hz, fun r hr => q r _ (fresh_back (e2.trans e3) hr) ((e2.trans e3).trans (Ex.new hr)) upd_same⟩
end
theorem yes_at {σ : L2.St} {H : Hp} {P R : Hp → Prop} (h : P H) : tYes σ H fun b H3 => if b = true then P H3 else R H3 := by
  show (if true = true then P H else R H)
  rw [if_pos rfl]
  exact h
theorem if_go {b : Bool} {P R : Prop} (h1 : b = true → P) (h2 : b = false → R) : if b = true then P else R := by
  cases b with
  | true => rw [if_pos rfl]; exact h1 rfl
  | false => rw [if_neg (by decide)]; exact h2 rfl
theorem cutTo' (xs : List V) (n : Nat) : cutV xs none (some (n : Int)) = xs.take n := by
  unfold cutV
  rw [HT.sIx_none, HT.sIx_nat, List.drop_zero, Nat.sub_zero]
  by_cases h : n ≤ xs.length
  · rw [Nat.min_eq_left h]
  · rw [Nat.min_eq_right (by omega), List.take_length, List.take_of_length_le (by omega)]
theorem cutFrom (xs : List V) (n : Nat) : cutV xs (some (n : Int)) none = xs.drop n := by
  unfold cutV
  rw [HT.sIx_nat, HT.sIx_none]
  by_cases h : n ≤ xs.length
  · rw [Nat.min_eq_left h, List.take_of_length_le (by rw [List.length_drop]; omega)]
  · rw [Nat.min_eq_right (by omega), Nat.sub_self, List.take_zero, List.drop_of_length_le (by omega)]
end Hk
namespace Hk
open PySem PySem.Spec PyProof.Rows L2 Tl
section
open Evl
variable {K : PySem.W.Frag} {σ : L2.St} {H : Hp} {ta tb te : TE} {t : TT}
theorem el_catNV {m : Addr} {xs ys : List V} (ha : EvL ta σ H xs) (hb : Ev tb σ H (.ref m)) (hm : H m = some (.lst ys)) (hz : xs.length + ys.length ≤ 100000) : EvL (tOp rCat ta tb) σ H (xs ++ ys) := fun H1 e Q q =>
  ha H1 e _ fun a H2 ha' e2 h2 => hb H2 (e.trans e2) _ fun H3 e3 => ⟨a, m, xs, ys, rfl, rfl, e3 _ _ h2, e3 _ _ (e2 _ _ (e _ _ hm)), sz_of hz, fun r hr => q r _ (fresh_back (e2.trans e3) hr) ((e2.trans e3).trans (Ex.new hr)) upd_same⟩
theorem el_rg1 {j : Int} (ha : Ev ta σ H (.int j)) (h : RgOk 0 j) : EvL (tLstRg (tRg1 ta)) σ H (rgV 0 j) := fun H1 e Q q =>
  ha H1 e _ fun H2 e2 => ⟨j, rfl, h, fun p hp => q p _ (fresh_back e2 hp) (e2.trans (Ex.new hp)) upd_same⟩
end
end Hk
namespace Hk
open PySem PySem.Spec PyProof.Rows L2 LamX Tl
theorem tupText_le {ts : List Str} {c : Nat} (h : ∀ t ∈ ts, t.length ≤ c) : (tupleText ts).length ≤ ts.length * (c + 2) + 3 := by
  unfold tupleText
  rw [strLen_append, strLen_append]
  have e1 : (("(" : String) : Str).length = 1 := rfl
  have e2 : (((if ts.length == 1 then ",)" else ")" : String)) : Str).length ≤ 2 := by split <;> decide
  have e3 : (Str.join ", " ts).length ≤ piled ts := by
    cases ts with
    | nil => exact Nat.le_refl _
    | cons t r => have := join_length_add (t :: r) (by simp); omega
  have := piled_le h
  omega
theorem z_lenT {ns : List Int} {c : Nat} (h1 : ns.length * (c + 4) ≤ 100000) (h2 : ∀ x ∈ ns, x.natAbs ≤ c) : (PyData.tuple (dz ns)).shown.length ≤ sizeLine := by
  show (tupleText (PyData.shownAll (dz ns))).length ≤ _
  rw [shownAll_eq]
  have := tupText_le (ts := (dz ns).map PyData.shown) (c := c + 2) fun u hu => by
    unfold dz at hu
    rw [List.map_map] at hu
    obtain ⟨x, hx, rfl⟩ := List.mem_map.mp hu
    have b1 := len_str_of_int x
    have b2 := h2 x hx
    show (Str.ofString (toString x)).length ≤ c + 2
    omega
  rw [List.length_map] at this
  unfold dz at this
  rw [List.length_map] at this
  have h3 : ns.length * (c + 2 + 2) ≤ 100000 := h1
  rw [sizeLine_eq]
  unfold dz
  omega
theorem z_showB {b : Nat} (hb : b < 2 ^ 1000) : ∀ {ns : List Int}, (∀ x ∈ ns, x.natAbs ≤ b) → PyData.showableAll (dz ns) = true
  | [], _ => rfl
  | x :: r, h => by
    show (decide (x.natAbs.log2 < 1920) && PyData.showableAll (dz r)) = true
    rw [z_showB hb fun y hy => h y (List.mem_cons_of_mem _ hy), Bool.and_true]
    have h1 := h x List.mem_cons_self
    refine decide_eq_true ?_
    by_cases z : x.natAbs = 0
    · rw [z]; decide
    · have := (Nat.log2_lt z (k := 1000)).mpr (by omega)
      omega
theorem z_deepT (ns : List Int) : (PyData.tuple (dz ns)).depth ≤ 20 := by
  unfold dz
  simp [PyData.depth, PySem.W.ke_depthAll]
/-- repr of data at an address, or of None -/
def rReprB (K : PySem.W.Frag) : List V → Hp → VK → Prop := fun xs H Q => rRepr K xs H Q ∨ (xs = [.non] ∧ Q (.str "None") H)
theorem call_reprB {X : Cx} (hg : X.A.guards = some []) (hu : X.A.units + 64 < cLine) : CallR X (.builtin "repr") (rReprB X.K) := by
  intro pins s σ H xs us Q I r h
  rcases h with h | ⟨rfl, q⟩
  · exact call_reprD hg hu _ _ _ _ _ _ _ I r h
  · obtain ⟨u, rfl, ru⟩ := vals1 r
    cases ru
    exact PySem.P.repr_of_none ⟨.str "None", H, I.tok _, ⟨_, rfl⟩, q⟩
end Hk
end S_Wl
section S_Wm
namespace Hk
open PySem PySem.Spec PyProof.Rows L2 Tl
/-- a set without items, as set() lays it -/
abbrev zO (w : World) : Obj := { cls := .type "set", dict := none, data := .set #[] 0 (.fresh 0 0 (!w.params.followText "set-order")) }
/-- what comes of set(l), l a list of these ints -/
def Got (w : World) (s : Shared) (ns : List Int) (r : Value) (s2 : Shared) : Prop := r = .ref s.heap.objs.size ∧ ∃ (h' : Heap) (tk c : Nat), s2 = { s with heap := h', toks := tk } ∧ SetR w h' s.heap.objs.size (fun j => decide (j ∈ ns)) c ∧ c ≤ ns.length ∧ ∀ b o, s.heap.get? b = some o → h'.get? b = some o
section
variable {P : Program} {w : World} {A : Around} {E : Value → Shared → Prop} {s : Shared}
set_option maxHeartbeats 3200000 in
theorem fill_list {l : Addr} {its : Array Value} {ns : List Int} (a0 : A.handled = none) (hl : s.heap.IsList l its) (hi : IntsAre its.toList ns) (hb : ns.length + 1 < scanBound) :
    codeAny (model P w) A (.call (.builtin "set.__init__") ⟨[.ref s.heap.objs.size, .ref l], []⟩) (wants (fun r s2 => r = .none ∧ Got w s ns (.ref s.heap.objs.size) s2) E) { s with heap := s.heap.push (zO w) } := by
  have n1 : its.size = ns.length := by
    have z := IntsAre.length hi
    rwa [Array.length_toList] at z
  have g0 : (s.heap.push (zO w)).get? s.heap.objs.size = some (zO w) := Heap.get?_push_size _ rfl
  refine codeAny_call_builtin (R := wants (fun r s2 => r = .none ∧ Got w s ns (.ref s.heap.objs.size) s2) E) F.called_set.init.plain F.entry_set_init (check_set_init_1 (s := { s with heap := s.heap.push (zO w) }) ⟨_, g0, rfl⟩ ?_)
  obtain ⟨⟨oc, od, ob, osl⟩, o1, o2, nl, o3⟩ := hl
  simp only at o2 o3
  subst o2
  subst o3
  have g1 := Heap.get?_push_of_some (zO w) o1
  have hls : (s.heap.push (zO w)).IsList l its := ⟨_, g1, rfl, nl, rfl⟩
  have k1 := F.sub_list_set
  have k2 := F.sub_list_frozenset
  have k3 : (Value.type "list" == Value.type "dict") = false := by decide
  unfold Builtin.«set.__init__» noKeywords Builtin.Frozenset.updateFrom
  generalize hPI : pyIter = PI
  wp_walk
  subst hPI
  refine wpAny_pyIter_list hls (wpAny_bind (wpAny_runValue ?_))
  have lS : l < s.heap.objs.size := Heap.lt_size o1
  have sz : (s.heap.push (zO w)).objs.size = s.heap.objs.size + 1 := Heap.size_push ..
  have a3 : A.in1.in1.handled = none := by simp [a0]
  have nI : l ≠ (s.heap.push (zO w)).objs.size := by
    rw [sz]
    exact Nat.ne_of_lt (Nat.lt_succ_of_lt lS)
  have nS : s.heap.objs.size ∉ [(s.heap.push (zO w)).objs.size, l] := fun m => by
    rw [sz] at m
    rcases List.mem_cons.mp m with z | z
    · exact Nat.ne_of_lt (Nat.lt_succ_self _) z
    · exact Nat.ne_of_gt lS (List.mem_singleton.mp z)
  have val : ∀ (i : Nat) (v : Value), its[i]? = some v → ∃ k t, ns[i]? = some k ∧ v = .int k t := fun i v hv => by
    have lt : i < ns.length := by rw [← n1]; exact (Array.getElem?_eq_some_iff.mp hv).1
    obtain ⟨t, e⟩ := PyProof.Rows.IntsAre.int_at hi i v (by rw [Array.getElem?_toList]; exact hv)
    exact ⟨ns[i], t, List.getElem?_eq_getElem lt, by rw [e, List.getD_eq_getElem?_getD, List.getElem?_eq_getElem lt] <;> rfl⟩
  refine set_update_ints ((Walks.list a3 _ l nI its).toS) s.heap.objs.size nS ns n1 hb val (its.size - 0) 0 _ (by omega) (Nat.zero_le _) ?z ?z0 ?z1
  case z => exact ⟨⟨_, Heap.get?_push_size _ rfl, rfl, rfl⟩, (hls.push _)⟩
  case z0 => exact ⟨0, Nat.le_refl 0, setR_new_at (Heap.get?_push_of_some _ g0)⟩
  case z1 =>
    intro s' c' hm hc' hS'
    obtain ⟨h', g2, d2, tk', os2⟩ := s'
    obtain rfl : g2 = s.gens := hm.gens
    obtain rfl : d2 = s.drawn := hm.drawn
    obtain rfl : os2 = s.os := hm.os
    show wpAny _ _ _ _ _ _
    refine wpAny_pure ?_
    show wpAny _ _ (ret Value.none) _ _ _
    rw [n1] at hc'
    refine wpAny_pure ⟨rfl, rfl, h', tk', c', rfl, hS', hc', fun b o e => ?_⟩
    have lb : b < s.heap.objs.size := Heap.lt_size e
    refine hm.heap b o (fun m => ?_) (Heap.get?_push_of_some _ (Heap.get?_push_of_some _ e))
    rcases List.mem_cons.mp m with z | z
    · exact Nat.ne_of_lt lb z
    · have z := List.mem_singleton.mp z
      rw [sz] at z
      exact Nat.ne_of_lt (Nat.lt_succ_of_lt lb) z
set_option maxHeartbeats 3200000 in
theorem set_of_list {l : Addr} {its : Array Value} {ns : List Int} {Q : Value → Shared → Prop} (a0 : A.handled = none) (hl : s.heap.IsList l its) (hi : IntsAre its.toList ns) (hb : ns.length + 1 < scanBound)
    (k : ∀ r s2, Got w s ns r s2 → Q r s2) : wpAny (model P w) A (call (.type "set") [.ref l]) Q E s := by
  obtain ⟨c, tl, hmro⟩ := F.called_set.mro
  refine wpAny_call (codeAny_of_tree ?_)
  show wpAny _ _ (callAny (.type "set") _) _ _ _
  refine wpAny_pure ⟨Code.quiet_builtin _ (by decide +kernel), codeAny_builtin F.entry_type_call ?_⟩
  rw [Around.under_plain (weight_type_call_type "set" [.ref l] []) rfl]
  have m1 := F.called_set.made
  have m2 := F.called_set.sub
  have m3 := F.called_set.notType
  have m4 := F.called_set.canCreate
  have m5 := F.typeCall_set_1 (.ref l)
  repeat (any_goals (first | assumption | wp_step))
  refine codeAny_mono (code_set_led1 (.ref l) (E := E) (Q₁ := fun u t => u = .ref s.heap.objs.size ∧ t = { s with heap := s.heap.push (zO w) }) ⟨rfl, rfl⟩) fun r s1 hr => ?_
  match r, hr with
  | .ok (.ret u), hr =>
    obtain ⟨rfl, rfl⟩ := hr
    have g0 : (s.heap.push (zO w)).get? s.heap.objs.size = some (zO w) := Heap.get?_push_size _ rfl
    have hT : Shared.TypeIs { s with heap := s.heap.push (zO w) } (.ref s.heap.objs.size) "set" := ⟨_, g0, rfl⟩
    have m6 := F.called_set.init.lookup
    have m7 := F.called_set.init.bind (.ref s.heap.objs.size)
    repeat (any_goals (first | assumption | wp_step))
    refine codeAny_mono (fill_list (P := P) (w := w) (E := E) a0 hl hi hb) fun r2 s2 h2 => ?_
    match r2, h2 with
    | .ok (.ret u), h2 =>
      obtain ⟨rfl, G⟩ := h2
      repeat (any_goals (first | assumption | wp_step))
      exact k _ _ G
    | .error e, h2 => exact h2
    | .ok .next, h2 => exact h2.elim
    | .ok .brk, h2 => exact h2.elim
    | .ok .cont, h2 => exact h2.elim
  | .error e, hr => exact hr
  | .ok .next, hr => exact hr.elim
  | .ok .brk, hr => exact hr.elim
  | .ok .cont, hr => exact hr.elim
end
/-- set(l) of a list of ints -/
def rSetL (K : PySem.W.Frag) (w : World) : List V → Hp → VK → Prop := fun xs H Q => ∃ (l : Addr) (ns : List Int), xs = [.ref l] ∧ SqL K H l (ns.map V.int) ∧ ns.length ≤ 1000 ∧ ∀ p c, H p = none → c ≤ ns.length → Q (.ref p) (upd H p (SetO w p (fun j => decide (j ∈ ns)) c))
theorem cr_setL {X : Cx} (hc : X.calm = true) : CallR X (.type "set") (rSetL X.K X.w) := by
  intro pins s σ H xs us Q I r h
  obtain ⟨l, ns, rfl, hq, hz, q⟩ := h
  rw [Vals.ref1 r]
  obtain ⟨its, rv, pl, _⟩ := I.list hq
  refine set_of_list (ns := ns) (I.ok.hd hc) pl.isList (by simpa using RZ.intsAre_vals rv) (by unfold scanBound; omega) fun u s2 ⟨e1, h', tk, c, e2, R, hc', kp⟩ => ?_
  subst e1 e2
  have hn : H s.heap.objs.size = none := I.hok.fresh (Nat.le_refl _)
  exact ⟨.ref s.heap.objs.size, _, I.laid (t' := tk) kp (Nat.le_refl _) (setO_new R), rfl, q _ c hn hc'⟩
end Hk
end S_Wm
section S_Wn
namespace Hk
open PySem PySem.Spec PyProof.Rows L2 Tl
/-- the i-th of xs, and what stands while it is walked -/
def YRow (xs : List V) (W : Hp → Prop) : Nat → Hp → V → Hp → Prop := fun i H v H' => H' = H ∧ xs[i]? = some v ∧ W H
section
open Evl
variable {K : PySem.W.Frag} {σ : L2.St} {H : Hp} {te : TE}
theorem ei_rowsL {a : Addr} {xs : List V} {n : Nat} {W : Hp → Prop} (h : Ev te σ H (.ref a)) (hx : SqL K H a xs) (hn : n = xs.length) (hW : ∀ A, Ex H A → W A) : EvI (iList K te) σ H n (YRow xs W) := fun H1 e R k => by
  subst hn
  exact h H1 e _ fun H2 e2 => ⟨a, rfl, ⟨xs, ex_l (e.trans e2) hx⟩, k _ (fun A => SqL K A a xs ∧ W A) H2 e2 (walk_list.mono (fun _ q => q.1) fun i A v A' hi q y => ⟨y.1, y.2, q.2⟩) fun A ab _ => ⟨ex_l ab hx, hW A ab⟩⟩
theorem ei_rowsT {a : Addr} {xs : List V} {n : Nat} {W : Hp → Prop} (h : Ev te σ H (.ref a)) (hx : SqT K H a xs) (hn : n = xs.length) (hW : ∀ A, Ex H A → W A) : EvI (iTup K te) σ H n (YRow xs W) := fun H1 e R k => by
  subst hn
  exact h H1 e _ fun H2 e2 => ⟨a, rfl, ⟨xs, ex_t (e.trans e2) hx⟩, k _ (fun A => SqT K A a xs ∧ W A) H2 e2 (walk_tup.mono (fun _ q => q.1) fun i A v A' hi q y => ⟨y.1, y.2, q.2⟩) fun A ab _ => ⟨ex_t ab hx, hW A ab⟩⟩
theorem ei_rng3 {ta : TA} {i j c : Int} {n : Nat} (h : EvA ta σ H [.int i, .int j, .int c]) (hr : RgC i j c n) : EvI (iRng3 ta) σ H n (YFn fun k => .int (i + (k : Nat) * c)) := fun H1 e R k =>
  h H1 e _ fun H2 e2 => ⟨i, j, c, n, rfl, hr, k _ _ H2 e2 walk_rangeC fun _ _ _ => trivial⟩
end
section
open Evl
variable {K : PySem.W.Frag} {σ : L2.St} {H : Hp}
/-- tuple(list made now) -/
theorem en_tupNL {ta : TE} {L : List V → Hp → Prop} (h : EvNL ta σ H L) : EvN (tCB (fun xs H Q => ∃ p ys, xs = [V.ref p] ∧ ((SqL K H p ys ∧ ∀ l, H l = none → Q (V.ref l) (upd H l (HO.tup ys))) ∨ (SqT K H p ys ∧ Q (V.ref p) H))) (tCons ta tNil)) σ H
    (fun u H' => ∃ t xs, u = .ref t ∧ H' t = some (.tup xs) ∧ L xs H') := fun H1 e Q q =>
  h H1 e _ fun p xs H2 hp e2 h2 hL => ⟨p, xs, rfl, .inl ⟨sq_of h2, fun t ht => q _ _ (e2.trans (Ex.new ht)) fun H3 h3 s3 => ⟨t, xs, rfl, s3 _ _ (fresh_back e2 ht) upd_same, hL H3 h3 fun a o _ ha hb => by
    refine s3 a o ha ?_
    rw [upd_ne (ne_of_none hb ht)]
    exact hb⟩⟩⟩
end
theorem ev_anyN {K : PySem.W.Frag} {ta : TE} {σ : L2.St} {H : Hp} {bs : List Bool} (h : Evl.EvL ta σ H (bs.map V.bl)) : Evl.Ev (tCB (rAny K) (tCons ta tNil)) σ H (.bl (bs.any id)) := fun H1 e Q q =>
  h H1 e _ fun p H2 hp e2 h2 => ⟨p, bs, rfl, Evl.sq_of h2, q H2 e2⟩
/-- a for over what EvI tells; the body may write what is not of the walk -/
theorem s_forI {wi : TI} {g : TG} {tb : TS} {D : Ends} {σ : L2.St} {H B : Hp} {n : Nat} {Y : Nat → Hp → V → Hp → Prop} {s : Nat → L2.St → L2.St} (hw : EvI wi σ B n Y) (aim : Aims g n Y s) (e : Evl.Ex B H) (Pv : Hp → Nat → L2.St → Hp → Prop) (h0 : ∀ H2, Evl.Ex H H2 → Pv H2 0 σ H2)
    (hk : ∀ H2 i σ' H', Evl.Ex H H2 → i ≤ n → Pv H2 i σ' H' → Evl.Ex B H' ∧ Since H H2 H') (hs : ∀ H2 i σ' H' H'', Evl.Ex H H2 → i < n → Pv H2 i σ' H' → Evl.Ex H' H'' → tb { D with nx := Pv H2 (i + 1), ct := Pv H2 (i + 1), bk := D.nx } (s i σ') H'')
    (hd : ∀ H2 σ' H', Evl.Ex H H2 → Pv H2 n σ' H' → D.nx σ' H') : tFor wi g tb D σ H :=
  hw H e _ fun J G H2 e2 w sG => for_it w (Pv H2) (h0 H2 e2) (fun i σ' H' hi p => sG H' (hk H2 i σ' H' e2 hi p).1 (hk H2 i σ' H' e2 hi p).2)
    (fun i x σ' H' H'' hi p y => by
      obtain ⟨ab, k⟩ := aim i σ' H' x H'' hi y
      exact k _ (hs H2 i σ' H' H'' e2 hi p ab)) (fun σ' H' p => hd H2 σ' H' e2 p)
theorem q_forI {wi : TI} {g : TG} {tb tz : TS} {D : Ends} {σ : L2.St} {H B : Hp} {n : Nat} {Y : Nat → Hp → V → Hp → Prop} {s : Nat → L2.St → L2.St} (hw : EvI wi σ B n Y) (aim : Aims g n Y s) (e : Evl.Ex B H) (Pv : Hp → Nat → L2.St → Hp → Prop) (h0 : ∀ H2, Evl.Ex H H2 → Pv H2 0 σ H2)
    (hk : ∀ H2 i σ' H', Evl.Ex H H2 → i ≤ n → Pv H2 i σ' H' → Evl.Ex B H' ∧ Since H H2 H') (hs : ∀ H2 i σ' H' H'', Evl.Ex H H2 → i < n → Pv H2 i σ' H' → Evl.Ex H' H'' → tb { D with nx := Pv H2 (i + 1), ct := Pv H2 (i + 1), bk := tz D } (s i σ') H'')
    (hd : ∀ H2 σ' H', Evl.Ex H H2 → Pv H2 n σ' H' → tz D σ' H') : tSeq (tFor wi g tb) tz D σ H := s_forI (D := { D with nx := tz D }) hw aim e Pv h0 hk hs hd
theorem el_catVN {σ : L2.St} {H : Hp} {ta tb : TE} {m : Addr} {xs ys : List V} (ha : Evl.Ev ta σ H (.ref m)) (hm : H m = some (.lst xs)) (hb : Evl.EvL tb σ H ys) (hz : xs.length + ys.length ≤ 100000) : Evl.EvL (tOp rCat ta tb) σ H (xs ++ ys) := fun H1 e Q q =>
  ha H1 e _ fun H2 e2 => hb H2 (e.trans e2) _ fun p H3 _ e3 h3 => ⟨m, p, xs, ys, rfl, rfl, e3 _ _ (e2 _ _ (e _ _ hm)), h3, Evl.sz_of hz, fun r hr => q r _ (Evl.fresh_back (e2.trans e3) hr) ((e2.trans e3).trans (Evl.Ex.new hr)) upd_same⟩
/-- a, b = a row of two -/
theorem aims_rowT2 {K : PySem.W.Frag} {xs : List V} {n j1 j2 : Nat} {c : Nat → V × V} : Aims (gTup K 2 (gCons (gName j1) (gCons (gName j2) gNil))) n
    (YRow xs fun H => ∀ i v, i < n → xs[i]? = some v → ∃ r, v = .ref r ∧ H r = some (.tup [(c i).1, (c i).2])) (fun i σ => (σ.set j1 (some (c i).1)).set j2 (some (c i).2)) := fun i σ H v H' hi y => by
  obtain ⟨rfl, hv, w⟩ := y
  obtain ⟨r, rfl, hr⟩ := w i v hi hv
  exact ⟨Evl.Ex.refl _, fun Q q => ⟨r, _, rfl, Evl.st_of hr, rfl, _, _, rfl, _, _, rfl, rfl, q⟩⟩
/-- a, b, c = a row of three, a list -/
theorem aims_rowL3 {K : PySem.W.Frag} {xs : List V} {n j1 j2 j3 : Nat} {c : Nat → V × V × V} : Aims (gLst K 3 (gCons (gName j1) (gCons (gName j2) (gCons (gName j3) gNil)))) n
    (YRow xs fun H => ∀ i v, i < n → xs[i]? = some v → ∃ r, v = .ref r ∧ H r = some (.lst [(c i).1, (c i).2.1, (c i).2.2])) (fun i σ => ((σ.set j1 (some (c i).1)).set j2 (some (c i).2.1)).set j3 (some (c i).2.2)) := fun i σ H v H' hi y => by
  obtain ⟨rfl, hv, w⟩ := y
  obtain ⟨r, rfl, hr⟩ := w i v hi hv
  exact ⟨Evl.Ex.refl _, fun Q q => ⟨r, _, rfl, Evl.sq_of hr, rfl, _, _, rfl, _, _, rfl, _, _, rfl, rfl, q⟩⟩
theorem joinL_length (S : List Nat) : ∀ ps : List (List Nat), (TL.joinL S ps).length ≤ (ps.map List.length).sum + ps.length * S.length
  | [] => by unfold TL.joinL; simp
  | [p] => by unfold TL.joinL; simp
  | p :: q :: r => by
    have ih := joinL_length S (q :: r)
    have e : TL.joinL S (p :: q :: r) = p ++ (S ++ TL.joinL S (q :: r)) := rfl
    rw [e, List.length_append, List.length_append, List.map_cons, List.sum_cons, List.length_cons, Nat.add_mul]
    omega
theorem tl_length (s : Str) : (TL.tl s).length = s.length := (TL.len_tl s).symm
theorem join_len (y : Str) (ps : List Str) : (Txt.join y ps).length ≤ (ps.map (·.length)).sum + ps.length * y.length := by
  rw [← tl_length, TL.join_eq, TL.tl_join]
  refine Nat.le_trans (joinL_length _ _) ?_
  rw [List.map_map, List.length_map, tl_length]
  have : (ps.map (List.length ∘ TL.tl)) = ps.map (·.length) := List.map_congr_left fun p _ => tl_length p
  rw [this] <;> exact Nat.le_refl _
end Hk
namespace Hk
open PySem PySem.Spec PyProof.Rows L2 Tl
open Evl
theorem ev_neNilL {K : PySem.W.Frag} {σ : L2.St} {H : Hp} {ta : TE} {cs : List Int} (h : EvL ta σ H (cs.map V.int)) : Ev (tOp (rNeD K) ta (tLst tNil)) σ H (.bl (!cs.isEmpty)) :=
  ev_opLL (ys := []) h (el_lst ea_nil (Nat.zero_le _)) fun p q H1 h1 h2 _ => fun H2 e2 Q k => by
    refine ⟨.list (zD cs), .list [], .lst (sq_of (e2 _ _ h1)) (dp_zD cs), .lst (sq_of (e2 _ _ h2)) .nil, PySem.W.ke_shaped_ints cs, by decide +kernel, ?_⟩
    have e3 : PyData.eqv (.list (zD cs)) (.list []) = cs.isEmpty := by cases cs <;> rfl
    rw [e3]
    exact k H2 (Ex.refl H2)
/-- the heap without one object -/
def but (t : Addr) (H : Hp) : Hp := fun a => if a = t then none else H a
theorem but_le {t : Addr} {H : Hp} : Ex (but t H) H := fun a o h => by
  unfold but at h
  split at h
  · cases h
  · exact h
theorem but_at {t a : Addr} {H : Hp} (h : a ≠ t) : but t H a = H a := if_neg h
/-- a comprehension whose body draws -/
theorem go_lcT {wi : TI} {g : TG} {tt : TT} {te : TE} {vs : List Nat} {n : Nat} {Y : Nat → Hp → V → Hp → Prop} {s : Nat → L2.St → L2.St} {σ : L2.St} {H : Hp} {Q : VK} {t : Addr} {o : HO} (ho : H t = some o)
    (hw : EvI wi σ (but t H) n Y) (aim : Aims g n Y s) (hs : ∀ i, wipe (s i (wipe σ vs)) vs = wipe σ vs) (hn : n ≤ 40000) (R : Nat → List V → Hp → Prop)
    (h0 : ∀ H2, Ex H H2 → R 0 [] H2) (hx : ∀ i acc A B, R i acc A → Ex A B → R i acc B)
    (hu : ∀ i acc A D l l', H D = none → D ≠ t → A D = some (.lst l) → R i acc A → R i acc (upd A D (.lst l')))
    (hst : ∀ i acc A (F1 : V → Hp → Prop) (F2 : Hp → Prop), i < n → (∀ a o, a ≠ t → H a = some o → A a = some o) → acc.length ≤ i → R i acc A →
      (∀ y H4, (∀ a o, a ≠ t → A a = some o → H4 a = some o) → R (i + 1) (acc ++ [y]) H4 → F1 y H4) → (∀ H3, (∀ a o, a ≠ t → A a = some o → H3 a = some o) → R (i + 1) acc H3 → F2 H3) →
      tt (s i (wipe σ vs)) A fun b H3 => if b = true then te (s i (wipe σ vs)) H3 F1 else F2 H3)
    (hd : ∀ D acc A, H D = none → D ≠ t → A D = some (.lst acc) → acc.length ≤ n → (∀ a o, a ≠ t → H a = some o → A a = some o) → R n acc A → Q (.ref D) A) : tLc wi g tt te vs σ H Q :=
  hw H but_le _ fun J G H2 e2 w sG D hD => by
    have D0 : H D = none := fresh_back e2 hD
    have Dt : D ≠ t := fun z => by rw [z, ho] at D0; cases D0
    have kp : ∀ {A : Hp}, (∀ a o, a ≠ t → H2 a = some o → A a = some o) → ∀ a o, a ≠ t → H a = some o → A a = some o := fun k a o ha h => k a o ha (e2 _ _ h)
    refine lc_it w (fun i A => (∀ a o, a ≠ t → H2 a = some o → A a = some o) ∧ ∃ acc, A D = some (.lst acc) ∧ acc.length ≤ i ∧ R i acc A) ⟨fun a o _ h => Ex.new hD a o h, [], upd_same, Nat.le_refl _, h0 _ (e2.trans (Ex.new hD))⟩ (fun i A _ p => sG A (fun a o h => ?_) fun a o h1 h2 => p.1 a o (fun z => by rw [z, ho] at h1; cases h1) h2)
      (fun i x A B hi p y => ?_) (fun A ⟨p1, acc, p2, p5, p3⟩ => hd D acc A D0 Dt p2 p5 (kp p1) p3)
    · by_cases z : a = t
      · rw [z] at h
        unfold but at h
        rw [if_pos rfl] at h
        cases h
      · rw [but_at z] at h
        exact kp p.1 a o z h
    · obtain ⟨p1, acc, p2, p3, p4⟩ := p
      obtain ⟨ab, k⟩ := aim i (wipe σ vs) A x B hi y
      refine k _ ⟨hs i, ?_⟩
      have hB : B D = some (.lst acc) := ab _ _ p2
      have pB : ∀ a o, a ≠ t → H2 a = some o → B a = some o := fun a o ha h => ab _ _ (p1 a o ha h)
      refine hst i acc B _ _ hi (kp pB) p3 (hx _ _ _ _ p4 ab) (fun y H4 k4 r4 => ?_) fun H3 k3 r3 => ⟨fun a o ha h => k3 a o ha (pB a o ha h), acc, k3 _ _ Dt hB, by omega, r3⟩
      have h4 : H4 D = some (.lst acc) := k4 _ _ Dt hB
      refine ⟨acc, h4, sz_lt (by omega), fun a o ha h => ?_, acc ++ [y], upd_same, by rw [List.length_append, List.length_singleton]; omega, hu _ _ _ _ _ _ D0 Dt h4 r4⟩
      rw [upd_ne (ne_of_none h hD)]
      exact k4 a o ha (pB a o ha h)
end Hk
end S_Wn
section S_Wo
namespace Hk
open PySem PySem.Spec PyProof.Rows L2 Tl
mutual
theorem dp_ex {K : PySem.W.Frag} {H H' : Hp} (e : Evl.Ex H H') : ∀ {v : V} {d : PyData}, Dp K H v d → Dp K H' v d
  | _, _, .non => .non
  | _, _, .bl b => .bl b
  | _, _, .int i => .int i
  | _, _, .str x => .str x
  | _, _, .lst h a => .lst (Evl.ex_l e h) (dpa_ex e a)
  | _, _, .tup h a => .tup (Evl.ex_t e h) (dpa_ex e a)
theorem dpa_ex {K : PySem.W.Frag} {H H' : Hp} (e : Evl.Ex H H') : ∀ {vs : List V} {ds : List PyData}, DpAll K H vs ds → DpAll K H' vs ds
  | _, _, .nil => .nil
  | _, _, .cons h a => .cons (dp_ex e h) (dpa_ex e a)
end
/-- a value that can be compared -/
def DpS (K : PySem.W.Frag) (H : Hp) (v : V) : Prop := ∃ d, Dp K H v d ∧ d.canLay0 = true ∧ d.depth ≤ 5
theorem DpS.ex {K : PySem.W.Frag} {H H' : Hp} {v : V} (h : DpS K H v) (e : Evl.Ex H H') : DpS K H' v := h.imp fun d ⟨a, b⟩ => ⟨dp_ex e a, b⟩
theorem lay_all : ∀ {ds : List PyData}, (∀ d ∈ ds, d.canLay0 = true) → PyData.canLayAll0 ds = true
  | [], _ => rfl
  | d :: r, h => by
    unfold PyData.canLayAll0
    rw [h d List.mem_cons_self, lay_all fun x hx => h x (List.mem_cons_of_mem _ hx)]
    rfl
theorem deep_all {c : Nat} : ∀ {ds : List PyData}, (∀ d ∈ ds, d.depth ≤ c) → PyData.depthAll ds ≤ c
  | [], _ => Nat.zero_le _
  | d :: r, h => by
    unfold PyData.depthAll
    have h1 := h d List.mem_cons_self
    have h2 := deep_all fun x hx => h x (List.mem_cons_of_mem _ hx)
    omega
theorem shaped_list {c : Nat} (hc : c ≤ 60) {ds : List PyData} (h : ∀ d ∈ ds, d.canLay0 = true ∧ d.depth ≤ c) : SeqAt.shaped (.list ds) = true := by
  unfold SeqAt.shaped
  have h1 : (PyData.list ds).canLay0 = true := by unfold PyData.canLay0; exact lay_all fun d hd => (h d hd).1
  have h2 : (PyData.list ds).depth ≤ 64 := by
    have := deep_all fun d hd => (h d hd).2
    unfold PyData.depth
    omega
  rw [h1, decide_eq_true h2] <;> rfl
theorem dps_all {K : PySem.W.Frag} {H : Hp} : ∀ {xs : List V}, (∀ v ∈ xs, DpS K H v) → ∃ ds, DpAll K H xs ds ∧ (∀ d ∈ ds, d.canLay0 = true ∧ d.depth ≤ 5) ∧ ds.length = xs.length
  | [], _ => ⟨[], .nil, fun d hd => (nomatch hd), rfl⟩
  | v :: r, h => by
    obtain ⟨d, a, b⟩ := h v List.mem_cons_self
    obtain ⟨ds, c1, c2, c3⟩ := dps_all (xs := r) fun x hx => h x (List.mem_cons_of_mem _ hx)
    refine ⟨d :: ds, .cons a c1, fun x hx => ?_, by rw [List.length_cons, List.length_cons, c3]⟩
    rcases List.mem_cons.mp hx with rfl | hx
    · exact b
    · exact c2 x hx
theorem eqv_nil (ds : List PyData) : PyData.eqv (.list ds) (.list []) = ds.isEmpty := by
  cases ds with
  | nil => rfl
  | cons d r => rfl
section
open Evl
variable {K : PySem.W.Frag} {σ : L2.St} {H : Hp} {ta tb : TE}
theorem ev_eqNilD {xs : List V} (ha : EvL ta σ H xs) (hb : EvL tb σ H []) (hx : ∀ v ∈ xs, DpS K H v) : Ev (tOp (rEqD K) ta tb) σ H (.bl xs.isEmpty) :=
  ev_opLL ha hb fun p q H1 h1 h2 e1 => fun H2 e2 Q k => by
    obtain ⟨ds, d1, d2, d3⟩ := dps_all (K := K) (H := H2) (xs := xs) fun v hv => (hx v hv).ex (e1.trans e2)
    refine ⟨.list ds, .list [], .lst (sq_of (e2 _ _ h1)) d1, .lst (sq_of (e2 _ _ h2)) .nil, shaped_list (c := 5) (by decide) d2, shaped_list (c := 5) (by decide) (fun d hd => nomatch hd), ?_⟩
    rw [eqv_nil]
    have : ds.isEmpty = xs.isEmpty := by cases ds <;> cases xs <;> first | rfl | (cases d3)
    rw [this]
    exact k H2 (Ex.refl H2)
theorem ev_neNilD {xs : List V} (ha : EvL ta σ H xs) (hb : EvL tb σ H []) (hx : ∀ v ∈ xs, DpS K H v) : Ev (tOp (rNeD K) ta tb) σ H (.bl !xs.isEmpty) :=
  ev_opLL ha hb fun p q H1 h1 h2 e1 => fun H2 e2 Q k => by
    obtain ⟨ds, d1, d2, d3⟩ := dps_all (K := K) (H := H2) (xs := xs) fun v hv => (hx v hv).ex (e1.trans e2)
    refine ⟨.list ds, .list [], .lst (sq_of (e2 _ _ h1)) d1, .lst (sq_of (e2 _ _ h2)) .nil, shaped_list (c := 5) (by decide) d2, shaped_list (c := 5) (by decide) (fun d hd => nomatch hd), ?_⟩
    rw [eqv_nil]
    have : ds.isEmpty = xs.isEmpty := by cases ds <;> cases xs <;> first | rfl | (cases d3)
    rw [this]
    exact k H2 (Ex.refl H2)
end
end Hk
end S_Wo
section S_Wp
namespace Hk
open PySem PySem.Spec PyProof.Rows L2 Tl
def rIxB (K : PySem.W.Frag) : R2 := fun x y H Q => rIxL K x y H Q ∨ rIxT K x y H Q
theorem ix_any2 {X : Cx} : IxR X (rIxB X.K) := fun value slice pins s σ H x y v u Q I r1 r2 h e => h.elim (fun h => ix_list value slice pins s σ H x y v u Q I r1 r2 h e) (fun h => ix_tup value slice pins s σ H x y v u Q I r1 r2 h e)
/-- a list or a tuple -/
def SqS (K : PySem.W.Frag) (H : Hp) (a : Addr) (xs : List V) : Prop := SqL K H a xs ∨ SqT K H a xs
theorem SqS.ex {K : PySem.W.Frag} {H H' : Hp} {a : Addr} {xs : List V} (h : SqS K H a xs) (e : Evl.Ex H H') : SqS K H' a xs := h.elim (fun h => .inl (Evl.ex_l e h)) (fun h => .inr (Evl.ex_t e h))
theorem rv_ixB {K : PySem.W.Frag} {H : Hp} {v : V} {p : Addr} {xs : List V} {i : Int} (h : SqS K H p xs) (ha : atI xs i = some v) : Evl.RV (rIxB K) (.ref p) (.int i) H v := fun H1 e Q q =>
  h.elim (fun h => .inl (Evl.rv_ixL h ha H1 e Q q)) (fun h => .inr (Evl.rv_ixT h ha H1 e Q q))
theorem ev_lenB {K : PySem.W.Frag} {ta : TE} {σ : L2.St} {H : Hp} {p : Addr} {xs : List V} (ha : Evl.Ev ta σ H (.ref p)) (h : SqS K H p xs) : Evl.Ev (tCB (Evl.rLenS K) (tCons ta tNil)) σ H (.int (xs.length : Int)) := fun H1 e Q q =>
  ha H1 e _ fun H2 e2 => ⟨p, xs, rfl, h.ex (e.trans e2), q H2 e2⟩
theorem ev_ixB {K : PySem.W.Frag} {te : TE} {σ : L2.St} {H : Hp} {a : Addr} {xs : List V} {j : Nat} {v : V} (h : Evl.Ev te σ H (.ref a)) (ha : SqS K H a xs) (hv : xs[j]? = some v) : Evl.Ev (tOp (rIxB K) te (tC (.int (j : Int)))) σ H v := Evl.ev_op h Evl.ev_c (rv_ixB ha (atI_nat hv))
/-- a walk over a list or a tuple -/
def iEi (K : PySem.W.Frag) (te : TE) : TI := fun σ H R => iList K te σ H R ∨ iTup K te σ H R
theorem pi_ei {X : Cx} {tg e : Expr} {te : TE} (he : PE X e te) : PI X tg e (iEi X.K te) := ⟨fun pins s σ H R I h => h.elim (fun h => (pi_list (tg := tg) he).run pins s σ H R I h) fun h => (pi_tup (tg := tg) he).run pins s σ H R I h⟩
theorem ei_ei {K : PySem.W.Frag} {σ : L2.St} {H : Hp} {te : TE} {a : Addr} {xs : List V} (h : Evl.Ev te σ H (.ref a)) (hs : SqS K H a xs) : EvI (iEi K te) σ H xs.length (YAt xs) := fun H1 e R k => hs.elim (fun hs => .inl (ei_list h hs H1 e R k)) fun hs => .inr (ei_tup h hs H1 e R k)
/-- a, b, .. = a list or a tuple of that length -/
def gEi (K : PySem.W.Frag) (n : Nat) (t : TGs) : TG := fun v σ H Q => gLst K n t v σ H Q ∨ gTup K n t v σ H Q
theorem gEi_of {K : PySem.W.Frag} {n : Nat} {t : TGs} {a : Addr} {xs : List V} {σ : L2.St} {H : Hp} {Q : L2.St → Hp → Prop} (h : SqS K H a xs) (hn : xs.length = n) (q : t xs σ H Q) : gEi K n t (.ref a) σ H Q := h.elim (fun h => .inl ⟨a, xs, rfl, h, hn, q⟩) fun h => .inr ⟨a, xs, rfl, h, hn, q⟩
theorem pg_ei {X : Cx} {pos : Pos} {es : List Expr} {k : Nat} {t : TGs} {n : Nat} (hc : X.calm = true) (h : PGs X es t)
    (hn : (assignEach es X.env).length = n := by rfl) (hst : (assignEach es X.env).findIdx? (·.1) = none := by rfl) : PG X (.Tuple es k pos) (gEi X.K n t) :=
  ⟨fun pins s σ H v u Q I r hw => hw.elim (fun hw => (pg_lst hc h hn hst).run pins s σ H v u Q I r hw) fun hw => (pg_tup hc h hn hst).run pins s σ H v u Q I r hw⟩
noncomputable def pd (p : Prop) : Bool := @decide p (Classical.propDecidable p)
theorem pd_true {p : Prop} (h : p) : pd p = true := @decide_eq_true p (Classical.propDecidable p) h
theorem pd_false {p : Prop} (h : ¬p) : pd p = false := @decide_eq_false p (Classical.propDecidable p) h
theorem pd_of {p : Prop} (h : pd p = true) : p := @of_decide_eq_true p (Classical.propDecidable p) h
theorem pd_not {p : Prop} (h : pd p = false) : ¬p := @of_decide_eq_false p (Classical.propDecidable p) h
theorem pd_is {p : Prop} {b : Bool} (h : p ↔ b = true) : pd p = b := by
  cases b with
  | true => exact pd_true (h.mpr rfl)
  | false => exact pd_false fun z => nomatch h.mp z
end Hk
end S_Wp
section S_Cj
namespace P05
open PySem PySem.Spec PyProof.Rows L2 Tl Hk
/-! ### values that may be turns -/
/-- a list or a tuple that stands in the heap -/
def SqP (H : Hp) (a : Addr) (xs : List V) : Prop := H a = some (.lst xs) ∨ H a = some (.tup xs)
theorem SqP.ex {H H' : Hp} {a : Addr} {xs : List V} (h : SqP H a xs) (e : Evl.Ex H H') : SqP H' a xs := h.imp (e _ _) (e _ _)
theorem SqP.s {K : PySem.W.Frag} {H : Hp} {a : Addr} {xs : List V} (h : SqP H a xs) : SqS K H a xs := h.imp Evl.sq_of Evl.st_of
/-- a value, and its items if it is a list or a tuple -/
inductive RowD (K : PySem.W.Frag) (H : Hp) : V → Option (List V) → Prop where
  | no {x : V} {n : String} (h : Ty7 K H x n) (h1 : n ≠ "list") (h2 : n ≠ "tuple") : RowD K H x none
  | seq {a : Addr} {ys : List V} (h : SqP H a ys) (hl : ys.length ≤ 1000) (hi : ∀ v ∈ ys, (∃ n, Ty7 K H v n) ∧ DpS K H v) : RowD K H (.ref a) (some ys)
theorem RowD.ex {K : PySem.W.Frag} {H H' : Hp} {x : V} {r : Option (List V)} (h : RowD K H x r) (e : Evl.Ex H H') : RowD K H' x r := by
  cases h with
  | no h h1 h2 => exact .no (h.ex e) h1 h2
  | seq h hl hi => exact .seq (h.ex e) hl fun v hv => ⟨(hi v hv).1.imp fun n hn => hn.ex e, (hi v hv).2.ex e⟩
theorem RowD.ty {K : PySem.W.Frag} {H : Hp} {x : V} {r : Option (List V)} (h : RowD K H x r) : ∃ n, Ty7 K H x n := by
  cases h with
  | no h _ _ => exact ⟨_, h⟩
  | seq h _ _ =>
    rcases h with h | h
    · exact ⟨_, .lst (Evl.sq_of h)⟩
    · exact ⟨_, .tup (Evl.st_of h)⟩
def lotO : Option (List V) → Bool
  | none => false
  | some ys => lotV ys
theorem RowD.lot {K : PySem.W.Frag} {H : Hp} {x : V} {r : Option (List V)} (h : RowD K H x r) : LotR K H x (lotO r) := by
  cases h with
  | no h h1 h2 => exact .no h h1 h2
  | seq h hl hi =>
    rcases h with h | h
    · exact .lst (Evl.sq_of h) (by omega) fun v hv => (hi v hv).1
    · exact .tup (Evl.st_of h) (by omega) fun v hv => (hi v hv).1
/-- a value, and its rows if it is a list or a tuple -/
inductive TurnsD (K : PySem.W.Frag) (H : Hp) : V → Option (List (Option (List V))) → Prop where
  | no {x : V} {n : String} (h : Ty7 K H x n) (h1 : n ≠ "list") (h2 : n ≠ "tuple") : TurnsD K H x none
  | seq {a : Addr} {xs : List V} {rs : List (Option (List V))} (h : SqP H a xs) (hn : xs.length = rs.length) (hl : xs.length ≤ 2000) (hi : ∀ (i : Nat) (v : V) (r : Option (List V)), xs[i]? = some v → rs[i]? = some r → RowD K H v r) (hz : (rs.map fun r => (r.getD []).length).sum ≤ 30000) : TurnsD K H (.ref a) (some rs)
theorem TurnsD.ex {K : PySem.W.Frag} {H H' : Hp} {x : V} {r : Option (List (Option (List V)))} (h : TurnsD K H x r) (e : Evl.Ex H H') : TurnsD K H' x r := by
  cases h with
  | no h h1 h2 => exact .no (h.ex e) h1 h2
  | seq h hn hl hi hz => exact .seq (h.ex e) hn hl (fun i v r a b => (hi i v r a b).ex e) hz
/-- whether a row is a turn of the place p of m -/
def turnV (p m : Int) : Option (List V) → Bool
  | none => false
  | some ys => lotV ys && (!ys.contains (.int p)) && ys.all fun v => match v with | .int i => decide (i ≤ m) | _ => false
def spIsTurnG (K : PySem.W.Frag) : Sp := fun vs H Q _ => ∃ (v : V) (r : Option (List V)) (p m : Int), vs = [v, .int p, .int m] ∧ RowD K H v r ∧ ∀ H1, Evl.Ex H H1 → Q (.bl (turnV p m r)) H1
theorem spv_isTurnG {K : PySem.W.Frag} {H : Hp} {v : V} {r : Option (List V)} {p m : Int} (h : RowD K H v r) : Evl.SpV (spIsTurnG K) [v, .int p, .int m] H (.bl (turnV p m r)) := fun H1 e Q q E => ⟨v, r, p, m, rfl, h.ex e, q⟩
theorem contains_int (p : Int) (ns : List Int) : (ns.map V.int).contains (.int p) = decide (p ∈ ns) := by
  by_cases h : p ∈ ns
  · rw [decide_eq_true h, List.contains_iff_mem]
    exact List.mem_map.mpr ⟨p, h, rfl⟩
  · rw [decide_eq_false h]
    cases z : (ns.map V.int).contains (.int p) with
    | false => rfl
    | true =>
      rw [List.contains_iff_mem] at z
      obtain ⟨q, hq, e⟩ := List.mem_map.mp z
      cases e
      exact absurd hq h
theorem turnV_ints (p m : Int) (ns : List Int) : turnV p m (some (ns.map V.int)) = (lotV (ns.map V.int) && (!decide (p ∈ ns)) && ns.all fun i => decide (i ≤ m)) := by
  show (lotV (ns.map V.int) && (!(ns.map V.int).contains (.int p)) && (ns.map V.int).all fun v => match v with | .int i => decide (i ≤ m) | _ => false) = _
  rw [contains_int, List.all_map]
  rfl
section
variable {P : Program} {w : World} {K : PySem.W.Frag} {mg : Str → Option Value} {base : Heap}
theorem ok_isTurnG {f fO : Addr} {fd fdO : FuncData} {k : Nat} (F : Fun K "_is_turn" "_is_turn" sIsTurn f fd)
    (FO : Fun K "is_lot" "is_lot" sLot fO fdO) (GO : FnOk P w K mg base CX0 k fO fdO ["value"] (spLot K)) (bO : Binds K fdO ["value"] []) (gO : mg "is_lot" = some (.ref fO)) (mall : mg "all" = none) :
    FnOk P w K mg base CX0 (k + 1) f fd ["turn", "place", "many"] (spIsTurnG K) := by
  refine F.ok scIsTurn (fun vs H Q E h => ?_) (fun cdv A outer s H vs Q E hr h => ?_)
  · obtain ⟨v, r, p, m, rfl, _⟩ := h
    rfl
  · obtain ⟨v, r, p, m, rfl, hD, q⟩ := h
    have nd := scIsTurn.nd
    refine ⟨_, pss_one (ps_ret (pe_and (pe_call GO hr (by rfl) gO FO.kp bO .nil pass0 (pa_cons (pv 0) pa_nil)) (pe_and (pe_cmpR op_notIn_seq (pv 1) (pv 0) (by rfl)) (pe_one (pe_callB (cr_all rfl) (by rfl) mall (by decide +kernel) (pa_cons
      (pe_lc (own := [("other", 3)]) (g := gName 3) (tt := tYes) rfl nd (pi_ei (pv 0)) (blkOk_by (N := ["turn", "place", "many", "other"]) (sc := defScope sIsTurn) (by decide +kernel)) (fun _ _ _ _ _ => pg_name (i := 3) nd rfl (Or.inl rfl)) (fun _ _ _ _ _ => pts_nil)
        (fun _ _ _ _ _ => pe_cmpR op_le (pv 3) (pv 2) (nomark _))) pa_nil)))))), ?_⟩
    have hlot : Evl.Ev (tCall (spLot K) [] E0 (tCons (tVar 0) tNil)) (start ["turn", "place", "many", "other"] [v, .int p, .int m]) H (.bl (lotO r)) := Evl.ev_call (Evl.ea_cons (Evl.ev_var rfl) Evl.ea_nil) (spv_lot hD.lot)
    cases r with
    | none => exact Evl.s_ret (Evl.ev_andV (a := false) (b := false) hlot fun z => nomatch z) fun H1 e1 => q H1 e1
    | some ys =>
      cases hL : lotV ys with
      | false =>
        have hq : turnV p m (some ys) = false := by
          show (lotV ys && (!ys.contains (.int p)) && ys.all fun v => match v with | .int i => decide (i ≤ m) | _ => false) = false
          rw [hL]
          rfl
        rw [hq] at q
        have h2 : Evl.Ev (tCall (spLot K) [] E0 (tCons (tVar 0) tNil)) (start ["turn", "place", "many", "other"] [v, .int p, .int m]) H (.bl false) := Evl.ev_is hlot (congrArg V.bl hL)
        exact Evl.s_ret (Evl.ev_andV (a := false) (b := false) h2 fun z => nomatch z) fun H1 e1 => q H1 e1
      | true =>
        have h2 : Evl.Ev (tCall (spLot K) [] E0 (tCons (tVar 0) tNil)) (start ["turn", "place", "many", "other"] [v, .int p, .int m]) H (.bl true) := Evl.ev_is hlot (congrArg V.bl hL)
        obtain ⟨ns, rfl⟩ : ∃ ns : List Int, ys = ns.map V.int := all_ints (by
          unfold lotV at hL
          exact (Bool.and_eq_true_iff.mp hL).1)
        rw [turnV_ints, hL, Bool.true_and] at q
        obtain ⟨a, rfl, hs, hl⟩ : ∃ a, v = .ref a ∧ SqS K H a (ns.map V.int) ∧ ns.length ≤ 1000 := by
          cases hD with
          | seq h hl hi => exact ⟨_, rfl, h.s, by rwa [List.length_map] at hl⟩
        have h3 : Evl.Ev (tOp (rIn K true) (tVar 1) (tVar 0)) (start ["turn", "place", "many", "other"] [.ref a, .int p, .int m]) H (.bl (!decide (p ∈ ns))) := by
          rw [← in_ints]
          rcases hs with hs | hs
          · exact Evl.ev_op (Evl.ev_var rfl) (Evl.ev_var rfl) (Evl.rv_niL hs rfl (flat_ints ns))
          · exact Evl.ev_op (Evl.ev_var rfl) (Evl.ev_var rfl) (Evl.rv_niT hs rfl (flat_ints ns))
        refine Evl.s_ret (v := .bl (!decide (p ∈ ns) && ns.all fun i => decide (i ≤ m))) (Evl.ev_andV (a := true) (b := !decide (p ∈ ns) && ns.all fun i => decide (i ≤ m)) h2 fun _ => Evl.ev_andV (a := !decide (p ∈ ns)) (b := ns.all fun i => decide (i ≤ m)) h3 fun hb => ?_) fun H1 e1 => q H1 e1
        have e0 : (ns.map V.int).length = ns.length := List.length_map ..
        have hh := el_lcI (te := tOp (rI0 fun i j => V.bl (decide (i ≤ j))) (tVar 3) (tVar 2)) (t := tYes) (σ := start ["turn", "place", "many", "other"] [.ref a, .int p, .int m]) (H := H) (vs := [3]) (fun _ => true) (fun i => V.bl (decide (ns.getD i 0 ≤ m))) (ei_ei (K := K) (Evl.ev_var (i := 0) rfl) hs) (aims_at (j := 3)) (fun _ => rfl) (by omega) (fun _ _ _ _ => et_yes) fun i H4 e4 hi _ => by
          rw [e0] at hi
          exact Evl.ev_op (x := .int (ns.getD i 0)) (Evl.ev_is (Evl.ev_var rfl) (by rw [ints_getD hi])) (Evl.ev_var rfl) Evl.rv_I0
        rw [e0, given_all ns 0 fun i => V.bl (decide (i ≤ m))] at hh
        refine Evl.ev_is (ev_allN (bs := ns.map fun i => decide (i ≤ m)) ?_) ?_
        · rw [List.map_map]
          exact hh
        · rw [List.all_map]
          rfl
end
end P05
end S_Cj
section S_Cl
namespace P05
open PySem PySem.Spec PyProof.Rows L2 Tl Hk
/-- enumerate of a list or a tuple -/
def iEnB (K : PySem.W.Frag) (ta : TA) : TI := fun σ H R => iEnum K ta σ H R ∨ iEnumT K ta σ H R
theorem pi_enB {X : Cx} {e : Expr} {ta : TA} {p pos tpos : Pos} {elts : List Expr} {kk : Nat} (hg : Gl X "enumerate") (hm : X.mg "enumerate" = none) (ha : PA X [e] ta) (hs : starEach [e] X.env = [(false, eval e X.env)] := by rfl) :
    PI X (.Tuple elts kk tpos) (.Call (.Name "enumerate" p) [e] [] pos) (iEnB X.K ta) := ⟨fun pins s σ H R I h => h.elim (fun h => (pi_enum hg hm ha hs).run pins s σ H R I h) fun h => (pi_enumT hg hm ha hs).run pins s σ H R I h⟩
theorem ei_enB {K : PySem.W.Frag} {σ : L2.St} {H : Hp} {a : Addr} {xs : List V} {ta : TA} (h : Evl.EvA ta σ H [.ref a]) (hs : SqS K H a xs) : EvI (iEnB K ta) σ H xs.length (YPair (fun i => some (.int (i : Nat))) (fun i => xs[i]?)) := fun H1 e R k => hs.elim (fun hs => .inl (ei_enum h hs H1 e R k)) fun hs => .inr (ei_enumT h hs H1 e R k)
theorem ev_allRB {K : PySem.W.Frag} {ta : TE} {σ : L2.St} {H : Hp} {bs : List Bool} (h : EvNL ta σ H (Row2 (fun (b : Bool) v _ => v = .bl b) bs)) : Evl.Ev (tCB (rAll K) (tCons ta tNil)) σ H (.bl (bs.all id)) := fun H1 e Q q =>
  h H1 e _ fun p xs H2 hp e2 h2 hL => by
    obtain ⟨a1, a2⟩ := hL H2 (e.trans e2) fun _ _ _ _ h => h
    have ex : xs = bs.map V.bl := by
      refine List.ext_getElem (by rw [List.length_map, a1]) fun i h1 h3 => ?_
      rw [List.getElem_map]
      exact a2 i _ _ (List.getElem?_eq_getElem _) (List.getElem?_eq_getElem h1)
    subst ex
    exact ⟨p, bs, rfl, Evl.sq_of h2, q H2 e2⟩
theorem rows_all {m : Nat → Nat} {b : Nat → Nat → Bool} : ∀ n, (rows m (fun _ _ => true) b n).all id = (List.range n).all fun i => (List.range (m i)).all fun j => b i j
  | 0 => by simp [rows]
  | n + 1 => by
    rw [rows_succ, List.all_append, rows_all n, List.range_succ, List.all_append]
    congr 1
    unfold els
    rw [List.filter_eq_self.mpr (fun _ _ => rfl), List.all_map]
    simp
/-! ### whether rows are turns -/
def rowAt (rs : List (Option (List V))) (i : Nat) : List V := (rs.getD i none).getD []
def allTurn (rs : List (Option (List V))) : Bool := (List.range rs.length).all fun i => turnV ((i : Int) + 1) rs.length (rs.getD i none)
def symAt (rs : List (Option (List V))) (i : Nat) : V → Bool
  | .int o => (rowAt rs (o - 1).toNat).contains (.int ((i : Int) + 1))
  | _ => false
def symV (rs : List (Option (List V))) : Bool := (List.range rs.length).all fun i => (List.range (rowAt rs i).length).all fun j => symAt rs i ((rowAt rs i).getD j .non)
def areV : Option (List (Option (List V))) → Bool
  | none => false
  | some rs => decide (1 ≤ rs.length) && decide (rs.length ≤ 1000) && allTurn rs && symV rs
def spAreG (K : PySem.W.Frag) : Sp := fun vs H Q _ => ∃ (v : V) (r : Option (List (Option (List V)))), vs = [v] ∧ TurnsD K H v r ∧ ∀ H1, Evl.Ex H H1 → Q (.bl (areV r)) H1
theorem spv_areG {K : PySem.W.Frag} {H : Hp} {v : V} {r : Option (List (Option (List V)))} (h : TurnsD K H v r) : Evl.SpV (spAreG K) [v] H (.bl (areV r)) := fun H1 e Q q E => ⟨v, r, rfl, h.ex e, q⟩
/-- a row that is a turn -/
theorem turn_ints {p m : Int} {r : Option (List V)} (h : turnV p m r = true) : ∃ ns : List Int, r = some (ns.map V.int) ∧ ns.Nodup ∧ (∀ x ∈ ns, 1 ≤ x ∧ x ≤ m) ∧ p ∉ ns := by
  cases r with
  | none => cases h
  | some ys =>
    have hL : lotV ys = true := by
      have h' : (lotV ys && (!ys.contains (.int p)) && ys.all fun v => match v with | .int i => decide (i ≤ m) | _ => false) = true := h
      rw [Bool.and_eq_true_iff, Bool.and_eq_true_iff] at h'
      exact h'.1.1
    have hL2 := hL
    unfold lotV at hL2
    rw [Bool.and_eq_true_iff] at hL2
    obtain ⟨ns, rfl⟩ := all_ints hL2.1
    rw [turnV_ints, hL, Bool.true_and, Bool.and_eq_true_iff] at h
    refine ⟨ns, rfl, (nodup_int ns).mp (of_decide_eq_true hL2.2), fun x hx => ⟨?_, of_decide_eq_true (List.all_eq_true.mp h.2 x hx)⟩, fun z => ?_⟩
    · have := List.all_eq_true.mp hL2.1 (.int x) (List.mem_map.mpr ⟨x, hx, rfl⟩)
      have h1 : (decide ((1 : Int) ≤ x) && true) = true := this
      rw [Bool.and_true] at h1
      exact of_decide_eq_true h1
    · have := h.1
      rw [decide_eq_true z] at this
      cases this
theorem given_rng {n : Nat} {v : Nat → V} : Evl.given n (fun _ => true) v = (List.range n).map v := by
  unfold Evl.given
  rw [List.filter_eq_self.mpr (fun _ _ => rfl)]
theorem rows_sum {β : Type} {m : Nat → Nat} {b : Nat → Nat → β} : ∀ n, (rows m (fun _ _ => true) b n).length = ((List.range n).map m).sum
  | 0 => by simp [rows]
  | n + 1 => by
    rw [rows_succ, List.length_append, rows_sum n, List.range_succ, List.map_append, List.sum_append]
    congr 1
    unfold els
    rw [List.filter_eq_self.mpr (fun _ _ => rfl)]
    simp
theorem rows_bound {β : Type} {b : Nat → Nat → β} (rs : List (Option (List V))) : (rows (fun i => (rowAt rs i).length) (fun _ _ => true) b rs.length).length = (rs.map fun r => (r.getD []).length).sum := by
  rw [rows_sum]
  congr 1
  refine List.ext_getElem (by simp) fun i h1 h2 => ?_
  have hi : i < rs.length := by simpa using h1
  rw [List.getElem_map, List.getElem_map, List.getElem_range]
  unfold rowAt
  rw [List.getD_eq_getElem?_getD, List.getElem?_eq_getElem hi]
  rfl
section
variable {P : Program} {w : World} {K : PySem.W.Frag} {mg : Str → Option Value} {base : Heap}
set_option maxHeartbeats 1000000 in
theorem ok_areG {f fW fL fI : Addr} {fd fdW fdL fdI : FuncData} {k : Nat} (F : Fun K "_are_turns" "_are_turns" sAreTurns f fd)
    (FW : Fun K "is_within" "is_within" sWithin fW fdW) (GW : FnOk P w K mg base CX0 k fW fdW ["value", "least", "most"] (spWithin K)) (bW : Binds K fdW ["value", "least", "most"] []) (gW : mg "is_within" = some (.ref fW))
    (FL : Fun K "is_list" "is_list" sList fL fdL) (GL : FnOk P w K mg base CX0 k fL fdL ["value"] (spList K)) (bL : Binds K fdL ["value"] []) (gL : mg "is_list" = some (.ref fL))
    (FI : Fun K "_is_turn" "_is_turn" sIsTurn fI fdI) (GI : FnOk P w K mg base CX0 k fI fdI ["turn", "place", "many"] (spIsTurnG K)) (bI : Binds K fdI ["turn", "place", "many"] []) (gI : mg "_is_turn" = some (.ref fI))
    {tM : Tok} (gM : mg "MOST_PLACES" = some (.int 1000 tM)) (mall : mg "all" = none) (mlen : mg "len" = none) (menum : mg "enumerate" = none) :
    FnOk P w K mg base CX0 (k + 1) f fd ["turns"] (spAreG K) := by
  refine F.ok scAre (fun vs H Q E h => ?_) (fun cdv A outer s H vs Q E hr h => ?_)
  · obtain ⟨v, r, rfl, _⟩ := h
    rfl
  · obtain ⟨v, r, rfl, hD, q⟩ := h
    have nd := scAre.nd
    refine ⟨_, pss_cons (ps_if (PW.pt (pw_or (pt_not (pt_val (pe_call GL hr (by rfl) gL FL.kp bL .nil pass0 (pa_cons (pv 0) pa_nil)))) (pw_or1 (pt_not (pt_val (pe_call GW hr (by rfl) gW FW.kp bW .nil pass0
          (pa_cons (pe_callB call_len_seq (by rfl) mlen PySem.boot_len (pa_cons (pv 0) pa_nil)) (pa_cons pe_int (pa_cons (pe_glob (v := .int 1000) (by rfl) gM ⟨_, rfl⟩) pa_nil))))))))) (pss_one (ps_ret pe_bl)) pss_nil)
      (pss_cons (ps_set (i := 1) nd rfl (.inr rfl) (pe_callB call_len_seq (by rfl) mlen PySem.boot_len (pa_cons (pv 0) pa_nil)))
      (pss_cons (ps_if (pt_not (pt_val (pe_callB (cr_all rfl) (by rfl) mall (by decide +kernel) (pa_cons
          (pe_lc (own := [("at", 2), ("turn", 3)]) (g := gTup K 2 (gCons (gName 2) (gCons (gName 3) gNil))) (tt := tYes) rfl nd (pi_enB (by rfl) menum (pa_cons (pv 0) pa_nil)) (blkOk_by (N := ["turns", "many", "at", "turn", "tied", "other"]) (sc := defScope sAreTurns) (by decide +kernel))
            (fun _ _ _ _ _ => pg_tup (by rfl) (pgs_cons (pg_name (i := 2) nd rfl (Or.inl rfl)) (pgs_cons (pg_name (i := 3) nd rfl (Or.inl rfl)) pgs_nil))) (fun _ _ _ _ _ => pts_nil)
            (fun _ _ _ _ _ => pe_call GI hr (by rfl) gI FI.kp bI .nil pass0 (pa_cons (pv 3) (pa_cons (pe_op op_add (pv 2) pe_int) (pa_cons (pv 1) pa_nil))))) pa_nil)))) (pss_one (ps_ret pe_bl)) pss_nil)
      (pss_cons (ps_set (i := 4) nd rfl (.inr rfl) (pe_lc (own := [("turn", 3)]) (g := gName 3) (tt := tYes) rfl nd (pi_ei (pv 0)) (blkOk_by (N := ["turns", "many", "at", "turn", "tied", "other"]) (sc := defScope sAreTurns) (by decide +kernel))
            (fun _ _ _ _ _ => pg_name (i := 3) nd rfl (Or.inl rfl)) (fun _ _ _ _ _ => pts_nil)
            (fun _ _ _ _ _ => pe_dc (own := [("other", 5)]) (wi := iEi K (tVar 3)) (g := gName 5) (tt := tYes) rfl nd (pi_ei (pv 3)) (blkOk_by (N := ["turns", "many", "at", "turn", "tied", "other"]) (sc := { kind := .function, names := [(".0", .local), ("turn", .local)], isGenerator := false, isCoroutine := false }) (by decide +kernel))
              (fun _ _ _ _ _ => pg_name (i := 5) nd rfl (Or.inl rfl)) (fun _ _ _ _ _ => pts_nil) (fun _ _ _ _ _ => pv 5) (fun _ _ _ _ _ => pe_bl))))
      (pss_one (ps_ret (pe_callB (cr_all rfl) (by rfl) mall (by decide +kernel) (pa_cons
          (pe_lc2 (own := [("at", 2), ("turn", 3), ("other", 5)]) (vs1 := [5]) (wi1 := iEi K (tVar 3)) (g := gTup K 2 (gCons (gName 2) (gCons (gName 3) gNil))) (g1 := gName 5) (tt := tYes) (tt1 := tYes) rfl nd (pi_enB (by rfl) menum (pa_cons (pv 0) pa_nil)) (blkOk_by (N := ["turns", "many", "at", "turn", "tied", "other"]) (sc := defScope sAreTurns) (by decide +kernel)) (by decide)
            (fun _ _ _ _ _ => pg_tup (by rfl) (pgs_cons (pg_name (i := 2) nd rfl (Or.inl rfl)) (pgs_cons (pg_name (i := 3) nd rfl (Or.inl rfl)) pgs_nil))) (fun _ _ _ _ _ => pts_nil)
            (fun _ _ _ _ _ => pi_ei (pv 3)) (fun _ _ _ _ _ => pg_name (i := 5) nd rfl (Or.inl rfl)) (fun _ _ _ _ _ => pts_nil)
            (fun _ _ _ _ _ => pe_cmp (pc_din (hu_of hr) (pe_op op_add (pv 2) pe_int) (pe_ix (r := rIxL K) ix_list (pv 4) (pe_op op_sub (pv 5) pe_int) (fun _ _ => rfl))) rfl)) pa_nil))))))), ?_⟩
    cases hD with
    | no h h1 h2 =>
      exact Evl.q_when (b := true) (Evl.et_or (a := true) (b := true) (Evl.et_is (Evl.et_not (Evl.et_B (Evl.ev_call (Evl.ea_cons (Evl.ev_var rfl) Evl.ea_nil) (spv_list h)))) (by simp [h1, h2])) fun z => nomatch z) (fun _ H1 e1 => Evl.s_ret Evl.ev_c fun H2 e2 => q H2 (e1.trans e2)) fun z => nomatch z
    | @seq a xs rs hs0 hn hl hi hz =>
      have hs : SqS K H a xs := hs0.s
      have isl : Evl.Ev (tCall (spList K) [] E0 (tCons (tVar 0) tNil)) (start ["turns", "many", "at", "turn", "tied", "other"] [.ref a]) H (.bl true) := by
        rcases hs with hs | hs
        · exact Evl.ev_call (Evl.ea_cons (Evl.ev_var rfl) Evl.ea_nil) (spv_list (.lst hs))
        · exact Evl.ev_call (Evl.ea_cons (Evl.ev_var rfl) Evl.ea_nil) (spv_list (.tup hs))
      have hw : wi (.int (xs.length : Int)) (.int 1) (.int 1000) = (decide (1 ≤ rs.length) && decide (rs.length ≤ 1000)) := by
        show (decide ((1 : Int) ≤ (xs.length : Int)) && decide ((xs.length : Int) ≤ 1000)) = _
        rw [hn]
        congr 1
        · exact decide_eq_decide.mpr (by omega)
        · exact decide_eq_decide.mpr (by omega)
      refine Evl.q_when (b := !(decide (1 ≤ rs.length) && decide (rs.length ≤ 1000))) (Evl.et_is (Evl.et_or (a := false) (b := !wi (.int (xs.length : Int)) (.int 1) (.int 1000)) (Evl.et_is (Evl.et_not (Evl.et_B isl)) rfl) fun _ =>
        Evl.et_not (Evl.et_B (Evl.ev_call (Evl.ea_cons (ev_lenB (Evl.ev_var rfl) hs) (Evl.ea_cons Evl.ev_c (Evl.ea_cons Evl.ev_c Evl.ea_nil))) (spv_within (.int _) True.intro True.intro)))) (by rw [hw, Bool.false_or])) (fun hb H1 e1 => ?_) fun hb H1 e1 => ?_
      · have hq : areV (some rs) = false := by
          show (decide (1 ≤ rs.length) && decide (rs.length ≤ 1000) && allTurn rs && symV rs) = false
          rw [Bool.not_eq_true'] at hb
          rw [hb]
          rfl
        rw [hq] at q
        exact Evl.s_ret Evl.ev_c fun H2 e2 => q H2 (e1.trans e2)
      rw [Bool.not_eq_false'] at hb
      refine Evl.q_asg (ev_lenB (Evl.ev_var rfl) (hs.ex e1)) fun H2 e2 => ?_
      have e02 := e1.trans e2
      have getR : ∀ i, i < rs.length → rs[i]? = some (rs.getD i none) := fun i hi => by rw [List.getD_eq_getElem?_getD, List.getElem?_eq_getElem hi]; rfl
      have getX : ∀ i, i < xs.length → xs[i]? = some (xs.getD i .non) := fun i hi => by rw [List.getD_eq_getElem?_getD, List.getElem?_eq_getElem hi]; rfl
      have hall := el_lcI (te := tCall (spIsTurnG K) [] E0 (tCons (tVar 3) (tCons (tOp (rI0 fun i j => V.int (i + j)) (tVar 2) (tC (.int 1))) (tCons (tVar 1) tNil)))) (t := tYes) (σ := [some (.ref a), some (.int (xs.length : Int)), none, none, none, none]) (H := H2) (vs := [2, 3]) (fun _ => true) (fun i => V.bl (turnV ((i : Int) + 1) xs.length (rs.getD i none)))
        (ei_enB (K := K) (Evl.ea_cons (Evl.ev_var (i := 0) rfl) Evl.ea_nil) (hs.ex e02)) (aims_enum (K := K) (j1 := 2) (j2 := 3)) (fun _ => rfl) (by omega) (fun _ _ _ _ => et_yes) fun i H4 e4 hi' _ =>
          Evl.ev_call (Evl.ea_cons (x := xs.getD i .non) (Evl.ev_var rfl) (Evl.ea_cons (Evl.ev_op (Evl.ev_var rfl) Evl.ev_c Evl.rv_I0) (Evl.ea_cons (Evl.ev_var rfl) Evl.ea_nil))) (spv_isTurnG ((hi i _ _ (getX i hi') (getR i (by omega))).ex (e02.trans e4)))
      rw [given_rng] at hall
      refine Evl.q_when (b := !allTurn rs) (Evl.et_is (Evl.et_not (Evl.et_B (ev_allN (bs := (List.range xs.length).map fun i : Nat => turnV ((i : Int) + 1) xs.length (rs.getD i none)) (by rw [List.map_map]; exact hall)))) (by
        unfold allTurn
        rw [List.all_map, hn]
        rfl)) (fun hb2 H3 e3 => ?_) fun hb2 H3 e3 => ?_
      · have hq : areV (some rs) = false := by
          show (decide (1 ≤ rs.length) && decide (rs.length ≤ 1000) && allTurn rs && symV rs) = false
          rw [Bool.not_eq_true'] at hb2
          rw [hb2, Bool.and_false]
          rfl
        rw [hq] at q
        exact Evl.s_ret Evl.ev_c fun H4 e4 => q H4 ((e02.trans e3).trans e4)
      rw [Bool.not_eq_false'] at hb2
      have hq : areV (some rs) = symV rs := by
        show (decide (1 ≤ rs.length) && decide (rs.length ≤ 1000) && allTurn rs && symV rs) = symV rs
        rw [hb2, hb]
        rfl
      rw [hq] at q
      have item : ∀ i, i < xs.length → ∃ (ai : Addr) (ns : List Int), xs.getD i .non = .ref ai ∧ rs.getD i none = some (ns.map V.int) ∧ SqS K H ai (ns.map V.int) ∧ ns.length ≤ 1000 ∧ (∀ x ∈ ns, 1 ≤ x ∧ x ≤ (rs.length : Int)) := fun i hi' => by
        have h1 := List.all_eq_true.mp hb2 i (List.mem_range.mpr (by omega))
        obtain ⟨ns, e, n1, n2, n3⟩ := turn_ints h1
        have hd := hi i _ _ (getX i hi') (getR i (by omega))
        rw [e] at hd
        generalize xs.getD i .non = xv at hd
        cases hd with
        | seq h hl' _ => exact ⟨_, ns, rfl, e, h.s, by rw [List.length_map] at hl'; exact hl', n2⟩
      have e03 := e02.trans e3
      refine q_asgNL (L := Holds (fun i v H' => ∃ (ns : List Int) (d : Addr), rs.getD i none = some (ns.map V.int) ∧ v = .ref d ∧ H' d = some (.dK (dOf (fun j => ns.getD j 0) ns.length))) xs.length) (en_lc (ei_ei (K := K) (Evl.ev_var (i := 0) rfl) (hs.ex e03)) (aims_at (j := 3)) (fun _ => rfl) (by omega) _ fun i hi' => ?_) fun p ds H4 hp e4 h4 hL4 => ?_
      · obtain ⟨ai, ns, a1, a2, a3, a4, a5⟩ := item i hi'
        have e0 : (ns.map V.int).length = ns.length := List.length_map ..
        refine fun H5 e5 Q q => en_dc (kf := fun j => ns.getD j 0) (n := (ns.map V.int).length) (ei_ei (K := K) (Evl.ev_is (Evl.ev_var rfl) a1) (a3.ex e03)) aims_at (fun _ => rfl) (by omega) (fun j hj => Evl.ev_is (Evl.ev_var rfl) (ints_getD (by omega))) (fun j hj => Evl.ev_c) H5 e5 Q fun v H6 e6 hv => q v H6 e6 fun H7 e7 s7 => ?_
        obtain ⟨d, rfl, hd⟩ := hv H7 e7 s7
        exact ⟨ns, d, a2, rfl, by rw [← e0]; exact hd⟩
      have e04 := e03.trans e4
      obtain ⟨l4, h4at⟩ := hL4
      have hbnd : (rows (fun i => (rowAt rs i).length) (fun _ _ => true) (fun i j => symAt rs i ((rowAt rs i).getD j .non)) xs.length).length ≤ 90000 := by
        rw [hn, rows_bound]
        omega
      have fin : Evl.Ev (tCB (rAll K) (tCons (tLc2 (iEnB K (tCons (tVar 0) tNil)) (gTup K 2 (gCons (gName 2) (gCons (gName 3) gNil))) tYes (iEi K (tVar 3)) (gName 5) tYes (tDIn (tOp (rI0 fun i j => V.int (i + j)) (tVar 2) (tC (.int 1))) (tOp (rIxL K) (tVar 4) (tOp (rI0 fun i j => V.int (i - j)) (tVar 5) (tC (.int 1))))) [2, 3, 5] [5]) tNil)) [some (.ref a), some (.int (xs.length : Int)), none, none, some (.ref p), none] H4
          (.bl ((rows (fun i => (rowAt rs i).length) (fun _ _ => true) (fun i j => symAt rs i ((rowAt rs i).getD j .non)) xs.length).all id)) := by
        refine ev_allRB ?_
        refine en_lc2 (Y1 := fun i => YAt (rowAt rs i)) (s1 := fun i j σ => σ.set 5 (some ((rowAt rs i).getD j .non))) (ei_enB (K := K) (Evl.ea_cons (Evl.ev_var rfl) Evl.ea_nil) (hs.ex e04)) (aims_enum (K := K) (j1 := 2) (j2 := 3)) (fun _ => rfl) (fun i hi' => ?_) (fun i => aims_at) (fun i j => rfl) _ _ _ (fun i j hi' hj => et_yes) (fun i j hi' hj _ => en_v ?_) hbnd
        · obtain ⟨ai, ns, a1, a2, a3, a4, a5⟩ := item i hi'
          have er : rowAt rs i = ns.map V.int := by
            unfold rowAt
            rw [a2]
            rfl
          rw [er]
          exact ei_ei (K := K) (Evl.ev_is (Evl.ev_var rfl) a1) (a3.ex e04)
        · obtain ⟨ai, ns, a1, a2, a3, a4, a5⟩ := item i hi'
          have er : rowAt rs i = ns.map V.int := by
            unfold rowAt
            rw [a2]
            rfl
          rw [er, List.length_map] at hj
          have eo : (rowAt rs i).getD j .non = .int ns[j] := by
            rw [er, ints_getD hj, List.getD_eq_getElem?_getD, List.getElem?_eq_getElem hj]
            rfl
          have hb' := a5 _ (List.getElem_mem hj)
          have hx : (ns[j] - 1).toNat < ds.length := by rw [l4]; omega
          obtain ⟨ms, d, k1, k2, k3⟩ := h4at _ _ (List.getElem?_eq_getElem hx)
          have em : rowAt rs (ns[j] - 1).toNat = ms.map V.int := by
            unfold rowAt
            rw [k1]
            rfl
          have es : symAt rs i ((rowAt rs i).getD j .non) = (valV (dOf (fun j => ms.getD j 0) ms.length) (.inl ((i : Int) + 1))).isSome := by
            rw [eo]
            show (rowAt rs (ns[j] - 1).toNat).contains (.int ((i : Int) + 1)) = _
            rw [em, contains_int]
            refine Bool.eq_iff_iff.mpr ?_
            rw [decide_eq_true_iff, dOf_at]
            constructor
            · intro hm
              obtain ⟨j2, hj2, e2⟩ := List.mem_iff_getElem.mp hm
              exact ⟨j2, hj2, by rw [List.getD_eq_getElem?_getD, List.getElem?_eq_getElem hj2, ← e2]; rfl⟩
            · rintro ⟨j2, hj2, e2⟩
              rw [← e2, List.getD_eq_getElem?_getD, List.getElem?_eq_getElem hj2]
              exact List.getElem_mem hj2
          refine Evl.ev_is (ev_din (d := d) (Evl.ev_op (Evl.ev_var rfl) Evl.ev_c Evl.rv_I0) (Evl.ev_op (Evl.ev_var rfl) (Evl.ev_op (x := .int ns[j]) (Evl.ev_is (Evl.ev_var rfl) eo) Evl.ev_c Evl.rv_I0) (Evl.rv_ixL (Evl.sq_of h4) ?_)) k3) (by rw [es])
          have en : ns[j] - 1 = ((ns[j] - 1).toNat : Int) := by omega
          rw [en]
          exact atI_nat (by rw [← k2]; exact List.getElem?_eq_getElem hx)
      have hsym : ((List.range xs.length).all fun i => (List.range (rowAt rs i).length).all fun j => symAt rs i ((rowAt rs i).getD j .non)) = symV rs := by
        unfold symV
        rw [hn]
      rw [rows_all, hsym] at fin
      exact Evl.s_ret fin fun H5 e5 => q H5 (e04.trans e5)
end
end P05
end S_Cl
section S_Cm
namespace P05
open PySem PySem.Spec PyProof.Rows L2 Tl Hk
/-- lists or tuples of lists or tuples of ints -/
def RowsAt (H : Hp) (a : Addr) (ts : List (List Int)) : Prop := ∃ xs, SqP H a xs ∧ xs.length = ts.length ∧ ∀ (i : Nat) (ns : List Int), ts[i]? = some ns → ∃ ai, xs[i]? = some (.ref ai) ∧ SqP H ai (ns.map V.int)
theorem RowsAt.ex {H H' : Hp} {a : Addr} {ts : List (List Int)} (h : RowsAt H a ts) (e : Evl.Ex H H') : RowsAt H' a ts := by
  obtain ⟨xs, h1, h2, h3⟩ := h
  exact ⟨xs, h1.ex e, h2, fun i ns hn => (h3 i ns hn).imp fun ai ⟨p, q⟩ => ⟨p, q.ex e⟩⟩
/-- rows as values -/
def valsOf (ts : List (List Int)) : List (Option (List V)) := ts.map fun ns => some (ns.map V.int)
theorem valsOf_at {ts : List (List Int)} {i : Nat} {ns : List Int} (h : ts[i]? = some ns) : (valsOf ts).getD i none = some (ns.map V.int) := by
  unfold valsOf
  rw [List.getD_eq_getElem?_getD, List.getElem?_map, h]
  rfl
theorem vals_ex : ∀ {rs : List (Option (List V))}, (∀ r ∈ rs, ∃ ns : List Int, r = some (ns.map V.int)) → ∃ ts : List (List Int), rs = valsOf ts
  | [], _ => ⟨[], rfl⟩
  | r :: rs, h => by
    obtain ⟨ns, rfl⟩ := h r List.mem_cons_self
    obtain ⟨ts, rfl⟩ := vals_ex (rs := rs) fun x hx => h x (List.mem_cons_of_mem _ hx)
    exact ⟨ns :: ts, rfl⟩
/-- what is let is turns -/
theorem are_yes {K : PySem.W.Frag} {H : Hp} {v : V} {r : Option (List (Option (List V)))} (h : TurnsD K H v r) (hr : areV r = true) : ∃ a ts, v = .ref a ∧ r = some (valsOf ts) ∧ OkT ts ∧ RowsAt H a ts := by
  cases h with
  | no _ _ _ => cases hr
  | @seq a xs rs hs hn hl hi hz =>
    have h' : (decide (1 ≤ rs.length) && decide (rs.length ≤ 1000) && allTurn rs && symV rs) = true := hr
    rw [Bool.and_eq_true_iff, Bool.and_eq_true_iff, Bool.and_eq_true_iff] at h'
    obtain ⟨⟨⟨h1, h2⟩, h3⟩, h4⟩ := h'
    have h1 := of_decide_eq_true h1
    have h2 := of_decide_eq_true h2
    have row : ∀ i, i < rs.length → ∃ ns : List Int, rs.getD i none = some (ns.map V.int) ∧ ns.Nodup ∧ (∀ x ∈ ns, 1 ≤ x ∧ x ≤ (rs.length : Int)) ∧ ((i : Int) + 1) ∉ ns := fun i hi' => turn_ints (List.all_eq_true.mp h3 i (List.mem_range.mpr hi'))
    obtain ⟨ts, hts⟩ : ∃ ts : List (List Int), rs = valsOf ts := by
      have all : ∀ r ∈ rs, ∃ ns : List Int, r = some (ns.map V.int) := fun r hr' => by
        obtain ⟨i, hi', rfl⟩ := List.mem_iff_getElem.mp hr'
        obtain ⟨ns, e, _⟩ := row i hi'
        rw [List.getD_eq_getElem?_getD, List.getElem?_eq_getElem hi'] at e
        exact ⟨ns, e⟩
      exact vals_ex all
    subst hts
    have hlen : (valsOf ts).length = ts.length := List.length_map ..
    have inj : ∀ {a b : List Int}, (some (a.map V.int) : Option (List V)) = some (b.map V.int) → a = b := fun {a b} e => by
      have := Option.some.inj e
      exact (List.map_inj_right fun x y z => V.int.inj z).mp this
    have hrow : ∀ (i : Nat) (ns : List Int), ts[i]? = some ns → ns.Nodup ∧ (∀ x ∈ ns, 1 ≤ x ∧ x ≤ (ts.length : Int)) ∧ ((i : Int) + 1) ∉ ns := fun i ns hns => by
      have hi' := (List.getElem?_eq_some_iff.mp hns).1
      obtain ⟨ms, e, n1, n2, n3⟩ := row i (by omega)
      rw [valsOf_at hns] at e
      obtain rfl := inj e
      rw [hlen] at n2
      exact ⟨n1, n2, n3⟩
    refine ⟨a, ts, rfl, rfl, ⟨by omega, by omega, hrow, fun i ns o hns ho => ?_, ?_⟩, xs, hs, by omega, fun i ns hns => ?_⟩
    · have hi' := (List.getElem?_eq_some_iff.mp hns).1
      have hb := (hrow i ns hns).2.1 o ho
      have ho2 : (o - 1).toNat < ts.length := by omega
      refine ⟨_, List.getElem?_eq_getElem ho2, ?_⟩
      have s1 := List.all_eq_true.mp h4 i (List.mem_range.mpr (by omega))
      have er : rowAt (valsOf ts) i = ns.map V.int := by
        unfold rowAt
        rw [valsOf_at hns]
        rfl
      rw [er, List.length_map] at s1
      obtain ⟨j, hj, ej⟩ := List.mem_iff_getElem.mp ho
      have s2 := List.all_eq_true.mp s1 j (List.mem_range.mpr hj)
      have eo : (ns.map V.int).getD j .non = .int o := by
        rw [ints_getD hj, List.getD_eq_getElem?_getD, List.getElem?_eq_getElem hj, ← ej]
        rfl
      rw [eo] at s2
      have s3 : (rowAt (valsOf ts) (o - 1).toNat).contains (.int ((i : Int) + 1)) = true := s2
      have er2 : rowAt (valsOf ts) (o - 1).toNat = (ts[(o - 1).toNat]).map V.int := by
        unfold rowAt
        rw [valsOf_at (List.getElem?_eq_getElem ho2)]
        rfl
      rw [er2, contains_int] at s3
      exact of_decide_eq_true s3
    · have : (ts.map List.length) = (valsOf ts).map fun r => (r.getD []).length := by
        unfold valsOf
        rw [List.map_map]
        exact List.map_congr_left fun ns _ => (List.length_map ..).symm
      rw [this]
      exact hz
    · have hi' := (List.getElem?_eq_some_iff.mp hns).1
      have hx : xs[i]? = some (xs.getD i .non) := by rw [List.getD_eq_getElem?_getD, List.getElem?_eq_getElem (by omega)]; rfl
      have hd := hi i _ _ hx (show (valsOf ts)[i]? = some (some (ns.map V.int)) by unfold valsOf; rw [List.getElem?_map, hns]; rfl)
      generalize xs.getD i .non = xv at hd hx
      cases hd with
      | seq h _ _ => exact ⟨_, hx, h⟩
end P05
end S_Cm
section S_Cn
namespace P05
open PySem PySem.Spec PyProof.Rows L2 Tl Hk LamX
section
open Evl
variable {K : PySem.W.Frag} {σ : L2.St} {H B : Hp}
theorem en_tupP {ta : TE} {a : Addr} {xs : List V} (h : Ev ta σ H (.ref a)) (hs : SqP H a xs) : EvN (tCB (rTup K) (tCons ta tNil)) σ H (fun u H' => ∃ t, u = .ref t ∧ H' t = some (.tup xs)) := fun H1 e Q q =>
  h H1 e _ fun H2 e2 => hs.elim (fun hs => ⟨a, xs, rfl, .inl ⟨sq_of ((e.trans e2) _ _ hs), fun t ht => q _ _ (e2.trans (Ex.new ht)) fun H3 _ s3 => ⟨t, rfl, s3 _ _ (fresh_back e2 ht) upd_same⟩⟩⟩)
    fun hs => ⟨a, xs, rfl, .inr ⟨st_of ((e.trans e2) _ _ hs), q _ _ e2 fun H3 h3 _ => ⟨a, rfl, h3 _ _ hs⟩⟩⟩
theorem en_tuplesP {i j : Nat} {l : Addr} {ts : List (List Int)} (hs2 : σ[i]? = some (some (.ref l))) (hw : ∀ x, wipe ((wipe σ [j]).set j (some x)) [j] = wipe σ [j]) (hj : ∀ x, ((wipe σ [j]).set j (some x))[j]? = some (some x))
    (hL : RowsAt B l ts) (hz : ts.length ≤ 40000) : EvN (tCB (rTup K) (tCons (tLc (iEi K (tVar i)) (gName j) tYes (tCB (rTup K) (tCons (tVar j) tNil)) [j]) tNil)) σ B (fun u H' => ∃ t, u = .ref t ∧ TT H' t ts) := by
  obtain ⟨xs, hl, ha, hrow⟩ := hL
  have h1 : EvN (tCB (rTup K) (tCons (tLc (iEi K (tVar i)) (gName j) tYes (tCB (rTup K) (tCons (tVar j) tNil)) [j]) tNil)) σ B (fun u H' => ∃ t xs2, u = .ref t ∧ H' t = some (.tup xs2) ∧ Holds (fun i v H' => ∃ ns, ts[i]? = some ns ∧ ∃ a, v = .ref a ∧ H' a = some (.tup (ns.map V.int))) xs.length xs2 H') := by
    refine en_tupNL (en_lc (ei_ei (K := K) (Evl.ev_var hs2) hl.s) aims_at (fun _ => hw _) (by omega) _ fun k hk => ?_)
    have hk2 : k < ts.length := by omega
    obtain ⟨a, h1, h2⟩ := hrow k _ (List.getElem?_eq_getElem hk2)
    have ex : xs.getD k .non = .ref a := by rw [List.getD_eq_getElem?_getD, h1]; rfl
    exact fun H5 e5 Q q => en_tupP (K := K) (Evl.ev_is (Evl.ev_var (hj _)) ex) h2 H5 e5 Q fun v H6 e6 hv => q v H6 e6 fun H7 e7 s7 => ⟨_, List.getElem?_eq_getElem hk2, hv H7 e7 s7⟩
  exact fun H5 e5 Q q => h1 H5 e5 Q fun v H6 e6 hv => q v H6 e6 fun H7 e7 s7 => by
    obtain ⟨t, xs2, rfl, k1, k2, k3⟩ := hv H7 e7 s7
    have hex : ∃ bs : List Addr, xs2 = bs.map V.ref := by
      have : ∀ v ∈ xs2, ∃ a, v = V.ref a := fun v hv => by
        obtain ⟨i, hi, rfl⟩ := List.mem_iff_getElem.mp hv
        obtain ⟨_, _, a, h, _⟩ := k3 i _ (List.getElem?_eq_getElem hi)
        exact ⟨a, h⟩
      clear k1 k2 k3 hv
      induction xs2 with
      | nil => exact ⟨[], rfl⟩
      | cons v r ih =>
        obtain ⟨a, rfl⟩ := this v List.mem_cons_self
        obtain ⟨bs, rfl⟩ := ih fun u hu => this u (List.mem_cons_of_mem _ hu)
        exact ⟨a :: bs, rfl⟩
    obtain ⟨bs, rfl⟩ := hex
    refine ⟨t, rfl, bs, k1, by rw [List.length_map] at k2; omega, fun i a ns h1 h2 => ?_⟩
    obtain ⟨ns2, h3, b, h4, h5⟩ := k3 i (.ref a) (by rw [List.getElem?_map, h1]; rfl)
    rw [h2] at h3
    cases h3
    cases h4
    exact h5
end
abbrev Rz (C : Addr) (H : Hp) (E : XK) (part : Str) : Prop := ∀ H1 d, Evl.Ex H H1 → H1 d = none → E (.ref C) (some d) (upd H1 d (.xd [(("part" : Str), .str part)]))
def spWebG (K : PySem.W.Frag) (C CE : Addr) : Sp := fun vs H Q E => ∃ (x dx : Addr) (v : V) (r : Option (List (Option (List V)))) (B : Hp), vs = [.ref x, v] ∧ H x = some (.ins C dx []) ∧ Evl.Ex B H ∧ B x = none ∧ TurnsD K B v r ∧ (areV r = false → Rz CE H E "turns") ∧
  (∀ ts, r = some (valsOf ts) → OkT ts → ∀ H', Evl.Ex (less H x) H' → (∀ H3, Evl.Ex B H3 → Since H H' H3 → H3 x = H' x → WebAt C H3 x ts) → Q .non H')
section
variable {P : Program} {w : World} {K : PySem.W.Frag} {mg : Str → Option Value} {base : Heap}
set_option maxHeartbeats 2000000 in
theorem ok_webG {qI : Str} {C CE f fA fT fE : Addr} {fd fdA fdT : FuncData} {k : Nat} (F : Fun K "__init__" "Web.__init__" sWebI f fd) (T : TWeb K mg C)
    (FA : Fun K "_are_turns" "_are_turns" sAreTurns fA fdA) (GA : FnOk P w K mg base CX0 (k + 2) fA fdA ["turns"] (spAreG K)) (bA : Binds K fdA ["turns"] []) (gA : mg "_are_turns" = some (.ref fA))
    (FT : Fun K "_ties_of" "_ties_of" sTies fT fdT) (GT : FnOk P w K mg base CX0 (k + 2) fT fdT ["turns"] spTies) (bT : Binds K fdT ["turns"] []) (gT : mg "_ties_of" = some (.ref fT))
    (TP : PySem.PartX.PartTxt K mg "BadWeb" qI CE fE) (mtup : mg "tuple" = none) (mlen : mg "len" = none) :
    FnOk P w K mg base (L2.CX P w) (k + 3) f fd ["self", "turns"] (spWebG K C CE) := by
  refine F.okX scWebI (fun vs H Q E h => ?_) (fun cdv A outer s H vs Q E hr h => ?_)
  · obtain ⟨x, dx, v, r, B, rfl, _⟩ := h
    rfl
  · obtain ⟨x, dx, v, r, B, rfl, hx, b0, n0, hD, hno, hyes⟩ := h
    have nd := scWebI.nd
    refine ⟨_, pss_cons (ps_if (pt_not (pt_val (pe_call GA hr (by rfl) gA FA.kp bA .nil pass0 (pa_cons (pv 1) pa_nil)))) (pss_one (ps_raisePart rfl TP (k := k + 2) hr (takes_of rfl rfl rfl rfl) (pa_cons pe_str pa_nil) (by rfl) (by decide))) pss_nil)
      (PSs.nox 
      (pss_cons (ps_fld (pv 0) (pe_callTy call_tuple_of (by rfl) mtup (by decide +kernel) (pa_cons
          (pe_lc (own := [("turn", 2)]) (g := gName 2) (tt := tYes) (te := tCB (rTup K) (tCons (tVar 2) tNil)) rfl nd (pi_ei (pv 1)) (blkOk_by (N := ["self", "turns", "turn"]) (sc := defScope sWebI) (by decide +kernel)) (fun _ _ _ _ _ => pg_name (i := 2) nd rfl (Or.inl rfl)) (fun _ _ _ _ _ => pts_nil)
            (fun _ _ _ _ _ => pe_callTy call_tuple_of (by rfl) mtup (by decide +kernel) (pa_cons (pv 2) pa_nil))) pa_nil)) rfl)
      (pss_cons (ps_fld (pv 0) (pe_callB call_len_seq (by rfl) mlen PySem.boot_len (pa_cons (pe_fld (pv 0) rfl) pa_nil)) rfl)
      (pss_one (ps_fld (pv 0) (pe_call GT hr (by rfl) gT FT.kp bT .nil pass0 (pa_cons (pe_fld (pv 0) rfl) pa_nil)) rfl))))), ?_⟩
    refine Evl.q_when (b := !areV r) (Evl.et_not (Evl.et_B (Evl.ev_call (Evl.ea_cons (Evl.ev_var rfl) Evl.ea_nil) (spv_areG (hD.ex b0))))) (fun hb H1 e1 => ?_) fun hb H1 e1 => ?_
    · rw [Bool.not_eq_true'] at hb
      exact ⟨.str "turns", rfl, fun d hd => hno hb H1 d e1 hd⟩
    rw [Bool.not_eq_false'] at hb
    obtain ⟨l, ts, rfl, er, hT, hL⟩ := are_yes hD hb
    have q := hyes ts er hT
    have p2 := hT.most
    -- self.turns
    refine q_fldN (b0.trans e1) (en_tuplesP (K := K) (i := 1) (j := 2) rfl (fun _ => rfl) (fun _ => rfl) hL (by omega)) fun u H2 e2 hu => ?_
    obtain ⟨t, rfl, tt2⟩ := hu H2 ((b0.trans e1).trans e2) fun _ _ _ h => h
    have hx2 := e2 _ _ (e1 _ _ hx)
    refine ⟨_, rfl, x, C, dx, [], rfl, hx2, T.cl, T.nT, (by show 0 < 1000; decide), ?_⟩
    -- self.many
    have xt : x ≠ t := fun z => by
      obtain ⟨as2, h2, _⟩ := tt2
      rw [← z, hx2] at h2
      cases h2
    obtain ⟨as2, ht2, hl2, hr2⟩ := id tt2
    refine ⟨_, rfl, x, C, dx, _, .ref t, rfl, upd_same, T.cl, T.nT, (by rw [lookup_putF, if_pos rfl]), t, as2.map V.ref, rfl, .inr (Evl.st_of (by rw [upd_ne xt.symm]; exact ht2)), _, rfl, x, C, dx, _, rfl, upd_same, T.cl, T.nM, (by show 1 < 1000; decide), ?_⟩
    have hml : ((as2.map V.ref).length : Int) = (ts.length : Int) := by rw [List.length_map, hl2]
    rw [hml]
    -- self.ties
    have n2 : plus B H1 H2 x = none := plus_none n0 (by rw [e1 _ _ hx]; rfl)
    have b3 : Evl.Ex (plus B H1 H2) (upd (upd H2 x (.ins C dx (putF "turns" (.ref t) []))) x (.ins C dx (putF "many" (.int ts.length) (putF "turns" (.ref t) [])))) := (plus_le.mut n2).mut n2
    have tt2l : TT (plus B H1 H2) t ts := by
      obtain ⟨t', et, h⟩ := hu (plus B H1 H2) (plus_base ((b0.trans e1).trans e2)) plus_new
      cases et
      exact h
    refine ⟨_, rfl, x, C, dx, _, .ref t, rfl, upd_same, T.cl, T.nT, (by rw [lookup_putF, if_neg kTM, lookup_putF, if_pos rfl]), ?_⟩
    refine ⟨t, ts, plus B H1 H2, rfl, b3, tt2l, hT, fun v H4 e4 hv => ?_⟩
    obtain ⟨ti, rfl, ti4⟩ := hv H4 (b3.trans e4) fun _ _ _ h => h
    have hx4 := e4 _ _ upd_same
    refine ⟨_, rfl, x, C, dx, _, rfl, hx4, T.cl, T.nI, (by show 2 < 1000; decide), ?_⟩
    have lx := less_none H x
    have exA : Evl.Ex (less H x) H4 := (((((less_ex H x).trans e1).trans e2).mut lx).mut lx).trans e4
    refine q _ (exA.mut lx) fun H3 h3 s3 hx3 => ?_
    have at3 : ∀ a o, a ≠ x → H a = none → H4 a = some o → H3 a = some o := fun a o hne hn h4 => s3 a o hn (by rw [upd_ne hne]; exact h4)
    have fromH1 : ∀ a, H1 a = none → H a = none := fun a h => Evl.fresh_back e1 h
    have up24 : ∀ a o, a ≠ x → H2 a = some o → H4 a = some o := fun a o hne h => e4 _ _ (by rw [upd_ne hne, upd_ne hne]; exact h)
    refine ⟨dx, t, ti, by rw [hx3, upd_same] <;> rfl, ?_, ?_⟩
    · obtain ⟨t', et, h⟩ := hu H3 h3 fun a o hn h2 => at3 a o (fun z => by rw [z, e1 _ _ hx] at hn; cases hn) (fromH1 a hn) (up24 a o (fun z => by rw [z, e1 _ _ hx] at hn; cases hn) h2)
      cases et
      exact h
    · have hp1 : Evl.Ex (plus B H1 H2) H3 := plus_in ((b0.trans e1).trans e2) h3 fun a o hn h2 => at3 a o (fun z => by rw [z, e1 _ _ hx] at hn; cases hn) (fromH1 a hn) (up24 a o (fun z => by rw [z, e1 _ _ hx] at hn; cases hn) h2)
      obtain ⟨t', et, h⟩ := hv H3 hp1 fun a o hn h4 => by
        have hne : a ≠ x := fun z => by rw [z, upd_same] at hn; cases hn
        rw [upd_ne hne, upd_ne hne] at hn
        exact at3 a o hne (fromH1 a (Evl.fresh_back e2 hn)) h4
      cases et
      exact h
end
end P05
end S_Cn
section S_Co
namespace P05
open PySem PySem.Spec PyProof.Rows L2 Tl Hk LamX
theorem scWant : FnScope ["value", "least", "most", "part"] ["value", "least", "most", "part"] (defScope sWant) := ⟨rfl, rfl, rfl, by decide +kernel, rfl, by decide +kernel, by decide +kernel⟩
def spWant (K : PySem.W.Frag) (C : Addr) : Sp := fun vs H Q E => ∃ (x lo hi : V) (n : String) (pt : Str), vs = [x, lo, hi, .str pt] ∧ Ty7 K H x n ∧ Bnd lo ∧ Bnd hi ∧ (wi x lo hi = true → ∀ H1, Evl.Ex H H1 → Q .non H1) ∧
  (wi x lo hi = false → Rz C H E pt)
abbrev sTied : Stmt := inClass sWeb 5
theorem scTied : FnScope ["self", "one", "other"] ["self", "one", "other"] (defScope sTied) := ⟨rfl, rfl, rfl, by decide +kernel, rfl, by decide +kernel, by decide +kernel⟩
def spTied (K : PySem.W.Frag) (C CB : Addr) : Sp := fun vs H Q E => ∃ (x : Addr) (ts : List (List Int)) (v u : V) (n m : String), vs = [.ref x, v, u] ∧ WebAt C H x ts ∧ Ty7 K H v n ∧ Ty7 K H u m ∧ (wi v (.int 1) (.int (ts.length : Int)) = false → Rz CB H E "one") ∧
  (wi v (.int 1) (.int (ts.length : Int)) = true → wi u (.int 1) (.int (ts.length : Int)) = false → Rz CB H E "other") ∧
  (∀ (p : Nat) (o : Int) (ns : List Int), v = .int (p : Int) → u = .int o → 1 ≤ p → 1 ≤ o → o ≤ ts.length → ts[p - 1]? = some ns → ∀ H1, Evl.Ex H H1 → Q (.bl (decide (o ∈ ns))) H1)
theorem Rz.ex {C : Addr} {H H' : Hp} {E : XK} {part : Str} (h : Rz C H E part) (e : Evl.Ex H H') : Rz C H' E part := fun H1 d e1 hd => h H1 d (e.trans e1) hd
theorem wi_yes {v : V} {m : Nat} (h : wi v (.int 1) (.int (m : Int)) = true) : ∃ p : Nat, v = .int (p : Int) ∧ 1 ≤ p ∧ p ≤ m := by
  cases v with
  | int i =>
    have h' : (decide ((1 : Int) ≤ i) && decide (i ≤ (m : Int))) = true := h
    rw [Bool.and_eq_true_iff] at h'
    have h1 := of_decide_eq_true h'.1
    have h2 := of_decide_eq_true h'.2
    exact ⟨i.toNat, by rw [show ((i.toNat : Nat) : Int) = i by omega], by omega, by omega⟩
  | _ => cases h
theorem callS_go {sp : Sp} {vs : List V} {E : L2.St → XK} {ta : TA} {σ : L2.St} {H : Hp} {Q : VK} (h : Evl.EvA ta σ H vs) (k : ∀ H1, Evl.Ex H H1 → sp vs H1 Q (E σ)) : tCallS sp E ta σ H Q := h H (Evl.Ex.refl H) _ k
section
variable {P : Program} {w : World} {K : PySem.W.Frag} {mg : Str → Option Value} {base : Heap}
theorem ok_want {qI : Str} {f C fI fW : Addr} {fd fdW : FuncData} {k : Nat} (F : Fun K "want_number" "want_number" sWant f fd) (FW : Fun K "is_within" "is_within" sWithin fW fdW) (GW : FnOk P w K mg base CX0 (k + 2) fW fdW ["value", "least", "most"] (spWithin K)) (bW : Binds K fdW ["value", "least", "most"] []) (gW : mg "is_within" = some (.ref fW))
    (T : PySem.PartX.PartTxt K mg "BadNumber" qI C fI) : FnOk P w K mg base (L2.CX P w) (k + 3) f fd ["value", "least", "most", "part"] (spWant K C) := by
  refine F.okX scWant (fun vs H Q E h => ?_) (fun cdv A outer s H vs Q E hr h => ?_)
  · obtain ⟨x, lo, hi, n, pt, rfl, _⟩ := h
    rfl
  · obtain ⟨x, lo, hi, n, pt, rfl, h7, hlo, hhi, hy, hn⟩ := h
    refine ⟨_, pss_one (ps_if (pt_not (pt_val (pe_call GW hr (by rfl) gW FW.kp bW .nil pass0 (pa_cons (pv 0) (pa_cons (pv 1) (pa_cons (pv 2) pa_nil)))))) (pss_one (ps_raisePart rfl T (k := k + 2) hr (takes_of rfl rfl rfl rfl) (pa_cons (pv 3) pa_nil) (by rfl) (by decide))) pss_nil), ?_⟩
    refine Evl.s_when (Evl.et_not (Evl.et_B (Evl.ev_call (Evl.ea_cons (Evl.ev_var rfl) (Evl.ea_cons (Evl.ev_var rfl) (Evl.ea_cons (Evl.ev_var rfl) Evl.ea_nil))) (spv_within h7 hlo hhi)))) (fun hb H1 e1 => ?_) (fun hb H1 e1 => ?_)
    · rw [Bool.not_eq_true'] at hb
      exact ⟨.str pt, rfl, .str pt, rfl, fun d hd => hn hb H1 d e1 hd⟩
    · rw [Bool.not_eq_false'] at hb
      exact hy hb H1 e1
theorem ok_tied {f fN C CB : Addr} {fd fdN : FuncData} {k : Nat} (F : Fun K "tied" "Web.tied" sTied f fd) (T : TWeb K mg C)
    (FN : Fun K "want_number" "want_number" sWant fN fdN) (GN : FnOk P w K mg base (L2.CX P w) k fN fdN ["value", "least", "most", "part"] (spWant K CB)) (bN : Binds K fdN ["value", "least", "most", "part"] []) (gN : mg "want_number" = some (.ref fN)) :
    FnOk P w K mg base (L2.CX P w) (k + 1) f fd ["self", "one", "other"] (spTied K C CB) := by
  refine F.okX scTied (fun vs H Q E h => ?_) (fun cdv A outer s H vs Q E hr h => ?_)
  · obtain ⟨x, ts, v, u, n, m, rfl, _⟩ := h
    rfl
  · obtain ⟨x, ts, v, u, n, m, rfl, hw, h7, h8, hno, hno2, hyes⟩ := h
    refine ⟨_, pss_cons (ps_expr (pe_callS GN hr (by rfl) gN FN.kp bN (fun σ => passAt (takes_of rfl rfl rfl rfl) σ) (pa_cons (pv 1) (pa_cons pe_int (pa_cons (pe_fld (pv 0) rfl) (pa_cons pe_str pa_nil))))))
      (pss_cons (ps_expr (pe_callS GN hr (by rfl) gN FN.kp bN (fun σ => passAt (takes_of rfl rfl rfl rfl) σ) (pa_cons (pv 2) (pa_cons pe_int (pa_cons (pe_fld (pv 0) rfl) (pa_cons pe_str pa_nil))))))
      (pss_one (ps_ret (pe_cmpR op_in_seq (pv 2) (pe_ix ix_tup (pe_fld (pv 0) rfl) (pe_op op_sub (pv 1) pe_int) (fun _ _ => rfl)) (by rfl))))), ?_⟩
    obtain ⟨dx, t, ti, a1, ⟨as, hl, ha, hrow⟩, a3⟩ := hw
    refine callS_go (vs := [v, .int 1, .int (ts.length : Int), .str "one"]) (Evl.ea_cons (Evl.ev_var rfl) (Evl.ea_cons Evl.ev_c (Evl.ea_cons (ev_fld (Evl.ev_var rfl) a1 T.cl T.nM (wf_m _ _ _)) (Evl.ea_cons Evl.ev_c Evl.ea_nil)))) fun H1 e1 => ?_
    refine ⟨v, .int 1, .int (ts.length : Int), n, "one", rfl, h7.ex e1, trivial, trivial, fun hb H2 e2 => ?_, fun hb => Rz.ex (hno hb) e1⟩
    have e12 := e1.trans e2
    refine callS_go (vs := [u, .int 1, .int (ts.length : Int), .str "other"]) (Evl.ea_cons (Evl.ev_var rfl) (Evl.ea_cons Evl.ev_c (Evl.ea_cons (ev_fld (Evl.ev_var rfl) (e12 _ _ a1) T.cl T.nM (wf_m _ _ _)) (Evl.ea_cons Evl.ev_c Evl.ea_nil)))) fun H3 e3 => ?_
    have e13 := e12.trans e3
    refine ⟨u, .int 1, .int (ts.length : Int), m, "other", rfl, h8.ex e13, trivial, trivial, fun hb2 H4 e4 => ?_, fun hb2 => Rz.ex (hno2 hb hb2) e13⟩
    obtain ⟨p, rfl, p1, p2⟩ := wi_yes hb
    obtain ⟨o, rfl, o1, o2⟩ := wi_yes hb2
    have e14 := e13.trans e4
    have hp : p - 1 < ts.length := by omega
    obtain ⟨ai, hai⟩ : ∃ ai, as[p - 1]? = some ai := ⟨_, List.getElem?_eq_getElem (by omega)⟩
    have hr1 := hrow _ ai _ hai (List.getElem?_eq_getElem hp)
    refine Evl.s_ret (v := .bl (decide ((o : Int) ∈ ts[p - 1]))) (Evl.ev_is (Evl.ev_op (Evl.ev_var rfl) (Evl.ev_op (ev_fld (Evl.ev_var rfl) (e14 _ _ a1) T.cl T.nT (wf_t _ _ _)) (Evl.ev_op (Evl.ev_var rfl) Evl.ev_c Evl.rv_I0) (Evl.rv_ixT (v := .ref ai) (Evl.st_of (e14 _ _ hl)) ?_)) (Evl.rv_inT (Evl.st_of (e14 _ _ hr1)) rfl (flat_ints _))) (by rw [in_ints] <;> rfl)) fun H5 e5 => hyes p o _ rfl rfl p1 (by omega) (by omega) (List.getElem?_eq_getElem hp) H5 (e14.trans e5)
    rw [show (p : Int) - 1 = ((p - 1 : Nat) : Int) by omega]
    exact atI_nat (by rw [List.getElem?_map, hai]; rfl)
end
end P05
end S_Co
section S_Cq
namespace P05
/-! ### turns on their way -/
def put (r : Nat) (o : Int) (ns : List Int) : List Int := ns.take r ++ [o] ++ ns.drop r
theorem put_perm (r : Nat) (o : Int) (ns : List Int) : (put r o ns).Perm (o :: ns) := by
  unfold put
  rw [List.append_assoc, List.singleton_append]
  refine List.perm_middle.trans ?_
  rw [List.take_append_drop]
theorem put_mem {r : Nat} {o x : Int} {ns : List Int} : x ∈ put r o ns ↔ x = o ∨ x ∈ ns := by
  rw [(put_perm r o ns).mem_iff, List.mem_cons]
theorem put_nodup {r : Nat} {o : Int} {ns : List Int} (h : ns.Nodup) (ho : o ∉ ns) : (put r o ns).Nodup := by
  rw [(put_perm r o ns).nodup_iff]
  exact List.nodup_cons.mpr ⟨ho, h⟩
/-- so far: the last place is tied to places up to j -/
structure Part (ts : List (List Int)) (j : Nat) : Prop where
  pl : ∀ (i : Nat) (ns : List Int), ts[i]? = some ns → ns.Nodup ∧ (∀ x ∈ ns, 1 ≤ x ∧ x ≤ (ts.length : Int)) ∧ ((i : Int) + 1) ∉ ns
  sym : ∀ (i : Nat) (ns : List Int) (o : Int), ts[i]? = some ns → o ∈ ns → ∃ ms, ts[(o - 1).toNat]? = some ms ∧ ((i : Int) + 1) ∈ ms
  last : ∀ ns, ts[ts.length - 1]? = some ns → ∀ x ∈ ns, x ≤ (j : Int)
theorem Part.skip {ts : List (List Int)} {j : Nat} (h : Part ts j) : Part ts (j + 1) := ⟨h.pl, h.sym, fun ns hn x hx => by have := h.last ns hn x hx; omega⟩
theorem Part.app {ts : List (List Int)} {j : Nat} (h : Part ts j) : Part (ts ++ [[]]) 0 where
  pl := fun i ns hn => by
    rw [List.length_append]
    rcases Nat.lt_or_ge i ts.length with hi | hi
    · rw [List.getElem?_append_left hi] at hn
      obtain ⟨a, b, c⟩ := h.pl i ns hn
      exact ⟨a, fun x hx => by have := b x hx; simp; omega, c⟩
    · rw [List.getElem?_append_right hi] at hn
      have : ns ∈ [([] : List Int)] := List.mem_of_getElem? hn
      rw [List.mem_singleton.mp this]
      exact ⟨List.nodup_nil, fun x hx => (nomatch hx), fun hx => nomatch hx⟩
  sym := fun i ns o hn ho => by
    rcases Nat.lt_or_ge i ts.length with hi | hi
    · rw [List.getElem?_append_left hi] at hn
      obtain ⟨ms, h1, h2⟩ := h.sym i ns o hn ho
      exact ⟨ms, by rw [List.getElem?_append_left (List.getElem?_eq_some_iff.mp h1).1]; exact h1, h2⟩
    · rw [List.getElem?_append_right hi] at hn
      have : ns ∈ [([] : List Int)] := List.mem_of_getElem? hn
      rw [List.mem_singleton.mp this] at ho
      cases ho
  last := fun ns hn x hx => by
    rw [List.length_append, List.length_singleton, Nat.add_sub_cancel, List.getElem?_append_right (Nat.le_refl _), Nat.sub_self] at hn
    cases hn
    cases hx
/-- a tie between the last place and place j + 1 -/
theorem Part.tie {ts : List (List Int)} {j r s : Nat} {ns ms : List Int} (h : Part ts j) (hj : j + 1 < ts.length) (h1 : ts[ts.length - 1]? = some ns) (h2 : ts[j]? = some ms) :
    Part ((ts.set (ts.length - 1) (put r ((j : Int) + 1) ns)).set j (put s (ts.length : Int) ms)) (j + 1) := by
  have lt : ((ts.set (ts.length - 1) (put r ((j : Int) + 1) ns)).set j (put s (ts.length : Int) ms)).length = ts.length := by rw [List.length_set, List.length_set]
  have atj : ((ts.set (ts.length - 1) (put r ((j : Int) + 1) ns)).set j (put s (ts.length : Int) ms))[j]? = some (put s (ts.length : Int) ms) := by
    rw [List.getElem?_set_self (by rw [List.length_set]; omega)]
  have atl : ((ts.set (ts.length - 1) (put r ((j : Int) + 1) ns)).set j (put s (ts.length : Int) ms))[ts.length - 1]? = some (put r ((j : Int) + 1) ns) := by
    rw [List.getElem?_set_ne (by omega), List.getElem?_set_self (by omega)]
  have ato : ∀ i, i ≠ j → i ≠ ts.length - 1 → ((ts.set (ts.length - 1) (put r ((j : Int) + 1) ns)).set j (put s (ts.length : Int) ms))[i]? = ts[i]? := fun i a b => by
    rw [List.getElem?_set_ne (Ne.symm a), List.getElem?_set_ne (Ne.symm b)]
  have nj : ((j : Int) + 1) ∉ ns := fun z => by have := h.last ns h1 _ z; omega
  have nl : (ts.length : Int) ∉ ms := fun z => by
    obtain ⟨us, u1, u2⟩ := h.sym j ms _ h2 z
    rw [show ((ts.length : Int) - 1).toNat = ts.length - 1 by omega, h1] at u1
    cases u1
    exact nj u2
  -- where a place stood, it stands
  have up : ∀ (i : Nat) (us : List Int), ts[i]? = some us → ∃ vs, ((ts.set (ts.length - 1) (put r ((j : Int) + 1) ns)).set j (put s (ts.length : Int) ms))[i]? = some vs ∧ ∀ x ∈ us, x ∈ vs := fun i us hu => by
    by_cases a : i = j
    · subst a
      rw [h2] at hu
      cases hu
      exact ⟨_, atj, fun x hx => put_mem.mpr (.inr hx)⟩
    · by_cases b : i = ts.length - 1
      · subst b
        rw [h1] at hu
        cases hu
        exact ⟨_, atl, fun x hx => put_mem.mpr (.inr hx)⟩
      · exact ⟨us, by rw [ato i a b]; exact hu, fun x hx => hx⟩
  refine ⟨fun i us hu => ?_, fun i us o hu ho => ?_, fun us hu x hx => ?_⟩
  · rw [lt]
    by_cases a : i = j
    · subst a
      rw [atj] at hu
      cases hu
      obtain ⟨p1, p2, p3⟩ := h.pl i ms h2
      refine ⟨put_nodup p1 nl, fun x hx => ?_, fun z => ?_⟩
      · rcases put_mem.mp hx with e | e
        · omega
        · exact p2 x e
      · rcases put_mem.mp z with e | e
        · omega
        · exact p3 e
    · by_cases b : i = ts.length - 1
      · subst b
        rw [atl] at hu
        cases hu
        obtain ⟨p1, p2, p3⟩ := h.pl _ ns h1
        refine ⟨put_nodup p1 nj, fun x hx => ?_, fun z => ?_⟩
        · rcases put_mem.mp hx with e | e
          · omega
          · exact p2 x e
        · rcases put_mem.mp z with e | e
          · omega
          · exact p3 e
      · rw [ato i a b] at hu
        exact h.pl i us hu
  · by_cases a : i = j
    · subst a
      rw [atj] at hu
      cases hu
      rcases put_mem.mp ho with e | e
      · refine ⟨put r ((i : Int) + 1) ns, ?_, put_mem.mpr (.inl rfl)⟩
        rw [e, show ((ts.length : Int) - 1).toNat = ts.length - 1 by omega]
        exact atl
      · obtain ⟨us, u1, u2⟩ := h.sym i ms o h2 e
        obtain ⟨vs, v1, v2⟩ := up _ us u1
        exact ⟨vs, v1, v2 _ u2⟩
    · by_cases b : i = ts.length - 1
      · subst b
        rw [atl] at hu
        cases hu
        rcases put_mem.mp ho with e | e
        · refine ⟨put s (ts.length : Int) ms, ?_, put_mem.mpr (.inl (by omega))⟩
          rw [e, show ((j : Int) + 1 - 1).toNat = j by omega]
          exact atj
        · obtain ⟨us, u1, u2⟩ := h.sym _ ns o h1 e
          obtain ⟨vs, v1, v2⟩ := up _ us u1
          exact ⟨vs, v1, v2 _ u2⟩
      · rw [ato i a b] at hu
        obtain ⟨us2, u1, u2⟩ := h.sym i us o hu ho
        obtain ⟨vs, v1, v2⟩ := up _ us2 u1
        exact ⟨vs, v1, v2 _ u2⟩
  · rw [lt, atl] at hu
    cases hu
    rcases put_mem.mp hx with e | e
    · omega
    · have := h.last ns h1 x e
      omega
end P05
end S_Cq
section S_Wq
namespace Hk
open PySem PySem.Spec PyProof.Rows L2 Tl
theorem asc_eq : ∀ {xs ys : List Int}, xs.Pairwise (· < ·) → ys.Pairwise (· < ·) → (∀ k, k ∈ xs ↔ k ∈ ys) → xs = ys
  | [], [], _, _, _ => rfl
  | [], y :: r, _, _, h => by have := (h y).mpr List.mem_cons_self; cases this
  | x :: r, [], _, _, h => by have := (h x).mp List.mem_cons_self; cases this
  | x :: r, y :: s, h1, h2, h => by
    obtain ⟨a1, a2⟩ := List.pairwise_cons.mp h1
    obtain ⟨b1, b2⟩ := List.pairwise_cons.mp h2
    have e : x = y := by
      rcases List.mem_cons.mp ((h x).mp List.mem_cons_self) with z | z
      · exact z
      · rcases List.mem_cons.mp ((h y).mpr List.mem_cons_self) with u | u
        · exact u.symm
        · have := a1 y u
          have := b1 x z
          omega
    subst e
    rw [asc_eq a2 b2 fun k => ?_]
    constructor
    · intro hk
      rcases List.mem_cons.mp ((h k).mp (List.mem_cons_of_mem _ hk)) with z | z
      · have := a1 k hk; omega
      · exact z
    · intro hk
      rcases List.mem_cons.mp ((h k).mpr (List.mem_cons_of_mem _ hk)) with z | z
      · have := b1 k hk; omega
      · exact z
theorem in_ints (x : Int) (ns : List Int) : inV (.int x) (ns.map V.int) = decide (x ∈ ns) := by
  unfold inV
  induction ns with
  | nil => rfl
  | cons a r ih =>
    rw [List.map_cons, List.any_cons, ih]
    have e : eqV (.int a) (.int x) = decide (x = a) := by
      show decide (a = x) = decide (x = a)
      exact decide_eq_decide.mpr eq_comm
    rw [e, ← Bool.decide_or]
    exact decide_eq_decide.mpr List.mem_cons.symm
theorem flat_ints (ns : List Int) : (ns.map V.int).all flatV = true := by
  rw [List.all_eq_true]
  intro v hv
  obtain ⟨i, _, rfl⟩ := List.mem_map.mp hv
  rfl
section
open Evl
variable {K : PySem.W.Frag} {σ : L2.St} {H : Hp} {ta tb te : TE}
theorem el_from1 {tl : TO} {a : Addr} {xs : List V} (h : Ev te σ H (.ref a)) (h2 : EvO tl σ H (some (1 : Int))) (hs : SqL K H a xs) : EvL (tSl (rSlL K) te tl tNoPart) σ H (xs.drop 1) := by
  rw [← cutFrom]
  exact el_sl h h2 eo_none hs
theorem el_sortedSet {w : World} {ns : List Int} (h : EvL ta σ H (ns.map V.int)) (hp : ns.Pairwise (· < ·)) (hl : ns.length < 60) : EvL (tCB (rSortedSet w) (tCons (tCB (rSetL K w) (tCons ta tNil)) tNil)) σ H (ns.map V.int) := fun H1 e Q q =>
  h H1 e _ fun l H2 hl' e2 h2 => ⟨l, ns, rfl, sq_of h2, by omega, fun p c hp' hc => ⟨p, _, c, rfl, upd_same, by omega, fun ms r hpw hmem hlen hr => by
    obtain rfl : ms = ns := asc_eq hpw hp fun k => (hmem k).trans decide_eq_true_iff
    exact q r _ (fresh_back (e2.trans (Ex.new hp')) hr) ((e2.trans (Ex.new hp')).trans (Ex.new hr)) upd_same⟩⟩
theorem ev_notIn {x : Int} {ns : List Int} (h : Ev ta σ H (.int x)) (h2 : EvL tb σ H (ns.map V.int)) : Ev (tOp (rIn K true) ta tb) σ H (.bl !decide (x ∈ ns)) := fun H1 e Q q =>
  h H1 e _ fun H2 e2 => h2 H2 (e.trans e2) _ fun p H3 hp e3 h3 => ⟨p, _, rfl, .inl (sq_of h3), rfl, flat_ints ns, by
    show Q (.bl !inV (.int x) (ns.map V.int)) H3
    rw [in_ints]
    exact q H3 (e2.trans e3)⟩
end
section
open Evl
variable {K : PySem.W.Frag} {σ : L2.St} {H : Hp} {ta tb : TE}
/-- a new list of ints is the sorted set of the same -/
theorem ev_eqSS {w : World} {ns : List Int} (h : EvL ta σ H (ns.map V.int)) (h2 : EvL tb σ H (ns.map V.int)) (hl : ns.length < 60) : Ev (tOp (rEqD K) ta (tCB (rSortedSet w) (tCons (tCB (rSetL K w) (tCons tb tNil)) tNil))) σ H (.bl (pd (ns.Pairwise (· < ·)))) := fun H1 e Q q =>
  h H1 e _ fun l1 H2 hl1 e2 hh1 => h2 H2 (e.trans e2) _ fun l H3 hl' e3 hh2 => ⟨l, ns, rfl, sq_of hh2, by omega, fun p c hp' hc => ⟨p, _, c, rfl, upd_same, by omega, fun ms r hpw hmem hlen hr => by
    have e4 : Ex H3 (upd (upd H3 p _) r (.lst (ms.map V.int))) := (Ex.new hp').trans (Ex.new hr)
    refine ⟨.list (zD ns), .list (zD ms), .lst (sq_of (e4 _ _ (e3 _ _ hh1))) (dp_zD ns), .lst (sq_of upd_same) (dp_zD ms), PySem.W.ke_shaped_ints ns, PySem.W.ke_shaped_ints ms, ?_⟩
    rw [eqv_zD]
    have hm : ∀ k, k ∈ ms ↔ k ∈ ns := fun k => (hmem k).trans decide_eq_true_iff
    have hp : decide (ns = ms) = pd (ns.Pairwise (· < ·)) := by
      by_cases z : ns.Pairwise (· < ·)
      · rw [pd_true z, decide_eq_true (asc_eq z hpw fun k => (hm k).symm)]
      · rw [pd_false z, decide_eq_false (fun y : ns = ms => z (by rw [y]; exact hpw))]
    rw [hp]
    exact q _ ((e2.trans e3).trans e4)⟩⟩
end
end Hk
end S_Wq
section S_Wr
namespace Hk
open PySem PySem.Spec PyProof.Rows L2 Tl
theorem refs_of {H : Hp} : ∀ {xs : List V} {P : Nat → Addr → Hp → Prop}, (∀ i v, xs[i]? = some v → ∃ r, v = .ref r ∧ P i r H) → ∃ rs : List Addr, xs = rs.map V.ref ∧ rs.length = xs.length ∧ ∀ i r, rs[i]? = some r → P i r H
  | [], P, hx => ⟨[], rfl, rfl, fun i r z => by simp at z⟩
  | v :: r, P, hx => by
    obtain ⟨a, rfl, ha⟩ := hx 0 v rfl
    obtain ⟨rs, h1, h2, h3⟩ := refs_of (xs := r) (P := fun i => P (i + 1)) fun i u hu => hx (i + 1) u (by simpa using hu)
    refine ⟨a :: rs, by rw [h1, List.map_cons], by rw [List.length_cons, List.length_cons, h2], fun i u hu => ?_⟩
    cases i with
    | zero => cases hu; exact ha
    | succ i => exact h3 i u (by simpa using hu)
theorem holds_refs {P : Nat → Addr → Hp → Prop} {n : Nat} {xs : List V} {H : Hp} (h : Holds (fun i v H => ∃ r, v = .ref r ∧ P i r H) n xs H) : ∃ rs : List Addr, xs = rs.map V.ref ∧ rs.length = n ∧ ∀ i r, rs[i]? = some r → P i r H := by
  obtain ⟨hl, hx⟩ := h
  subst hl
  exact refs_of hx
theorem eu_tupL {K : PySem.W.Frag} {σ : L2.St} {H : Hp} {ta : TE} {xs : List V} (h : Evl.EvL ta σ H xs) : Evl.EvU (tCB (fun xs H Q => ∃ p ys, xs = [V.ref p] ∧ ((SqL K H p ys ∧ ∀ l, H l = none → Q (V.ref l) (upd H l (HO.tup ys))) ∨ (SqT K H p ys ∧ Q (V.ref p) H))) (tCons ta tNil)) σ H xs := fun H1 e Q q =>
  h H1 e _ fun p H2 hp e2 h2 => ⟨p, xs, rfl, .inl ⟨Evl.sq_of h2, fun t ht => q t _ (Evl.fresh_back e2 ht) (e2.trans (Evl.Ex.new ht)) upd_same⟩⟩
theorem sum_le {ps : List Str} {m : Nat} (h : ∀ s ∈ ps, s.length ≤ m) : (ps.map (·.length)).sum ≤ m * ps.length := by
  induction ps with
  | nil => simp
  | cons a r ih =>
    have := h a List.mem_cons_self
    have := ih fun s hs => h s (List.mem_cons_of_mem _ hs)
    rw [List.map_cons, List.sum_cons, List.length_cons, Nat.mul_add, Nat.mul_one]
    omega
end Hk
namespace Hk
open PySem PySem.Spec PyProof.Rows L2 Tl
theorem cons_any {te : TE} {tr : TA} {σ : L2.St} {H : Hp} {Q : List V → Hp → Prop} (h : te σ H fun v H1 => tr σ H1 fun vs H2 => Q (v :: vs) H2) : tCons te tr σ H Q := h
theorem asg_go {te : TE} {tz : TS} {i : Nat} {D : Ends} {σ : L2.St} {H : Hp} (h : te σ H fun v H1 => tz D (σ.set i (some v)) H1) : tSeq (tAsg te (gName i)) tz D σ H := h
theorem sl_go {r : V → Option Int → Option Int → Hp → VK → Prop} {te : TE} {tl th : TO} {σ : L2.St} {H : Hp} {Q : VK} (h : te σ H fun x H1 => tl σ H1 fun lo H2 => th σ H2 fun hi H3 => r x lo hi H3 Q) : tSl r te tl th σ H Q := h
theorem op_go {r : R2} {ta tb : TE} {σ : L2.St} {H : Hp} {Q : VK} (h : ta σ H fun x H1 => tb σ H1 fun y H2 => r x y H2 Q) : tOp r ta tb σ H Q := h
theorem tup_go {ta : TA} {σ : L2.St} {H : Hp} {Q : VK} (h : ta σ H fun xs H1 => xs.length ≤ sizeLine ∧ ∀ p, H1 p = none → Q (.ref p) (upd H1 p (.tup xs))) : tTup ta σ H Q := h
theorem lst_go {ta : TA} {σ : L2.St} {H : Hp} {Q : VK} (h : ta σ H fun xs H1 => xs.length ≤ sizeLine ∧ ∀ p, H1 p = none → Q (.ref p) (upd H1 p (.lst xs))) : tLst ta σ H Q := h
theorem ret_go {te : TE} {D : Ends} {σ : L2.St} {H : Hp} (h : te σ H D.rt) : tRet te D σ H := h
theorem call_go {sp : Sp} {dvs vs : List V} {E : XK} {ta : TA} {σ : L2.St} {H : Hp} {Q : VK} (h : Evl.EvA ta σ H vs) (k : ∀ H1, Evl.Ex H H1 → sp (vs ++ dvs) H1 Q E) : tCall sp dvs E ta σ H Q := h H (Evl.Ex.refl H) _ k
theorem cons_c {v : V} {tr : TA} {σ : L2.St} {H : Hp} {Q : List V → Hp → Prop} (h : tr σ H fun vs H2 => Q (v :: vs) H2) : tCons (tC v) tr σ H Q := h
theorem call_raw {sp : Sp} {dvs : List V} {E : XK} {ta : TA} {σ : L2.St} {H : Hp} {Q : VK} (h : ta σ H fun vs H1 => sp (vs ++ dvs) H1 Q E) : tCall sp dvs E ta σ H Q := h
theorem cb_go {r : List V → Hp → VK → Prop} {ta : TA} {σ : L2.St} {H : Hp} {Q : VK} (h : ta σ H fun vs H1 => r vs H1 Q) : tCB r ta σ H Q := h
theorem par_go {i j : Nat} {ta : TA} {tz : TS} {D : Ends} {σ : L2.St} {H : Hp} (h : ta σ H fun vs H1 => ∃ v w, vs = [v, w] ∧ tz D ((σ.set i (some v)).set j (some w)) H1) : tSeq (tPar i j ta) tz D σ H := h
theorem ev_slS {σ : L2.St} {H : Hp} {te : TE} {tl th : TO} {z : Str} {lo hi : Option Int} (h : Evl.Ev te σ H (.str z)) (h1 : Evl.EvO tl σ H lo) (h2 : Evl.EvO th σ H hi) (hz : z.length ≤ sizeLine) : Evl.Ev (tSl rSlS te tl th) σ H (.str (cutS z lo hi)) := fun H1 e Q q =>
  h H1 e _ fun H2 e2 => h1 H2 (e.trans e2) _ fun H3 e3 => h2 H3 ((e.trans e2).trans e3) _ fun H4 e4 => ⟨z, rfl, hz, q H4 ((e2.trans e3).trans e4)⟩
theorem rv_cat {H : Hp} {x y : Str} (h : x.length + y.length ≤ sizeLine) : Evl.RV (fun x y H Q => ∃ i j, x = V.str i ∧ y = V.str j ∧ i.length + j.length ≤ sizeLine ∧ Q (.str (i ++ j)) H) (.str x) (.str y) H (.str (x ++ y)) := fun H1 e Q q => ⟨x, y, rfl, rfl, h, q H1 (Evl.Ex.refl _)⟩
theorem ev_callN {sp : Sp} {gV : List V → List V → List V} {E : XK} {tk : TA} {σ : L2.St} {H : Hp} {zs : List V} {m : Nat} {v : V} (h : Evl.EvA tk σ H zs) (hm : zs.length = m) (hs : Evl.SpV sp (gV [] zs) H v) : Evl.Ev (tCallN 0 m sp gV E tNil tk) σ H v := fun H1 e Q q =>
  h H1 e _ fun H2 e2 => ⟨rfl, hm, hs H2 (e.trans e2) Q (fun H3 e3 => q H3 (e2.trans e3)) E⟩
theorem et_chain {σ : L2.St} {H : Hp} {ta tb tc : TE} {i j k : Int} (h1 : Evl.Ev ta σ H (.int i)) (h2 : Evl.Ev tb σ H (.int j)) (h3 : Evl.Ev tc σ H (.int k)) : Evl.EvT (tTest (tChain (rI0 fun i j => .bl (decide (i ≤ j))) (rI0 fun i j => .bl (decide (i ≤ j))) ta tb tc)) σ H (decide (i ≤ j) && decide (j ≤ k)) := fun H1 e Q q =>
  h1 H1 e _ fun H2 e2 => h2 H2 (e.trans e2) _ fun H3 e3 => ⟨i, j, rfl, rfl, decide (i ≤ j), rfl, if_go (fun hb => h3 H3 ((e.trans e2).trans e3) _ fun H4 e4 => ⟨j, k, rfl, rfl, decide (j ≤ k), rfl, by rw [hb, Bool.true_and] at q; exact q H4 ((e2.trans e3).trans e4)⟩) (fun hb => ⟨false, rfl, by rw [hb, Bool.false_and] at q; exact q H3 (e2.trans e3)⟩)⟩
theorem _root_.Evl.SpV.is {sp : Sp} {vs : List V} {H : Hp} {v w : V} (h : Evl.SpV sp vs H v) (e : v = w) : Evl.SpV sp vs H w := e ▸ h
end Hk
namespace Hk
open PySem PySem.Spec PyProof.Rows L2 Tl
open Evl
theorem ei_rowsN {K : PySem.W.Frag} {σ : L2.St} {H : Hp} {te : TE} {xs : List V} {n : Nat} {W : Hp → Prop} (h : EvL te σ H xs) (hn : n = xs.length) (hW : ∀ A, Ex H A → W A) : EvI (iList K te) σ H n (YRow xs W) := fun H1 e R k => by
  subst hn
  exact h H1 e _ fun a H2 ha e2 hx => ⟨a, rfl, ⟨xs, sq_of hx⟩, k _ (fun A => SqL K A a xs ∧ W A) H2 e2 (walk_list.mono (fun _ q => q.1) fun i A v A' hi q y => ⟨y.1, y.2, q.2⟩) fun A ab s => ⟨sq_of (s _ _ ha hx), hW A ab⟩⟩
/-- a list of ints that stands is not the sorted set of the same -/
theorem ev_neSS {K : PySem.W.Frag} {σ : L2.St} {H : Hp} {ta tb : TE} {w : World} {a : Addr} {ns : List Int} (h : Ev ta σ H (.ref a)) (h2 : Ev tb σ H (.ref a)) (hs : H a = some (.lst (ns.map V.int))) (hl : ns.length < 60) : Ev (tOp (rNeD K) ta (tCB (rSortedSet w) (tCons (tCB (rSetL K w) (tCons tb tNil)) tNil))) σ H (.bl (!pd (ns.Pairwise (· < ·)))) := fun H1 e Q q =>
  h H1 e _ fun H2 e2 => h2 H2 (e.trans e2) _ fun H3 e3 => ⟨a, ns, rfl, sq_of (e3 _ _ (e2 _ _ (e _ _ hs))), by omega, fun p c hp' hc => ⟨p, _, c, rfl, upd_same, by omega, fun ms r hpw hmem hlen hr => by
    have e4 : Ex H3 (upd (upd H3 p _) r (.lst (ms.map V.int))) := (Ex.new hp').trans (Ex.new hr)
    refine ⟨.list (zD ns), .list (zD ms), .lst (sq_of (e4 _ _ (e3 _ _ (e2 _ _ (e _ _ hs))))) (dp_zD ns), .lst (sq_of upd_same) (dp_zD ms), PySem.W.ke_shaped_ints ns, PySem.W.ke_shaped_ints ms, ?_⟩
    rw [eqv_zD]
    have hm : ∀ k, k ∈ ms ↔ k ∈ ns := fun k => (hmem k).trans decide_eq_true_iff
    have hp : decide (ns = ms) = pd (ns.Pairwise (· < ·)) := by
      by_cases z : ns.Pairwise (· < ·)
      · rw [pd_true z, decide_eq_true (asc_eq z hpw fun k => (hm k).symm)]
      · rw [pd_false z, decide_eq_false (fun y : ns = ms => z (by rw [y]; exact hpw))]
    rw [hp]
    exact q _ ((e2.trans e3).trans e4)⟩⟩
end Hk
end S_Wr
section S_Cr
namespace P05
open PySem PySem.Spec PyProof.Rows L2 Tl Hk LamX
/-- lists of lists of ints, all made since H0 -/
structure Web0 (H0 H : Hp) (t c A : Addr) (as : List Addr) (ts : List (List Int)) (n : Nat) : Prop where
  kept : Kept t H0 H
  lst : H A = some (.lst (as.map V.ref))
  nA : H0 A = none
  len : as.length = ts.length
  nd : as.Nodup
  row : ∀ (i : Nat) (a : Addr) (ns : List Int), as[i]? = some a → ts[i]? = some ns → a ≠ A ∧ H0 a = none ∧ H a = some (.lst (ns.map V.int))
  tub : Tub H t c n
theorem Web0.go {H0 H H' : Hp} {t c A : Addr} {as : List Addr} {ts : List (List Int)} {n m : Nat} (w : Web0 H0 H t c A as ts n) (T0 : ∃ k, Tub H0 t c k) (k : Kept t H H') (T : Tub H' t c m) : Web0 H0 H' t c A as ts m := by
  obtain ⟨_, T0⟩ := T0
  exact ⟨w.kept.trans k, k _ _ (T0.ne w.nA).1 w.lst, w.nA, w.len, w.nd, fun i a ns h1 h2 => by
    obtain ⟨r1, r2, r3⟩ := w.row i a ns h1 h2
    exact ⟨r1, r2, k _ _ (T0.ne r2).1 r3⟩, T⟩
theorem Web0.ex {H0 H H' : Hp} {t c A : Addr} {as : List Addr} {ts : List (List Int)} {n : Nat} (w : Web0 H0 H t c A as ts n) (T0 : ∃ k, Tub H0 t c k) (e : Evl.Ex H H') : Web0 H0 H' t c A as ts n := w.go T0 (kept_ex e) (w.tub.ex e)
theorem Web0.set {H0 H : Hp} {t c A a : Addr} {as : List Addr} {ts : List (List Int)} {n i : Nat} {ns : List Int} (w : Web0 H0 H t c A as ts n) (T0 : ∃ k, Tub H0 t c k) (ha : as[i]? = some a) (hi : i < ts.length) : Web0 H0 (upd H a (.lst (ns.map V.int))) t c A as (ts.set i ns) n := by
  obtain ⟨_, T0⟩ := T0
  obtain ⟨r1, r2, r3⟩ := w.row i a _ ha (List.getElem?_eq_getElem hi)
  obtain ⟨at_, ac⟩ := T0.ne r2
  refine ⟨fun b o hb h => ?_, by rw [upd_ne r1.symm]; exact w.lst, w.nA, by rw [w.len, List.length_set], w.nd, fun j b ms hj hm => ?_, w.tub.upd at_ ac⟩
  · rw [upd_ne (fun z => by rw [z, r2] at h; cases h)]
    exact w.kept b o hb h
  · by_cases z : j = i
    · subst z
      rw [ha] at hj
      cases hj
      rw [List.getElem?_set_self hi] at hm
      cases hm
      exact ⟨r1, r2, upd_same⟩
    · rw [List.getElem?_set_ne (Ne.symm z)] at hm
      obtain ⟨q1, q2, q3⟩ := w.row j b ms hj hm
      refine ⟨q1, q2, ?_⟩
      rw [upd_ne (fun e => z ?_)]
      · exact q3
      · subst e
        have h1 := List.getElem?_eq_some_iff.mp hj
        have h2 := List.getElem?_eq_some_iff.mp ha
        obtain ⟨l1, e1⟩ := h1
        obtain ⟨l2, e2⟩ := h2
        exact (List.getElem_inj w.nd).mp (e1.trans e2.symm)
theorem Web0.app {H0 H : Hp} {t c A a : Addr} {as : List Addr} {ts : List (List Int)} {n : Nat} (w : Web0 H0 H t c A as ts n) (T0 : ∃ k, Tub H0 t c k) (ha : H a = none) : Web0 H0 (upd (upd H a (.lst [])) A (.lst (as.map V.ref ++ [.ref a]))) t c A (as ++ [a]) (ts ++ [[]]) n := by
  obtain ⟨_, T0⟩ := T0
  have Aa : A ≠ a := fun z => by rw [← z, w.lst] at ha; cases ha
  have a0 : H0 a = none := by
    cases z : H0 a with
    | none => rfl
    | some o =>
      by_cases e : a = t
      · obtain ⟨cs, turn, rest, ht, _⟩ := w.tub
        rw [e, ht] at ha
        cases ha
      · rw [w.kept a o e z] at ha
        cases ha
  obtain ⟨At, Ac⟩ := T0.ne w.nA
  obtain ⟨at_, ac⟩ := T0.ne a0
  refine ⟨fun b o hb h => ?_, by rw [upd_same, List.map_append]; rfl, w.nA, by rw [List.length_append, List.length_append, w.len]; rfl, ?_, fun j b ms hj hm => ?_, (w.tub.upd at_ ac).upd At Ac⟩
  · rw [upd_ne (fun z => by rw [z, w.nA] at h; cases h), upd_ne (fun z => by rw [z, a0] at h; cases h)]
    exact w.kept b o hb h
  · rw [List.nodup_append]
    refine ⟨w.nd, by simp, fun x hx y hy e => ?_⟩
    rw [List.mem_singleton.mp hy] at e
    subst e
    obtain ⟨i, hi, e⟩ := List.mem_iff_getElem.mp hx
    have := (w.row i x _ (by rw [List.getElem?_eq_getElem hi, e]) (List.getElem?_eq_getElem (by rw [← w.len]; exact hi))).2.2
    rw [this] at ha
    cases ha
  · rcases Nat.lt_or_ge j as.length with z | z
    · rw [List.getElem?_append_left z] at hj
      rw [List.getElem?_append_left (by rw [← w.len]; exact z)] at hm
      obtain ⟨q1, q2, q3⟩ := w.row j b ms hj hm
      refine ⟨q1, q2, ?_⟩
      rw [upd_ne q1, upd_ne (fun e => by rw [e, ha] at q3; cases q3)]
      exact q3
    · rw [List.getElem?_append_right z] at hj
      rw [List.getElem?_append_right (by rw [← w.len]; exact z)] at hm
      have hb := List.mem_singleton.mp (List.mem_of_getElem? hj)
      have hms := List.mem_singleton.mp (List.mem_of_getElem? hm)
      subst hb hms
      exact ⟨Aa.symm, a0, by rw [upd_ne Aa.symm, upd_same]; rfl⟩
abbrev rIns : V → List V → Hp → VK → Prop := fun x vs H Q => ∃ (l : Addr) (xs : List V) (i : Int) (y : V), x = .ref l ∧ vs = [.int i, y] ∧ H l = some (.lst xs) ∧ xs.length < sizeLine ∧ 0 ≤ i ∧ i < 2 ^ 63 ∧ Q .non (upd H l (.lst (xs.take i.toNat ++ [y] ++ xs.drop i.toNat)))
abbrev teRowE (K : PySem.W.Frag) (k : Nat) : TE := tOp (rIxL K) (tVar 2) (tOp (rI0 fun i j => V.int (i - j)) (tVar k) (tC (.int 1)))
abbrev teIns (K : PySem.W.Frag) (k k2 : Nat) : TE := tBM K "list" rIns (teRowE K k) (tCons (tCall spScoop [] E0 (tCons (tVar 0) (tCons (tOp (rI0 fun i j => V.int (i + j)) (tCB (Evl.rLenS K) (tCons (teRowE K k) tNil)) (tC (.int 1))) tNil))) (tCons (tVar k2) tNil))
theorem ev_rowE {K : PySem.W.Frag} {H0 G : Hp} {t c A a : Addr} {as : List Addr} {ts : List (List Int)} {n q k : Nat} {σ : L2.St} (w : Web0 H0 G t c A as ts n) (h2 : σ[2]? = some (some (.ref A))) (hk : σ[k]? = some (some (.int (1 + (q : Int))))) (ha : as[q]? = some a) : Evl.Ev (teRowE K k) σ G (.ref a) := by
  refine Evl.ev_op (Evl.ev_var h2) (Evl.ev_op (Evl.ev_var hk) Evl.ev_c Evl.rv_I0) (Evl.rv_ixL (Evl.sq_of w.lst) ?_)
  rw [show (1 : Int) + (q : Int) - 1 = (q : Int) by omega]
  exact atI_nat (by rw [List.getElem?_map, ha]; rfl)
theorem s_ins {K : PySem.W.Frag} {H0 G : Hp} {t c A : Addr} {as : List Addr} {ts : List (List Int)} {n q k k2 : Nat} {o : Int} {σ : L2.St} {D : Ends} (w : Web0 H0 G t c A as ts n) (T0 : ∃ k, Tub H0 t c k) (h0 : σ[0]? = some (some (.ref t))) (h2 : σ[2]? = some (some (.ref A))) (hk : σ[k]? = some (some (.int (1 + (q : Int))))) (hk2 : σ[k2]? = some (some (.int o)))
    (hq : q < ts.length) (hn : n ≤ 1000000) (hl : (ts[q]).length ≤ 1000) (go : ∀ (r : Nat) G', Web0 H0 G' t c A as (ts.set q (put r o ts[q])) (n + 1) → D.nx σ G') : tDrop (teIns K k k2) D σ G := by
  obtain ⟨a, ha⟩ : ∃ a, as[q]? = some a := ⟨_, List.getElem?_eq_getElem (by rw [w.len]; exact hq)⟩
  have hg : ts[q]? = some ts[q] := List.getElem?_eq_getElem hq
  obtain ⟨r1, r2, r3⟩ := w.row q a _ ha hg
  refine (ev_rowE (K := K) w h2 hk ha) G (Evl.Ex.refl _) _ fun G1 e1 => ?_
  have w1 := w.ex T0 e1
  have r31 := e1 _ _ r3
  refine ⟨.inl ⟨rfl, _, Evl.sq_of r31⟩, ?_⟩
  have hlen : Evl.Ev (tOp (rI0 fun i j => V.int (i + j)) (tCB (Evl.rLenS K) (tCons (teRowE K k) tNil)) (tC (.int 1))) σ G1 (.int (((ts[q].map V.int).length : Int) + 1)) := Evl.ev_op (Evl.ev_len (ev_rowE w1 h2 hk ha) (Evl.sq_of r31)) Evl.ev_c Evl.rv_I0
  refine ⟨.ref t, h0, hlen G1 (Evl.Ex.refl _) _ fun G2 e2 => ?_⟩
  have w2 := w1.ex T0 e2
  refine ⟨t, c, _, n, rfl, w2.tub, hn, by omega, by rw [List.length_map]; omega, fun r G3 p0 p1 k3 T3 => ⟨.int o, hk2, ?_⟩⟩
  have w3 := w2.go T0 k3 T3
  obtain ⟨_, _, r33⟩ := w3.row q a _ ha hg
  refine ⟨a, ts[q].map V.int, r, .int o, rfl, rfl, r33, by rw [List.length_map, sizeLine_eq]; omega, p0, by rw [List.length_map] at p1; omega, ?_⟩
  have w4 := w3.set (ns := put r.toNat o ts[q]) T0 ha hq
  have e4 : (put r.toNat o ts[q]).map V.int = (ts[q].map V.int).take r.toNat ++ [.int o] ++ (ts[q].map V.int).drop r.toNat := by
    unfold put
    rw [List.map_append, List.map_append, List.map_take, List.map_drop]
    rfl
  rw [e4] at w4
  exact go r.toNat _ w4
theorem sum_few {m : Nat} : ∀ {ts : List (List Int)}, (∀ t ∈ ts, t.length ≤ m) → (ts.map List.length).sum ≤ ts.length * m
  | [], _ => by simp
  | t :: r, h => by
    have := sum_few (ts := r) fun z hz => h z (List.mem_cons_of_mem _ hz)
    have h0 := h t List.mem_cons_self
    simp only [List.map_cons, List.sum_cons, List.length_cons, Nat.add_mul]
    omega
theorem Part.short {ts : List (List Int)} {j i : Nat} {ns : List Int} (h : Part ts j) (hi : ts[i]? = some ns) : ns.length ≤ ts.length := by
  obtain ⟨a, b, _⟩ := h.pl i ns hi
  exact nodup_len a b
abbrev nDr : List Str := ["carousel", "many", "turns", "place", "other"]
theorem scDrawn : FnScope nDr ["carousel"] (defScope sDrawn) := ⟨rfl, rfl, rfl, by decide +kernel, rfl, by decide +kernel, by decide +kernel⟩
def spDrawn : Sp := fun vs H Q _ => ∃ (t c : Addr) (n : Nat), vs = [.ref t] ∧ Tub H t c n ∧ n ≤ 900000 ∧ ∀ A as ts H', Web0 H H' t c A as ts (n + 200) → OkT ts → ts.length ≤ 8 → Q (.ref A) H'
section
variable {P : Program} {w : World} {K : PySem.W.Frag} {mg : Str → Option Value} {base : Heap}
set_option maxHeartbeats 2000000 in
theorem ok_drawn {f fS fP : Addr} {fd fdS fdP : FuncData} {k : Nat} (F : Fun K "_law_drawn" "_law_drawn" sDrawn f fd)
    (FS : Fun K "_law_spin" "_law_spin" sScoop fS fdS) (GS : FnOk P w K mg base CX0 k fS fdS ["carousel", "many"] spScoop) (bS : Binds K fdS ["carousel", "many"] []) (gS : mg "_law_spin" = some (.ref fS))
    (FP : Fun K "_law_pick" "_law_pick" sPick fP fdP) (GP : FnOk P w K mg base CX0 k fP fdP ["carousel", "some"] (spPick K)) (bP : Binds K fdP ["carousel", "some"] []) (gP : mg "_law_pick" = some (.ref fP))
    (mlen : mg "len" = none) (mrange : mg "range" = none) : FnOk P w K mg base CX0 (k + 1) f fd ["carousel"] spDrawn := by
  refine F.ok scDrawn (fun vs H Q E h => ?_) (fun cdv A0 outer s H vs Q E hr h => ?_)
  · obtain ⟨t, c, n, rfl, _⟩ := h
    rfl
  · obtain ⟨t, c, n, rfl, T0, hn, q⟩ := h
    have nd := scDrawn.nd
    refine ⟨_, pss_cons (ps_par (i := 1) (j := 2) (by rfl) nd rfl rfl (by decide) rfl rfl (pa_cons (pe_call GP hr (by rfl) gP FP.kp bP .nil pass0 (pa_cons (pv 0) (pa_cons (pe_lst (pa_cons pe_int (pa_cons pe_int (pa_cons pe_int (pa_cons pe_int (pa_cons pe_int (pa_cons pe_int (pa_cons pe_int pa_nil)))))))) pa_nil))) (pa_cons (pe_lst pa_nil) pa_nil)) (by rfl))
      (pss_cons (ps_for PassesOwn.never rfl (pi_range2 (by rfl) mrange (pa_cons pe_int (pa_cons (pe_op op_add (pv 1) pe_int) pa_nil))) (pg_name (i := 3) nd rfl (Or.inl rfl))
        (pss_cons (ps_expr (pe_bm PySem.F.plainAttrs_list PySem.F.slot_list_append PySem.F.type_list_append mt_append (pv 2) (pa_cons (pe_lst pa_nil) pa_nil)))
        (pss_one (ps_for PassesOwn.never rfl (pi_range2 (by rfl) mrange (pa_cons pe_int (pa_cons (pv 3) pa_nil))) (pg_name (i := 4) nd rfl (Or.inl rfl))
          (pss_one (ps_if (pt_truth (pe_call GP hr (by rfl) gP FP.kp bP .nil pass0 (pa_cons (pv 0) (pa_cons (pe_lst (pa_cons pe_bl (pa_cons pe_bl pa_nil))) pa_nil))) (by intro _; rfl))
            (pss_cons (ps_expr (pe_bm PySem.F.plainAttrs_list PySem.F.slot_list_insert PySem.F.type_list_insert mt_insert (pe_ix ix_list (pv 2) (pe_op op_sub (pv 3) pe_int) (fun _ _ => rfl)) (pa_cons (pe_call GS hr (by rfl) gS FS.kp bS .nil pass0 (pa_cons (pv 0) (pa_cons (pe_op op_add (pe_callB call_len_seq (by rfl) mlen PySem.boot_len (pa_cons (pe_ix ix_list (pv 2) (pe_op op_sub (pv 3) pe_int) (fun _ _ => rfl)) pa_nil)) pe_int) pa_nil))) (pa_cons (pv 4) pa_nil))))
            (pss_one (ps_expr (pe_bm PySem.F.plainAttrs_list PySem.F.slot_list_insert PySem.F.type_list_insert mt_insert (pe_ix ix_list (pv 2) (pe_op op_sub (pv 4) pe_int) (fun _ _ => rfl)) (pa_cons (pe_call GS hr (by rfl) gS FS.kp bS .nil pass0 (pa_cons (pv 0) (pa_cons (pe_op op_add (pe_callB call_len_seq (by rfl) mlen PySem.boot_len (pa_cons (pe_ix ix_list (pv 2) (pe_op op_sub (pv 4) pe_int) (fun _ _ => rfl)) pa_nil)) pe_int) pa_nil))) (pa_cons (pv 3) pa_nil)))))) pss_nil))))))
      (pss_one (ps_ret (pv 2)))), ?_⟩
    have TT0 : ∃ k, Tub H t c k := ⟨_, T0⟩
    refine ⟨.ref t, rfl, by show 7 ≤ sizeLine; rw [sizeLine_eq]; decide, fun l hl => ⟨t, c, l, _, n, rfl, T0.same (same_new hl), by omega, (T0.ne hl).1, .inl (.inl upd_same), by show 1 ≤ 7; omega, by show 7 ≤ 10000; omega, fun jj v H1 hj k1 T1 => ?_⟩⟩
    obtain ⟨m, rfl, m1, m8⟩ : ∃ m : Nat, v = .int (m : Int) ∧ 1 ≤ m ∧ m ≤ 8 := by
      have hm := List.mem_of_getElem? hj
      simp only [List.mem_cons, List.not_mem_nil, or_false] at hm
      rcases hm with e | e | e | e | e | e | e
      · exact ⟨4, e, by decide, by decide⟩
      · exact ⟨1, e, by decide, by decide⟩
      · exact ⟨2, e, by decide, by decide⟩
      · exact ⟨3, e, by decide, by decide⟩
      · exact ⟨5, e, by decide, by decide⟩
      · exact ⟨6, e, by decide, by decide⟩
      · exact ⟨8, e, by decide, by decide⟩
    refine ⟨Nat.zero_le _, fun A hA => ⟨_, _, rfl, ?_⟩⟩
    have k01 : Kept t H H1 := (Kept.of (same_new hl)).trans k1
    have A0 : H A = none := by
      cases z : H A with
      | none => rfl
      | some o =>
        by_cases e : A = t
        · obtain ⟨cs, turn, rest, ht, _⟩ := T1
          rw [e, ht] at hA
          cases hA
        · rw [k01 A o e z] at hA
          cases hA
    have w0 : Web0 H (upd H1 A (.lst [])) t c A [] [] (n + 1) := ⟨k01.trans (kept_ex (Evl.Ex.new hA)), upd_same, A0, rfl, List.nodup_nil, fun i a ns h => by simp at h, T1.ex (Evl.Ex.new hA)⟩
    dsimp only
    refine Evl.q_forR2 (lo := 1) (n := (m : Int) + 1) (Evl.ea_cons Evl.ev_c (Evl.ea_cons (Evl.ev_op (Evl.ev_var rfl) Evl.ev_c Evl.rv_I0) Evl.ea_nil)) ⟨by omega, by omega, by omega, by omega⟩
      (fun i σ' H' => ∃ y3 y4 as ts j, σ' = [some (.ref t), some (.int (m : Int)), some (.ref A), y3, y4] ∧ Web0 H H' t c A as ts (n + 1 + 24 * i) ∧ Part ts j ∧ ts.length = i)
      (fun H2 e2 => ⟨none, none, [], [], 0, rfl, w0.ex TT0 e2, ⟨fun i ns h => by simp at h, fun i ns o h => by simp at h, fun ns h => by simp at h⟩, rfl⟩) ?_ ?_
    · rintro i σ' H2 hi ⟨y3, y4, as, ts, j0, rfl, w2, p2, l2⟩
      have i8 : i < 8 := by omega
      refine ⟨.ref A, rfl, .inl ⟨rfl, _, Evl.sq_of w2.lst⟩, Nat.zero_le _, fun a ha => ?_⟩
      have Aa : A ≠ a := fun z => by rw [← z, w2.lst] at ha; cases ha
      refine ⟨A, as.map V.ref, .ref a, rfl, rfl, by rw [upd_ne Aa]; exact w2.lst, by rw [List.length_map, sizeLine_eq]; have := w2.len; omega, ?_⟩
      have w3 := w2.app TT0 ha
      have p3 := p2.app
      have l3 : (ts ++ [[]]).length = i + 1 := by rw [List.length_append, l2]; rfl
      generalize upd (upd H2 a (.lst [])) A (.lst (as.map V.ref ++ [.ref a])) = H3 at w3
      generalize as ++ [a] = as3 at w3
      generalize ts ++ [[]] = ts3 at w3 p3 l3
      clear w2 p2 l2 ha Aa
      refine Evl.s_forR2 (lo := 1) (n := (1 : Int) + (i : Int)) (Evl.ea_cons Evl.ev_c (Evl.ea_cons (Evl.ev_var rfl) Evl.ea_nil)) ⟨by omega, by omega, by omega, by omega⟩
        (fun j σ' H' => ∃ y4 as ts, σ' = [some (.ref t), some (.int (m : Int)), some (.ref A), some (.int (1 + (i : Int))), y4] ∧ Web0 H H' t c A as ts (n + 1 + 24 * i + 3 * j) ∧ Part ts j ∧ ts.length = i + 1)
        (fun H4 e4 => ⟨y4, as3, ts3, rfl, w3.ex TT0 e4, p3, l3⟩) ?_ ?_
      · rintro j σ' H4 hj ⟨y4, as4, ts4, rfl, w4, p4, l4⟩
        have ji : j < i := by omega
        refine ⟨.ref t, rfl, by show 2 ≤ sizeLine; rw [sizeLine_eq]; decide, fun l hl => ⟨t, c, l, _, n + 1 + 24 * i + 3 * j, rfl, w4.tub.same (same_new hl), by omega, (w4.tub.ne hl).1, .inl (.inl upd_same), by show 1 ≤ 2; omega, by show 2 ≤ 10000; omega, fun jj v H5 hj5 k5 T5 => ?_⟩⟩
        obtain ⟨b, rfl⟩ : ∃ b, v = .bl b := by
          have hm := List.mem_of_getElem? hj5
          simp only [List.mem_cons, List.not_mem_nil, or_false] at hm
          rcases hm with e | e <;> exact ⟨_, e⟩
        have w5 := w4.go TT0 ((Kept.of (same_new hl)).trans k5) T5
        clear hj5 k5 T5 hl w4
        refine ⟨b, rfl, if_go (fun _ => ?_) fun _ => ?_⟩
        · have si : (ts4[i]'(by omega)).length ≤ 1000 := by have := p4.short (List.getElem?_eq_getElem (show i < ts4.length by omega)); omega
          have e34 : i = ts4.length - 1 := by omega
          refine s_ins (q := i) (o := 1 + (j : Int)) w5 TT0 rfl rfl rfl rfl (by omega) (by omega) si fun r1 G1 w6 => ?_
          have hj6 : j < (ts4.set i (put r1 (1 + (j : Int)) (ts4[i]'(by omega)))).length := by rw [List.length_set]; omega
          have gj : (ts4.set i (put r1 (1 + (j : Int)) (ts4[i]'(by omega))))[j] = ts4[j]'(by omega) := List.getElem_set_ne (by omega) _
          have sj : ((ts4.set i (put r1 (1 + (j : Int)) (ts4[i]'(by omega))))[j]).length ≤ 1000 := by
            rw [gj]
            have := p4.short (List.getElem?_eq_getElem (show j < ts4.length by omega))
            omega
          refine s_ins (q := j) (o := 1 + (i : Int)) w6 TT0 rfl rfl rfl rfl hj6 (by omega) sj fun r2 G2 w7 => ?_
          refine ⟨_, as4, _, rfl, w7.go TT0 (Kept.refl t G2) (w7.tub.mono (by omega)), ?_, by rw [List.length_set, List.length_set]; exact l4⟩
          have pt := p4.tie (r := r1) (s := r2) (ns := ts4[i]'(by omega)) (ms := ts4[j]'(by omega)) (by omega) (by rw [← e34]; exact List.getElem?_eq_getElem _) (List.getElem?_eq_getElem _)
          rw [gj]
          rw [show (1 : Int) + (j : Int) = (j : Int) + 1 by omega, show (1 : Int) + (i : Int) = (ts4.length : Int) by omega]
          rw [← e34] at pt
          exact pt
        · exact ⟨_, as4, ts4, rfl, w5.go TT0 (Kept.refl t H5) (w5.tub.mono (by omega)), p4.skip, l4⟩
      · rintro σ' H4 ⟨y4', as4, ts4, rfl, w4, p4, l4⟩
        exact ⟨_, _, as4, ts4, _, rfl, w4.go TT0 (Kept.refl t H4) (w4.tub.mono (by omega)), p4, l4⟩
    · rintro σ' H2 ⟨y3, y4, as, ts, j, rfl, w2, p2, l2⟩
      have lm : ts.length = m := by omega
      refine ⟨.ref A, rfl, q A as ts H2 (w2.go TT0 (Kept.refl t H2) (w2.tub.mono (by omega))) ⟨by omega, by omega, p2.pl, p2.sym, ?_⟩ (by omega)⟩
      have hs := sum_few (m := 8) (ts := ts) fun u hu => by
        obtain ⟨i, hi, rfl⟩ := List.mem_iff_getElem.mp hu
        have := p2.short (List.getElem?_eq_getElem hi)
        omega
      omega
end
end P05
end S_Cr
section S_Cs
namespace P05
open PySem PySem.Spec PyProof.Rows L2 Tl Hk LamX
/-- by either rule -/
theorem pe_either {X : Cx} {e : Expr} {t1 t2 : TE} (h1 : PE X e t1) (h2 : PE X e t2) : PE X e (fun σ H Q => t1 σ H Q ∨ t2 σ H Q) := ⟨fun pins s σ H Q I h => h.elim (fun h => h1.run pins s σ H Q I h) fun h => h2.run pins s σ H Q I h⟩
abbrev nIW : List Str := ["value", "at", "row", "place"]
def spLIsWeb (K : PySem.W.Frag) : Sp := fun vs H Q _ => ∃ (v : V) (r : Option (List (Option (List V)))), vs = [v] ∧ TurnsD K H v r ∧ ∀ H1, Evl.Ex H H1 → Q (.bl (areV r)) H1
def bI : V → Bool
  | .int _ => true
  | _ => false
abbrev teLT (K : PySem.W.Frag) (j : Nat) : TE := tCB (rIsiT K) (tCons (tVar j) (tCons (tTup (tCons (tC (.ty "list")) (tCons (tC (.ty "tuple")) tNil))) tNil))
abbrev ttOdd (K : PySem.W.Frag) : L2.TT := tOr (tNot (tB (tCB (rIsi K) (tCons (tVar 3) (tCons (tC (.ty "int")) tNil))))) (tB (tCB (rIsi K) (tCons (tVar 3) (tCons (tC (.ty "bool")) tNil))))
abbrev teLe : R2 := rI0 fun i j => V.bl (decide (i ≤ j))
abbrev ttFar (K : PySem.W.Frag) : L2.TT := tOr (tNot (tTest (tChain teLe teLe (tC (.int 1)) (tVar 3) (tCB (Evl.rLenS K) (tCons (tVar 0) tNil))))) (tTest (tOp rEq (tVar 3) (tOp (rI0 fun i j => V.int (i + j)) (tVar 1) (tC (.int 1)))))
abbrev ttLone (K : PySem.W.Frag) : L2.TT := tTest (tOp (rIn K true) (tOp (rI0 fun i j => V.int (i + j)) (tVar 1) (tC (.int 1))) (tOp (rIxB K) (tVar 0) (tOp (rI0 fun i j => V.int (i - j)) (tVar 3) (tC (.int 1)))))
section
variable {K : PySem.W.Frag} {σ : L2.St} {H : Hp}
theorem Ty7.bI {v : V} {n : String} (h : Ty7 K H v n) : decide (n = "int") = bI v := by
  cases h <;> rfl
theorem ev_isLT {v : V} {n : String} {j : Nat} (h : Ty7 K H v n) (hj : σ[j]? = some (some v)) : Evl.Ev (teLT K j) σ H (.bl (decide (n = "list") || decide (n = "tuple"))) := fun H1 e Q q => by
  have h1 := h.ex e
  refine ⟨v, hj, (by show 2 ≤ sizeLine; decide), fun T hT => ⟨v, T, [.ty "list", .ty "tuple"], .type n, [.type "list", .type "tuple"], is7 n "list" || is7 n "tuple", rfl, upd_same, .cons (.ty _) (.cons (.ty _) .nil), (h1.ex (Evl.Ex.new hT)).tyx, ?_, ?_⟩⟩
  · refine kitAny_cons (h.kit (.inr (.inr (.inl rfl)))) (fun hb => kitAny_cons (h.kit (.inr (.inr (.inr rfl)))) (fun hb2 => ?_) fun hb2 => ?_) fun hb => ?_
    · rw [hb, hb2]; exact kitAny_nil
    · rw [hb2, Bool.or_true]
    · rw [hb, Bool.true_or]
  · show Q _ _
    rw [h.isSeq]
    exact q _ (Evl.Ex.new hT)
theorem et_odd {v : V} {n : String} (h : Ty7 K H v n) (h3 : σ[3]? = some (some v)) : Evl.EvT (ttOdd K) σ H (!bI v) := by
  refine Evl.et_is (Evl.et_or (Evl.et_not (Evl.et_B (Evl.ev_cb (Evl.ea_cons (Evl.ev_var h3) (Evl.ea_cons Evl.ev_c Evl.ea_nil)) (rc_isi h (.inl rfl))))) fun _ => Evl.et_B (Evl.ev_cb (Evl.ea_cons (Evl.ev_var h3) (Evl.ea_cons Evl.ev_c Evl.ea_nil)) (rc_isi h (.inr (.inl rfl))))) ?_
  rw [← Ty7.bI h, ← Ty7.isInt h]
  cases is7 n "int" <;> cases is7 n "bool" <;> rfl
end
section
open Evl
variable {σ : L2.St}
theorem et_chain {ta tb tc : TE} {H : Hp} {i j l : Int} (ha : Ev ta σ H (.int i)) (hb : Ev tb σ H (.int j)) (hc : Ev tc σ H (.int l)) : EvT (tTest (tChain (rI0 fun i j => V.bl (decide (i ≤ j))) (rI0 fun i j => V.bl (decide (i ≤ j))) ta tb tc)) σ H (decide (i ≤ j) && decide (j ≤ l)) := fun H1 e Q q =>
  ha H1 e _ fun H2 e2 => hb H2 (e.trans e2) _ fun H3 e3 => ⟨i, j, rfl, rfl, _, rfl, by
    cases z : decide (i ≤ j) with
    | true => exact hc H3 ((e.trans e2).trans e3) _ fun H4 e4 => ⟨j, l, rfl, rfl, _, rfl, by
        have := q H4 ((e2.trans e3).trans e4)
        rw [z, Bool.true_and] at this
        exact this⟩
    | false => exact ⟨_, rfl, by
        have := q H3 (e2.trans e3)
        rw [z, Bool.false_and] at this
        exact this⟩⟩
end
theorem given_empty {n : Nat} {f : Nat → Bool} {v : Nat → V} : (Evl.given n f v).isEmpty = (List.range n).all fun i => !f i := by
  unfold Evl.given
  rw [List.isEmpty_map]
  induction List.range n with
  | nil => rfl
  | cons i r ih =>
    rw [List.filter_cons, List.all_cons, ← ih]
    cases f i <;> rfl
theorem given_mem {n : Nat} {f : Nat → Bool} {v : Nat → V} {x : V} (h : x ∈ Evl.given n f v) : ∃ i, i < n ∧ x = v i := by
  unfold Evl.given at h
  obtain ⟨i, hi, rfl⟩ := List.mem_map.mp h
  exact ⟨i, List.mem_range.mp (List.mem_filter.mp hi).1, rfl⟩
theorem rng_all {ys : List V} {p : V → Bool} : ((List.range ys.length).all fun i => p (ys.getD i .non)) = ys.all p := by
  have e : (List.range ys.length).map (fun i => ys.getD i .non) = ys := by
    refine List.ext_getElem (by simp) fun i h1 h2 => ?_
    rw [List.getElem_map, List.getElem_range, List.getD_eq_getElem?_getD, List.getElem?_eq_getElem h2]
    rfl
  conv => rhs; rw [← e, List.all_map]
  rfl
theorem rngI_all {ns : List Int} {p : Int → Bool} : ((List.range ns.length).all fun i => p (ns.getD i 0)) = ns.all p := by
  have e : (List.range ns.length).map (fun i => ns.getD i 0) = ns := by
    refine List.ext_getElem (by simp) fun i h1 h2 => ?_
    rw [List.getElem_map, List.getElem_range, List.getD_eq_getElem?_getD, List.getElem?_eq_getElem h2]
    rfl
  conv => rhs; rw [← e, List.all_map]
  rfl
theorem all_bI : ∀ {ys : List V}, ys.all bI = true → ∃ ns : List Int, ys = ns.map V.int
  | [], _ => ⟨[], rfl⟩
  | y :: ys, h => by
    rw [List.all_cons, Bool.and_eq_true_iff] at h
    obtain ⟨ns, rfl⟩ := all_bI h.2
    cases y with
    | int i => exact ⟨i :: ns, rfl⟩
    | _ => exact absurd h.1 (by intro z; cases z)
theorem lot_bI {ys : List V} (h : lotV ys = true) : ys.all bI = true := by
  unfold lotV at h
  obtain ⟨ns, rfl⟩ := all_ints (Bool.and_eq_true_iff.mp h).1
  rw [List.all_map]
  exact List.all_eq_true.mpr fun i _ => rfl
/-- a turn, as the law looks -/
theorem turn_law (p m : Int) (ns : List Int) : turnV p m (some (ns.map V.int)) = ((ns.all fun x => !(!(decide (1 ≤ x) && decide (x ≤ m)) || decide (x = p))) && decide ns.Nodup) := by
  rw [turnV_ints]
  have e : lotV (ns.map V.int) = ((ns.all fun x => decide (1 ≤ x)) && decide ns.Nodup) := by
    unfold lotV
    rw [List.all_map]
    congr 1
    · exact congrArg (fun f => ns.all f) (funext fun x => by show (decide ((1 : Int) ≤ x) && true) = _; rw [Bool.and_true])
    · exact decide_eq_decide.mpr (nodup_int ns)
  rw [e]
  refine Bool.eq_iff_iff.mpr ?_
  simp only [Bool.and_eq_true, List.all_eq_true, decide_eq_true_eq, Bool.not_eq_true', Bool.or_eq_false_iff, Bool.not_eq_false', decide_eq_false_iff_not]
  constructor
  · rintro ⟨⟨⟨h1, h2⟩, h3⟩, h4⟩
    exact ⟨fun x hx => ⟨⟨h1 x hx, h4 x hx⟩, fun z => h3 (z ▸ hx)⟩, h2⟩
  · rintro ⟨h1, h2⟩
    exact ⟨⟨⟨fun x hx => (h1 x hx).1.1, h2⟩, fun z => (h1 p z).2 rfl⟩, fun x hx => (h1 x hx).1.2⟩
end P05
end S_Cs
section S_Xg
namespace EnL
open PySem PySem.Spec PyProof.Rows L2 Tl
/-! ### o.m(k=.., l=..) of an own instance -/
def tMethN (C : Addr) (m : Str) (n : Nat) (sp : Sp) (gV : List V → List V → List V) (E : XK) (ta : TE) (tk : TA) : TE := fun σ H Q => ta σ H fun x H1 => ∃ a dx fs, x = .ref a ∧ H1 a = some (.ins C dx fs) ∧ fs.lookup m = none ∧ tk σ H1 fun zs H2 => zs.length = n ∧ sp (gV [x] zs) H2 Q E
theorem pe_methN {X : Cx} {CX : CXT} {k : Nat} {f C : Addr} {fd : FuncData} {ps ks : List Str} {sp : Sp} {E : XK} {m : Str} {pos apos : Pos} {o : Expr} {kws : List Keyword} {ta : TE} {tk : TA} {g : List Value → List Value → List Value} {gV : List V → List V → List V} {pl : Sem Bool}
    (ho : PE X o ta) (c : Cls X.K C) (hm : Meth X.K C m f) (F : FnOk X.prog X.w X.K X.mg X.base CX k f fd ps sp) (hr : Room k X.A) (hb : KBn X.K fd ps 1 ks g gV) (hx : Passes CX X E) (hkw : PK X kws tk)
    (hall : (backToKw pos (keywordEach kws X.env)).all (·.1.isSome) = true := by rfl) (hks : (backToKw pos (keywordEach kws X.env)).filterMap (·.1) = ks := by rfl)
    (hpl : ((backTo pos (starEach [] X.env)).any (·.1) || (backToKw pos (keywordEach kws X.env)).any (·.1.isNone)) = false := by rfl)
    (he : eval (.Call (.Attribute o m apos) [] kws pos) X.env = (do
      let ov ← eval o X.env
      standAt apos.atName
      let __x ← holding [ov] (getMethod ov m pl)
      match __x with
        | (f, first) => callWith pos f first (backTo pos (starEach [] X.env)) (backToKw pos (keywordEach kws X.env))) := by rfl) :
    PE X (.Call (.Attribute o m apos) [] kws pos) (tMethN C m ks.length sp gV E ta tk) := by
  constructor
  intro pins s σ H Q I h
  rw [he]
  refine wpAny_bind (thn (ho.run pins s σ H _ I h) fun v s1 hv => ?_)
  obtain ⟨x, H1, I1, rx, a, dx, fs, rfl, ha, hl, hk⟩ := hv
  obtain rfl := rx
  refine wpAny_bind (wpAny_standAt ?_)
  refine wpAny_bind (wpAny_holding ?_)
  obtain ⟨mA, J, rl, _⟩ := ins_get I1.hok ha
  have hmA : mA m = none := by
    have := rl m
    rw [hl] at this
    cases z : mA m with
    | none => rfl
    | some u => rw [z] at this; cases this
  refine get_meth I1.kIn J (c.get m) hm.at_ hm.fn hmA ?_
  refine PySem.W.callWith_KW0 (h₀ := X.base) I1.ok.mod.kin hm.kp hall (thn (hkw.run pos pins s1 σ H1 _ I1 hk) fun ws s2 hv => ?_) hpl
  obtain ⟨zs, H2, I2, rz, l2, q2⟩ := hv
  refine ⟨I2.kIn, ?_⟩
  rw [hks]
  exact run_fnN (us := [.ref a]) (vs := [.ref a]) F hr hb hx I2 (.cons rfl .nil) rz rfl l2 q2
/-! ### C(k=..) -/
def tMakeN (C : Addr) (n : Nat) (sp : Sp) (gV : List V → List V → List V) (E : XK) (tk : TA) : TE := fun σ H Q => tk σ H fun zs H1 => zs.length = n ∧ ∀ x dx, H1 x = none → H1 dx = none → dx ≠ x → sp (gV [.ref x] zs) (upd (upd H1 dx (.own x)) x (.ins C dx [])) (fun v H2 => v = .non ∧ Q (.ref x) H2) E
theorem pe_makeN {X : Cx} {CX : CXT} {k : Nat} {f C : Addr} {fd : FuncData} {ps ks : List Str} {sp : Sp} {E : XK} {x : Str} {p pos : Pos} {kws : List Keyword} {tk : TA} {g : List Value → List Value → List Value} {gV : List V → List V → List V}
    (M : Mk X.K C f) (F : FnOk X.prog X.w X.K X.mg X.base CX k f fd ps sp) (hr : Room (k + 1) X.A) (hg : Gl X x) (hm : X.mg x = some (.ref C)) (hb : KBn X.K fd ps 1 ks g gV) (hx : Passes CX X E)
    (hkw : PK X kws tk) (hall : (backToKw pos (keywordEach kws X.env)).all (·.1.isSome) = true := by rfl) (hks : (backToKw pos (keywordEach kws X.env)).filterMap (·.1) = ks := by rfl) (hdb : (x == ("__debug__" : Str)) = false := by decide)
    (hpl : ((backTo pos (starEach [] X.env)).any (·.1) || (backToKw pos (keywordEach kws X.env)).any (·.1.isNone)) = false := by rfl) :
    PE X (.Call (.Name x p) [] kws pos) (tMakeN C ks.length sp gV E tk) := by
  constructor
  intro pins s σ H Q I h
  refine wpAny_Call_Name_kw (ld_glob I hg hm (PySem.W.callWith_KW0 (h₀ := X.base) I.ok.mod.kin M.kp hall (thn (hkw.run pos pins s σ H _ I h) fun ws s2 hv => ?_) hpl) hdb)
  obtain ⟨zs, H2, I2, rz, l2, q2⟩ := hv
  refine ⟨I2.kIn, ?_⟩
  rw [hks]
  have n1 : H2 (s2.heap.objs.size + 1) = none := I2.hok.fresh (Nat.le_succ _)
  have n2 : H2 s2.heap.objs.size = none := I2.hok.fresh (Nat.le_refl _)
  have q3 := q2 (s2.heap.objs.size + 1) s2.heap.objs.size n1 n2 (Nat.ne_of_lt (Nat.lt_succ_self _))
  have I3 := I2.made (C := C)
  have r2 : Vals (gV [.ref (s2.heap.objs.size + 1)] zs) (g [.ref (s2.heap.objs.size + 1)] ws) := hb.rel (.cons rfl .nil) rz
  refine wpAny_call (Att.make_obj I2.kIn M.makes M.init M.fn (codeAny_mono (F.run _ X.stack _ _ ⟨[.ref (s2.heap.objs.size + 1)], ks.zip ws⟩ _ _ _ E (Room.make hr C [] _) ?_ (hb.to _ [.ref (s2.heap.objs.size + 1)] ws I3.kIn rfl (rz.length.symm.trans l2)) r2 q3) fun r s' hq => ?_))
  · have e := I3.env0
    exact ⟨e.frames, e.mod, e.bs, e.bsz, e.funs, e.frf, e.hok, e.bare⟩
  · cases r with
    | error e => exact hx pins σ _ _ e s' I3 hq
    | ok fl =>
      cases fl with
      | ret u =>
        obtain ⟨v, H', I', rv, hv, q⟩ := I3.after hq
        subst hv
        exact ⟨rv, .ref _, H', I', rfl, q⟩
      | next => exact False.elim hq
      | brk => exact False.elim hq
      | cont => exact False.elim hq
end EnL
end S_Xg
section S_Cu
namespace P05
open PySem PySem.Spec PyProof.Rows L2 Tl Hk LamX EnL
/-! ### good turns are let -/
theorem turn_of {p m : Int} {ns : List Int} (h1 : ns.Nodup) (h2 : ∀ x ∈ ns, 1 ≤ x ∧ x ≤ m) (h3 : p ∉ ns) : turnV p m (some (ns.map V.int)) = true := by
  rw [turn_law, Bool.and_eq_true_iff]
  refine ⟨List.all_eq_true.mpr fun x hx => ?_, decide_eq_true h1⟩
  obtain ⟨a, b⟩ := h2 x hx
  have c : x ≠ p := fun z => h3 (by rw [← z]; exact hx)
  rw [decide_eq_true a, decide_eq_true b, decide_eq_false c]
  rfl
theorem are_of {ts : List (List Int)} (h : OkT ts) : areV (some (valsOf ts)) = true := by
  have hlen : (valsOf ts).length = ts.length := List.length_map ..
  have p1 := h.pos
  have p2 := h.most
  have at_ : ∀ i, i < ts.length → ∃ ns, ts[i]? = some ns ∧ (valsOf ts).getD i none = some (ns.map V.int) := fun i hi => ⟨_, List.getElem?_eq_getElem hi, valsOf_at (List.getElem?_eq_getElem hi)⟩
  have row : ∀ i ns, ts[i]? = some ns → rowAt (valsOf ts) i = ns.map V.int := fun i ns hn => by
    unfold rowAt
    rw [valsOf_at hn]
    rfl
  have hall : allTurn (valsOf ts) = true := List.all_eq_true.mpr fun i hi => by
    obtain ⟨ns, e1, e2⟩ := at_ i (by have := List.mem_range.mp hi; omega)
    obtain ⟨a, b, c⟩ := h.pl i ns e1
    rw [e2, hlen]
    exact turn_of a b c
  have hsym : symV (valsOf ts) = true := List.all_eq_true.mpr fun i hi => by
    obtain ⟨ns, e1, e2⟩ := at_ i (by have := List.mem_range.mp hi; omega)
    rw [row i ns e1]
    refine List.all_eq_true.mpr fun j hj => ?_
    have hj2 : j < ns.length := by have := List.mem_range.mp hj; rwa [List.length_map] at this
    rw [ints_getD hj2, List.getD_eq_getElem?_getD, List.getElem?_eq_getElem hj2]
    obtain ⟨ms, m1, m2⟩ := h.sym i ns ns[j] e1 (List.getElem_mem hj2)
    show (rowAt (valsOf ts) (ns[j] - 1).toNat).contains (.int ((i : Int) + 1)) = true
    rw [row _ ms m1, contains_int]
    exact decide_eq_true m2
  show (decide (1 ≤ (valsOf ts).length) && decide ((valsOf ts).length ≤ 1000) && allTurn (valsOf ts) && symV (valsOf ts)) = true
  rw [hall, hsym, decide_eq_true (by omega), decide_eq_true (by omega)]
  rfl
theorem int_dps {K : PySem.W.Frag} {H : Hp} (i : Int) : DpS K H (.int i) := ⟨.int i, .int i, by unfold PyData.canLay0; rfl, by unfold PyData.depth; omega⟩
theorem row_ints {K : PySem.W.Frag} {H : Hp} {a : Addr} {ns : List Int} (h : SqP H a (ns.map V.int)) (hl : ns.length ≤ 1000) : RowD K H (.ref a) (some (ns.map V.int)) := .seq h (by rw [List.length_map]; exact hl) fun v hv => by
  obtain ⟨i, _, rfl⟩ := List.mem_map.mp hv
  exact ⟨⟨_, .int i⟩, int_dps i⟩
theorem RowsAt.turns {K : PySem.W.Frag} {H : Hp} {a : Addr} {ts : List (List Int)} (h : RowsAt H a ts) (hT : OkT ts) : TurnsD K H (.ref a) (some (valsOf ts)) := by
  obtain ⟨xs, h1, h2, h3⟩ := h
  have p2 := hT.most
  have hlen : (valsOf ts).length = ts.length := List.length_map ..
  refine .seq h1 (by omega) (by omega) (fun i v r hv hr => ?_) ?_
  · have hi : i < ts.length := by
      have := (List.getElem?_eq_some_iff.mp hv).1
      omega
    obtain ⟨ai, e, hs⟩ := h3 i _ (List.getElem?_eq_getElem hi)
    rw [e] at hv
    cases hv
    have hr2 : (valsOf ts)[i]? = some (some ((ts[i]).map V.int)) := by
      unfold valsOf
      rw [List.getElem?_map, List.getElem?_eq_getElem hi]
      rfl
    rw [hr2] at hr
    cases hr
    exact row_ints hs (hT.short (List.getElem?_eq_getElem hi))
  · have : (valsOf ts).map (fun r => (r.getD []).length) = ts.map List.length := by
      unfold valsOf
      rw [List.map_map]
      exact List.map_congr_left fun ns _ => List.length_map ..
    rw [this]
    exact hT.few
theorem Web0.rows {H0 H : Hp} {t c A : Addr} {as : List Addr} {ts : List (List Int)} {n : Nat} (w : Web0 H0 H t c A as ts n) : RowsAt H A ts :=
  ⟨as.map V.ref, .inl w.lst, by rw [List.length_map, w.len], fun i ns hn => by
    have hi := (List.getElem?_eq_some_iff.mp hn).1
    have ha : as[i]? = some (as[i]'(by rw [w.len]; exact hi)) := List.getElem?_eq_getElem _
    exact ⟨_, by rw [List.getElem?_map, ha]; rfl, .inl (w.row i _ ns ha hn).2.2⟩⟩
end P05
end S_Cu
section S_Wi
/-! a lambda with one parameter, its default a constant, handed to a def that calls it without arguments -/
namespace LamX
open PySem PySem.Spec PyProof.Rows L2
/-- the function object of such a lambda: dv its defaults -/
abbrev dfFd (q : Str) (ps : Arguments) (bd : Expr) (sc : Scope) (cl : List (Str × Addr)) (dv pm cv ct : Value) : FuncData :=
  { PySem.W.kla_fn "<lambda>" q ps bd sc cl pm cv ct with defaults := dv }
abbrev dfObj (fd : FuncData) : Obj := { cls := .type "function", data := .func fd }
abbrev dfTup (v : Value) : Obj := { cls := .type "tuple", data := .seq #[v] }
abbrev dfArgs (x : Str) (ap : Pos) (e : Expr) : Arguments := { posonlyargs := [], args := [{ arg := x, annotation := none, pos := ap }], vararg := none, kwonlyargs := [], kw_defaults := [], kwarg := none, defaults := [e] }
section
variable {M : Model} {A : Around} {E : Value → Shared → Prop} {s : Shared} {q : Str} {ap : Arguments} {bd : Expr} {sc : Scope} {env : Env} {c P : Addr} {tr : Array Value} {pos : Pos} {fl : Nat} {mg : Str → Option Value}
  {cl : List (Str × Addr)} {dv : Value} {Q : Value → Shared → Prop}
theorem clo_tup {its : List Value} {b : Bool} {jp : Value → Sem Value} (h : ∀ (v : Value) (hh : Heap), (∀ a o, s.heap.get? a = some o → hh.get? a = some o) → s.heap.objs.size ≤ hh.objs.size → wpAny M A (jp v) Q E { s with heap := hh }) :
    wpAny M A (if b = true then pure Value.none >>= jp else newTextTuple its >>= jp) Q E s := by
  cases b with
  | true => exact wpAny_bind (wpAny_pure (h .none s.heap (fun _ _ e => e) (Nat.le_refl _)))
  | false => exact wpAny_bind (wpAny_newTextTuple (h _ _ (fun _ _ e => Heap.get?_push_of_some _ e) (by rw [Heap.size_push]; omega)))
/-- the object is made: its code object is new -/
theorem df_miss (h1 : closureFor sc env = pure cl) (h2 : env.globals = mainGlobals) (h3 : s.heap.Ns mainGlobals mg) (h4 : env.code = .ref c) (h5 : PySem.W.CodeHd s.heap c P) (h6 : s.heap.get? P = some (PySem.W.tabObj tr)) (h7 : TriplesOk tr.toList)
    (h8 : codeAmong pos tr.toList = none) (h9 : mainGlobals ≠ P) (hb : s.heap.BuiltinsAt mg P)
    (k : ∀ c' ct hh tk, Heap.ExtBut P s.heap hh → s.heap.objs.size ≤ c' → c' < hh.objs.size → hh.CodeRec (.ref c') q → hh.get? P = some (PySem.W.tabObj (tr ++ #[rawInt pos.line, rawInt pos.col, .ref c'])) →
      Q (.ref hh.objs.size) { s with heap := hh.push (dfObj (dfFd q ap bd sc cl dv ((mg "__name__").getD .none) (.ref c') ct)), toks := tk }) : wpAny M A (makeTail "<lambda>" q ap (.expr bd) sc env dv .none none pos fl) Q E s := by
  obtain ⟨bm, ob, b1, b2, _, b3, b4, b5, b6, b7⟩ := hb
  unfold makeTail
  rw [h1, h2]
  refine wpAny_bind (wpAny_pure ?_)
  refine clo_tup fun ct h0 k0 sz => ?_
  refine wpAny_bind (wpAny_functionCodeX h4 ((h5.keeps k0).code (k0 _ _ h6) h7) ((h5.keeps k0).tab (k0 _ _ h6)) h8 fun c' hh tk hx ge lt _ hrec htb _ => ?_)
  have g' := (h3.keeps k0).extBut hx h9
  have x' : Heap.ExtBut P s.heap hh := fun b o n e => hx b o n (k0 b o e)
  refine wpAny_bind (wpAny_builtinsFor g' b1 b2 (x' _ _ b3 b4) b5 b6 b7 (wpAny_bind (wpAny_nsGet g' ?_)))
  exact wpAny_bind (wpAny_pure (wpAny_newObj_type (k c' ct hh tk x' (Nat.le_trans sz ge) lt hrec htb.2) (by size_fits)))
/-- its code object stands in the table -/
theorem df_hit {cv : Value} (h1 : closureFor sc env = pure cl) (h2 : env.globals = mainGlobals) (h3 : s.heap.Ns mainGlobals mg) (h4 : env.code = .ref c) (h5 : PySem.W.CodeHd s.heap c P) (h6 : s.heap.get? P = some (PySem.W.tabObj tr)) (h7 : TriplesOk tr.toList)
    (h8 : codeAmong pos tr.toList = some cv) (hb : s.heap.BuiltinsAt mg P)
    (k : ∀ (ct : Value) (hh : Heap) (tk : Tok), (∀ a o, s.heap.get? a = some o → hh.get? a = some o) → s.heap.objs.size ≤ hh.objs.size → Q (.ref hh.objs.size) { s with heap := hh.push (dfObj (dfFd q ap bd sc cl dv ((mg "__name__").getD .none) cv ct)), toks := tk }) :
    wpAny M A (makeTail "<lambda>" q ap (.expr bd) sc env dv .none none pos fl) Q E s := by
  obtain ⟨bm, ob, b1, b2, _, b3, b4, b5, b6, b7⟩ := hb
  unfold makeTail
  rw [h1, h2]
  refine wpAny_bind (wpAny_pure ?_)
  refine clo_tup fun ct h0 k0 sz => ?_
  refine wpAny_bind (wpAny_functionCode_hit h4 ((h5.keeps k0).code (k0 _ _ h6) h7) h8 ?_)
  refine wpAny_bind (wpAny_builtinsFor (h3.keeps k0) b1 b2 (k0 _ _ b4) b5 b6 b7 (wpAny_bind (wpAny_nsGet (h3.keeps k0) ?_)))
  exact wpAny_bind (wpAny_pure (wpAny_newObj_type (k ct h0 s.toks k0 sz) (by size_fits)))
end
section
variable {X : Cx} {pins : List (Addr × Obj)} {σ : L2.St} {H : Hp} {s : Shared}
/-- the whole making -/
theorem lam_makeD {T : List (Addr × Str)} {c P : Addr} {x : Str} {ap : Pos} {e : Expr} {bd : Expr} {sc : Scope} {pos : Pos} {E : Value → Shared → Prop} {Q : Value → Shared → Prop} (I : Inv X pins σ H s) (TB : TabB X.base X.mg c P) (hcode : X.env.code = .ref c) (he : e.isPlainConst = true)
    (hm : (P, X.env.qual ++ "<lambda>") ∈ T) (hu : ∀ p ∈ T, p.1 = P → p.2 = X.env.qual ++ "<lambda>") (hT : Tabs T H) (hfree : ∀ y ∈ sc.names, y.2 = .free → ∃ c, X.env.cells.lookup y.1 = some c)
    (k : ∀ (f c' d : Addr) (v pm ct : Value) (H1 : Hp) (s' : Shared), Inv X pins σ H1 s' → ExtN H H1 → Tabs T H1 → s'.heap.get? f = some (dfObj (dfFd (X.env.qual ++ "<lambda>") (dfArgs x ap e) bd sc (cloFrom X.env.cells sc.names []) (.ref d) pm (.ref c') ct)) →
      s'.heap.get? d = some (dfTup v) → H1 f = none → H1 d = none → f ∉ frs X.stack → d ∉ frs X.stack → H1 c' = some (CodeO c' (X.env.qual ++ "<lambda>")) → Q (.ref f) s') :
    wpAny (model X.prog X.w) X.A (eval (.Lambda (dfArgs x ap e) bd sc pos) X.env) Q E s := by
  obtain ⟨tr, hP, ht, ha⟩ := hT _ hm
  rw [arm_eval_Lambda]
  show wpAny (model X.prog X.w) X.A (do let dv ← evalAll (evalEach [e] X.env); let kdv ← holding dv (evalAllOpt []); makeFunction "<lambda>" (X.env.qual ++ "<lambda>") (dfArgs x ap e) (.expr bd) sc X.env dv kdv [] pos pos.line) Q E s
  refine wpAny_bind (wpAny_evalAll_consts [e] s _ (fun z hz => by rw [List.mem_singleton.mp hz]; exact he) fun vs tk cv => ?_)
  obtain ⟨v, rfl⟩ : ∃ v, vs = [v] := by
    match vs, cv with
    | [v], _ => exact ⟨v, rfl⟩
    | _ :: _ :: _, cv => exact cv.2.elim
  refine wpAny_bind (wpAny_holding (wpAny_pure ?_))
  rw [makeFunction_eq]
  simp only [List.zip_nil_left, List.filterMap_nil, List.isEmpty_nil, List.isEmpty_cons, if_true, if_false, Bool.false_eq_true, pure_bind]
  refine wpAny_bind (wpAny_newTextTuple ?_)
  have nofr : ∀ f, s.heap.objs.size ≤ f → f ∉ frs X.stack := fun f hf z => by
    rcases List.mem_cons.mp (I.stkSub _ z) with e' | e'
    · have w := I.lt
      rw [← e'] at w
      exact Nat.lt_irrefl _ (Nat.lt_of_lt_of_le w hf)
    · exact I.nofs hf e'
  have hd : H s.heap.objs.size = none := I.hok.fresh (Nat.le_refl _)
  have dP : s.heap.objs.size ≠ P := fun z => by rw [z, hP] at hd; cases hd
  have I0 : Inv X pins σ H { s with heap := s.heap.push (dfTup v), toks := tk } := I.kept fun b o z => Heap.get?_push_of_some _ z
  have d0 : (s.heap.push (dfTup v)).get? s.heap.objs.size = some (dfTup v) := Heap.get?_push_size _ rfl
  have sz0 : s.heap.objs.size ≤ (s.heap.push (dfTup v)).objs.size := by rw [Heap.size_push]; omega
  have bP : (s.heap.push (dfTup v)).BuiltinsAt X.mg P := TB.bm.keeps I0.bk
  have hP' : (s.heap.push (dfTup v)).get? P = some { cls := .none, data := .fields tr } := I0.hok P _ hP
  cases hc : codeAmong pos tr.toList with
  | none =>
    refine df_miss (s := { s with heap := s.heap.push (dfTup v), toks := tk }) (mg := X.mg) (c := c) (P := P) (tr := tr) (closure_ok hfree) I.ok.glob (I.mod.glob.keeps I0.bk) hcode (TB.code.keeps I0.bk) hP' ht hc TB.gP bP fun c' ct hh tk' hx ge lt hrec htb => ?_
    obtain ⟨c2, oc, vs, t, e2, hoc, hdt, hv⟩ := hrec
    cases e2
    have ge' : (s.heap.push (dfTup v)).objs.size ≤ c' := ge
    have nC : H c' = none := I.hok.fresh (Nat.le_trans sz0 ge')
    have szh : (s.heap.push (dfTup v)).objs.size ≤ hh.objs.size := Nat.le_trans ge' (Nat.le_of_lt lt)
    have dc : s.heap.objs.size ≠ c' := fun z => by rw [← z, Heap.size_push] at ge'; omega
    have df : s.heap.objs.size ≠ hh.objs.size := fun z => by rw [← z, Heap.size_push] at szh; omega
    have I1 := inv_table (t' := tk') (more := #[rawInt pos.line, rawInt pos.col, .ref c']) (h' := hh.push (dfObj (dfFd (X.env.qual ++ "<lambda>") (dfArgs x ap e) bd sc (cloFrom X.env.cells sc.names []) (.ref s.heap.objs.size) ((X.mg "__name__").getD .none) (.ref c') ct))) I0 hP
      (fun b o hb z => Heap.get?_push_of_some _ (hx b o hb z)) (Heap.get?_push_of_some _ htb) ge ⟨oc, vs, t, Heap.get?_push_of_some _ hoc, hdt, hv⟩
    have hE : ExtN H (upd (upd H P (.tbl (tr ++ #[rawInt pos.line, rawInt pos.col, .ref c']))) c' (CodeO c' (X.env.qual ++ "<lambda>"))) := fun b o z n => by
      have bP' : b ≠ P := fun y => n tr (Option.some.inj (z.symm.trans (by rw [y]; exact hP)))
      rw [upd_ne (ne_of_none z nC), upd_ne bP']
      exact z
    have eL : (tr ++ #[rawInt pos.line, rawInt pos.col, .ref c']).toList = tr.toList ++ [rawInt pos.line, rawInt pos.col, .ref c'] := by simp
    have off : ∀ {b : Addr}, b ≠ c' → b ≠ P → H b = none → upd (upd H P (.tbl (tr ++ #[rawInt pos.line, rawInt pos.col, .ref c']))) c' (CodeO c' (X.env.qual ++ "<lambda>")) b = none := fun n1 n2 n3 => by rw [upd_ne n1, upd_ne n2]; exact n3
    refine k hh.objs.size c' s.heap.objs.size v ((X.mg "__name__").getD .none) ct _ _ I1 hE (fun p hp => ?_) (Heap.get?_push_size _ rfl) (Heap.get?_push_of_some _ (hx _ _ dP d0)) (off (Nat.ne_of_gt lt) (Nat.ne_of_gt (Nat.lt_of_lt_of_le (Heap.lt_size hP') szh)) (I.hok.fresh (Nat.le_trans sz0 szh))) (off dc dP hd) (nofr _ (Nat.le_trans sz0 szh)) (nofr _ (Nat.le_refl _)) upd_same
    by_cases hb : p.1 = P
    · rw [hu p hp hb, hb]
      refine ⟨_, by rw [upd_ne (ne_of_none hP nC), upd_same], by rw [eL]; exact PySem.TriplesOk_snoc _ _ _ _ ht, fun p' cv' hcv => ?_⟩
      rw [eL] at hcv
      rcases among_app _ ht hcv with z | z
      · obtain ⟨c0, y1, y2⟩ := ha p' cv' z
        exact ⟨c0, y1, hE _ _ y2 codeO_ne⟩
      · exact ⟨c', z, upd_same⟩
    · obtain ⟨tr2, a1, a2, a3⟩ := hT p hp
      refine ⟨tr2, by rw [upd_ne (ne_of_none a1 nC), upd_ne hb]; exact a1, a2, fun p' cv' hcv => ?_⟩
      obtain ⟨c0, y1, y2⟩ := a3 p' cv' hcv
      exact ⟨c0, y1, hE _ _ y2 codeO_ne⟩
  | some cv =>
    obtain ⟨c', y, hco⟩ := ha pos cv hc
    subst y
    refine df_hit (s := { s with heap := s.heap.push (dfTup v), toks := tk }) (mg := X.mg) (c := c) (P := P) (tr := tr) (closure_ok hfree) I.ok.glob (I.mod.glob.keeps I0.bk) hcode (TB.code.keeps I0.bk) hP' ht hc bP fun ct hh tk' hx szh => ?_
    have I1 : Inv X pins σ H { s with heap := hh.push (dfObj (dfFd (X.env.qual ++ "<lambda>") (dfArgs x ap e) bd sc (cloFrom X.env.cells sc.names []) (.ref s.heap.objs.size) ((X.mg "__name__").getD .none) (.ref c') ct)), toks := tk' } := I0.kept fun b o z => Heap.get?_push_of_some _ (hx b o z)
    exact k hh.objs.size c' s.heap.objs.size v ((X.mg "__name__").getD .none) ct H _ I1 (ExtN.refl H) hT (Heap.get?_push_size _ rfl) (Heap.get?_push_of_some _ (hx _ _ d0)) (I.hok.fresh (Nat.le_trans sz0 szh)) hd (nofr _ (Nat.le_trans sz0 szh)) (nofr _ (Nat.le_refl _)) hco
end
/-- its names: the parameter x alone is its own -/
structure LamSD (sc scope : Scope) (x : Str) : Prop where
  kind : scope.kind = .function
  co : scope.isCoroutine = false
  gen : scope.isGenerator = false
  own : ∀ y ∈ scope.names, (y.2 = .local → y.1 = x) ∧ y.2 ≠ .cell
  loc : scope.names.lookup x = some .local
  free : ∀ y ∈ scope.names, y.2 = .free → sc.names.lookup y.1 = some .cell ∨ sc.names.lookup y.1 = some .free
def lamSDB (sc scope : Scope) (x : Str) : Bool :=
  decide (scope.kind = .function) && (!scope.isCoroutine && (!scope.isGenerator && (decide (scope.names.lookup x = some .local) && scope.names.all fun y => (!decide (y.2 = .local) || decide (y.1 = x)) && (!decide (y.2 = .cell) && (!decide (y.2 = .free) || (decide (sc.names.lookup y.1 = some .cell) || decide (sc.names.lookup y.1 = some .free)))))))
theorem lamSD_by {sc scope : Scope} {x : Str} (h : lamSDB sc scope x = true) : LamSD sc scope x := by
  unfold lamSDB at h
  simp only [Bool.and_eq_true, Bool.or_eq_true, Bool.not_eq_true', decide_eq_true_eq, decide_eq_false_iff_not, List.all_eq_true] at h
  obtain ⟨a1, a2, a3, a4, a5⟩ := h
  exact ⟨a1, a2, a3, fun y hy => ⟨fun e => (a5 y hy).1.elim (fun n => absurd e n) id, (a5 y hy).2.1⟩, a4, fun y hy e => (a5 y hy).2.2.elim (fun n => absurd e n) id⟩
theorem LamSD.has {X : Cx} {scope : Scope} {x : Str} (L : LamSD X.env.scope scope x) (ok : X.Ok) : ∀ y ∈ scope.names, y.2 = .free → ∃ c, X.env.cells.lookup y.1 = some c := fun y hy e =>
  (L.free y hy e).elim (fun z => ok.has _ (.inl z)) fun z => ok.has _ (.inr z)
section
variable {X : Cx} {pins : List (Addr × Obj)} {σ : L2.St} {H HZ : Hp} {s s1 : Shared}
theorem lam_startD {A : Around} {outer : List Env} {E : XK} {scope : Scope} {f c' : Addr} {h₁ : Heap} {tk : Nat} {x : Str} {v : Value} (I : Inv X pins σ H s) (L : LamSD X.env.scope scope x) (hx : x ∉ X.N) (z0 : Env0 X.prog X.w X.K X.mg X.base A outer s1 HZ) (z1 : A.handled = none)
    (un : Un (frs X.stack) [] H HZ s.heap s1.heap) (ns : h₁.Ns s1.heap.objs.size fun y => ([(x, v)] : List (Str × Value)).reverse.lookup y) (kp : ∀ b o, s1.heap.get? b = some o → h₁.get? b = some o) :
    Inv (lamCx X A outer s1 HZ E scope f c') [] σ HZ { s1 with heap := h₁, toks := tk } := by
  have hfree := L.has I.ok
  have cm : ∀ {y c}, (cloFrom X.env.cells scope.names []).lookup y = some c → X.env.cells.lookup y = some c := fun {y c} e => by
    rcases cloFrom_mem (PySem.mem_of_lookup e) with m | ⟨m1, m2⟩
    · cases m
    · obtain ⟨c1, hc⟩ := hfree _ m1 rfl
      have hc : X.env.cells.lookup y = some c1 := hc
      obtain rfl : c = c1 := by rw [m2, hc] <;> rfl
      exact hc
  have look : ∀ {y}, scope.names.lookup y = some .free → ∃ c, (cloFrom X.env.cells scope.names []).lookup y = some c := fun {y} m =>
    mem_lookup (cloFrom_has (cells := X.env.cells) (acc := []) (show (y, NameKind.free) ∈ scope.names from PySem.mem_of_lookup m))
  have cellK : ∀ {c : Addr} {u : Option Value}, H c = none → s.heap.IsCell c u → h₁.IsCell c u := fun {c u} n ⟨o, ho, hd⟩ => by
    obtain ⟨sl, w⟩ := un.any ho n (by simp)
    exact ⟨_, kp _ _ w, hd⟩
  have noA : ∀ b : Addr, b ∉ (lamCx X A outer s1 HZ E scope f c').ex := fun b m => absurd (show b ∈ ([] : List Addr) from m) (by simp)
  refine ⟨⟨z0.mod, L.kind, rfl, rfl, Nat.le_refl _, fun y m c e1 e2 => I.ok.inj y m c (cm e1) (cm e2), fun y hy => ?_, fun y c m _ => ?_, fun _ => z1, Around.frames_deeper z0.frames, .inr ⟨rfl, rfl⟩, fun b m => absurd m (noA b), z0.bs, z0.bsz, fun b _ _ => noA b,
      fun b m => absurd m (noA b), z0.funs, z0.frf⟩,
    rfl, z0.bare, Un.kept kp, ⟨_, ns, fun i y u e1 e2 e3 => ?_⟩, fun y c e => ?_, z0.hok.fresh (Nat.le_refl _), fun y c e => ?_, fun p hp => absurd (show p ∈ ([] : List (Addr × Obj)) ++ [] from hp) (by simp), z0.hok.kept kp, I.len⟩
  · have hy : scope.names.lookup y = some .cell ∨ scope.names.lookup y = some .free := hy
    exact hy.elim (fun m => absurd rfl (L.own _ (PySem.mem_of_lookup m)).2) look
  · cases (show false = true from m)
  · have e1' : X.N[i]? = some y := e1
    have e3 : Vis scope y := e3
    rcases e3 with m | m | m
    · have m' := (L.own _ (PySem.mem_of_lookup m)).1 rfl
      exact absurd (m' ▸ List.mem_of_getElem? e1') hx
    · exact absurd rfl (L.own _ (PySem.mem_of_lookup m)).2
    · obtain ⟨mm, hn, hl⟩ := I.loc
      have vis : Vis X.env.scope y := (L.free _ (PySem.mem_of_lookup m) rfl).elim (fun m => .inr (.inl m)) (fun m => .inr (.inr m))
      obtain ⟨u', r, w⟩ := hl i y u e1 e2 vis
      obtain ⟨c2, m2⟩ := look m
      refine ⟨u', r, .inr ⟨.inr m, c2, m2, ?_⟩⟩
      have c1 := cm m2
      rcases w with ⟨k', _⟩ | ⟨_, c3, e', w⟩
      · have k' : X.env.scope.names.lookup y = some .local := k'
        rcases L.free _ (PySem.mem_of_lookup m) rfl with k2 | k2 <;> rw [show X.env.scope.names.lookup y = _ from k2] at k' <;> cases k'
      · rw [c1] at e'
        cases e'
        exact cellK (I.freeC y _ c1) w
  · obtain ⟨u', w⟩ := I.cell y c (cm e)
    exact ⟨u', cellK (I.freeC y c (cm e)) w⟩
  · obtain ⟨u, o, ho, hd⟩ := I.cell y c (cm e)
    exact un.free c o ho (I.freeC y c (cm e)) (by simp)
/-- how the call without arguments binds -/
def BindsD (x : Str) (ps : Arguments) (bd : Expr) (sc : Scope) : Prop := ∀ (q : Str) (cl : List (Str × Addr)) (d : Addr) (v pm cv ct : Value), ∃ k, bindArgs (dfFd q ps bd sc cl (.ref d) pm cv ct) ⟨[], []⟩ = seqItems? (.ref d) >>= k ∧ k (some #[v]) = pure [(x, v)]
theorem pe_actD {CXg : CXT} {Eg : XK} {Ng : List Str} {qg : Str} {sg : Scope} {g f c' d : Addr} {cdg pm ct v : Value} {ps : Arguments} {bd : Expr} {scope : Scope} {k i : Nat} {a x : Str} {pn : List (Addr × Obj)} {xe : Value → Shared → Prop} {W : WX} {E : XK} {tb : TE} {p1 p2 : Pos}
    (I : Inv X pins σ H s) (L : LamSD X.env.scope scope x) (hx : x ∉ X.N) (hf : s.heap.get? f = some (dfObj (dfFd (X.env.qual ++ "<lambda>") ps bd scope (cloFrom X.env.cells scope.names []) (.ref d) pm (.ref c') ct))) (hdv : s.heap.get? d = some (dfTup v)) (nf : H f = none) (nd : H d = none) (ff : f ∉ frs X.stack) (fd : d ∉ frs X.stack)
    (hbind : BindsD x ps bd scope)
    (tk : Takes ((cxOf CXg X.prog X.w X.K X.mg X.base Ng qg sg g cdg X.A X.stack s H Eg).tr pn xe) W) (hW : ∀ cls d σ' H', E cls d H' → W cls d σ' H') (hr : Room (k + 1) (X.A.deeper (envOfC qg sg s.heap.objs.size g cdg)))
    (hbody : ∀ (A : Around) (outer : List Env) (s : Shared) (H : Hp), Room k (A.deeper (lamEnv X scope s.heap.objs.size f c')) → PE (lamCx X A outer s H E scope f c') bd tb)
    (hN : Ng[i]? = some a) (hv : Vis sg a) (hd : (a == ("__debug__" : Str)) = false := by decide) (hcd : (a == ("__classdict__" : Str)) = false := by decide) :
    PE ((cxOf CXg X.prog X.w X.K X.mg X.base Ng qg sg g cdg X.A X.stack s H Eg).tr pn xe) (.Call (.Name a p1) [] [] p2)
      (fun σZ HZ Q => σZ[i]? = some (some (.ref f)) ∧ HZ c' = some (CodeO c' (X.env.qual ++ "<lambda>")) ∧ tb σ HZ Q) := by
  refine ⟨fun pinsZ sZ σZ HZ Q IZ ⟨hs, hc, ht⟩ => ?_⟩
  refine wpAny_Call_Name_kw (thn ((pe_var (pos := p1) (i := i) hN hv hd hcd).run pinsZ sZ σZ HZ (fun u H1 => u = .ref f ∧ H1 = HZ) IZ ⟨.ref f, hs, rfl, rfl⟩) fun u s1 ⟨u', H1, I1, r1, w1⟩ => ?_)
  obtain ⟨w1, w2⟩ := w1
  subst w1
  rw [w2] at I1
  obtain rfl : u = Value.ref f := r1
  have noX : ∀ b : Addr, b ∉ ([] : List Addr) := fun b z => nomatch z
  have of1 : s1.heap.get? f = some (dfObj (dfFd (X.env.qual ++ "<lambda>") ps bd scope (cloFrom X.env.cells scope.names []) (.ref d) pm (.ref c') ct)) := I1.base.keep f _ hf nf ff (noX f)
  have od1 : s1.heap.get? d = some (dfTup v) := I1.base.keep d _ hdv nd fd (noX d)
  refine PySem.W.callWith_F0 ⟨_, _, _, _, of1⟩ ?_
  have un : Un (frs X.stack) [] H HZ s.heap s1.heap := I1.base
  obtain ⟨⟨oc, vs, t, o1, o2, o3⟩, _, _⟩ := I1.hok c' _ hc
  obtain ⟨kb, bk1, bk2⟩ := hbind (X.env.qual ++ "<lambda>") (cloFrom X.env.cells scope.names []) d v pm (.ref c') ct
  have rc : codeAny (model X.prog X.w) (X.A.deeper (envOfC qg sg s.heap.objs.size g cdg)) (.call (.ref f) ⟨[], []⟩) (CR (L2.CX X.prog X.w) (envOfC qg sg s.heap.objs.size g cdg :: X.stack) X.prog X.w HZ s1 Q E) s1 := by
    refine PySem.W.kla_callFunE hr.depth of1 rfl L.co L.gen rfl ⟨c', oc, vs, t, rfl, o1, o2, o3⟩ ?_
    rw [bk1]
    refine wpAny_bind (wpAny_seqItems od1 rfl ?_)
    rw [bk2]
    refine wpAny_pure (wpAny_newFunctionEnv (fun y hy => (L.own y hy).2) (fun y hy => by rw [List.mem_singleton.mp hy]; exact L.loc) (fun h₁ hns hsb => ⟨I1.nolimit.fresh _ hsb, ?_⟩) L.kind)
    show codeAny _ _ (.expr bd (lamEnv X scope s1.heap.objs.size f c')) _ _
    have kp : ∀ b o, s1.heap.get? b = some o → h₁.get? b = some o := fun b o z => hsb.extBut b o (Nat.ne_of_lt (Heap.lt_size z)) (Heap.get?_push_of_some _ z)
    have J : Inv (lamCx X (X.A.deeper (envOfC qg sg s.heap.objs.size g cdg)) (envOfC qg sg s.heap.objs.size g cdg :: X.stack) s1 HZ E scope f c') [] σ HZ { s1 with heap := h₁, toks := s1.toks + ([(x, v)] : List (Str × Value)).length } :=
      lam_startD I L hx I1.env0 hr.hd un hns kp
    refine PySem.W.kla_codeExpr (wpAny_mono ((hbody _ _ s1 HZ (hr.deeper _)).run [] _ _ HZ Q J ht) (fun u s' hq => ?_) fun z s' hq => hq)
    obtain ⟨w', H', J', rv, q⟩ := hq
    exact ⟨w', H', J'.os, J'.bare, J'.base, J'.hok, rv, q⟩
  have hxp : Passes (L2.CX X.prog X.w) ((cxOf CXg X.prog X.w X.K X.mg X.base Ng qg sg g cdg X.A X.stack s H Eg).tr pn xe) E := passes_call tk hW
  refine wpAny_call (codeAny_mono rc fun r s' hq => ?_)
  match r, hq with
  | .error z, hq => exact hxp pinsZ σZ HZ s1 z s' I1 hq
  | .ok (.ret u), hq => exact I1.after hq
  | .ok .next, hq => exact hq.elim
  | .ok .brk, hq => exact hq.elim
  | .ok .cont, hq => exact hq.elim
end
section
variable {X : Cx}
/-- g(lambda x=const: body) -/
theorem pe_lamcallD {T : List (Addr × Str)} {TT : (XK → Hp → VK → Prop) → Hp → VK → Prop} {gn a x : Str} {g c P : Addr} {k : Nat} {pg : Arguments} {bg : List Stmt} {sg : Scope} {dV kV doc pm cdv ct oc : Value} {an od : Option Addr} {osl : Array (Option Value)} {Ng : List Str}
    {ap : Pos} {e bd : Expr} {scope : Scope} {t : XK → TE} {p lpos pos : Pos} (hg : Gl X gn) (hm : X.mg gn = some (.ref g)) (hk : PySem.W.keepIn X.K (.ref g) = true)
    (lk : X.K.lookup g = some ⟨oc, od, .func (PySem.W.fnOf gn gn pg bg sg dV kV doc pm an cdv ct), osl⟩) (hcg : PySem.W.codeIn X.K cdv gn = true) (hb : L2.Binds X.K (PySem.W.fnOf gn gn pg bg sg dV kV doc pm an cdv ct) [a] []) (Sg : FnScope Ng [a] sg) (hNg : Ng[0]? = some a) (hva : Vis sg a)
    (hG : GivesTo X Ng gn sg g cdv bg a (X.env.qual ++ "<lambda>") TT)
    (TB : TabB X.base X.mg c P) (hcode : X.env.code = .ref c) (hmT : (P, X.env.qual ++ "<lambda>") ∈ T) (hu : ∀ p ∈ T, p.1 = P → p.2 = X.env.qual ++ "<lambda>") (hr : Room (k + 2) X.A) (L : LamSD X.env.scope scope x) (hx : x ∉ X.N) (he : e.isPlainConst = true)
    (hbind : BindsD x (dfArgs x ap e) bd scope)
    (hbody : ∀ (A : Around) (outer : List Env) (s : Shared) (H : Hp) (E : XK) (f c' : Addr), Room k (A.deeper (lamEnv X scope s.heap.objs.size f c')) → PE (lamCx X A outer s H E scope f c') bd (t E))
    (hdb : (gn == ("__debug__" : Str)) = false := by decide) (hd : (a == ("__debug__" : Str)) = false := by decide) (hcd : (a == ("__classdict__" : Str)) = false := by decide) :
    PE X (.Call (.Name gn p) [.Lambda (dfArgs x ap e) bd scope lpos] [] pos) (tLam T TT t) := by
  refine ⟨fun pins s σ H Q I ⟨hT, h⟩ => ?_⟩
  refine wpAny_Call_Name_kw (ld_glob I hg hm ?_ hdb)
  refine PySem.W.callWith_K (h₀ := X.base) I.ok.mod.kin hk ?_ (by rfl) (by rfl)
  show wpAny _ _ (spliced ((false, eval (.Lambda (dfArgs x ap e) bd scope lpos) X.env) :: backTo pos (starEach [] X.env))) _ _ s
  refine Calls.spliced_cons (lam_makeD I TB hcode he hmT hu hT (L.has I.ok) fun f c' d v pm' ctv H1 s' I1 eN T1 hf hdv nf nd ff fd hco => ?_)
  refine Calls.spliced_nil ⟨I1.kIn, ?_⟩
  have rc : codeAny (model X.prog X.w) X.A (.call (.ref g) ⟨[.ref f], []⟩) (CR C8.CX0 X.stack X.prog X.w H1 s' Q C8.E0) s' := by
    refine run_ofS (N := Ng) (ps := [a]) (us := [.ref f]) (vs := [.ref f]) lk hcg Sg hr I1.env0 (hb s' [.ref f] I1.kIn rfl) (.cons rfl .nil) rfl fun hr' => ?_
    obtain ⟨t', ht', hq'⟩ := hG f c' s' H1 Q (fun E H' Q' => t E σ H' Q') (fun W pn xe E p1 p2 tk hW => pe_actD (i := 0) I1 L hx hf hdv nf nd ff fd hbind tk hW hr' (fun A outer s H hr2 => hbody A outer s H E f c' hr2) hNg hva hd hcd) hco (h H1 eN T1)
    exact ⟨t', ht'.nox, hq'⟩
  refine wpAny_call (codeAny_mono rc fun r s2 hq => ?_)
  match r, hq with
  | .error z, hq => exact (show False from hq).elim
  | .ok (.ret u), hq => exact I1.after hq
  | .ok .next, hq => exact hq.elim
  | .ok .brk, hq => exact hq.elim
  | .ok .cont, hq => exact hq.elim
end
end LamX
end S_Wi
section S_Wk
namespace Hk
open PySem PySem.Spec PyProof.Rows L2 LamX Tl
/-- caught = None / try: ask() / except E as error: caught = error / rest -/
def THeardS (K : PySem.W.Frag) (CS : Addr) (tr : TS) : (XK → Hp → VK → Prop) → Hp → VK → Prop := fun tl H Q => ∀ f : Addr,
  tl (fun cls d H' => PySem.W.exmOne K cls (.ref CS) = some true ∧ ∀ a, H' a = none → ∀ σ' : L2.St, σ'.length = 3 → σ'[1]? = some (some (.ref a)) → tr { nx := fun _ G => Q .non G, rt := Q } σ' (upd H' a (ErrAt cls d a))) H
    fun _ H' => tr { nx := fun _ G => Q .non G, rt := Q } [some (.ref f), some .non, none] H'
theorem heard_givesS {X : Cx} {x e q : Str} {sg : Scope} {g CS : Addr} {cdg : Value} {j : Nat} {rest : List Stmt} {tr : TS} {p1 p2 p3 p4 p5 p6 p7 p8 p9 r1 r2 r3 : Pos} (Sg : FnScope nAsk ["ask"] sg) (k1 : sg.names.lookup ("caught" : Str) = some NameKind.local) (k2 : sg.names.lookup ("error" : Str) = some NameKind.local)
    (hge : sg.names.lookup e = some .globalImplicit) (hme : X.mg e = some (.ref CS)) (hde : (e == ("__debug__" : Str)) = false)
    (hrt : ∀ (A : Around) (s : Shared) (H : Hp), PSs (cxA X x sg g cdg A s H) rest tr) :
    GivesTo X nAsk x sg g cdg (.Assign [.Name "caught" p1] (.Constant .none j p2) p3 :: .Try [.Expr (.Call (.Name "ask" r1) [] [] r2) r3] [.ExceptHandler (some (.Name e p4)) (some "error") [.Assign [.Name "caught" p5] (.Name "error" p6) p7] p8] [] [] p9 :: rest) "ask" q (THeardS X.K CS tr) := by
  intro f c' s H Q tl act hc h
  have gE : Gl (cxA X x sg g cdg X.A s H) e := hge
  have l1 : ∀ {Y : Cx}, Y.env.scope = sg → (Y.fn "caught" = true ∨ Y.env.scope.names.lookup ("caught" : Str) = some NameKind.local) := fun z => .inr (by rw [z]; exact k1)
  refine ⟨_, pss_cons (ps_set (X := cxA X x sg g cdg X.A s H) (i := 1) Sg.nd rfl (Or.inl k1) pe_non rfl (l1 rfl)) (pss_cons (ps_keep (X := cxA X x sg g cdg X.A s H) (i := 2) (c := .ref CS) (ts := fun _ _ _ => tAsg (tVar 2) (gName 1))
      (tb := fun W D σ H => ∃ Ech : XK, (∀ cls d σ' H', Ech cls d H' → σ'.length = 3 → W cls d σ' H') ∧ σ[0]? = some (some (.ref f)) ∧ H c' = some (CodeO c' q) ∧ tl Ech H (fun _ H' => D.nx σ H'))
      rfl rfl rfl Sg.nd rfl k2 ⟨gE, hde, Or.inl hme⟩ (fun W pn xe tk _ => ?_) (fun a oe cls d pn _ _ => pss_one (ps_set (i := 1) Sg.nd rfl (Or.inl k1) (pe_var (i := 2) rfl (Or.inl k2)) rfl (l1 rfl)))) (hrt X.A s H)), ?_⟩
  · refine ⟨fun pins s' σ H' D I ⟨Ech, hW, h1, h2, h3⟩ => ?_⟩
    have hp := act (fun cls d σ H => σ.length = nAsk.length → W cls d σ H) pn xe Ech r1 r2 (takes_len tk) hW
    exact (pss_one (ps_expr (pos := r3) hp)).run pins s' σ H' D I ⟨h1, h2, h3⟩
  · have h' := h f
    refine ⟨fun cls d H' => PySem.W.exmOne X.K cls (.ref CS) = some true ∧ ∀ a, H' a = none → ∀ σ' : L2.St, σ'.length = 3 → σ'[1]? = some (some (.ref a)) → tr { nx := fun _ G => Q .non G, rt := Q } σ' (upd H' a (ErrAt cls d a)), ?_, rfl, hc, h'⟩
    rintro cls d σ' H' ⟨he, hk⟩ hl
    refine ⟨he, fun a na => ?_⟩
    exact ⟨.ref a, by rw [List.getElem?_set_self (by omega)] <;> rfl, fun na' => hk a na' _ (by simp [hl]) (by rw [List.getElem?_set_ne (by decide), List.getElem?_set_self (by simp [hl])] <;> rfl)⟩
/-! ### what stays while tables grow and the drawer draws -/
/-- H without its tables, and without what stands at t -/
def strip (t : Addr) (H : Hp) : Hp := fun a => if a = t then none else match H a with
  | some (.tbl _) => none
  | o => o
theorem strip_at {t a : Addr} {H : Hp} {o : HO} (h : H a = some o) (ht : a ≠ t) (hn : ∀ ps, o ≠ .tbl ps) : strip t H a = some o := by
  unfold strip
  rw [if_neg ht, h]
  split
  · rename_i ps e
    exact absurd (Option.some.inj e) (hn ps)
  · rfl
theorem strip_le {t a : Addr} {H : Hp} {o : HO} (h : strip t H a = some o) : a ≠ t ∧ H a = some o ∧ ∀ ps, o ≠ .tbl ps := by
  unfold strip at h
  by_cases z : a = t
  · rw [if_pos z] at h
    cases h
  · rw [if_neg z] at h
    refine ⟨z, ?_⟩
    split at h
    · cases h
    · rename_i hh
      refine ⟨h, fun ps e => ?_⟩
      rw [e] at h
      exact hh ps h
theorem strip_new {t a : Addr} {H : Hp} (h : H a = none) : strip t H a = none := by
  unfold strip
  split
  · rfl
  · rw [h]
theorem strip_ex {t : Addr} {H : Hp} : Evl.Ex (strip t H) H := fun a o h => (strip_le h).2.1
theorem strip_n {t : Addr} {H H' : Hp} (e : ExtN H H') : Evl.Ex (strip t H) H' := fun a o h => e a o (strip_le h).2.1 (strip_le h).2.2
theorem strip_nt {t : Addr} {H : Hp} : ∀ a ps, strip t H a ≠ some (.tbl ps) := fun a ps h => (strip_le h).2.2 ps rfl
/-- B, which holds no table, stands; so do the tables -/
structure Live (T : List (Addr × Str)) (B H : Hp) : Prop where
  ex : Evl.Ex B H
  nt : ∀ a ps, B a ≠ some (.tbl ps)
  tabs : Tabs T H
theorem Live.exN {T : List (Addr × Str)} {B H H' : Hp} (l : Live T B H) (e : ExtN H H') (t : Tabs T H') : Live T B H' := ⟨fun a o h => e a o (l.ex a o h) fun ps z => l.nt a ps (z ▸ h), l.nt, t⟩
theorem Live.go {T : List (Addr × Str)} {B H H' : Hp} (l : Live T B H) (e : Evl.Ex H H') : Live T B H' := ⟨l.ex.trans e, l.nt, l.tabs.ext e⟩
theorem Live.add {T : List (Addr × Str)} {B H : Hp} {p : Addr} {o : HO} (l : Live T B H) (h : H p = some o) (ho : ∀ ps, o ≠ .tbl ps) : Live T (upd B p o) H := ⟨fun a u e => by
  by_cases z : a = p
  · rw [z, upd_same] at e
    rw [z, h]
    exact e
  · rw [upd_ne z] at e
    exact l.ex a u e, fun a ps => by
  by_cases z : a = p
  · rw [z, upd_same]
    exact fun e => ho ps (Option.some.inj e)
  · rw [upd_ne z]
    exact l.nt a ps, l.tabs⟩
theorem Live.fresh {T : List (Addr × Str)} {B H : Hp} {p : Addr} (l : Live T B H) (h : H p = none) : B p = none := by
  cases e : B p with
  | none => rfl
  | some o =>
    have := l.ex p o e
    rw [h] at this
    cases this
section
variable {K : PySem.W.Frag} {σ : L2.St} {G : Hp}
theorem ev_isK {a D : Addr} {d : Option Addr} {fs : List (Str × V)} {c : Addr} {b : Bool} {i : Nat} (hσ : σ[i]? = some (some (.ref a))) (ha : G a = some (ErrAt (.ref D) d a)) (hd : DictAt G d fs) (E : ErrC K D) (hk : PySem.W.kitOne K (.ref D) (.ref c) = some b) :
    Evl.Ev (tCB (fun xs H Q => rIsi K xs H Q ∨ rIsK K xs H Q) (tCons (tVar i) (tCons (tC (.ref c)) tNil))) σ G (.bl b) := fun H1 e Q q =>
  ⟨.ref a, hσ, .inr ⟨a, D, d, fs, .ref c, .ref c, b, rfl, e _ _ ha, hd.imp fun x ⟨y, z⟩ => ⟨y, e _ _ z⟩, E, .own c, hk, q H1 (Evl.Ex.refl H1)⟩⟩
theorem ev_isNone {c : Addr} {b : Bool} {i : Nat} (hσ : σ[i]? = some (some .non)) (hk : PySem.W.kitOne K (.type "NoneType") (.ref c) = some b) :
    Evl.Ev (tCB (fun xs H Q => rIsi K xs H Q ∨ rIsK K xs H Q) (tCons (tVar i) (tCons (tC (.ref c)) tNil))) σ G (.bl b) := fun H1 e Q q =>
  ⟨.non, hσ, .inl ⟨.non, .ref c, .type "NoneType", .ref c, b, rfl, .own c, .base .non, hk, q H1 (Evl.Ex.refl H1)⟩⟩
theorem ev_keptF {a D : Addr} {d : Option Addr} {fs : List (Str × V)} {f : Str} {v : V} {i : Nat} (hσ : σ[i]? = some (some (.ref a))) (ha : G a = some (ErrAt (.ref D) d a)) (hd : DictAt G d fs) (E : ErrC K D) (hn : PySem.W.findIn K (.ref D) f = some none) (hl : fs.lookup f = some v) :
    Evl.Ev (tKeptF K f (tVar i)) σ G v := fun H1 e Q q => ⟨.ref a, hσ, a, D, d, fs, v, rfl, e _ _ ha, hd.imp fun x ⟨y, z⟩ => ⟨y, e _ _ z⟩, E, hn, hl, q H1 (Evl.Ex.refl H1)⟩
/-- a lambda heard that raises an error of the class D: a new tuple -/
theorem lam_raise {T : List (Addr × Str)} {CS D : Addr} {tr : TS} {t : XK → TE} {B H : Hp} {Q : VK} {fs : List (Str × V)} {vs : List V} (l : Live T B H) (hx : PySem.W.exmOne K (.ref D) (.ref CS) = some true)
    (ht : ∀ H1 E Q', Evl.Ex B H1 → (∀ H2 d, Evl.Ex H1 H2 → H2 d = none → E (.ref D) (some d) (upd H2 d (.xd fs))) → t E σ H1 Q')
    (hr : ∀ (G : Hp) (a d : Addr) (σ' : L2.St) (D' : Ends), G a = some (ErrAt (.ref D) (some d) a) → DictAt G (some d) fs → σ'.length = 3 → σ'[1]? = some (some (.ref a)) → (∀ p G', G p = none → Evl.Ex G G' → G' p = some (.tup vs) → D'.rt (.ref p) G') → tr D' σ' G)
    (k : ∀ p H3, Live T (upd B p (.tup vs)) H3 → H3 p = some (.tup vs) → B p = none → Q (.ref p) H3) : tLam T (THeardS K CS tr) t σ H Q := by
  refine ⟨l.tabs, fun H1 eN T1 f => ht H1 _ _ (l.exN eN T1).ex fun H2 d e2 hd => ⟨hx, fun a na σ' hl hσ => ?_⟩⟩
  have ad : d ≠ a := fun z => by rw [← z, upd_same] at na; cases na
  have eG : Evl.Ex H1 (upd (upd H2 d (.xd fs)) a (ErrAt (.ref D) (some d) a)) := (e2.trans (Evl.Ex.new hd)).trans (Evl.Ex.new na)
  refine hr _ a d σ' _ upd_same ⟨d, rfl, by rw [upd_ne ad, upd_same]⟩ hl hσ fun p G' hp e hG' => ?_
  have L := ((l.exN eN T1).go eG).go e
  refine k p G' (L.add hG' fun ps z => nomatch z) hG' ?_
  exact ((l.exN eN T1).go eG).fresh hp
/-- a lambda heard that raises nothing -/
theorem lam_calm {T : List (Addr × Str)} {CS : Addr} {tr : TS} {t : XK → TE} {B H : Hp} {Q : VK} (l : Live T B H)
    (ht : ∀ H1 E Q', Evl.Ex B H1 → (∀ v H2, Evl.Ex H1 H2 → Q' v H2) → t E σ H1 Q')
    (hr : ∀ (G : Hp) (f : Addr) (D' : Ends), (∀ G', Evl.Ex G G' → D'.rt .non G') → tr D' [some (.ref f), some .non, none] G)
    (k : ∀ H3, Live T B H3 → Q .non H3) : tLam T (THeardS K CS tr) t σ H Q :=
  ⟨l.tabs, fun H1 eN T1 f => ht H1 _ _ (l.exN eN T1).ex fun v H2 e2 => hr H2 f _ fun G' e => k G' (((l.exN eN T1).go e2).go e)⟩
end
end Hk
end S_Wk
section S_Ws
namespace Hk
open PySem PySem.Spec PyProof.Rows L2 LamX Tl
/-- isinstance(e, (c1, c2, ..)) of a kept error -/
def rIsKT (K : PySem.W.Frag) : List V → Hp → VK → Prop := fun xs H Q => ∃ (a D tp : Addr) (d : Option Addr) (fs : List (Str × V)) (cs : List V) (us : List Value) (b : Bool), xs = [.ref a, .ref tp] ∧ H a = some (ErrAt (.ref D) d a) ∧ DictAt H d fs ∧ ErrC K D ∧ H tp = some (.tup cs) ∧ Paired ClsV cs us ∧ PySem.W.kitAny K (.ref D) us = some b ∧ Q (.bl b) H
theorem call_isKeptT {X : Cx} : CallR X (.builtin "isinstance") (rIsKT X.K) := by
  intro pins s σ H xs us Q I r h
  obtain ⟨a, D, tp, d, fs, cs, ws, b, rfl, ha, hd, C, hT, k, e, q⟩ := h
  obtain ⟨u1, u2, rfl, r1, r2⟩ := vals2 r
  cases (show u2 = Value.ref tp from r2)
  cases (show u1 = Value.ref a from r1)
  obtain ⟨oe, od, mA, J, _, _⟩ := at_inst I ha hd
  obtain ⟨_, its, rv, o, h1, h2, n, h3⟩ := (show ObjOk X.prog X.w H s.heap tp (.tup cs) from I.hok tp _ hT)
  have e3 := ClsV.all k rv
  subst e3
  obtain ⟨oc, od', dt, sl⟩ := o
  simp only at h2 h3
  subst h2 h3
  exact PySem.W.kia_tup (PySem.W.kitx_exc C.ci C.ga C.gg C.ex C.ha C.hn C.ht C.hm) I.kIn J h1 e (fun z => nomatch z) fun tk => ⟨.bl b, H, I.kept (t' := tk) fun _ _ z => z, rfl, q⟩
theorem call_isAnyT {X : Cx} : CallR X (.builtin "isinstance") (fun xs H Q => rIsiT X.K xs H Q ∨ rIsKT X.K xs H Q) := by
  intro pins s σ H xs us Q I r h
  rcases h with h | h
  · exact call_isiT _ _ _ _ _ _ _ I r h
  · exact call_isKeptT _ _ _ _ _ _ _ I r h
section
variable {K : PySem.W.Frag} {σ : L2.St} {G : Hp}
theorem ev_isKT2 {a D : Addr} {d : Option Addr} {fs : List (Str × V)} {c1 c2 : Addr} {b : Bool} {i : Nat} (hσ : σ[i]? = some (some (.ref a))) (ha : G a = some (ErrAt (.ref D) d a)) (hd : DictAt G d fs) (E : ErrC K D) (hk : PySem.W.kitAny K (.ref D) [.ref c1, .ref c2] = some b) :
    Evl.Ev (tCB (fun xs H Q => rIsiT K xs H Q ∨ rIsKT K xs H Q) (tCons (tVar i) (tCons (tTup (tCons (tC (.ref c1)) (tCons (tC (.ref c2)) tNil))) tNil))) σ G (.bl b) := fun H1 e Q q =>
  ⟨.ref a, hσ, by show 2 ≤ sizeLine; decide, fun tp htp => .inr ⟨a, D, tp, d, fs, [.ref c1, .ref c2], [.ref c1, .ref c2], b, rfl, (e.trans (Evl.Ex.new htp)) _ _ ha, hd.imp fun x ⟨y, z⟩ => ⟨y, (e.trans (Evl.Ex.new htp)) _ _ z⟩, E, upd_same, .cons (.own c1) (.cons (.own c2) .nil), hk, q _ (Evl.Ex.new htp)⟩⟩
end
end Hk
end S_Ws
section S_Wu
namespace Hk
open PySem PySem.Spec PyProof.Rows L2 LamX Tl
/-- a text backward -/
def revS (z : Str) : Str := ⟨((Builtin.Str.strSliceIndices none none (-1) z.length).filterMap (z.cps[·]?)).toArray⟩
def tRevS (te : TE) : TE := fun σ H Q => te σ H fun x H1 => ∃ z, x = .str z ∧ (revS z).length ≤ sizeLine ∧ Q (.str (revS z)) H1
theorem pe_revS {X : Cx} {e : Expr} {te : TE} {k : Nat} {p1 p2 p3 pos : Pos} (he : PE X e te) : PE X (.Subscript e (.Slice none none (some (.UnaryOp .USub (.Constant (.int 1) k p1) p2)) p3) pos) (tRevS te) := by
  refine ⟨fun pins s σ H Q I h => ?_⟩
  refine Subscript_ (thn (he.run pins s σ H _ I h) fun v s1 ⟨x, H1, I1, r1, q1⟩ => ?_)
  obtain ⟨z, ex, hz, q⟩ := q1
  subst ex
  obtain ⟨t, rfl⟩ := r1
  have hst : PO X (some (.UnaryOp .USub (.Constant (.int 1) k p1) p2)) (tPart (tUn (rU fun i => .int (-i)) (tC (.int 1)))) := po_some (pe_un un_neg pe_int)
  refine wpAny_Slice (thn (po_none.run pins s1 σ H1 (fun o H2 => o = none ∧ H2 = H1) I1 ⟨rfl, rfl⟩) fun vl s2 ⟨l, H2, I2, pl, el, e2⟩ => ?_)
  subst el e2
  refine thn (po_none.run pins s2 σ H2 (fun o H3 => o = none ∧ H3 = H2) I2 ⟨rfl, rfl⟩) fun vu s3 ⟨u, H3, I3, pu, eu, e3⟩ => ?_
  subst eu e3
  refine thn (hst.run pins s3 σ H3 (fun o H4 => o = some (-1) ∧ H4 = H3) I3 ⟨1, rfl, -1, rfl, rfl, rfl⟩) fun vs s4 ⟨o, H4, I4, ps, eo, e4⟩ => ?_
  subst eo e4
  have I5 : Inv X pins σ H4 { s4 with heap := s4.heap.push { cls := .type "slice", data := .fields #[vl, vu, vs] } } := I4.kept (t' := s4.toks) fun b ob q => Heap.get?_push_of_some _ q
  obtain ⟨l', rfl, el⟩ := IsPart.raw pl
  obtain ⟨u', rfl, eu⟩ := IsPart.raw pu
  obtain ⟨st', rfl, es⟩ := IsPart.raw ps
  show wpAny (model X.prog X.w) X.A (subscriptTail e (.Slice none none (some (.UnaryOp .USub (.Constant (.int 1) k p1) p2)) p3) (.str z t) (.ref s4.heap.objs.size)) (EP X pins σ Q) X.xe { s4 with heap := s4.heap.push { cls := .type "slice", data := .fields #[partValue l', partValue u', partValue st'] } }
  refine tail_any (ops := [.str z t, .ref s4.heap.objs.size]) (typeIs_str _ _ _) (F.slot_str_getitem.lookup) ?_ (by with_unfolding_all rfl)
  refine wpAny_getItem_str_slice (l := l') (u := u') (st := st') ⟨_, Heap.get?_push_size _ rfl, rfl, rfl⟩ (by rw [es]; rfl) ?_
  unfold sliceMade slicePicked
  rw [el, eu, es]
  have hne : ¬((((some (-1) : Option Int).getD 1 == 1) && (Builtin.Str.strSliceIndices none none ((some (-1) : Option Int).getD 1) z.length).length == z.length) = true) := by
    show ¬((false && _) = true)
    rw [Bool.false_and]
    exact Bool.false_ne_true
  rw [if_neg hne]
  exact ⟨hz, .str (revS z), H4, I5.tok _, ⟨_, rfl⟩, q⟩
/-- a text, some times -/
def mulS (a : Str) (n : Nat) : Str := ⟨(List.replicate n a.cps).foldl (· ++ ·) #[]⟩
def rMulS : R2 := fun x y H Q => ∃ (a : Str) (n : Nat), x = .str a ∧ y = .int (n : Int) ∧ 2 ≤ n ∧ 1 ≤ a.length ∧ a.length * n ≤ 1000 ∧ Q (.str (mulS a n)) H
theorem op_mulS {X : Cx} : OpR X (binaryOp .Mult) rMulS := by
  intro pins s σ H x y v u Q I rx ry h
  obtain ⟨a, n, rfl, rfl, h2, h1, hz, q⟩ := h
  obtain ⟨t, rfl⟩ := rx
  obtain ⟨t2, rfl⟩ := ry
  have hn : n ≤ 1000 := Nat.le_trans (Nat.le_mul_of_pos_left n h1) hz
  have hlong : Builtin.Str.tooLong (a.length * ((n : Int)).toNat) = false := by
    rw [Int.toNat_natCast]
    refine decide_eq_false fun z => ?_
    rw [sizeLine_eq] at z
    exact absurd (Nat.lt_of_lt_of_le z hz) (by decide)
  refine PySem.P.mul_str ?_ (fun _ _ => ?_) (fun _ _ => hlong) ?_
  · rw [decide_eq_false (by omega), decide_eq_false (by omega)]
    rfl
  · have : ((a.length : Nat) : Int) ≤ (2 ^ 63 - 1) / (n : Int) := by
      refine (Int.le_ediv_iff_mul_le (by omega)).mpr ?_
      have : ((a.length : Nat) : Int) * (n : Int) = ((a.length * n : Nat) : Int) := by rw [Int.natCast_mul]
      rw [this]
      have h3 : ((a.length * n : Nat) : Int) ≤ 1000 := by exact_mod_cast hz
      exact Int.le_trans h3 (by decide)
    omega
  · rw [if_neg (by omega), if_neg (by
      rw [Bool.or_eq_true_iff, beq_iff_eq, beq_iff_eq]
      omega), Int.toNat_natCast]
    exact ⟨PySem.fits_reps (by rw [← hlong, Int.toNat_natCast]), .str (mulS a n), H, I.tok _, ⟨_, rfl⟩, q⟩
end Hk
end S_Wu
section S_Wt
namespace Hk
open PySem PySem.Spec PyProof.Rows L2 LamX Tl
/-- the law's own call where no repr is under way, its code object's table tracked -/
theorem law_gTs {P : Program} {w : World} {K : PySem.W.Frag} {mg mb : Str → Option Value} {k : Nat} {fa a : Addr} {Ts : List (Addr × Addr)} {fd : FuncData} {x : Str} {sp : Sp} {s₁ : Shared} {vs : List Value} {ns : List Int}
    (kin : K.In s₁.heap) (hns : s₁.heap.Ns mainGlobals mg) (hb : s₁.heap.Ns builtinsNs mb) (hbb : ∀ x : Str, x ≠ "__name__" → mb x = bootBuiltins x) (hlim : s₁.heap.NoLimit) (hg : s₁.gens = #[])
    (hTs : ∀ p ∈ Ts, s₁.heap.get? p.2 = some { cls := .none, data := .fields #[] } ∧ K.lookup p.2 = none ∧ PySem.W.CodeHd s₁.heap p.1 p.2)
    (hbm : ∃ (bm : Addr) (ob : Obj), mg "__builtins__" = some (.ref bm) ∧ bm ≠ builtinsNs ∧ s₁.heap.get? bm = some ob ∧ ob.cls = .type "module" ∧ ob.dict = some builtinsNs ∧ ob.data = .plain)
    (ha : s₁.heap.get? a = some { cls := .type "list", data := .seq vs.toArray }) (hi : IntsAre vs ns) (hl : ns.length ≤ sizeLine) (hr : Room k callerA)
    (F : ∀ base : Heap, K.In base → base.Ns mainGlobals mg → (∀ p ∈ Ts, TabB base mg p.1 p.2) → FnG P w K mg base k fa fd [x] sp) (hbind : ∀ (s : Shared) (u : Value), BindsTo s fd ⟨[u], []⟩ [(x, u)])
    (hsp : ∀ H : Hp, (∀ p ∈ Ts, H p.2 = some (.tbl #[])) → SqL K H a (ns.map V.int) → sp [.ref a] H (fun v _ => v = .bl true) fun _ _ _ => False) :
    codeAny (model P w) callerA (.call (.ref fa) ⟨[.ref a], []⟩) (fun r s' => r = .ok (.ret (.bool true)) ∧ OldK s₁.heap s'.heap ∧ s'.os = s₁.os ∧ AllBare s'.gens) s₁ := by
  have rv := vals_ints hi
  have tbl : ∀ {b : Addr}, b ∈ Ts.map (·.2) → s₁.heap.get? b = some { cls := .none, data := .fields #[] } ∧ K.lookup b = none := fun {b} hb => by
    obtain ⟨p, hp, rfl⟩ := List.mem_map.mp hb
    exact ⟨(hTs p hp).1, (hTs p hp).2.1⟩
  have aT : a ∉ Ts.map (·.2) := fun z => by
    rw [(tbl z).1] at ha
    have z' : Data.fields #[] = Data.seq vs.toArray _ := congrArg Obj.data (Option.some.inj ha)
    cases z'
  have run : ∀ H : Hp, (∀ p ∈ Ts, H p.2 = some (.tbl #[])) → SqL K H a (ns.map V.int) → HOk P w H s₁.heap → (∀ b u, H b = some u → b ∈ Ts.map (·.2) ∨ (b = a ∧ K.lookup a = none ∧ ∃ o xs, u = .frz o (.lst xs))) →
      codeAny (model P w) callerA (.call (.ref fa) ⟨[.ref a], []⟩) (fun r s' => r = .ok (.ret (.bool true)) ∧ OldK s₁.heap s'.heap ∧ s'.os = s₁.os ∧ AllBare s'.gens) s₁ := by
    intro H hHT hS hok hA
    have keepB : ∀ {b : Addr} {o : Obj}, s₁.heap.get? b = some o → (∀ vs n, o.data ≠ .seq vs n) → o.data ≠ .fields #[] → (hidT s₁.heap H).get? b = some o := fun {b o} e h1 h2 => by
      refine hidT_get e ?_
      cases q : H b with
      | none => rfl
      | some u =>
        rcases hA b u q with e1 | ⟨e1, _⟩
        · rw [(tbl e1).1] at e
          cases e
          exact absurd rfl h2
        · rw [e1, ha] at e
          cases e
          exact absurd rfl (h1 _ _)
    have ns_of : ∀ {b : Addr} {m : Str → Option Value}, s₁.heap.Ns b m → (hidT s₁.heap H).Ns b m := fun {b m} hm => by
      obtain ⟨o, es, ep, e, d, r⟩ := hm
      exact ⟨o, es, ep, keepB e (fun vs n z => by rw [d] at z; cases z) (fun z => by rw [d] at z; cases z), d, r⟩
    have kb : K.In (hidT s₁.heap H) := fun b o e => hidT_get (kin b o e) (by
      cases q : H b with
      | none => rfl
      | some u =>
        rcases hA b u q with e1 | ⟨e1, e2, _⟩
        · rw [(tbl e1).2] at e
          cases e
        · rw [e1, e2] at e
          cases e)
    have hM : Mod K mg (hidT s₁.heap H) := ⟨kb, ns_of hns, ⟨mb, ns_of hb, hbb⟩, hlim.elim fun mc h => ⟨mc, ns_of h.1, h.2⟩⟩
    have e0 : Env0 P w K mg (hidT s₁.heap H) callerA [] s₁ H := ⟨rfl, hM, fun _ _ e => of_hidT e, by rw [hidT_size] <;> exact Nat.le_refl _, trivial, fun _ hb => (nomatch hb), hok, .of_eq hg⟩
    have TB : ∀ p ∈ Ts, TabB (hidT s₁.heap H) mg p.1 p.2 := fun p hp => by
      obtain ⟨hT, nT, hC⟩ := hTs p hp
      refine ⟨?_, ?_, fun z => ?_⟩
      · obtain ⟨o, us, file, tf, flags, tg, inF, text, tt, e1, r1, r2, r3, r4⟩ := hC
        exact ⟨o, us, file, tf, flags, tg, inF, text, tt, keepB e1 (fun vs n z => by rw [r2] at z; cases z) (fun z => by rw [r2] at z; cases z; simp at r3), r1, r2, r3, r4⟩
      · obtain ⟨bm, ob, b1, b2, b3, b4, b5, b6⟩ := hbm
        refine ⟨bm, ob, b1, b2, fun q => ?_, fun q => ?_, keepB b3 (fun vs n z => by rw [b6] at z; cases z) (fun z => by rw [b6] at z; cases z), b4, b5, b6⟩
        · obtain ⟨o, es, ep, e, hd, _⟩ := hns
          rw [q, e] at b3
          cases b3
          rw [hd] at b6
          cases b6
        · rw [q, hT] at b3
          cases b3
          cases b6
      · obtain ⟨o, es, ep, e, hd, _⟩ := hns
        rw [z, hT] at e
        cases e
        cases hd
    refine codeAny_mono ((F _ kb (ns_of hns) TB).go rfl hr e0 (us := [.ref a]) (hbind s₁ (.ref a)) (vs := [.ref a]) (.cons rfl .nil) (hsp H hHT hS)) fun r s' h => ?_
    match r, h with
    | .ok (.ret u), h =>
      obtain ⟨v, H', os, bare, un, hok', r', q⟩ := h
      cases (show v = .bl true from q)
      cases (show u = Value.bool true from r')
      have grown : ∀ p ∈ Ts, ∃ more, s'.heap.get? p.2 = some { cls := .none, data := .fields more } := fun p hp => by
        obtain ⟨more, zT⟩ := un.tbls p.2 #[] (hHT p hp)
        have q := hok' p.2 _ zT
        rw [Array.empty_append] at q
        exact ⟨more, q⟩
      have others : ∀ b o, b ∉ Ts.map (·.2) → s₁.heap.get? b = some o → s'.heap.get? b = some o := fun b o nb e => by
        cases q : H b with
        | none => exact un.keep b o e q (fun y => (nomatch y)) (fun y => (nomatch y))
        | some u =>
          rcases hA b u q with z | ⟨_, _, ob, xs, rfl⟩
          · exact absurd z nb
          · obtain ⟨e1, _⟩ := hok b _ q
            obtain ⟨e2, _⟩ := hok' b _ (un.frzs b ob _ q)
            rw [e] at e1
            cases e1
            exact e2
      refine ⟨rfl, ⟨fun b o e => ?_, fun b o e => ?_⟩, os, bare⟩
      · by_cases hb : b ∈ Ts.map (·.2)
        · obtain ⟨p, hp, rfl⟩ := List.mem_map.mp hb
          obtain ⟨hT, _, hC⟩ := hTs p hp
          obtain ⟨more, hm⟩ := grown p hp
          rw [hT] at e
          cases e
          exact .inr (.inl ⟨(hC.tab hT).isCodeTable, rfl, #[], more, rfl, by rw [Array.empty_append]; exact hm⟩)
        · exact .inl (others b o hb e)
      · by_cases hb : b ∈ Ts.map (·.2)
        · obtain ⟨p, hp, rfl⟩ := List.mem_map.mp hb
          obtain ⟨more, hm⟩ := grown p hp
          exact ⟨_, hm⟩
        · exact ⟨o, others b o hb e⟩
    | .error e, h => exact False.elim h
    | .ok .next, h => exact False.elim h
    | .ok .brk, h => exact False.elim h
    | .ok .cont, h => exact False.elim h
  have mem : ∀ p ∈ Ts, p.2 ∈ Ts.map (·.2) := fun p hp => List.mem_map.mpr ⟨p, hp, rfl⟩
  cases hk : K.lookup a with
  | some o =>
    have e := kin a o hk
    rw [ha] at e
    cases e
    refine run (fun b => if b ∈ Ts.map (·.2) then some (.tbl #[]) else none) (fun p hp => if_pos (mem p hp)) (.inr ⟨_, vs.toArray, _, hk, rfl, rfl, rfl, ?_, by simpa using rv⟩) (fun b u z => ?_) (fun b u z => ?_)
    · rw [List.size_toArray, hi.length]
      exact hl
    · dsimp only at z
      by_cases hb : b ∈ Ts.map (·.2)
      · rw [if_pos hb] at z
        cases z
        exact (tbl hb).1
      · rw [if_neg hb] at z
        cases z
    · by_cases hb : b ∈ Ts.map (·.2)
      · exact .inl hb
      · rw [if_neg hb] at z
        cases z
  | none =>
    refine run (fun b => if b ∈ Ts.map (·.2) then some (.tbl #[]) else if b = a then some (.frz { cls := .type "list", data := .seq vs.toArray } (.lst (ns.map V.int))) else none) (fun p hp => if_pos (mem p hp)) (.inl (.inr ⟨_, by dsimp only; rw [if_neg aT, if_pos rfl]⟩)) (fun b u z => ?_) fun b u z => ?_
    · dsimp only at z
      by_cases hb : b ∈ Ts.map (·.2)
      · rw [if_pos hb] at z
        cases z
        exact (tbl hb).1
      · rw [if_neg hb] at z
        by_cases hb2 : b = a
        · rw [if_pos hb2] at z
          cases z
          subst hb2
          exact ⟨ha, by rw [List.length_map]; exact hl, vs, _, rv, ha⟩
        · rw [if_neg hb2] at z
          cases z
    · by_cases hb : b ∈ Ts.map (·.2)
      · exact .inl hb
      · rw [if_neg hb] at z
        by_cases hb2 : b = a
        · rw [if_pos hb2] at z
          cases z
          exact .inr ⟨hb2, hk, _, _, rfl⟩
        · rw [if_neg hb2] at z
          cases z
/-- what is known of a def whose lambdas' table is tracked -/
def TabOf (K : PySem.W.Frag) (mg : Str → Option Value) (q : Program) (p : Addr × Addr) : Prop := ∃ (name : Str) (f : Addr) (fd : FuncData) (o : Obj) (e : Value) (dd : Option Addr) (vs : Array Value) (sl : Array (Option Value)),
  ((recsOf q).any fun e => e.name == name) = true ∧ mg name = some (.ref f) ∧ K.lookup f = some o ∧ o.data = .func fd ∧ fd.code = .ref p.1 ∧ K.lookup p.1 = some ⟨e, dd, .fields vs, sl⟩ ∧ vs[11]? = some (.ref p.2) ∧ K.lookup p.2 = none
theorem walk_gTs {l : PySem.W.OpenLaw} {n k : Nat} {q : Program} {loose : List Str} {XP : (Str → Option Value) → Heap → Prop} {YP : World → Heap → Prop} {d : DefRec} {K : Params → PySem.W.Frag} {x : Str}
    (hn : l.most = some n) (hn2 : n ≤ sizeLine) (hdf : d.params.defaults = []) (hr : Room k callerA) (hY : ∀ (w : World) (h : Heap), YP w h → (K w.params).In h)
    (F : ∀ (w : World) (mg : Str → Option Value) (fa : Addr) (h : Heap), (K w.params).In h → h.Ns mainGlobals mg → mg d.name = some (.ref fa) →
      ∃ (fd : FuncData) (Ts : List (Addr × Addr)) (sp : Sp), (∀ p ∈ Ts, TabOf (K w.params) mg q p) ∧ (∀ (s : Shared) (u : Value), BindsTo s fd ⟨[u], []⟩ [(x, u)]) ∧
        (∀ (H : Hp) (a : Addr) (ns : List Int), ns.length ≤ n → (∀ p ∈ Ts, H p.2 = some (.tbl #[])) → SqL (K w.params) H a (ns.map V.int) → sp [.ref a] H (fun v _ => v = .bl true) fun _ _ _ => False) ∧
        ∀ base : Heap, (K w.params).In base → base.Ns mainGlobals mg → (∀ p ∈ Ts, TabB base mg p.1 p.2) → FnG l.prog w (K w.params) mg base k fa fd [x] sp) :
    PySem.W.WalkO q loose XP YP l.row.toRowW d [] (fun f vs => PySem.call f vs) := by
  refine Att.attach_call hn hdf fun w s₀ s₁ mg mb fa o pm cd doc a vs ns G Y ho hd hcd hmg hobj hints hlen hg => ?_
  have kin := hY w _ Y
  obtain ⟨fd, Ts, sp, hTs, h1, hs, h2⟩ := F w mg fa _ kin G.T.g hmg
  have ts : ∀ p ∈ Ts, s₁.heap.get? p.2 = some { cls := .none, data := .fields #[] } ∧ (K w.params).lookup p.2 = none ∧ PySem.W.CodeHd s₁.heap p.1 p.2 := fun p hp => by
    obtain ⟨name, f, fd', o1, e, dd, us, sl, hrec, hmf, k1, k2, k3, k4, k5, nT⟩ := hTs p hp
    obtain ⟨dL, hm, hn1⟩ := List.any_eq_true.mp hrec
    have hn2' : dL.name = name := beq_iff_eq.mp hn1
    obtain ⟨a', o', fd2, c', P', g1, g2, g3, g4, g5, g6⟩ := G.T.tab dL hm
    rw [hn2', hmf] at g1
    cases g1
    have q1 := kin _ _ k1
    rw [q1] at g2
    cases g2
    rw [k2] at g3
    cases g3
    rw [k3] at g4
    cases g4
    have hC := PySem.W.CodeHd.of g5 g6
    obtain ⟨⟨oc, vc, e1, _, e3, e4⟩, hP⟩ := g6
    have q2 := kin _ _ k4
    rw [q2] at e1
    cases e1
    cases e3
    rw [k5] at e4
    cases e4
    exact ⟨hP, nT, hC⟩
  exact law_gTs kin G.T.g G.T.b G.T.builtins G.T.nolimit hg ts G.T.bmain hobj hints (Nat.le_trans hlen hn2) hr h2 h1 fun H hHT hS => hs H a ns hlen hHT hS
end Hk
end S_Wt
section S_Wv
namespace Hk
open PySem PySem.Spec PyProof.Rows L2 LamX Tl
/-- repr of data at an address, of None or of a truth -/
def rReprX (K : PySem.W.Frag) : List V → Hp → VK → Prop := fun xs H Q => rReprB K xs H Q ∨ ∃ b : Bool, xs = [.bl b] ∧ Q (.str (if b then "True" else "False")) H
theorem call_reprX {X : Cx} (hg : X.A.guards = some []) (hu : X.A.units + 64 < cLine) : CallR X (.builtin "repr") (rReprX X.K) := by
  intro pins s σ H xs us Q I r h
  rcases h with h | ⟨b, rfl, q⟩
  · exact call_reprB hg hu _ _ _ _ _ _ _ I r h
  · obtain ⟨u, rfl, ru⟩ := vals1 r
    cases ru
    exact PySem.P.repr_of_bool ⟨.str (if b then "True" else "False"), H, I.tok _, ⟨_, rfl⟩, q⟩
theorem ev_reprT {K : PySem.W.Frag} {te : TE} {σ : L2.St} {H : Hp} {b : Bool} (h : Evl.Ev te σ H (.bl b)) : Evl.Ev (tCB (rReprX K) (tCons te tNil)) σ H (.str (if b then "True" else "False")) := fun H1 e Q q =>
  h H1 e _ fun H2 e2 => .inr ⟨b, rfl, q H2 e2⟩
theorem strip_tb {T t : Addr} {H : Hp} {ps : Array Value} (hT : H T = some (.tbl ps)) {a : Addr} {o : HO} (h : H a = some o) (hn : ∀ ps, o ≠ .tbl ps) : strip T H a = some o := strip_at h (fun z => by
  rw [z, hT] at h
  exact hn ps (Option.some.inj h).symm) hn
theorem strip_extN {T : Addr} {H H' : Hp} {ps : Array Value} (hT : H T = some (.tbl ps)) (e : Evl.Ex (strip T H) H') : ExtN H H' := fun a o h hn => e a o (strip_tb (t := T) hT h hn)
end Hk
end S_Wv
section S_Wx
namespace Hk
open PySem PySem.Spec PyProof.Rows L2 LamX Tl
section
variable {prog : Program} {w : World} {A : Around} {E : Value → Shared → Prop} {s : Shared}
theorem applied_rev {sl : Addr} {vs : Value} {n : Nat} {Q : Int × Int × Nat → Shared → Prop} (hs : s.heap.IsSliceOf sl .none .none vs) (ps : IsPart vs (some (-1)))
    (h : Q ((n : Int) - 1, -1, n) s) : wpAny (model prog w) A (Builtin.Slice.sliceApplied (.ref sl) (pure (n : Int))) Q E s := by
  obtain ⟨os, hos, hcs, hds⟩ := id hs
  unfold Builtin.Slice.sliceApplied Builtin.Slice.sliceFields
  refine wpAny_bind (wpAny_bind (wpAny_field hos hds (x := .none) rfl (wpAny_bind (wpAny_field hos hds (x := .none) rfl (wpAny_bind (wpAny_field hos hds (x := vs) rfl (wpAny_pure ?_)))))))
  refine wpAny_bind (HT.slicePart_ ps ?_)
  show wpAny _ _ (if ((-1 : Int) == 0) = true then _ else _) _ _ s
  rw [if_neg (by decide)]
  refine wpAny_bind (HT.slicePart_ .none (wpAny_bind (HT.slicePart_ .none (wpAny_bind (wpAny_pure ?_)))))
  show wpAny _ _ (pure ((n : Int) - 1, (-1 : Int), Builtin.Slice.slicePlaces ((n : Int) - 1) (-1) (-1))) _ _ s
  have e : Builtin.Slice.slicePlaces ((n : Int) - 1) (-1) (-1) = n := by
    unfold Builtin.Slice.slicePlaces
    rw [if_neg (by decide)]
    by_cases z : n = 0
    · subst z; decide
    · rw [if_pos (by omega)]
      have : ((n : Int) - 1 - -1 - 1) / (- -1) = (n : Int) - 1 := by
        rw [Int.neg_neg, Int.ediv_one]
        omega
      rw [this]
      omega
  rw [e]
  exact wpAny_pure h
theorem fm_congr {α β : Type} {f g : α → Option β} : ∀ {l : List α}, (∀ x ∈ l, f x = g x) → l.filterMap f = l.filterMap g
  | [], _ => rfl
  | a :: r, h => by rw [List.filterMap_cons, List.filterMap_cons, h a List.mem_cons_self, fm_congr fun x hx => h x (List.mem_cons_of_mem _ hx)]
theorem pick_rev (xs : Array Value) : ((List.range xs.size).filterMap fun (m : Nat) => xs[((xs.size : Int) - 1 + (m : Int) * (-1)).toNat]?).toArray = xs.toList.reverse.toArray := by
  have h := HT.pick_gen xs.reverse 0 xs.size
  have e : ((List.range xs.size).filterMap fun (m : Nat) => xs[((xs.size : Int) - 1 + (m : Int) * (-1)).toNat]?) = (List.range xs.size).filterMap fun (m : Nat) => xs.reverse[(((0 : Nat) : Int) + (m : Int) * 1).toNat]? := by
    refine fm_congr fun m hm => ?_
    have hm := List.mem_range.mp hm
    have h1 : ((xs.size : Int) - 1 + (m : Int) * (-1)).toNat = xs.size - 1 - m := by omega
    have h2 : (((0 : Nat) : Int) + (m : Int) * 1).toNat = m := by omega
    rw [h1, h2, Array.getElem?_reverse hm]
  rw [e, h, List.drop_zero, List.take_of_length_le (by simp)]
  simp
theorem getItem_tuple_rev {t sl : Addr} {items : Array Value} {vs : Value} {Q : Value → Shared → Prop} (ht : IsTup s.heap t items) (hs : s.heap.IsSliceOf sl .none .none vs) (ps : IsPart vs (some (-1)))
    (h : Q (.ref s.heap.objs.size) { s with heap := s.heap.push { cls := .type "tuple", data := .seq items.toList.reverse.toArray } })
    (hsz : items.size ≤ sizeLine) : wpAny (model prog w) A (getItem (.ref t) (.ref sl)) Q E s := by
  have htake : sizeOk (.seq items.toList.reverse.toArray) := by
    show items.toList.reverse.toArray.size ≤ sizeLine
    rw [List.size_toArray, List.length_reverse, Array.length_toList]
    exact hsz
  obtain ⟨os, hos, hcs, hds⟩ := id hs
  have hTs : s.TypeIs (.ref sl) "slice" := ⟨os, hos, hcs⟩
  unfold getItem
  try with_reducible refine wpAny_holding ?_
  first | refine wpAny_bind (wpAny_pure ?_) | skip
  refine wpAny_bind (wpAny_sequenceKey ht.typeIs (by decide) ?_)
  refine wpAny_bind (wpAny_callSpecial?_slot (name := Str.ofString "__getitem__") ht.typeIs PyProof.Rows.slot_tuple_getitem
    (wpAny_call_entry PyProof.Rows.slot_tuple_getitem ht.typeIs PyProof.Rows.entry_tuple_getitem ?_ (PyProof.Rows.args_tuple_getitem _ _)))
  show wpAny _ _ (Builtin.Tuple.tupleItemsOf (.ref t) >>= _) _ _ s
  refine wpAny_bind (tupleItemsOf_ ht ?_)
  refine wpAny_bind (wpAny_typeOf hTs ?_)
  rw [if_pos (by decide)]
  refine wpAny_bind (applied_rev hs ps ?_)
  have hno : ¬ ((((items.size : Int) - 1) == 0 && (-1 : Int) == 1 && items.size == items.size) = true) := by
    rw [show ((-1 : Int) == 1) = false from rfl, Bool.and_false, Bool.false_and]
    exact Bool.false_ne_true
  show wpAny _ _ (if ((((items.size : Int) - 1) == 0 && (-1 : Int) == 1 && items.size == items.size) = true) then _ else _) _ _ s
  rw [if_neg hno, pick_rev]
  first
    | exact wpAny_bind (m := Builtin.Tuple.tupleExact _) (wpAny_newObj_type (wpAny_pure ⟨_, rfl, wpAny_pure h⟩) htake)
    | exact wpAny_bind (m := Builtin.Tuple.tupleExact _) (wpAny_newObj_type (wpAny_bind (wpAny_pure (wpAny_pure ⟨_, rfl, wpAny_pure h⟩))) htake)
    | exact wpAny_bind (wpAny_bind (m := Builtin.Tuple.tupleExact _) (wpAny_newObj_type (wpAny_pure (wpAny_pure ⟨_, rfl, wpAny_pure h⟩)) htake))
    | exact wpAny_bind (wpAny_bind (m := Builtin.Tuple.tupleExact _) (wpAny_newObj_type (wpAny_pure ⟨_, rfl, wpAny_pure h⟩) htake))
end
/-- a tuple backward -/
def tRevT (K : PySem.W.Frag) (te : TE) : TE := fun σ H Q => te σ H fun x H1 => ∃ a xs, x = .ref a ∧ SqT K H1 a xs ∧ ∀ p, H1 p = none → Q (.ref p) (upd H1 p (.tup xs.reverse))
theorem pe_revT {X : Cx} {e : Expr} {te : TE} {k : Nat} {p1 p2 p3 pos : Pos} (he : PE X e te) : PE X (.Subscript e (.Slice none none (some (.UnaryOp .USub (.Constant (.int 1) k p1) p2)) p3) pos) (tRevT X.K te) := by
  refine ⟨fun pins s σ H Q I h => ?_⟩
  refine Subscript_ (thn (he.run pins s σ H _ I h) fun v s1 ⟨x, H1, I1, r1, q1⟩ => ?_)
  obtain ⟨a, xs, ex, hx, q⟩ := q1
  subst ex
  cases r1
  have hst : PO X (some (.UnaryOp .USub (.Constant (.int 1) k p1) p2)) (tPart (tUn (rU fun i => .int (-i)) (tC (.int 1)))) := po_some (pe_un un_neg pe_int)
  refine wpAny_Slice (thn (po_none.run pins s1 σ H1 (fun o H2 => o = none ∧ H2 = H1) I1 ⟨rfl, rfl⟩) fun vl s2 ⟨l, H2, I2, pl, el, e2⟩ => ?_)
  subst el e2
  refine thn (po_none.run pins s2 σ H2 (fun o H3 => o = none ∧ H3 = H2) I2 ⟨rfl, rfl⟩) fun vu s3 ⟨u, H3, I3, pu, eu, e3⟩ => ?_
  subst eu e3
  refine thn (hst.run pins s3 σ H3 (fun o H4 => o = some (-1) ∧ H4 = H3) I3 ⟨1, rfl, -1, rfl, rfl, rfl⟩) fun vs s4 ⟨o, H4, I4, ps, eo, e4⟩ => ?_
  subst eo e4
  have I5 : Inv X pins σ H4 { s4 with heap := s4.heap.push { cls := .type "slice", data := .fields #[vl, vu, vs] } } := I4.kept (t' := s4.toks) fun b ob q => Heap.get?_push_of_some _ q
  obtain ⟨its, r, ht, hz⟩ := I5.tuple hx
  have hlen := r.length
  cases pl
  cases pu
  show wpAny (model X.prog X.w) X.A (subscriptTail e (.Slice none none (some (.UnaryOp .USub (.Constant (.int 1) k p1) p2)) p3) (.ref a) (.ref s4.heap.objs.size)) (EP X pins σ Q) X.xe { s4 with heap := s4.heap.push { cls := .type "slice", data := .fields #[.none, .none, vs] } }
  refine tail_any (ops := [.ref a, .ref s4.heap.objs.size]) ht.typeIs (PyProof.Rows.slot_tuple_getitem.lookup) ?_ (by with_unfolding_all rfl)
  refine getItem_tuple_rev ht (Heap.IsSliceOf.new _ .none .none vs) ps ?_ (by rw [List.size_toArray]; omega)
  refine ⟨.ref _, _, I5.laid (t' := s4.toks) (o := .tup xs.reverse) (fun b ob q => Heap.get?_push_of_some _ q) (Nat.le_refl _) ?_, rfl, q _ (I5.hok.fresh (Nat.le_refl _))⟩
  exact ⟨by rw [List.length_reverse]; exact hz, _, r.reverse, IsTup.new _ _⟩
end Hk
end S_Wx
section S_Wy
namespace Hk
open PySem PySem.Spec PyProof.Rows L2 LamX Tl
/-! ### a call of a def that wants no repr under way -/
theorem pe_callG {X : Cx} {k : Nat} {f : Addr} {fd : FuncData} {ps : List Str} {sp : Sp} {E : XK} {x : Str} {p pos : Pos} {e : Expr} {es : List Expr} {t : TA} (F : FnG X.prog X.w X.K X.mg X.base k f fd ps sp) (hgd : X.A.guards = some []) (hr : Room k X.A) (hg : Gl X x) (hm : X.mg x = some (.ref f))
    (hk : PySem.W.keepIn X.K (.ref f) = true) (hb : Binds X.K fd ps []) (hx : Passes CX0 X E) (ha : PA X (e :: es) t) (hdb : (x == ("__debug__" : Str)) = false := by decide) (he : starEach (e :: es) X.env = (false, eval e X.env) :: starEach es X.env := by rfl)
    (hpl : (backTo pos (starEach es X.env)).any (·.1) = false := by rfl) : PE X (.Call (.Name x p) (e :: es) [] pos) (tCall sp [] E t) := by
  constructor
  intro pins s σ H Q I h
  refine wpAny_Call_Name_kw (ld_glob I hg hm (PySem.W.callWith_K (h₀ := X.base) I.ok.mod.kin hk (thn (ha.run pos pins s σ H _ I h) fun us s1 hv => ?_) he hpl) hdb)
  obtain ⟨vs, H1, I1, r, q⟩ := hv
  rw [List.append_nil] at q
  refine ⟨I1.kIn, wpAny_call (codeAny_mono (F.go hgd hr I1.env0 (by
    have := hb s1 us I1.kIn (by rw [List.append_nil, ← r.length]; exact F.len q)
    rwa [List.append_nil] at this) r q) fun z s' hq => ?_)⟩
  match z, hq with
  | .error e, hq => exact hx pins σ H1 s1 e s' I1 hq
  | .ok (.ret u), hq => exact I1.after hq
  | .ok .next, hq => exact hq.elim
  | .ok .brk, hq => exact hq.elim
  | .ok .cont, hq => exact hq.elim
theorem FnG.mono {P : Program} {w : World} {K : PySem.W.Frag} {mg : Str → Option Value} {base : Heap} {j k : Nat} {f : Addr} {fd : FuncData} {ps : List Str} {sp : Sp} (F : FnG P w K mg base j f fd ps sp) (h : j ≤ k) : FnG P w K mg base k f fd ps sp := ⟨F.len, fun a b c d e g => F.go a (b.mono h) c d e g⟩
theorem addr_snoc {as : List Addr} {p : Addr} {i : Nat} {a : Addr} (h : (as ++ [p])[i]? = some a) : (i < as.length ∧ as[i]? = some a) ∨ (i = as.length ∧ p = a) := by
  rcases Nat.lt_or_ge i as.length with z | z
  · rw [List.getElem?_append_left z] at h
    exact .inl ⟨z, h⟩
  · rw [List.getElem?_append_right z] at h
    rcases Nat.lt_or_ge (i - as.length) 1 with y | y
    · have e : i - as.length = 0 := by omega
      rw [e] at h
      cases h
      exact .inr ⟨by omega, rfl⟩
    · rw [List.getElem?_eq_none (by rw [List.length_singleton]; exact y)] at h
      cases h
section
open Evl
variable {K : PySem.W.Frag} {σ : L2.St} {H : Hp}
/-- a comprehension whose items are new objects, one each -/
theorem go_lcN {wi : TI} {g : TG} {te : TE} {vs : List Nat} {n : Nat} {Y : Nat → Hp → V → Hp → Prop} {s : Nat → L2.St → L2.St} {o : Nat → HO} (hw : EvI wi σ H n Y) (aim : Aims g n Y s) (hs : ∀ i, wipe (s i (wipe σ vs)) vs = wipe σ vs) (hn : n ≤ 90000)
    (he : ∀ i, i < n → ∀ H1, Ex H H1 → ∀ Q : VK, (∀ p H2, H1 p = none → Ex H1 H2 → H2 p = some (o i) → Q (.ref p) H2) → te (s i (wipe σ vs)) H1 Q) (H1 : Hp) (e : Ex H H1) (Q : VK)
    (q : ∀ (D : Addr) (as : List Addr) (H2 : Hp), H1 D = none → Ex H1 H2 → H2 D = some (.lst (as.map V.ref)) → as.length = n → (∀ (i : Nat) (a : Addr), as[i]? = some a → H2 a = some (o i)) → Q (.ref D) H2) :
    tLc wi g tYes te vs σ H1 Q :=
  hw H1 e _ fun J G H2 e2 w sG D hD => lc_it w (fun i H' => Ex H2 H' ∧ ∃ as : List Addr, H' D = some (.lst (as.map V.ref)) ∧ as.length = i ∧ (∀ (k : Nat) (a : Addr), as[k]? = some a → H1 a = none ∧ H' a = some (o k) ∧ a ≠ D))
    ⟨Ex.new hD, [], upd_same, rfl, fun i v h => by simp at h⟩ (fun i H' _ p => sG H' ((e.trans e2).trans p.1) fun a o _ ha => p.1 _ _ ha)
    (fun i x A B hi p y => by
      obtain ⟨p1, as, p3, p4, p5⟩ := p
      obtain ⟨ab, k⟩ := aim i (wipe σ vs) A x B hi y
      refine k _ ⟨hs i, ?_⟩
      show te (s i (wipe σ vs)) B _
      refine he i hi B (((e.trans e2).trans p1).trans ab) _ fun p C hp eC hC => ⟨as.map V.ref, eC _ _ (ab _ _ p3), sz_lt (by rw [List.length_map]; omega), ((p1.trans ab).trans eC).mut hD, as ++ [p], ?_, by rw [List.length_append, p4] <;> rfl, fun j a ha => ?_⟩
      · rw [upd_same, List.map_append]
        rfl
      · rcases addr_snoc ha with ⟨_, ha⟩ | ⟨rfl, rfl⟩
        · obtain ⟨q1, q2, q3⟩ := p5 j a ha
          exact ⟨q1, by rw [upd_ne q3]; exact eC _ _ (ab _ _ q2), q3⟩
        · have pD : p ≠ D := fun z => by rw [z, ab _ _ p3] at hp; cases hp
          exact ⟨fresh_back ((e2.trans p1).trans ab) hp, by rw [upd_ne pD, p4]; exact hC, pD⟩)
    (fun H' p => by
      obtain ⟨p1, as, p3, p4, p5⟩ := p
      exact q D as H' (fresh_back e2 hD) (e2.trans p1) p3 p4 fun i a ha => (p5 i a ha).2.1)
end
end Hk
end S_Wy
section S_Xa
namespace EnL
open PySem PySem.Spec PySem.Calls PyProof.Rows
section
variable {M : Model} {A : Around} {E : Value → Shared → Prop} {s : Shared} {env : Env}
theorem callWith_typeB {pos : Pos} {T : String} {first : List Value} {args : List (Bool × Sem Value)} {keywords : List (Option Str × Sem Value)} {Q : Value → Shared → Prop}
    (hplain : args.any (·.1) = false) (hkw : keywords.any (·.1.isNone) = false)
    (h : wpAny M A (evalArgs (.type T) true args keywords) (fun a s₁ => wpAny M A (call (.type T) (first ++ a.pos) a.kw) Q E s₁) E s) :
    wpAny M A (callWith pos (.type T) first args keywords) Q E s := by
  unfold callWith
  refine wpAny_bind (wpAny_holding (wpAny_mono h (fun a s₁ h₁ => wpAny_bind (wpAny_standAt ?_)) fun _ _ x => x))
  simp only [hplain, hkw, Bool.or_false]
  refine wpAny_bind (wpAny_pure ?_)
  exact wpAny_bind (wpAny_mono h₁ (fun r s₂ hr => wpAny_bind (wpAny_holding (wpAny_point (wpAny_pure hr)))) fun _ _ x => x)
theorem callWith_typeKw {pos : Pos} {T : String} {e : Expr} {rest : List Expr} {kws : List Keyword} {Q : Value → Shared → Prop}
    (h : wpAny M A (spliced (backTo pos (starEach (e :: rest) env))) (fun vs s₁ => wpAny M A (evalAll ((backToKw pos (keywordEach kws env)).map (·.2)))
      (fun kvs s₂ => wpAny M A (call (.type T) vs (((backToKw pos (keywordEach kws env)).filterMap (·.1)).zip kvs)) Q E s₂) E s₁) E s)
    (he : backTo pos (starEach (e :: rest) env) = (false, eval e env) :: backTo pos (starEach rest env) := by rfl)
    (hplain : (backTo pos (starEach (e :: rest) env)).any (·.1) = false := by rfl)
    (hall : (backToKw pos (keywordEach kws env)).all (·.1.isSome) = true := by rfl)
    (hkw : (backToKw pos (keywordEach kws env)).any (·.1.isNone) = false := by rfl) :
    wpAny M A (callWith pos (.type T) [] (backTo pos (starEach (e :: rest) env)) (backToKw pos (keywordEach kws env))) Q E s := by
  refine callWith_typeB hplain hkw ?_
  rw [he] at h ⊢
  exact evalArgs_kwB hall h
end
/-- the counter's result tuple is held by another -/
abbrev EnOut (h : Heap) (e it : Addr) (c : Int) (old : Value) (a : Addr) (f : Bool) : Prop :=
  h.get? e = some { cls := .type "enumerate", dict := none, data := .fields #[rawInt a, .bool f, .ref it, rawInt c, .none, old], slots := #[] }
section
variable {prog : Program} {w : World} {A : Around} {E : Value → Shared → Prop} {s : Shared}
theorem next_out0 {e it l a : Addr} {oa : Obj} {i : Nat} {c : Int} {items : Array Value} {x old : Value} {f : Bool} {Q : Value → Shared → Prop}
    (he : EnOut s.heap e it c old a f) (ha : s.heap.get? a = some oa) (hae : a ≠ e) (hai : a ≠ it) (hit : s.heap.IsListIter it l i) (hl : s.heap.IsList l items) (hx : items[i]? = some x) (hne : e ≠ it)
    (hQ : ∀ h', EnOut h' e it (c + 1) old a true → h'.IsListIter it l (i + 1) →
      h'.get? s.heap.objs.size = some { cls := .type "tuple", data := .seq #[.int c s.toks, x] } → h'.objs.size = s.heap.objs.size + 1 →
      (∀ b o, b ≠ e → b ≠ it → s.heap.get? b = some o → h'.get? b = some o) → Q (.ref s.heap.objs.size) { s with heap := h', toks := s.toks + 1 }) :
    wpAny (model prog w) A (Builtin.«enumerate.__next__» ⟨[.ref e], []⟩) (fun fin s' => ∃ v, fin = .done (.ret v) ∧ Q v s') E s := by
  obtain ⟨hp, g, d, tk, os⟩ := s
  show wpAny _ _ (field (.ref e) 2 >>= _) _ _ _
  refine wpAny_bind (wpAny_field he rfl (x := .ref it) rfl ?_)
  refine wpAny_bind (wpAny_nextOf_list_item hit hl hx fun h₁ hit₁ hs₁ => ?_)
  replace hs₁ : Heap.SameBut it hp h₁ := hs₁
  have he₁ : EnOut h₁ e it c old a f := (hs₁.2 e hne).trans he
  show wpAny _ _ (field (.ref e) 3 >>= _) _ _ ⟨h₁, g, d, tk, os⟩
  refine wpAny_bind (wpAny_field he₁ rfl (x := rawInt c) rfl ?_)
  show wpAny _ _ (field (.ref e) 4 >>= _) _ _ ⟨h₁, g, d, tk, os⟩
  refine wpAny_bind (wpAny_field he₁ rfl (x := .none) rfl ?_)
  show wpAny _ _ (mkInt c >>= _) _ _ ⟨h₁, g, d, tk, os⟩
  refine wpAny_bind (wpAny_mkInt ?_)
  show wpAny _ _ (setField (.ref e) 3 (rawInt (c + 1)) >>= _) _ _ ⟨h₁, g, d, tk + 1, os⟩
  refine wpAny_bind (wpAny_setField_rec he₁ (by simp) fun h₂ he₂ hs₂ => ?_)
  replace hs₂ : Heap.SameBut e h₁ h₂ := hs₂
  replace he₂ : EnOut h₂ e it (c + 1) old a f := he₂
  show wpAny _ _ (setField (.ref e) 4 .none >>= _) _ _ ⟨h₂, g, d, tk + 1, os⟩
  refine wpAny_bind (wpAny_setField_rec he₂ (by simp) fun h₃ he₃ hs₃ => ?_)
  replace hs₃ : Heap.SameBut e h₂ h₃ := hs₃
  replace he₃ : EnOut h₃ e it (c + 1) old a f := he₃
  show wpAny _ _ (newTuple [.int c tk, x] >>= _) _ _ ⟨h₃, g, d, tk + 1, os⟩
  refine wpAny_bind (wpAny_newTuple ?_)
  have he₄ : EnOut (h₃.push { cls := .type "tuple", data := .seq #[.int c tk, x] }) e it (c + 1) old a f := Heap.get?_push_of_some _ he₃
  generalize hh₄ : h₃.push { cls := .type "tuple", data := .seq #[.int c tk, x] } = h₄ at he₄
  have hsz : h₃.objs.size = hp.objs.size := by rw [hs₃.1, hs₂.1, hs₁.1]
  have hel : e < hp.objs.size := Heap.lt_size he
  have ht₄ : h₄.get? hp.objs.size = some { cls := .type "tuple", data := .seq #[.int c tk, x] } := by rw [← hh₄, ← hsz]; exact Heap.get?_push_size _ rfl
  have hz₄ : h₄.objs.size = hp.objs.size + 1 := by rw [← hh₄, Heap.size_push, hsz]
  have hk₄ : ∀ b o, b ≠ e → b ≠ it → hp.get? b = some o → h₄.get? b = some o := fun b o hbe hbi hb => by
    rw [← hh₄]; exact Heap.get?_push_of_some _ (hs₃.extBut b o hbe (hs₂.extBut b o hbe (hs₁.extBut b o hbi hb)))
  have hit₄ : h₄.IsListIter it l (i + 1) := by
    rw [← hh₄]; obtain ⟨o, ho, r⟩ := (hit₁.extBut hs₂.extBut (Ne.symm hne)).extBut hs₃.extBut (Ne.symm hne); exact ⟨o, Heap.get?_push_of_some _ ho, r⟩
  have ha₄ := hk₄ a oa hae hai ha
  show wpAny _ _ (Builtin.SmallTypes.ownedTupleIsFree (.ref e) >>= _) _ _ ⟨h₄, g, d, tk + 1, os⟩
  rw [hsz]
  clear hh₄ he₃ hs₃ he₂ hs₂ he₁ hs₁ hit₁ hsz h₃ h₂ h₁
  refine wpAny_bind ?_
  unfold Builtin.SmallTypes.ownedTupleIsFree
  refine wpAny_bind (wpAny_field he₄ rfl (x := rawInt a) rfl ?_)
  show wpAny _ _ (loadIfAlive ((a : Int).toNat) >>= _) _ _ _
  rw [Int.toNat_natCast]
  refine wpAny_bind (PySem.W.kdx_alive ha₄ ?_)
  simp only [Option.isNone_some, Bool.false_eq_true, if_false]
  refine wpAny_bind (wpAny_field he₄ rfl (x := .bool f) rfl ?_)
  have fin : ∀ h₅ : Heap, EnOut h₅ e it (c + 1) old a true → Heap.SameBut e h₄ h₅ → Q (.ref hp.objs.size) ⟨h₅, g, d, tk + 1, os⟩ := fun h₅ he₅ hs₅ =>
    hQ h₅ he₅ (hit₄.extBut hs₅.extBut (Ne.symm hne)) (hs₅.extBut _ _ (Nat.ne_of_gt hel) ht₄) (by show h₅.objs.size = hp.objs.size + 1; rw [hs₅.1, hz₄]) fun b o hbe hbi hb => hs₅.extBut b o hbe (hk₄ b o hbe hbi hb)
  cases f with
  | true =>
    rw [if_neg (show ¬ ((Value.bool true != Value.bool true) = true) from Bool.false_ne_true)]
    refine wpAny_pure ?_
    simp only [Bool.false_eq_true, if_false]
    exact wpAny_pure ⟨_, rfl, fin h₄ he₄ (Heap.SameBut.refl _ _)⟩
  | false =>
    rw [if_pos (show (Value.bool false != Value.bool true) = true from rfl)]
    refine wpAny_bind (wpAny_setField_rec he₄ (by simp) fun h₅ he₅ hs₅ => ?_)
    replace hs₅ : Heap.SameBut e h₄ h₅ := hs₅
    replace he₅ : EnOut h₅ e it (c + 1) old a true := he₅
    refine wpAny_pure ?_
    simp only [Bool.false_eq_true, if_false]
    exact wpAny_pure ⟨_, rfl, fin h₅ he₅ hs₅⟩
theorem next_out {e it l a : Addr} {oa : Obj} {i : Nat} {c : Int} {items : Array Value} {x old : Value} {f : Bool} {Q : Option Value → Shared → Prop}
    (he : EnOut s.heap e it c old a f) (ha : s.heap.get? a = some oa) (hae : a ≠ e) (hai : a ≠ it) (hit : s.heap.IsListIter it l i) (hl : s.heap.IsList l items) (hx : items[i]? = some x) (hne : e ≠ it)
    (hQ : ∀ h', EnOut h' e it (c + 1) old a true → h'.IsListIter it l (i + 1) →
      h'.get? s.heap.objs.size = some { cls := .type "tuple", data := .seq #[.int c s.toks, x] } → h'.objs.size = s.heap.objs.size + 1 →
      (∀ b o, b ≠ e → b ≠ it → s.heap.get? b = some o → h'.get? b = some o) → Q (some (.ref s.heap.objs.size)) { s with heap := h', toks := s.toks + 1 }) :
    wpAny (model prog w) A (pyNext (.ref e)) Q E s := by
  have hT : s.TypeIs (.ref e) "enumerate" := ⟨_, he, rfl⟩
  unfold pyNext
  exact wpAny_bind (wpAny_attempt (wpAny_callSpecial?_slot (name := Str.ofString "__next__") hT F.slot_enumerate_next
    (wpAny_call_entry F.slot_enumerate_next hT F.entry_enumerate_next
      (next_out0 he ha hae hai hit hl hx hne fun h' p q r t k => wpAny_pure (hQ h' p q r t k)) (F.args_enumerate_next_1 _))))
theorem end_out {e it l : Addr} {i : Nat} {items : Array Value} {Q : Option Value → Shared → Prop} {d : Array Value} (hh : A.handled = none)
    (he : s.heap.get? e = some { cls := .type "enumerate", dict := none, data := .fields d, slots := #[] }) (hd : d[2]? = some (.ref it)) (hit : s.heap.IsListIter it l i) (hl : s.heap.IsList l items) (hx : items[i]? = none)
    (hQ : ∀ h', Heap.ExtBut it s.heap h' → Q none { s with heap := h' }) : wpAny (model prog w) A (pyNext (.ref e)) Q E s := by
  have hT : s.TypeIs (.ref e) "enumerate" := ⟨_, he, rfl⟩
  unfold pyNext
  refine wpAny_bind (wpAny_attempt (wpAny_callSpecial?_slot (name := Str.ofString "__next__") hT F.slot_enumerate_next
    (wpAny_call_entry F.slot_enumerate_next hT F.entry_enumerate_next ?_ (F.args_enumerate_next_1 _))))
  show wpAny _ _ (field (.ref e) 2 >>= _) _ _ _
  refine wpAny_bind (wpAny_field he rfl (x := .ref it) hd ?_)
  refine wpAny_bind (wpAny_nextOf_list_end hh hit hl hx fun h' x he' hx' => ?_)
  obtain ⟨o, ho, hc⟩ := hx'
  refine wpAny_bind (wpAny_isInstance (T := "StopIteration") (b := true) ⟨o, ho, hc⟩ isSubtype_stop ?_)
  exact wpAny_pure (hQ _ he')
end
end EnL
end S_Xa
section S_Xb
namespace EnL
open PySem PySem.Spec PySem.Calls PyProof.Rows
section
variable {prog : Program} {w : World} {A : Around} {E : Value → Shared → Prop} {s : Shared}
def EnSt (h : Heap) (e it S : Addr) (i : Nat) (c : Int) : Prop := (i = 0 ∧ IsEnum h e it c .none) ∨ ∃ old a f oa, EnOut h e it (c + i) old a f ∧ h.get? a = some oa ∧ a ≠ e ∧ a ≠ it ∧ a ≠ S
theorem EnSt.keep {h h' : Heap} {e it S : Addr} {i : Nat} {c : Int} (x : EnSt h e it S i c) (hk : ∀ b o, b ≠ S → h.get? b = some o → h'.get? b = some o) (he : e ≠ S) : EnSt h' e it S i c := by
  rcases x with ⟨z, q⟩ | ⟨old, a, f, oa, q, ha, h1, h2, h3⟩
  · exact .inl ⟨z, hk _ _ he q⟩
  · exact .inr ⟨old, a, f, oa, hk _ _ he q, hk _ _ h3 ha, h1, h2, h3⟩
theorem list_ne {h : Heap} {l e : Addr} {items : Array Value} {o : Obj} (p : h.IsList l items) (q : h.get? e = some o) (hc : o.cls ≠ .type "list") : l ≠ e := fun z => by
  obtain ⟨u, hu, hcu, _⟩ := p
  rw [z, q] at hu
  cases hu
  exact hc hcu
theorem EnSt.obj {h : Heap} {e it S : Addr} {i : Nat} {c : Int} (x : EnSt h e it S i c) : ∃ o, h.get? e = some o ∧ o.cls = .type "enumerate" := by
  rcases x with ⟨z, q⟩ | ⟨old, a, f, oa, q, _⟩
  · exact ⟨_, q, rfl⟩
  · exact ⟨_, q, rfl⟩
theorem en_item {e it l S : Addr} {i : Nat} {c : Int} {items : Array Value} {x : Value} {Q : Option Value → Shared → Prop} (hh : A.handled = none) (hst : EnSt s.heap e it S i c) (hS : S < s.heap.objs.size)
    (hit : s.heap.IsListIter it l i) (hl : s.heap.IsList l items) (hx : items[i]? = some x) (hne : e ≠ it) (hli : l ≠ it)
    (hQ : ∀ h' tk, EnSt h' e it S (i + 1) c → h'.IsListIter it l (i + 1) → h'.get? s.heap.objs.size = some { cls := .type "tuple", data := .seq #[.int (c + i) tk, x] } → h'.objs.size = s.heap.objs.size + 1 →
      (∀ b o, b ≠ e → b ≠ it → s.heap.get? b = some o → h'.get? b = some o) → Q (some (.ref s.heap.objs.size)) { s with heap := h', toks := tk + 1 }) :
    wpAny (model prog w) A (pyNext (.ref e)) Q E s := by
  have e1 : c + ((i + 1 : Nat) : Int) = c + (i : Int) + 1 := by omega
  have iti : it < s.heap.objs.size := by obtain ⟨o, ho, _⟩ := hit; exact Heap.lt_size ho
  rcases hst with ⟨rfl, q⟩ | ⟨old, a, f, oa, q, ha, h1, h2, h3⟩
  · have hle : l ≠ e := list_ne hl q fun z => absurd (Value.type.inj z) (by decide)
    have hlt : 0 < items.size := by
      have := (Array.getElem?_eq_some_iff.mp hx).1
      exact this
    refine wpAny_pyNext_enum_itemC (Draws.list (show A.in1.handled = none from hh) it l hli items) q ⟨hit, hl⟩ hlt hne (by simp [hne, Ne.symm hle]) fun y g tk hy ho hst' ht hz hk => ?_
    have hy : y = x := by
      rw [hx] at hy
      exact (Option.some.inj hy).symm
    subst hy
    have e0 : c + ((0 : Nat) : Int) = c := by omega
    refine hQ g tk (.inr ⟨y, s.heap.objs.size, false, _, ?_, ht, Nat.ne_of_gt (Heap.lt_size q), Nat.ne_of_gt iti, Nat.ne_of_gt hS⟩) hst'.1 (by rw [e0]; exact ht) hz hk
    rw [e1, e0]
    exact ho
  · refine next_out q ha h1 h2 hit hl hx hne fun g hg hit' ht hz hk => ?_
    refine hQ g s.toks (.inr ⟨old, a, true, oa, ?_, hk a oa h1 h2 ha, h1, h2, h3⟩) hit' ht hz hk
    rw [e1]
    exact hg
theorem en_done {e it l S : Addr} {i : Nat} {c : Int} {items : Array Value} {Q : Option Value → Shared → Prop} (hh : A.handled = none) (hst : EnSt s.heap e it S i c) (hit : s.heap.IsListIter it l i) (hl : s.heap.IsList l items) (hx : items[i]? = none)
    (hQ : ∀ h', Heap.ExtBut it s.heap h' → Q none { s with heap := h' }) : wpAny (model prog w) A (pyNext (.ref e)) Q E s := by
  rcases hst with ⟨rfl, q⟩ | ⟨old, a, f, oa, q, _⟩
  · exact end_out hh q rfl hit hl hx hQ
  · exact end_out hh q rfl hit hl hx hQ
structure EnG (c : Int) (items : Array Value) (lo : Addr) (h : Heap) (as : List Addr) : Prop where
  rise : as.Pairwise (· < ·)
  above : ∀ a ∈ as, lo < a
  pairs : ∀ (j : Nat) (a : Addr), as[j]? = some a → ∃ t x, items[j]? = some x ∧ h.get? a = some { cls := .type "tuple", data := .seq #[.int (c + j) t, x] }
theorem EnG.there {c : Int} {items : Array Value} {lo : Addr} {h : Heap} {as : List Addr} (g : EnG c items lo h as) {a : Addr} (ha : a ∈ as) : a < h.objs.size := by
  obtain ⟨j, hj⟩ := List.mem_iff_getElem?.mp ha
  obtain ⟨_, _, _, e⟩ := g.pairs j a hj
  exact Heap.lt_size e
end
section
variable {prog : Program} {w : World} {A : Around} {s : Shared} {R : Result → Shared → Prop}
theorem en_loop {S e it l : Addr} {c : Int} {items : Array Value} (hh : A.handled = none) (heS : e < S) (hiS : it < S) (hlS : l < S) (hne : e ≠ it) (hli : l ≠ it) (hle : l ≠ e) (hn : items.size ≤ sizeLine) (res : Value) {h₁ : Heap}
    (hR : ∀ h' tk acc k as, (∀ b o, b ≠ S → b ≠ e → b ≠ it → h₁.get? b = some o → h'.get? b = some o) → h'.get? S = some { cls := .type "list", dict := none, data := .seq acc k, slots := #[] } → as.length = items.size → EnG c items S h' as →
      acc.toList = as.map Value.ref → R (.ok (.ret res)) { s with heap := h', toks := tk }) :
    ∀ (m i : Nat) (h : Heap) (tk k : Nat) (acc : Array Value) (as : List Addr), items.size - i = m → i ≤ items.size → EnSt h e it S i c → h.IsListIter it l i → h.IsList l items → (∀ b o, b ≠ S → b ≠ e → b ≠ it → h₁.get? b = some o → h.get? b = some o) →
      h.get? S = some { cls := .type "list", dict := none, data := .seq acc k, slots := #[] } → acc.toList = as.map Value.ref → as.length = i → EnG c items S h as →
      codeAny (model prog w) A (.builtin "list.extend.loop" ⟨[.ref S, .ref e, res], []⟩) R { s with heap := h, toks := tk } := by
  intro m
  induction m with
  | zero =>
    intro i h tk k acc as hk hi hst hit hL hkeep hS hacc hal hG
    have hin : i = items.size := by omega
    refine codeAny_builtin PySem.F.entry_extend_loop ?_
    rw [Around.under_plainId PySem.F.plain_extend_loop _]
    show wpAny _ A.in1 (pyNext (.ref e) >>= _) _ _ _
    refine wpAny_bind (en_done (s := { s with heap := h, toks := tk }) (A := A.in1) hh hst hit hL (Array.getElem?_eq_none (by omega)) fun h' he => ?_)
    refine wpAny_pure (hR h' tk acc k as (fun b o h1 h2 h3 e => he b o h3 (hkeep b o h1 h2 h3 e)) (he S _ (Nat.ne_of_gt hiS) hS) (by omega) ⟨hG.rise, hG.above, fun j a hj => ?_⟩ hacc)
    obtain ⟨t, x, e1, e3⟩ := hG.pairs j a hj
    exact ⟨t, x, e1, he a _ (Nat.ne_of_gt (Nat.lt_trans hiS (hG.above a (List.mem_of_getElem? hj)))) e3⟩
  | succ m ih =>
    intro i h tk k acc as hk hi hst hit hL hkeep hS hacc hal hG
    have hlt : i < items.size := by omega
    obtain ⟨x, hx⟩ : ∃ p, items[i]? = some p := ⟨items[i], by simp [hlt]⟩
    have hsz : acc.size = i := by rw [← Array.length_toList, hacc, List.length_map, hal]
    refine codeAny_builtin PySem.F.entry_extend_loop ?_
    rw [Around.under_plainId PySem.F.plain_extend_loop _]
    show wpAny _ A.in1 (pyNext (.ref e) >>= _) _ _ _
    refine wpAny_bind (en_item (s := { s with heap := h, toks := tk }) (A := A.in1) (S := S) hh hst (Heap.lt_size hS) hit hL hx hne hli fun h' tk' hst' hit' ht hz hkp => ?_)
    dsimp only at ht hz hkp ⊢
    have hSl : S < h.objs.size := Heap.lt_size hS
    have hS' := hkp S _ (Nat.ne_of_gt heS) (Nat.ne_of_gt hiS) hS
    have up : ∀ b o, b ≠ S → h'.get? b = some o → (h'.update S (Obj.mapSeq (·.push (Value.ref h.objs.size)))).get? b = some o := fun b o hb e => (Heap.get?_update_other _ _ (Ne.symm hb)).trans e
    show wpAny _ A.in1 (updateSeq S (·.push (Value.ref h.objs.size)) >>= _) _ _ _
    refine wpAny_bind ?_
    refine wpAny_updateSeq hS' rfl (wpAny_pure ⟨plainId_quiet PySem.F.plain_extend_loop _, ih (i + 1) _ (tk' + 1) _ (acc.push (Value.ref h.objs.size)) (as ++ [h.objs.size]) (by omega) hlt (hst'.keep up (Nat.ne_of_lt heS)) (hit'.at fun o e => up it o (Nat.ne_of_lt hiS) e)
      (let ⟨o, ho, r⟩ := hL; ⟨o, up l o (Nat.ne_of_lt hlS) (hkp l o hle hli ho), r⟩) (fun b o h1 h2 h3 e => up b o h1 (hkp b o h2 h3 (hkeep b o h1 h2 h3 e))) (Heap.get?_update_self _ hS' rfl) (by rw [Array.toList_push, hacc, List.map_append]; rfl) (by rw [List.length_append, hal]; rfl) ⟨?_, ?_, ?_⟩⟩) (by rw [hsz]; omega) (by show (acc.push (Value.ref h.objs.size)).size ≤ sizeLine + 1; rw [Array.size_push, hsz]; omega)
    · refine List.pairwise_append.mpr ⟨hG.rise, List.pairwise_singleton _ _, fun a ha b hb => ?_⟩
      rw [List.mem_singleton.mp hb]
      exact hG.there ha
    · intro a ha
      rcases List.mem_append.mp ha with ha | ha
      · exact hG.above a ha
      · rw [List.mem_singleton.mp ha]; exact hSl
    · intro j b hj
      rcases Nat.lt_trichotomy j as.length with h1 | h1 | h1
      · rw [List.getElem?_append_left h1] at hj
        obtain ⟨t, x', e1, e3⟩ := hG.pairs j b hj
        have hb := hG.above b (List.mem_of_getElem? hj)
        exact ⟨t, x', e1, up b _ (Nat.ne_of_gt hb) (hkp b _ (Nat.ne_of_gt (Nat.lt_trans heS hb)) (Nat.ne_of_gt (Nat.lt_trans hiS hb)) e3)⟩
      · subst h1
        have hb : h.objs.size = b := by simpa using hj
        subst hb
        exact ⟨tk', x, by rw [hal]; exact hx, up _ _ (Nat.ne_of_gt hSl) (by rw [hal]; exact ht)⟩
      · have hnone : (as ++ [h.objs.size])[j]? = none := List.getElem?_eq_none (by rw [List.length_append, List.length_singleton]; omega)
        rw [hnone] at hj; cases hj
end
theorem en_no_len : typeLookup (.type "enumerate") "__len__" = pure none := by rw [typeLookup_type, builtinLookup_eq_fast]; kernel_rfl
theorem en_no_hint : typeLookup (.type "enumerate") "__length_hint__" = pure none := by rw [typeLookup_type, builtinLookup_eq_fast]; kernel_rfl
end EnL
end S_Xb
section S_Xc
namespace EnL
open PySem PySem.Spec PySem.Calls PyProof.Rows
section
variable {prog : Program} {w : World} {A : Around} {E : Value → Shared → Prop} {s : Shared}
theorem en_extend {R : Result → Shared → Prop} {S e it l : Addr} {c : Int} {items : Array Value} (hh : A.handled = none) (heS : e < S) (hiS : it < S) (hlS : l < S) (hne : e ≠ it) (hli : l ≠ it) (hle : l ≠ e) (hn : items.size ≤ sizeLine) (res : Value) (c₀ : Nat)
    (he : IsEnum s.heap e it c .none) (hit : s.heap.IsListIter it l 0) (hl : s.heap.IsList l items) (hS : s.heap.get? S = some { cls := .type "list", data := .seq #[] c₀ })
    (hR : ∀ h' tk acc k as, (∀ b o, b ≠ S → b ≠ e → b ≠ it → s.heap.get? b = some o → h'.get? b = some o) → h'.get? S = some { cls := .type "list", dict := none, data := .seq acc k, slots := #[] } → as.length = items.size → EnG c items S h' as →
      acc.toList = as.map Value.ref → R (.ok (.ret res)) { s with heap := h', toks := tk }) :
    wpAny (model prog w) A.in1 (Builtin.List.listExtendWith (.ref S) (.ref e) res)
      (fun fin s' => match fin with | .done f => R (.ok f) s' | .again c' => c'.quiet = true ∧ codeAny (model prog w) A c' R s') (fun e s' => R (.error e) s') s := by
  have hT : s.TypeIs (.ref e) "enumerate" := ⟨_, he, rfl⟩
  unfold Builtin.List.listExtendWith
  refine wpAny_bind (wpAny_typeOf hT ?_)
  have h1 : Builtin.List.listSameRef (.ref S) (.ref e) = false := by simp [Builtin.List.listSameRef, Nat.ne_of_gt heS]
  have h2 : (Value.type "enumerate" == Value.type "list") = false := by decide
  have h3 : (Value.type "enumerate" == Value.type "tuple") = false := by decide
  simp only [h1, h2, h3, Bool.or_false, Bool.false_eq_true, if_false]
  refine wpAny_bind (wpAny_pyIter_enum he ?_)
  refine wpAny_bind (wpAny_holding ?_)
  unfold Builtin.List.listLengthHint
  refine wpAny_bind (wpAny_specialOf hT en_no_len ?_)
  show wpAny _ A.in1 (specialOf (Value.ref e) (Str.ofString "__length_hint__") >>= _) _ _ _
  refine wpAny_bind (wpAny_specialOf hT en_no_hint ?_)
  refine wpAny_pure ?_
  show wpAny _ A.in1 (rule "list.extend.makes-room" >>= fun _ => Builtin.List.listTouch (.ref S) >>= fun _ =>
    again (.builtin "list.extend.loop" ⟨[.ref S, .ref e, res], []⟩)) _ _ _
  refine wpAny_bind (wpAny_rule ?_)
  refine wpAny_bind ?_
  show wpAny _ A.in1 (updateSeq S (·.push .none) >>= fun _ => updateSeq S (·.pop)) _ _ _
  refine wpAny_bind (wpAny_updateSeq hS rfl ?_)
  have hS₂ := Heap.get?_update_self (Obj.mapSeq (·.push Value.none)) hS rfl
  refine wpAny_updateSeq (hz := by seq_fits) hS₂ rfl ?_
  have hS₃ := Heap.get?_update_self (Obj.mapSeq (·.pop)) hS₂ rfl
  have oth : ∀ b o, b ≠ S → s.heap.get? b = some o → ((s.heap.update S (Obj.mapSeq (·.push Value.none))).update S (Obj.mapSeq (·.pop))).get? b = some o :=
    fun b o hb e => (Heap.get?_update_other _ _ (Ne.symm hb)).trans ((Heap.get?_update_other _ _ (Ne.symm hb)).trans e)
  refine wpAny_pure ⟨plainId_quiet PySem.F.plain_extend_loop _, en_loop (s := s) (h₁ := s.heap) hh heS hiS hlS hne hli hle hn res hR items.size 0 _ _ _ #[] [] (Nat.sub_zero _) (Nat.zero_le _) (.inl ⟨rfl, oth _ _ (Nat.ne_of_lt heS) he⟩)
    (hit.at fun o e => oth it o (Nat.ne_of_lt hiS) e) (let ⟨o, ho, r⟩ := hl; ⟨o, oth l o (Nat.ne_of_lt hlS) ho, r⟩) (fun b o hb _ _ e => oth b o hb e) hS₃ rfl rfl ⟨List.Pairwise.nil, (fun _ ha => nomatch ha), (fun j a hj => by simp at hj)⟩⟩
theorem en_init {R : Result → Shared → Prop} {S e it l : Addr} {c : Int} {items : Array Value} (hh : A.handled = none) (heS : e < S) (hiS : it < S) (hlS : l < S) (hne : e ≠ it) (hli : l ≠ it) (hle : l ≠ e) (hn : items.size ≤ sizeLine)
    (he : IsEnum s.heap e it c .none) (hit : s.heap.IsListIter it l 0) (hl : s.heap.IsList l items) (hS : s.heap.get? S = some { cls := .type "list", data := .seq #[] })
    (hR : ∀ h' tk acc k as, (∀ b o, b ≠ S → b ≠ e → b ≠ it → s.heap.get? b = some o → h'.get? b = some o) → h'.get? S = some { cls := .type "list", dict := none, data := .seq acc k, slots := #[] } → as.length = items.size → EnG c items S h' as →
      acc.toList = as.map Value.ref → R (.ok (.ret .none)) { s with heap := h', toks := tk }) :
    wpAny (model prog w) A.in1 (Builtin.«list.__init__» ⟨[.ref S, .ref e], []⟩)
      (fun fin s' => match fin with | .done f => R (.ok f) s' | .again c' => c'.quiet = true ∧ codeAny (model prog w) A c' R s') (fun e s' => R (.error e) s') s := by
  show wpAny _ _ (do let old ← Builtin.List.listItems (.ref S); Builtin.List.listUpdate (.ref S) (fun _ => #[]); letGo old.toList.reverse; Builtin.List.listExtendWith (.ref S) (.ref e) .none) _ _ s
  refine wpAny_bind ?_
  unfold Builtin.List.listItems
  refine wpAny_bind (wpAny_seqItems hS rfl (wpAny_pure ?_))
  show wpAny _ _ (updateSeq S (fun _ => #[]) >>= fun _ => letGo (#[] : Array Value).toList.reverse >>= fun _ => Builtin.List.listExtendWith (.ref S) (.ref e) .none) _ _ s
  refine wpAny_bind (wpAny_updateSeq hS rfl ?_)
  have hS₂ := Heap.get?_update_self (Obj.mapSeq (fun _ => (#[] : Array Value))) hS rfl
  have oth : ∀ b o, b ≠ S → s.heap.get? b = some o → (s.heap.update S (Obj.mapSeq (fun _ => (#[] : Array Value)))).get? b = some o :=
    fun b o hb e => (Heap.get?_update_other _ _ (Ne.symm hb)).trans e
  refine wpAny_bind (wpAny_letGo ?_)
  refine en_extend (c := c) hh heS hiS hlS hne hli hle hn .none _ (oth _ _ (Nat.ne_of_lt heS) he) (hit.at fun o e => oth it o (Nat.ne_of_lt hiS) e) (let ⟨o, ho, r⟩ := hl; ⟨o, oth l o (Nat.ne_of_lt hlS) ho, r⟩) hS₂ fun h' tk acc k as hk hS' hl' hG hacc => ?_
  exact hR h' tk acc k as (fun b o hb h2 h3 e => hk b o hb h2 h3 (oth b o hb e)) hS' hl' hG hacc
theorem en_call {Q : Value → Shared → Prop} {e it l : Addr} {c : Int} {items : Array Value} (hh : A.handled = none) (hne : e ≠ it) (hli : l ≠ it) (hle : l ≠ e) (hn : items.size ≤ sizeLine)
    (he : IsEnum s.heap e it c .none) (hit : s.heap.IsListIter it l 0) (hl : s.heap.IsList l items)
    (hQ : ∀ h' tk acc k as, (∀ b o, b ≠ e → b ≠ it → s.heap.get? b = some o → h'.get? b = some o) → h'.get? s.heap.objs.size = some { cls := .type "list", dict := none, data := .seq acc k, slots := #[] } → as.length = items.size → EnG c items s.heap.objs.size h' as →
      acc.toList = as.map Value.ref → Q (.ref s.heap.objs.size) { s with heap := h', toks := tk }) :
    wpAny (model prog w) A (call (.type "list") [.ref e]) Q E s := by
  refine callType_codes (Q₁ := fun obj s₁ => obj = .ref s.heap.objs.size ∧ s₁ = { s with heap := s.heap.push { cls := .type "list", data := .seq #[] } }) PySem.F.called_list (PySem.F.typeCall_list_1 _) PySem.F.entry_list_init
    (code_list_new _ ⟨rfl, rfl⟩) fun obj s₁ h₁ => ?_
  obtain ⟨rfl, rfl⟩ := h₁
  have hS : (s.heap.push { cls := .type "list", data := .seq #[] }).get? s.heap.objs.size = some { cls := .type "list", data := .seq #[] } := Heap.get?_push_size _ rfl
  have le : e < s.heap.objs.size := Heap.lt_size he
  have li : it < s.heap.objs.size := let ⟨_, ho, _⟩ := hit; Heap.lt_size ho
  have ll : l < s.heap.objs.size := let ⟨_, ho, _⟩ := hl; Heap.lt_size ho
  refine ⟨⟨_, hS, rfl⟩, PySem.F.args_list_init_2 _ _, en_init (c := c) (A := A.in1) hh le li ll hne hli hle hn (Heap.get?_push_of_some _ he) (hit.at fun o e => Heap.get?_push_of_some _ e) (let ⟨o, ho, r⟩ := hl; ⟨o, Heap.get?_push_of_some _ ho, r⟩) hS (fun h' tk acc k as hk hS' hl' hG hacc => ?_)⟩
  exact ⟨rfl, hQ h' tk acc k as (fun b o h2 h3 e => hk b o (Nat.ne_of_lt (Heap.lt_size e)) h2 h3 (Heap.get?_push_of_some _ e)) hS' hl' hG hacc⟩
end
end EnL
end S_Xc
section S_Xd
namespace EnL
open PySem PySem.Spec PyProof.Rows L2 LiI
theorem laidS {X : Cx} {pins : List (Addr × Obj)} {σ : L2.St} {H : Hp} {s : Shared} {h' : Heap} {tk : Nat} {kvs : List (L2.Key × V)} {acc : Array Value} {c S : Nat} {as : List Addr} (I : Inv X pins σ H s) (hz : kvs.length ≤ sizeLine) (hS0 : s.heap.objs.size ≤ S)
    (hk : ∀ b o, s.heap.get? b = some o → h'.get? b = some o) (hS : h'.get? S = some { cls := .type "list", dict := none, data := .seq acc c, slots := #[] }) (hl : as.length = kvs.length) (rise : as.Pairwise (· < ·)) (above : ∀ a ∈ as, S < a)
    (hG : ∀ (j : Nat) (a : Addr), as[j]? = some a → ∃ pk key x, kvs[j]? = some pk ∧ RelV (kV pk.1) key ∧ RelV pk.2 x ∧ h'.get? a = some { cls := .type "tuple", data := .seq #[key, x] }) (hacc : acc.toList = as.map Value.ref) :
    ∃ H' : Hp, (∀ b o, H b = some o → H' b = some o) ∧ H S = none ∧ (∀ t ∈ as, H t = none) ∧ S ∉ as ∧ H' S = some (.lst (as.map V.ref)) ∧ Paired (fun (t : Addr) (q : L2.Key × V) => H' t = some (.tup [kV q.1, q.2])) as kvs ∧ Inv X pins σ H' { s with heap := h', toks := tk } := by
  have hSn : S ∉ as := fun z => Nat.lt_irrefl _ (above _ z)
  have nd : as.Nodup := List.Pairwise.imp (fun {a b} (h : a < b) => Nat.ne_of_lt h) rise
  have new : ∀ t ∈ as, H t = none := fun t ht => I.hok.fresh (Nat.le_trans hS0 (Nat.le_of_lt (above t ht)))
  have newS : H S = none := I.hok.fresh hS0
  have atP := putT_at as kvs (upd H S (.lst (as.map V.ref))) hl nd
  have off : ∀ b, b ∉ as → b ≠ S → putT (upd H S (.lst (as.map V.ref))) as kvs b = H b := fun b h1 h2 => by rw [putT_off as kvs _ h1, upd_ne h2]
  have low : ∀ b o, s.heap.get? b = some o → b ∉ as ∧ b ≠ S := fun b o e => ⟨fun z => absurd (Heap.lt_size e) (Nat.not_lt.mpr (Nat.le_trans hS0 (Nat.le_of_lt (above b z)))), Nat.ne_of_lt (Nat.lt_of_lt_of_le (Heap.lt_size e) hS0)⟩
  have kp : ∀ b u, H b = some u → (putT (upd H S (.lst (as.map V.ref))) as kvs) b = some u := fun b u e => by
    rw [off b (fun z => by rw [new b z] at e; cases e) (fun z => by rw [z, newS] at e; cases e)]
    exact e
  have eS : putT (upd H S (.lst (as.map V.ref))) as kvs S = some (.lst (as.map V.ref)) := by rw [putT_off as kvs _ hSn, upd_same]
  refine ⟨putT (upd H S (.lst (as.map V.ref))) as kvs, kp, newS, new, hSn, eS, atP, ?_⟩
  refine I.call' (ch := []) rfl ⟨fun b o q _ _ _ => hk b o q, fun b o q _ _ _ => ⟨o.slots, hk b o q⟩, fun b o q n _ => ?_, fun b o q _ => ⟨o, hk b o q⟩, fun b xs q => kp b _ q, fun b o u q => kp b _ q, fun b ps q => ⟨#[], by rw [kp b _ q]; simp⟩⟩ (fun b u q => ?_) I.bare fun b z => by simp at z
  · obtain ⟨z1, z2⟩ := low b o q
    rw [off b z1 z2]
    exact n
  · by_cases hb : b ∈ as
    · obtain ⟨j, pk, e1, e2, e3⟩ := paired_ix atP hb
      rw [e3] at q
      cases q
      obtain ⟨pk', key, x, f1, f2, f4, f3⟩ := hG j b e1
      rw [f1] at e2
      cases e2
      exact ⟨by show 2 ≤ sizeLine; decide, [key, x], .cons f2 (.cons f4 .nil), ⟨_, f3, rfl, _, rfl⟩⟩
    · by_cases hb2 : b = S
      · rw [hb2] at q ⊢
        rw [eS] at q
        cases q
        refine ⟨by rw [List.length_map]; omega, acc.toList, c, by rw [hacc]; exact LiI.vals_refs as, ?_⟩
        rw [Array.toArray_toList]
        exact hS
      · rw [off b hb hb2] at q
        exact (I.hok b u q).stay (fun d v _ y => hk d v y) (fun d y => kp d _ y) fun d xs y => kp d _ y
/-- the items with their numbers from c on -/
def enK (c : Int) (xs : List V) : List (L2.Key × V) := (List.range xs.length).map fun i => (Sum.inl (c + (i : Nat)), xs.getD i .non)
def tListEn (K : PySem.W.Frag) (ta tk : TA) : TE := fun σ H Q => ta σ H fun vs H1 => tk σ H1 fun zs H2 => ∃ (a : Addr) (xs : List V) (c : Int), vs = [.ref a] ∧ zs = [.int c] ∧ -1000000 ≤ c ∧ c ≤ 1000000 ∧ SqL K H2 a xs ∧
  ∀ (H' : Hp) (p : Addr) (ts : List Addr), (∀ b o, H2 b = some o → H' b = some o) → H2 p = none → H' p = some (.lst (ts.map V.ref)) → Paired (fun (t : Addr) (q : L2.Key × V) => H' t = some (.tup [kV q.1, q.2])) ts (enK c xs) → Q (.ref p) H'
section
variable {X : Cx} {e : Expr} {ta tk : TA} {p p2 pos pos2 : Pos} {kws : List Keyword}
theorem pe_listEn (hc : X.calm = true) (ha : PA X [e] ta) (hk : PK X kws tk) (hg : Gl X "list") (hm : X.mg "list" = none) (hv : bootBuiltins "list" = some (.type "list")) (hg2 : Gl X "enumerate") (hm2 : X.mg "enumerate" = none)
    (hks : (backToKw pos2 (keywordEach kws X.env)).filterMap (·.1) = [Str.ofString "start"] := by rfl)
    (he : backTo pos2 (starEach [e] X.env) = (false, eval e X.env) :: backTo pos2 (starEach [] X.env) := by rfl) (hpl : (backTo pos2 (starEach [e] X.env)).any (·.1) = false := by rfl)
    (hall : (backToKw pos2 (keywordEach kws X.env)).all (·.1.isSome) = true := by rfl) (hnone : (backToKw pos2 (keywordEach kws X.env)).any (·.1.isNone) = false := by rfl)
    (hs : starEach [.Call (.Name "enumerate" p2) [e] kws pos2] X.env = (false, eval (.Call (.Name "enumerate" p2) [e] kws pos2) X.env) :: starEach [] X.env := by rfl) :
    PE X (.Call (.Name "list" p) [.Call (.Name "enumerate" p2) [e] kws pos2] [] pos) (tListEn X.K ta tk) := by
  refine ⟨fun pins s σ H Q I hq => ?_⟩
  refine wpAny_Call_Name_kw (ld_blt I hg hm hv ?_)
  refine PyProof.Rows.callWith_type1 ?_ hs rfl
  rw [hs]
  show wpAny _ _ (spliced ((false, eval (.Call (.Name "enumerate" p2) [e] kws pos2) X.env) :: backTo pos (starEach [] X.env))) _ _ s
  refine Calls.spliced_cons ?_
  refine wpAny_Call_Name_kw (ld_blt I hg2 hm2 boot_enumerate ?_)
  refine callWith_typeKw (thn (ha.run pos2 pins s σ H _ I hq) fun us s1 ⟨vs, H1, I1, r1, q1⟩ => thn (hk.run pos2 pins s1 σ H1 _ I1 q1) fun ws s2 ⟨zs, H2, I2, r2, q2⟩ => ?_) he hpl hall hnone
  rw [hks]
  obtain ⟨a, xs, c, rfl, rfl, c0, c1, hq', q⟩ := q2
  obtain rfl := Vals.ref1 r1
  obtain ⟨w1, rfl, t1, rfl⟩ := vals1 r2
  obtain ⟨its, rv, pl, hz⟩ := I2.list hq'
  refine PySem.enum_begins_start (begins_list a its.toArray) pl.isList (by omega) (by omega) fun h1 hen hit0 hsz hk1 => ?_
  refine Calls.spliced_nil ?_
  have hit : h1.IsListIter s2.heap.objs.size a 0 := ⟨_, hit0, rfl, rfl⟩
  have pl1 : h1.IsList a its.toArray := let ⟨o, ho, r⟩ := pl.isList; ⟨o, hk1 a o ho, r⟩
  have la : a < s2.heap.objs.size := let ⟨o, ho, _⟩ := pl.isList; Heap.lt_size ho
  refine en_call (s := { s2 with heap := h1 }) (c := c) (I2.ok.hd hc) (Nat.succ_ne_self _) (Nat.ne_of_lt la) (Nat.ne_of_lt (Nat.lt_succ_of_lt la)) (by rw [List.size_toArray, ← rv.length]; exact hz) hen hit pl1 fun h' tk' acc k as hkp hS' hl' hG hacc => ?_
  have hlen : as.length = (enK c xs).length := by
    rw [hl', List.size_toArray, ← rv.length]
    unfold enK
    rw [List.length_map, List.length_range]
  obtain ⟨H', k1, k2, k3, k4, k5, k6, J⟩ := laidS (X := X) (tk := tk') (kvs := enK c xs) (S := h1.objs.size) (as := as) I2 (by rw [← hlen, hl', List.size_toArray, ← rv.length]; exact hz) (by rw [hsz]; exact Nat.le_add_right _ _)
    (fun b o e => hkp b o (Nat.ne_of_lt (Nat.lt_succ_of_lt (Heap.lt_size e))) (Nat.ne_of_lt (Heap.lt_size e)) (hk1 b o e)) hS' hlen hG.rise hG.above (fun j b hj => by
      obtain ⟨t, x, e1, e2⟩ := hG.pairs j b hj
      have e1 : its[j]? = some x := by simpa using e1
      have hjn : j < xs.length := by
        have := (List.getElem?_eq_some_iff.mp e1).1
        rw [rv.length]
        exact this
      obtain ⟨u, hu, ru⟩ := rv.get (List.getElem?_eq_getElem hjn)
      rw [e1] at hu
      cases hu
      refine ⟨(Sum.inl (c + (j : Nat)), xs[j]), _, _, ?_, ⟨t, rfl⟩, ru, e2⟩
      unfold enK
      rw [List.getElem?_map, List.getElem?_range hjn, Option.map_some, List.getD_eq_getElem?_getD, List.getElem?_eq_getElem hjn]
      rfl) hacc
  exact ⟨.ref _, H', J, rfl, q H' _ as k1 k2 k5 k6⟩
end
end EnL
end S_Xd
section S_Xe
namespace EnL
open PySem PySem.Spec PyProof.Rows L2 Tl
/-- the tuple at a as it stands at each turn, each item in a new pair with its number, c the first -/
def IteS (K : PySem.W.Frag) (a : Addr) (c : Int) : It :=
  ⟨fun i H => ∃ (xs : List V) (x : V), SqT K H a xs ∧ xs[i]? = some x, fun i H v H' => ∃ T x, v = .ref T ∧ H T = none ∧ H' = upd H T (.tup [.int (c + (i : Nat)), x]) ∧ ∀ xs, SqT K H a xs → xs[i]? = some x, fun i H => ∃ xs : List V, SqT K H a xs ∧ xs.length ≤ i⟩
abbrev EnS (a e it : Addr) (c : Int) (i : Nat) (h : Heap) : Prop := (∃ old, IsEnum h e it (c + (i : Nat)) old) ∧ h.IsTupleIter it a i ∧ e ≠ it
theorem turn_enumS {P : Program} {w : World} {K : PySem.W.Frag} {elts : List Expr} {kk : Nat} {tpos : Pos} (a e it : Addr) (c : Int) : Turn P w K (.Tuple elts kk tpos) (IteS K a c) [e, it] e (EnS a e it c) where
  mem := List.mem_cons_self
  obj := fun i h st b hb => by
    obtain ⟨⟨old, he⟩, ⟨o, ho, hc, hd⟩, _⟩ := st
    rcases List.mem_cons.mp hb with z | z
    · rw [z]; exact ⟨_, he, fun v q => nomatch q⟩
    · rw [List.mem_singleton.mp z]; exact ⟨o, ho, fun v q => by rw [hd] at q; cases q⟩
  keep := fun i h h' st k => ⟨st.1.imp fun old he => k e (by simp) _ he, st.2.1.at fun o q => k it (by simp) o q, st.2.2⟩
  item := by
    intro X hP hw hK hc i pins s σ H E I hf st hg
    subst hP hw hK
    obtain ⟨⟨old, he⟩, hit, hne⟩ := st
    obtain ⟨xs, x, hq, hx⟩ := hg
    obtain ⟨its, rv, p, hz⟩ := I.tuple hq
    obtain ⟨u, hu, ru⟩ := rv.get hx
    have hai : a ≠ it := tup_ne p hit
    have hae : a ≠ e := tup_ne2 p he
    have le : e < s.heap.objs.size := Heap.lt_size he
    have li : it < s.heap.objs.size := by obtain ⟨_, q, _⟩ := hit; exact Heap.lt_size q
    have isz : i < its.toArray.size := by simpa using (List.getElem?_eq_some_iff.mp hu).1
    refine wpAny_pyNext_enum_itemC (Draws.tuple (show X.A.in1.handled = none from I.ok.hd hc) it a hai its.toArray) he ⟨hit, p⟩ isz hne (by simp [hne, Ne.symm hae]) fun y g tk hy ho hst hT hsz hk => ?_
    have ey : y = u := by
      rw [show its.toArray[i]? = its[i]? by simp, hu] at hy
      exact (Option.some.inj hy).symm
    subst ey
    refine ⟨_, rfl, wpAny_letOwnedTupleGo_enum (s := { s with heap := g, toks := tk + 1 }) ho fun g2 he' sb => ?_⟩
    have at2 : g2.get? s.heap.objs.size = some { cls := .type "tuple", data := .seq #[.int (c + (i : Nat)) tk, y] } := (sb.2 _ (Nat.ne_of_gt le)).trans hT
    have new : ObjOk X.prog X.w (upd H s.heap.objs.size (.tup [.int (c + (i : Nat)), x])) g2 s.heap.objs.size (.tup [.int (c + (i : Nat)), x]) :=
      ⟨by show 2 ≤ sizeLine; decide, [.int (c + (i : Nat)) tk, y], .cons ⟨_, rfl⟩ (.cons ru .nil), ⟨_, at2, rfl, _, rfl⟩⟩
    have old2 : ∀ b ob, b ∉ [e, it] → s.heap.get? b = some ob → g2.get? b = some ob := fun b ob hb q =>
      (sb.2 b fun z => hb (by simp [z])).trans (hk b ob (fun z => hb (by simp [z])) (fun z => hb (by simp [z])) q)
    have I1 : Inv X pins σ (upd H s.heap.objs.size (.tup [.int (c + (i : Nat)), x])) { s with heap := g2, toks := tk + 1 } := I.turnedNew (ch := [e, it]) old2 hf (Nat.le_refl _) new
    refine ⟨.ref s.heap.objs.size, _, I1, rfl, ⟨_, x, rfl, I.hok.fresh (Nat.le_refl _), rfl, fun ys hy => by rw [I.tuple_inj hy hq]; exact hx⟩, ⟨⟨y, ?_⟩, hst.1.at fun o q => (sb.2 it (Ne.symm hne)).trans q, hne⟩, fun b hb => ?_⟩
    · show IsEnum g2 e it (c + ((i + 1 : Nat) : Int)) y
      rw [show c + ((i + 1 : Nat) : Int) = c + (i : Int) + 1 by omega]
      exact he'
    · have lb : b < s.heap.objs.size := by
        rcases List.mem_cons.mp hb with z | z
        · rw [z]; exact le
        · rw [List.mem_singleton.mp z]; exact li
      rw [upd_ne (Nat.ne_of_lt lb)]
      exact (hf b hb).1
  done := by
    intro X hP hw hK hc i pins s σ H E I hf st hg
    subst hP hw hK
    obtain ⟨⟨old, he⟩, hit, hne⟩ := st
    obtain ⟨xs, hq, hx⟩ := hg
    obtain ⟨its, rv, p, hz⟩ := I.tuple hq
    obtain ⟨f0, f1, f2, f3, f4, f5⟩ := hf it (by simp)
    have hn := rv.length
    have hai : a ≠ it := tup_ne p hit
    have D : Draws X.prog X.w X.A.in1 it [it, a] i (fun _ _ => False) (fun j h => h.IsTupleIter it a j ∧ h.IsTuple a its.toArray ∧ j = i) :=
      { live := fun _ _ st => let ⟨o, ho, _⟩ := st.1; ⟨o, ho⟩
        frame := fun _ _ _ st hk => ⟨st.1.at fun o e => hk it (by simp) o e, st.2.1.at fun o e => hk a (by simp) o e, st.2.2⟩
        item := fun j s Q E hj st _ => absurd st.2.2 (Nat.ne_of_lt hj)
        done := fun s Q E st hE => RZ.nextOf_tuple_end (show X.A.in1.handled = none from I.ok.hd hc) st.1 st.2.1 (by simp; omega) hE }
    exact wpAny_pyNext_enum_endD D he ⟨hit, p, rfl⟩ fun g eb => ⟨rfl, I.turned (t' := s.toks) (fun b o hb q => eb b o hb q) f0 f1 f3 f4 f5⟩
  self := fun A i s Q E st h => let ⟨⟨_, he⟩, _⟩ := st; wpAny_pyIter_enum he h
def iEnumS (K : PySem.W.Frag) (ta tk : TA) : TI := fun σ H R => ta σ H fun vs H1 => tk σ H1 fun zs H2 => ∃ a xs c, vs = [.ref a] ∧ zs = [.int c] ∧ -1000000 ≤ c ∧ c ≤ 1000000 ∧ SqT K H2 a xs ∧ R (IteS K a c) H2
theorem pi_enumS {X : Cx} {e : Expr} {ta tk : TA} {p pos tpos : Pos} {elts : List Expr} {kk : Nat} {kws : List Keyword} (hg : Gl X "enumerate") (hm : X.mg "enumerate" = none) (ha : PA X [e] ta) (hk : PK X kws tk)
    (hks : (backToKw pos (keywordEach kws X.env)).filterMap (·.1) = [Str.ofString "start"] := by rfl)
    (he : backTo pos (starEach [e] X.env) = (false, eval e X.env) :: backTo pos (starEach [] X.env) := by rfl) (hpl : (backTo pos (starEach [e] X.env)).any (·.1) = false := by rfl)
    (hall : (backToKw pos (keywordEach kws X.env)).all (·.1.isSome) = true := by rfl) (hnone : (backToKw pos (keywordEach kws X.env)).any (·.1.isNone) = false := by rfl) :
    PI X (.Tuple elts kk tpos) (.Call (.Name "enumerate" p) [e] kws pos) (iEnumS X.K ta tk) := by
  refine ⟨fun pins s σ H R I h => ?_⟩
  refine wpAny_Call_Name_kw (ld_blt I hg hm boot_enumerate ?_)
  refine callWith_typeKw (thn (ha.run pos pins s σ H _ I h) fun us s1 ⟨vs, H1, I1, r1, q1⟩ => thn (hk.run pos pins s1 σ H1 _ I1 q1) fun ws s2 ⟨zs, H2, I2, r2, q2⟩ => ?_) he hpl hall hnone
  rw [hks]
  obtain ⟨a, xs, c, rfl, rfl, c0, c1, hq, q⟩ := q2
  obtain rfl := Vals.ref1 r1
  obtain ⟨w1, rfl, t1, rfl⟩ := vals1 r2
  obtain ⟨its, rv, p', hz⟩ := I2.tuple hq
  refine PySem.enum_begins_start (begins_tuple a its.toArray) p' (by omega) (by omega) fun g he hit hsz hk => wpAny_pyIter_enum he ?_
  have e0 : c + ((0 : Nat) : Int) = c := by omega
  refine ⟨s2.heap.objs.size + 1, [s2.heap.objs.size + 1, s2.heap.objs.size], _, _, H2, rfl, I2.kept (t' := s2.toks) hk, turn_enumS a (s2.heap.objs.size + 1) s2.heap.objs.size c, ⟨⟨.none, by rw [e0]; exact he⟩, ⟨_, hit, rfl, rfl⟩, Nat.succ_ne_self _⟩, fun b hb => ?_, q⟩
  have le : s2.heap.objs.size ≤ b := by
    rcases List.mem_cons.mp hb with z | z
    · rw [z]; exact Nat.le_add_right _ _
    · rw [List.mem_singleton.mp z]; exact Nat.le_refl _
  exact I2.fpOk le (I2.hok.fresh le)
theorem walk_enumS {K : PySem.W.Frag} {a : Addr} {c : Int} {xs : List V} : Walk (IteS K a c) xs.length (fun H => SqT K H a xs) (YPair (fun i => some (.int (c + (i : Nat)))) (fun i => xs[i]?)) := by
  refine ⟨fun i _ hi q => ⟨xs, xs[i], q, by simp [hi]⟩, fun _ q => ⟨xs, q, Nat.le_refl _⟩, fun i H v H' _ q y => ?_⟩
  obtain ⟨T, x, h1, h2, h3, h4⟩ := y
  exact ⟨T, .int (c + (i : Nat)), x, h1, h2, h3, rfl, h4 xs q⟩
theorem ei_enumS {K : PySem.W.Frag} {σ : L2.St} {H : Hp} {a : Addr} {xs : List V} {ta tk : TA} {c : Int} (h : Evl.EvA ta σ H [.ref a]) (h2 : Evl.EvA tk σ H [.int c]) (hx : SqT K H a xs) (c0 : -1000000 ≤ c) (c1 : c ≤ 1000000) : EvI (iEnumS K ta tk) σ H xs.length (YPair (fun i => some (.int (c + (i : Nat)))) (fun i => xs[i]?)) := fun H1 e R k =>
  h H1 e _ fun H2 e2 => h2 H2 (e.trans e2) _ fun H3 e3 => ⟨a, xs, c, rfl, rfl, c0, c1, Evl.ex_t ((e.trans e2).trans e3) hx, k _ _ H3 (e2.trans e3) walk_enumS fun A ab _ => Evl.ex_t ab hx⟩
theorem aims_enumS {K : PySem.W.Frag} {xs : List V} {j1 j2 : Nat} {c : Int} : Aims (gTup K 2 (gCons (gName j1) (gCons (gName j2) gNil))) xs.length (YPair (fun i => some (.int (c + (i : Nat)))) (fun i => xs[i]?))
    (fun i σ => (σ.set j1 (some (.int (c + (i : Nat))))).set j2 (some (xs.getD i .non))) := fun i σ H v H' hi y => by
  obtain ⟨T, x, y, rfl, hT, rfl, h1, h2⟩ := y
  cases h1
  have h3 : xs[i]? = some y := h2
  obtain rfl : xs.getD i .non = y := by rw [List.getD_eq_getElem?_getD, h3]; rfl
  exact ⟨Evl.Ex.new hT, fun Q q => ⟨T, _, rfl, Evl.st_of upd_same, rfl, _, _, rfl, _, _, rfl, rfl, q⟩⟩
/-! ### a call by keywords alone, which may raise -/
def tCallSN (m : Nat) (sp : Sp) (gV : List V → List V → List V) (E : L2.St → XK) (tk : TA) : TE := fun σ H Q => tk σ H fun zs H2 => zs.length = m ∧ sp (gV [] zs) H2 Q (E σ)
theorem run_fnSN {X : Cx} {CX : CXT} {k n : Nat} {f : Addr} {fd : FuncData} {ps ks : List Str} {sp : Sp} {E : L2.St → XK} {g : List Value → List Value → List Value} {gV : List V → List V → List V} {pins : List (Addr × Obj)} {σ : L2.St} {H : Hp} {s : Shared} {Q : VK} {us ws : List Value} {vs zs : List V} (F : FnOk X.prog X.w X.K X.mg X.base CX k f fd ps sp) (hr : Room k X.A) (hb : KBn X.K fd ps n ks g gV) (hx : PassesAt CX X σ (E σ))
    (I : Inv X pins σ H s) (r : Vals vs us) (rz : Vals zs ws) (l1 : vs.length = n) (l2 : zs.length = ks.length) (h : sp (gV vs zs) H Q (E σ)) : wpAny (model X.prog X.w) X.A (call (.ref f) us (ks.zip ws)) (EP X pins σ Q) X.xe s := by
  have r2 := hb.rel r rz
  refine wpAny_call (codeAny_mono (F.run X.A X.stack s H ⟨us, ks.zip ws⟩ (g us ws) (gV vs zs) Q (E σ) hr I.env0 (hb.to s us ws I.kIn (r.length.symm.trans l1) (rz.length.symm.trans l2)) r2 h) fun r s' hq => ?_)
  cases r with
  | error e => exact hx pins H s e s' I hq
  | ok fl =>
    cases fl with
    | ret u => exact I.after hq
    | next => exact False.elim hq
    | brk => exact False.elim hq
    | cont => exact False.elim hq
theorem pe_callSN {X : Cx} {CX : CXT} {k : Nat} {f : Addr} {fd : FuncData} {ps ks : List Str} {sp : Sp} {E : L2.St → XK} {x : Str} {p pos : Pos} {kws : List Keyword} {tk : TA} {g : List Value → List Value → List Value} {gV : List V → List V → List V}
    (F : FnOk X.prog X.w X.K X.mg X.base CX k f fd ps sp) (hr : Room k X.A) (hg : Gl X x) (hm : X.mg x = some (.ref f)) (hk : PySem.W.keepIn X.K (.ref f) = true) (hb : KBn X.K fd ps 0 ks g gV) (hx : ∀ σ, PassesAt CX X σ (E σ))
    (hkw : PK X kws tk) (hall : (backToKw pos (keywordEach kws X.env)).all (·.1.isSome) = true := by rfl) (hks : (backToKw pos (keywordEach kws X.env)).filterMap (·.1) = ks := by rfl) (hdb : (x == ("__debug__" : Str)) = false := by decide)
    (hpl : ((backTo pos (starEach [] X.env)).any (·.1) || (backToKw pos (keywordEach kws X.env)).any (·.1.isNone)) = false := by rfl) :
    PE X (.Call (.Name x p) [] kws pos) (tCallSN ks.length sp gV E tk) := by
  constructor
  intro pins s σ H Q I h
  refine wpAny_Call_Name_kw (ld_glob I hg hm (PySem.W.callWith_KW0 (h₀ := X.base) I.ok.mod.kin hk hall (thn (hkw.run pos pins s σ H _ I h) fun ws s2 hv => ?_) hpl) hdb)
  obtain ⟨zs, H2, I2, rz, l2, q2⟩ := hv
  refine ⟨I2.kIn, ?_⟩
  rw [hks]
  exact run_fnSN (us := []) (vs := []) F hr hb (hx σ) I2 .nil rz rfl l2 q2
/-! ### str of an instance that has its own -/
def rStrIns (C : Addr) (sp : Sp) (E : XK) : List V → Hp → VK → Prop := fun xs H Q => ∃ (a : Addr) (dx : Addr) (fs : List (Str × V)), xs = [.ref a] ∧ H a = some (.ins C dx fs) ∧ sp [.ref a] H (fun v H' => (∃ z, v = .str z) ∧ Q v H') E
theorem call_strIns {X : Cx} {CX : CXT} {k : Nat} {C f : Addr} {fd : FuncData} {ps : List Str} {sp : Sp} {E : XK} (F : FnOk X.prog X.w X.K X.mg X.base CX k f fd ps sp) (hr : Room (k + 2) X.A)
    (hs : PySem.W.findIn X.K (.ref C) "__str__" = some (some (.ref f))) (hf : PySem.W.isFn X.K (.ref f) = true) (hb : Binds X.K fd ps []) (hx : Passes CX X E) : CallR X (.type "str") (rStrIns C sp E) := by
  intro pins s σ H xs us Q I r h
  obtain ⟨a, dx, fs, rfl, ha, hsp⟩ := h
  obtain rfl := Vals.ref1 r
  obtain ⟨mA, J, _⟩ := ins_get I.hok ha
  obtain ⟨od, J, _⟩ := J.look
  refine PySem.W.kso_call (A := X.A) (by have := hr.un; show X.A.units + 1 + 1 < _; omega) I.kIn J hs hf ?_
  have e0 : Env0 X.prog X.w X.K X.mg X.base X.A.in1.in1 X.stack s H := by
    have e := I.env0
    exact ⟨e.frames, e.mod, e.bs, e.bsz, e.funs, e.frf, e.hok, e.bare⟩
  have hl := F.len _ _ _ _ hsp
  have r2 : Vals [V.ref a] [Value.ref a] := .cons rfl .nil
  refine wpAny_call (codeAny_mono (F.run X.A.in1.in1 X.stack s H ⟨[.ref a], []⟩ [.ref a] [.ref a] _ E (Room.in1 (Room.in1 hr)) e0 (by
    have := hb s [.ref a] I.kIn (by simpa using hl)
    simpa using this) r2 hsp) fun r s' hq => ?_)
  cases r with
  | error e => exact hx pins σ H s e s' I hq
  | ok fl =>
    cases fl with
    | ret w =>
      obtain ⟨z, H', I', rz, ⟨x, ez⟩, q⟩ := I.after hq
      subst ez
      obtain ⟨t, rfl⟩ := rz
      exact ⟨.str x, H', I', ⟨t, rfl⟩, q⟩
    | next => exact False.elim hq
    | brk => exact False.elim hq
    | cont => exact False.elim hq
end EnL
end S_Xe
section S_Cv
namespace P05
open PySem PySem.Spec PyProof.Rows L2 Tl Hk LamX EnL
abbrev sWebS : Stmt := inClass sWeb 2
abbrev teS (j : Nat) : TE := tCB (fun xs H Q => ∃ i, xs = [V.int i] ∧ i.natAbs.log2 < 1920 ∧ Q (.str (toString i)) H) (tCons (tVar j) tNil)
theorem nat_len : ∀ n : Nat, n < 1001 → (toString (n : Int) : Str).length ≤ 10 := by decide +kernel
theorem int_len {i : Int} (h0 : 0 ≤ i) (h1 : i ≤ 1000) : (toString i : Str).length ≤ 10 := by
  have := nat_len i.toNat (by omega)
  rwa [show ((i.toNat : Nat) : Int) = i by omega] at this
theorem int_log {i : Int} (h0 : 0 ≤ i) (h1 : i ≤ 1000) : i.natAbs.log2 < 1920 := by
  have h : i.natAbs < 2 ^ 11 := by
    have : (2:Nat) ^ 11 = 2048 := rfl
    omega
  by_cases z : i.natAbs = 0
  · rw [z]; decide
  · have := (Nat.log2_lt z).mpr h
    omega
theorem sum_le {m : Nat} : ∀ {ys : List Str}, (∀ y ∈ ys, y.length ≤ m) → (ys.map (·.length)).sum ≤ ys.length * m
  | [], _ => by simp
  | y :: r, h => by
    have := sum_le (ys := r) fun z hz => h z (List.mem_cons_of_mem _ hz)
    have h0 := h y List.mem_cons_self
    simp only [List.map_cons, List.sum_cons, List.length_cons, Nat.add_mul]
    omega
theorem join_le (a : Str) (ys : List Str) {m : Nat} (h : ∀ y ∈ ys, y.length ≤ m) : (Txt.join a ys).length ≤ ys.length * m + ys.length * a.length := by
  have := join_len a ys
  have := sum_le h
  omega
theorem ev_joinI {K : PySem.W.Frag} {σ : L2.St} {H : Hp} {ta : TE} {ys : List Str} {m : Nat} (h : Evl.EvL ta σ H (ys.map V.str)) (hm : ∀ y ∈ ys, y.length ≤ m) {a : Str} (hz : ys.length * m + ys.length * a.length ≤ 16777216) :
    Evl.Ev (tBM K "str" (fun x xs H Q => ∃ a p, ∃ ys : List Str, x = .str a ∧ xs = [.ref p] ∧ (SqL K H p (ys.map V.str) ∨ SqT K H p (ys.map V.str)) ∧ (ys.map (·.length)).sum + ys.length * a.length ≤ 16777216 ∧ Q (.str (Txt.join a ys)) H) (tC (.str a)) (tCons ta tNil)) σ H (.str (Txt.join a ys)) := fun H1 e Q q => by
  have hs := sum_le hm
  exact ⟨rfl, h H1 e _ fun p H2 hp e2 h2 => ⟨a, p, ys, rfl, rfl, .inl (Evl.sq_of h2), by omega, q H2 e2⟩⟩
/-- the text of a turn -/
def ttx (ns : List Int) : Str := if ns.isEmpty = true then "-" else Txt.join " " (ns.map fun i => (toString i : Str))
theorem ttx_len {ns : List Int} (hb : ∀ x ∈ ns, 0 ≤ x ∧ x ≤ 1000) (hl : ns.length ≤ 1000) : (ttx ns).length ≤ 11000 := by
  have hm : ∀ y ∈ ns.map (fun i => (toString i : Str)), y.length ≤ 10 := fun y hy => by
    obtain ⟨i, hi, rfl⟩ := List.mem_map.mp hy
    exact int_len (hb i hi).1 (hb i hi).2
  have hj := join_le " " _ hm
  rw [List.length_map] at hj
  have h1 : ((" " : Str)).length = 1 := rfl
  rw [h1] at hj
  unfold ttx
  split
  · decide
  · omega
def spTurnText : Sp := fun vs H Q _ => ∃ (a : Addr) (ns : List Int), vs = [.ref a] ∧ H a = some (.tup (ns.map V.int)) ∧ ns.length ≤ 1000 ∧ (∀ x ∈ ns, 0 ≤ x ∧ x ≤ 1000) ∧ ∀ H1, Evl.Ex H H1 → Q (.str (ttx ns)) H1
theorem spv_turnText {H : Hp} {a : Addr} {ns : List Int} (h : H a = some (.tup (ns.map V.int))) (hl : ns.length ≤ 1000) (hb : ∀ x ∈ ns, 0 ≤ x ∧ x ≤ 1000) : Evl.SpV spTurnText [.ref a] H (.str (ttx ns)) := fun H1 e Q q E => ⟨a, ns, rfl, e _ _ h, hl, hb, q⟩
def spWebS (C : Addr) : Sp := fun vs H Q _ => ∃ (x : Addr) (ts : List (List Int)), vs = [.ref x] ∧ WebAt C H x ts ∧ OkT ts ∧ ∀ H1, Evl.Ex H H1 → Q (.str (Txt.join " / " (ts.map ttx))) H1
theorem scWebS : FnScope ["self", "turn"] ["self"] (defScope sWebS) := ⟨rfl, rfl, rfl, by decide +kernel, rfl, by decide +kernel, by decide +kernel⟩
theorem scTurnText : FnScope ["turn", "place"] ["turn"] (defScope sTurnText) := ⟨rfl, rfl, rfl, by decide +kernel, rfl, by decide +kernel, by decide +kernel⟩
section
variable {P : Program} {w : World} {K : PySem.W.Frag} {mg : Str → Option Value} {base : Heap}
theorem ok_turnText {f : Addr} {fd : FuncData} {k : Nat} (F : Fun K "_turn_text" "_turn_text" sTurnText f fd) (mstr : mg "str" = none) : FnOk P w K mg base CX0 (k + 1) f fd ["turn"] spTurnText := by
  refine F.ok scTurnText (fun vs H Q E h => ?_) (fun cdv A outer s H vs Q E hr h => ?_)
  · obtain ⟨a, ns, rfl, _⟩ := h
    rfl
  · obtain ⟨a, ns, rfl, ha, hl, hb, q⟩ := h
    have nd := scTurnText.nd
    refine ⟨_, pss_one (ps_ret (pe_ifExp (pt_truth (pv 0) (by intro _; rfl))
      (pe_bm PySem.F.plainAttrs_str PySem.F.slot_str_join PySem.F.type_str_join mt_join pe_str (pa_cons
        (pe_lc (own := [("place", 1)]) (g := gName 1) (tt := tYes) (te := teS 1) rfl nd (pi_tup (pv 0)) (blkOk_by (N := ["turn", "place"]) (sc := defScope sTurnText) (by decide +kernel)) (fun _ _ _ _ _ => pg_name (i := 1) nd rfl (Or.inl rfl)) (fun _ _ _ _ _ => pts_nil)
          (fun _ _ _ _ _ => pe_callTy call_str_int (by rfl) mstr (by decide +kernel) (pa_cons (pv 1) pa_nil))) pa_nil)) pe_str)), ?_⟩
    have e0 : (ns.map V.int).length = ns.length := List.length_map ..
    refine ⟨_, rfl, _, .inr (.inl ⟨_, Evl.st_of ha, rfl⟩), ?_⟩
    by_cases hn : (ns.map V.int).isEmpty = true
    · rw [hn]
      have := q H (Evl.Ex.refl _)
      unfold ttx at this
      rw [if_pos (by simpa using hn)] at this
      exact this
    · rw [Bool.not_eq_true] at hn
      rw [hn]
      have hm : ∀ y ∈ ns.map (fun i => (toString i : Str)), y.length ≤ 10 := fun y hy => by
        obtain ⟨i, hi, rfl⟩ := List.mem_map.mp hy
        exact int_len (hb i hi).1 (hb i hi).2
      have h1 : ((" " : Str)).length = 1 := rfl
      refine ev_joinI (K := K) (σ := start ["turn", "place"] [.ref a]) (ys := ns.map (fun i => (toString i : Str))) ?_ hm (by rw [List.length_map, h1]; omega) H (Evl.Ex.refl _) _ fun H2 e2 => by
        have := q H2 e2
        unfold ttx at this
        rw [if_neg (by simpa using hn)] at this
        exact this
      have hh := el_lcT (K := K) (te := teS 1) (t := tYes) (σ := start ["turn", "place"] [.ref a]) (H := H) (j := 1) (vs := [1]) (fun _ => true) (fun i => V.str (toString (ns.getD i 0))) (Evl.ev_var (i := 0) rfl) (Evl.st_of ha) (by omega) (fun _ => rfl) (fun _ _ _ _ _ => et_yes)
        fun i v H2 e2 hv _ => by
          have hi : i < ns.length := by rw [← e0]; exact (List.getElem?_eq_some_iff.mp hv).1
          have ev : v = .int (ns.getD i 0) := by
            have := ints_getD hi
            rw [List.getD_eq_getElem?_getD, hv] at this
            exact this
          subst ev
          have hd := hb _ (List.getElem_mem hi)
          have eg : ns.getD i 0 = ns[i] := by rw [List.getD_eq_getElem?_getD, List.getElem?_eq_getElem hi]; rfl
          exact Evl.ev_cb (Evl.ea_cons (Evl.ev_var rfl) Evl.ea_nil) fun H3 e3 Q q => ⟨_, rfl, by rw [eg]; exact int_log hd.1 hd.2, q H3 (Evl.Ex.refl _)⟩
      rw [e0, given_all ns 0 (fun i => V.str (toString i))] at hh
      rw [List.map_map]
      exact hh
theorem ok_webS {C f fT : Addr} {fd fdT : FuncData} {k : Nat} (F : Fun K "__str__" "Web.__str__" sWebS f fd) (T : TWeb K mg C)
    (FT : Fun K "_turn_text" "_turn_text" sTurnText fT fdT) (GT : FnOk P w K mg base CX0 k fT fdT ["turn"] spTurnText) (bT : Binds K fdT ["turn"] []) (gT : mg "_turn_text" = some (.ref fT)) : FnOk P w K mg base CX0 (k + 1) f fd ["self"] (spWebS C) := by
  refine F.ok scWebS (fun vs H Q E h => ?_) (fun cdv A outer s H vs Q E hr h => ?_)
  · obtain ⟨x, ts, rfl, _⟩ := h
    rfl
  · obtain ⟨x, ts, rfl, hx, hT, q⟩ := h
    have nd := scWebS.nd
    refine ⟨_, pss_one (ps_ret (pe_bm PySem.F.plainAttrs_str PySem.F.slot_str_join PySem.F.type_str_join mt_join pe_str (pa_cons
        (pe_lc (own := [("turn", 1)]) (g := gName 1) (tt := tYes) rfl nd (pi_tup (pe_fld (pv 0) rfl)) (blkOk_by (N := ["self", "turn"]) (sc := defScope sWebS) (by decide +kernel)) (fun _ _ _ _ _ => pg_name (i := 1) nd rfl (Or.inl rfl)) (fun _ _ _ _ _ => pts_nil)
          (fun _ _ _ _ _ => pe_call GT hr (by rfl) gT FT.kp bT .nil pass0 (pa_cons (pv 1) pa_nil))) pa_nil))), ?_⟩
    obtain ⟨dx, t, ti, a1, ⟨as, hl, ha, hrow⟩, a3⟩ := hx
    have p2 := hT.most
    have hmap : (as.map V.ref).length = ts.length := by rw [List.length_map, ha]
    have row : ∀ i, i < ts.length → ∃ a ns, as[i]? = some a ∧ ts[i]? = some ns ∧ H a = some (.tup (ns.map V.int)) := fun i hi => by
      obtain ⟨a, ns, h1, h2⟩ := both_at ha (show i < as.length by omega)
      exact ⟨a, ns, h1, h2, hrow i a ns h1 h2⟩
    have fine : ∀ ns ∈ ts, ns.length ≤ 1000 ∧ ∀ x ∈ ns, 0 ≤ x ∧ x ≤ 1000 := fun ns hns => by
      obtain ⟨i, hi, rfl⟩ := List.mem_iff_getElem.mp hns
      have hg := List.getElem?_eq_getElem hi
      obtain ⟨t1, t2, t3⟩ := hT.pl i _ hg
      refine ⟨by have := hT.short hg; omega, fun x hx => ?_⟩
      have := t2 x hx
      omega
    have hm : ∀ y ∈ ts.map ttx, y.length ≤ 11000 := fun y hy => by
      obtain ⟨ns, hns, rfl⟩ := List.mem_map.mp hy
      exact ttx_len (fine ns hns).2 (fine ns hns).1
    refine Evl.s_ret (ev_joinI (K := K) (ys := ts.map ttx) ?_ hm (by rw [List.length_map]; show ts.length * 11000 + ts.length * 3 ≤ 16777216; omega)) q
    have hh := el_lcT (K := K) (te := tCall spTurnText [] E0 (tCons (tVar 1) tNil)) (t := tYes) (σ := start ["self", "turn"] [.ref x]) (H := H) (j := 1) (vs := [1]) (fun _ => true) (fun i => V.str (ttx (ts.getD i []))) (ev_fld (Evl.ev_var (i := 0) rfl) a1 T.cl T.nT (wf_t _ _ _)) (Evl.st_of hl) (by omega) (fun _ => rfl) (fun _ _ _ _ _ => et_yes)
      fun i v H2 e2 hv _ => by
        have hi : i < ts.length := by rw [← hmap]; exact (List.getElem?_eq_some_iff.mp hv).1
        obtain ⟨a, ns, h1, h2, h3⟩ := row i hi
        have ev : v = .ref a := by
          rw [List.getElem?_map, h1] at hv
          exact (Option.some.inj hv).symm
        subst ev
        have ed : ts.getD i [] = ns := by rw [List.getD_eq_getElem?_getD, h2]; rfl
        rw [ed]
        have hf := fine ns (List.mem_of_getElem? h2)
        exact Evl.ev_call (Evl.ea_cons (Evl.ev_var rfl) Evl.ea_nil) (spv_turnText (e2 _ _ h3) hf.1 hf.2)
    rw [hmap, given_all ts [] (fun ns => V.str (ttx ns))] at hh
    rw [List.map_map]
    exact hh
end
end P05
end S_Cv
section S_Dk
namespace P05
open PySem PySem.Spec PyProof.Rows L2 Tl Hk LamX EnL
abbrev Dct := List (Int × Int)
def enc (l : Dct) : List (L2.Key × V) := l.map fun p => (.inl p.1, .int p.2)
def look (l : Dct) (k : Int) : Option Int := (l.find? fun p => decide (p.1 = k)).map (·.2)
def cast (l : Dct) (k : Int) : Dct := l.filter fun p => decide (p.1 ≠ k)
theorem val_enc (l : Dct) (k : Int) : valV (enc l) (.inl k) = (look l k).map V.int := by
  unfold enc look
  induction l with
  | nil => rfl
  | cons p r ih =>
    rw [List.map_cons, List.find?_cons]
    by_cases e : p.1 = k
    · rw [valV_pos (by show (Sum.inl p.1 : L2.Key) = .inl k; rw [e]), decide_eq_true e]
      rfl
    · rw [valV_neg (by show ¬ (Sum.inl p.1 : L2.Key) = .inl k; exact fun z => e (Sum.inl.inj z)), decide_eq_false e]
      exact ih
theorem drop_enc (l : Dct) (k : Int) : dropK (enc l) (.inl k) = enc (cast l k) := by
  unfold enc cast dropK
  induction l with
  | nil => rfl
  | cons p r ih =>
    rw [List.map_cons, List.filter_cons, List.filter_cons, ih]
    have e : decide ((Sum.inl p.1 : L2.Key) ≠ .inl k) = decide (p.1 ≠ k) := decide_eq_decide.mpr ⟨fun h z => h (by rw [z]), fun h z => h (Sum.inl.inj z)⟩
    show (if decide ((Sum.inl p.1 : L2.Key) ≠ .inl k) = true then _ else _) = _
    rw [e]
    by_cases h : p.1 ≠ k
    · rw [if_pos (decide_eq_true h), if_pos (decide_eq_true h)]
      rfl
    · rw [if_neg (by rw [decide_eq_false h]; decide), if_neg (by rw [decide_eq_false h]; decide)]
/-- the face's walk: what stands behind, side by side, is taken out -/
def walk : Nat → List Dct → Int → Int → Option (List Int × List Dct)
  | 0, _, _, _ => none
  | f + 1, ds, here, there =>
    match ds[(there - 1).toNat]? with
    | none => none
    | some d => if 1 ≤ there then match look d here with
      | none => some ([], ds)
      | some nx => match walk f (ds.set (there - 1).toNat (cast d here)) there nx with
        | none => none
        | some r => some (here :: r.1, r.2)
      else none
/-- the dicts at as -/
def DctAt (H : Hp) (as : List Addr) (ds : List Dct) : Prop := as.length = ds.length ∧ (∀ (i j : Nat) (a : Addr), as[i]? = some a → as[j]? = some a → i = j) ∧ ∀ (i : Nat) (a : Addr) (d : Dct), as[i]? = some a → ds[i]? = some d → H a = some (.dK (enc d))
theorem DctAt.keep {A B : Hp} {as : List Addr} {ds : List Dct} (h : DctAt A as ds) (k : ∀ a ∈ as, ∀ o, A a = some o → B a = some o) : DctAt B as ds := ⟨h.1, h.2.1, fun i a d ha hd => k a (List.mem_of_getElem? ha) _ (h.2.2 i a d ha hd)⟩
theorem DctAt.put {A : Hp} {as : List Addr} {ds : List Dct} (h : DctAt A as ds) {i : Nat} {a : Addr} {d : Dct} (ha : as[i]? = some a) : DctAt (upd A a (.dK (enc d))) as (ds.set i d) := by
  refine ⟨by rw [List.length_set]; exact h.1, h.2.1, fun j b e hb he => ?_⟩
  by_cases hij : i = j
  · subst hij
    rw [ha] at hb
    cases hb
    have hi : i < ds.length := by rw [← h.1]; exact (List.getElem?_eq_some_iff.mp ha).1
    rw [List.getElem?_set_self hi] at he
    cases he
    exact upd_same
  · have hne : b ≠ a := fun z => hij (h.2.1 i j a ha (z ▸ hb))
    rw [upd_ne hne]
    rw [List.getElem?_set_ne hij] at he
    exact h.2.2 j b e hb he
theorem scTaken : FnScope ["left", "one", "other", "places", "here", "there"] ["left", "one", "other"] (defScope sTaken) := ⟨rfl, rfl, rfl, by decide +kernel, rfl, by decide +kernel, by decide +kernel⟩
def spTaken : Sp := fun vs H Q _ => ∃ (l : Addr) (one other : Int) (as : List Addr) (ds : List Dct) (f : Nat) (face : List Int) (es : List Dct), vs = [.ref l, .int one, .int other] ∧ H l = some (.lst (as.map V.ref)) ∧ DctAt H as ds ∧ walk f ds one other = some (face, es) ∧ f ≤ 80000 ∧
  ∀ p H', H p = none → (∀ b o, b ∉ as → H b = some o → H' b = some o) → DctAt H' as es → H' p = some (.tup (face.map V.int)) → Q (.ref p) H'
theorem walk_len : ∀ {f : Nat} {ds : List Dct} {a b : Int} {face : List Int} {es : List Dct}, walk f ds a b = some (face, es) → face.length ≤ f
  | 0, _, _, _, _, _, h => by cases h
  | f + 1, ds, a, b, face, es, h => by
    unfold walk at h
    split at h
    · cases h
    · split at h
      · split at h
        · cases h
          exact Nat.zero_le _
        · split at h
          · cases h
          · rename_i r hr
            cases h
            have := walk_len (face := r.1) (es := r.2) hr
            show r.1.length + 1 ≤ f + 1
            omega
      · cases h
section
variable {P : Program} {w : World} {K : PySem.W.Frag} {mg : Str → Option Value} {base : Heap}
set_option maxHeartbeats 2000000 in
theorem ok_taken {f : Addr} {fd : FuncData} {k : Nat} (F : Fun K "_taken_round" "_taken_round" sTaken f fd) (mtup : mg "tuple" = none) : FnOk P w K mg base CX0 (k + 1) f fd ["left", "one", "other"] spTaken := by
  refine F.ok scTaken (fun vs H Q E h => ?_) (fun cdv A outer s H vs Q E hr h => ?_)
  · obtain ⟨l, one, other, as, ds, fu, face, es, rfl, _⟩ := h
    rfl
  · obtain ⟨l, one, other, as, ds, fu, face, es, rfl, hl, hd, hw, hf, q⟩ := h
    have nd := scTaken.nd
    refine ⟨_, pss_cons (ps_set (i := 3) nd rfl (.inl rfl) (pe_lst pa_nil))
      (pss_cons (ps_par (i := 4) (j := 5) (by rfl) nd rfl rfl (by decide) rfl rfl (pa_cons (pv 1) (pa_cons (pv 2) pa_nil)) (by rfl))
      (pss_cons (ps_while PassesOwn.never (pt_cmp (pc_din (hu_of hr) (pv 4) (pe_ix ix_list (pv 0) (pe_op op_sub (pv 5) pe_int) (fun _ _ => rfl))))
        (pss_cons (ps_expr (pe_bm PySem.F.plainAttrs_list PySem.F.slot_list_append PySem.F.type_list_append mt_append (pv 3) (pa_cons (pv 4) pa_nil)))
        (pss_one (ps_par (i := 4) (j := 5) (by rfl) nd rfl rfl (by decide) rfl rfl (pa_cons (pv 5) (pa_cons (pe_dpop1 (pe_ix ix_list (pv 0) (pe_op op_sub (pv 5) pe_int) (fun _ _ => rfl)) (pv 4) ⟨by rfl, by rfl, by rfl, by rfl⟩) pa_nil)) (by rfl)))))
      (pss_one (ps_ret (pe_callTy call_tuple_of (by rfl) mtup (by decide +kernel) (pa_cons (pv 3) pa_nil)))))), ?_⟩
    refine Evl.q_asgL (xs := []) (Evl.el_lst Evl.ea_nil (Nat.zero_le _)) fun p H1 hp e1 h1 => ?_
    have inAs : ∀ {H' : Hp} {cs : List Dct} {c : Addr}, DctAt H' as cs → c ∈ as → ∃ d : Dct, H' c = some (.dK (enc d)) := fun {H' cs c} hD z => by
      obtain ⟨i, hi, e⟩ := List.mem_iff_getElem.mp z
      exact ⟨_, hD.2.2 i c _ (by rw [List.getElem?_eq_getElem hi, e]) (List.getElem?_eq_getElem (hD.1 ▸ hi))⟩
    have pas : p ∉ as := fun z => by
      obtain ⟨d, h⟩ := inAs hd z
      rw [hp] at h
      cases h
    have lne : l ∉ as := fun z => by
      obtain ⟨d, h⟩ := inAs hd z
      rw [hl] at h
      cases h
    have plt : l ≠ p := ne_of_none hl hp
    refine ⟨_, rfl, _, rfl, _, _, rfl, ?_⟩
    refine Evl.q_while (fun m σ' H' => ∃ (cs : List Dct) (a b : Int) (acc rest : List Int), σ' = [some (.ref l), some (.int one), some (.int other), some (.ref p), some (.int a), some (.int b)] ∧ walk m cs a b = some (rest, es) ∧ acc ++ rest = face ∧ H' p = some (.lst (acc.map V.int)) ∧ DctAt H' as cs ∧ ∀ b o, b ∉ as → H b = some o → H' b = some o) fu ?_ ?_
    · exact ⟨ds, one, other, [], face, rfl, hw, rfl, h1, hd.keep fun a _ o h => e1 _ _ h, fun b o _ h => e1 _ _ h⟩
    · rintro m σ' H' ⟨cs, a, b, acc, rest, rfl, hwk, hface, hP, hD, hK⟩
      cases m with
      | zero => cases hwk
      | succ m =>
        unfold walk at hwk
        cases hcs : cs[(b - 1).toNat]? with
        | none => rw [hcs] at hwk; cases hwk
        | some d =>
          rw [hcs] at hwk
          dsimp only at hwk
          by_cases hb1 : 1 ≤ b
          · rw [if_pos hb1] at hwk
            have hix : (b - 1).toNat < as.length := by rw [hD.1]; exact (List.getElem?_eq_some_iff.mp hcs).1
            have haa : as[(b - 1).toNat]? = some as[(b - 1).toNat] := List.getElem?_eq_getElem hix
            have hmem : as[(b - 1).toNat] ∈ as := List.getElem_mem hix
            have hdd := hD.2.2 _ _ _ haa hcs
            generalize as[(b - 1).toNat] = A0 at haa hmem hdd
            have hl' := hK l _ lne hl
            have at0 : atI (as.map V.ref) (b - 1) = some (.ref A0) := by
              have en : b - 1 = ((b - 1).toNat : Int) := by omega
              rw [en]
              exact atI_nat (by rw [List.getElem?_map, haa]; rfl)
            have evd : ∀ {H2 : Hp} {σ2 : L2.St}, Evl.Ex H' H2 → σ2[0]? = some (some (.ref l)) → σ2[5]? = some (some (.int b)) → Evl.Ev (tOp (rIxL K) (tVar 0) (tOp (rI0 fun i j => V.int (i - j)) (tVar 5) (tC (.int 1)))) σ2 H2 (.ref A0) :=
              fun e k1 k2 => Evl.ev_op (Evl.ev_var k1) (Evl.ev_op (Evl.ev_var k2) Evl.ev_c Evl.rv_I0) (Evl.rv_ixL (Evl.sq_of (e _ _ hl')) at0)
            refine ⟨(valV (enc d) (.inl a)).isSome, fun H1' e1' Q' q' => ev_din (Evl.ev_var rfl) (evd (Evl.Ex.refl H') rfl rfl) hdd H1' e1' _ fun H2' e2' => ⟨_, rfl, q' H2' e2'⟩, fun hb H2 e2 => ?_, fun hb H2 e2 => ?_⟩
            · rw [val_enc] at hb
              cases hlk : look d a with
              | none => rw [hlk] at hb; cases hb
              | some nx =>
                rw [hlk] at hwk
                dsimp only at hwk
                cases hrec : walk m (cs.set (b - 1).toNat (cast d a)) b nx with
                | none => rw [hrec] at hwk; cases hwk
                | some r =>
                  rw [hrec] at hwk
                  obtain ⟨r1, r2⟩ := r
                  cases hwk
                  have hpa : p ≠ A0 := fun z => pas (z ▸ hmem)
                  have wl := walk_len hrec
                  have al : acc.length ≤ 80000 := by
                    have f1 := walk_len hw
                    rw [← hface, List.length_append] at f1
                    omega
                  refine ⟨fun σ2 H2 => ∃ m', m' < m + 1 ∧ ∃ (cs : List Dct) (a b : Int) (acc rest : List Int), σ2 = [some (.ref l), some (.int one), some (.int other), some (.ref p), some (.int a), some (.int b)] ∧ walk m' cs a b = some (rest, r2) ∧ acc ++ rest = face ∧ H2 p = some (.lst (acc.map V.int)) ∧ DctAt H2 as cs ∧ ∀ b o, b ∉ as → H b = some o → H2 b = some o, fun _ _ h => h, ?_⟩
                  refine Evl.q_app (e2 _ _ hP) (Evl.ev_var rfl) (Evl.ev_var rfl) (by rw [List.length_map]; omega) fun H3 e3 => ?_
                  have e23 := e2.trans e3
                  have up3 : ∀ c o, c ≠ p → H' c = some o → (upd H3 p (.lst (acc.map V.int ++ [.int a]))) c = some o := fun c o hc h => by rw [upd_ne hc]; exact e23 _ _ h
                  have l3 := up3 l _ plt hl'
                  have d3 := up3 _ _ (Ne.symm hpa) hdd
                  refine ⟨_, rfl, .ref l, rfl, .int b, rfl, b, 1, rfl, rfl, l, as.map V.ref, b - 1, .ref A0, rfl, rfl, Evl.sq_of l3, at0, A0, rfl, .inl ⟨_, .inl d3⟩, _, rfl, enc d, .inl a, .int nx, d3, rfl, by rw [val_enc, hlk] <;> rfl, _, _, rfl, ?_⟩
                  refine ⟨m, Nat.lt_succ_self m, cs.set (b - 1).toNat (cast d a), b, nx, acc ++ [a], r1, rfl, hrec, by rw [List.append_assoc]; exact hface, ?_, ?_, ?_⟩
                  · rw [upd_ne hpa, upd_same, List.map_append]
                    rfl
                  · rw [drop_enc]
                    exact (hD.keep fun c hc o h => up3 c o (fun z => pas (z ▸ hc)) h).put haa
                  · intro c o hc h
                    rw [upd_ne (fun z : c = A0 => hc (by rw [z]; exact hmem))]
                    exact up3 c o (ne_of_none h hp) (hK c o hc h)
            · rw [val_enc] at hb
              cases hlk : look d a with
              | some nx => rw [hlk] at hb; cases hb
              | none =>
                rw [hlk] at hwk
                cases hwk
                rw [List.append_nil] at hface
                subst hface
                refine ⟨.ref p, rfl, p, _, rfl, .inl ⟨Evl.sq_of (e2 _ _ hP), fun t ht => ?_⟩⟩
                have old : ∀ c o, H' c = some o → (upd H2 t (.tup (acc.map V.int))) c = some o := fun c o h => by
                  have := e2 _ _ h
                  rw [upd_ne (ne_of_none this ht)]
                  exact this
                refine q t _ ?_ (fun c o hc h => old c o (hK c o hc h)) (hD.keep fun c hc o h => old c o h) upd_same
                cases hq : H t with
                | none => rfl
                | some o =>
                  by_cases hta : t ∈ as
                  · obtain ⟨d', h'⟩ := inAs hD hta
                    have := e2 _ _ h'
                    rw [ht] at this
                    cases this
                  · have := e2 _ _ (hK t o hta hq)
                    rw [ht] at this
                    cases this
          · rw [if_neg hb1] at hwk
            cases hwk
end
end P05
end S_Dk
section S_Dl
namespace P05
open PySem PySem.Spec PyProof.Rows L2 Tl Hk LamX EnL
section
open Evl
variable {K : PySem.W.Frag} {σ : L2.St} {H : Hp}
/-- a comprehension whose items are new objects, one each -/
theorem go_lcF {wi : TI} {g : TG} {te : TE} {vs : List Nat} {n : Nat} {Y : Nat → Hp → V → Hp → Prop} {s : Nat → L2.St → L2.St} {o : Nat → HO} (hw : EvI wi σ H n Y) (aim : Aims g n Y s) (hs : ∀ i, wipe (s i (wipe σ vs)) vs = wipe σ vs) (hn : n ≤ 90000)
    (he : ∀ i, i < n → ∀ H1, Ex H H1 → ∀ Q : VK, (∀ p H2, H1 p = none → Ex H1 H2 → H2 p = some (o i) → Q (.ref p) H2) → te (s i (wipe σ vs)) H1 Q) (H1 : Hp) (e : Ex H H1) (Q : VK)
    (q : ∀ (D : Addr) (as : List Addr) (H2 : Hp), H1 D = none → Ex H1 H2 → H2 D = some (.lst (as.map V.ref)) → as.length = n → (∀ (i : Nat) (a : Addr), as[i]? = some a → H1 a = none ∧ H2 a = some (o i) ∧ a ≠ D) → (∀ (i j : Nat) (a : Addr), as[i]? = some a → as[j]? = some a → i = j) → Q (.ref D) H2) :
    tLc wi g tYes te vs σ H1 Q :=
  hw H1 e _ fun J G H2 e2 w sG D hD => lc_it w (fun i H' => Ex H2 H' ∧ ∃ as : List Addr, H' D = some (.lst (as.map V.ref)) ∧ as.length = i ∧ (∀ (k : Nat) (a : Addr), as[k]? = some a → H1 a = none ∧ H' a = some (o k) ∧ a ≠ D) ∧ ∀ (k j : Nat) (a : Addr), as[k]? = some a → as[j]? = some a → k = j)
    ⟨Ex.new hD, [], upd_same, rfl, fun i v h => by simp at h, fun i v a h => by simp at h⟩ (fun i H' _ p => sG H' ((e.trans e2).trans p.1) fun a o _ ha => p.1 _ _ ha)
    (fun i x A B hi p y => by
      obtain ⟨p1, as, p3, p4, p5, p6⟩ := p
      obtain ⟨ab, k⟩ := aim i (wipe σ vs) A x B hi y
      refine k _ ⟨hs i, ?_⟩
      show te (s i (wipe σ vs)) B _
      refine he i hi B (((e.trans e2).trans p1).trans ab) _ fun p C hp eC hC => ⟨as.map V.ref, eC _ _ (ab _ _ p3), sz_lt (by rw [List.length_map]; omega), ((p1.trans ab).trans eC).mut hD, as ++ [p], ?_, by rw [List.length_append, p4] <;> rfl, fun j a ha => ?_, fun j m a ha hb => ?_⟩
      · rw [upd_same, List.map_append]
        rfl
      · rcases addr_snoc ha with ⟨_, ha⟩ | ⟨rfl, rfl⟩
        · obtain ⟨q1, q2, q3⟩ := p5 j a ha
          exact ⟨q1, by rw [upd_ne q3]; exact eC _ _ (ab _ _ q2), q3⟩
        · have pD : p ≠ D := fun z => by rw [z, ab _ _ p3] at hp; cases hp
          exact ⟨fresh_back ((e2.trans p1).trans ab) hp, by rw [upd_ne pD, p4]; exact hC, pD⟩
      · rcases addr_snoc ha with ⟨h1, ha⟩ | ⟨h1, rfl⟩
        · rcases addr_snoc hb with ⟨h2, hb⟩ | ⟨h2, rfl⟩
          · exact p6 j m a ha hb
          · obtain ⟨_, q2, _⟩ := p5 j p ha
            rw [ab _ _ q2] at hp
            cases hp
        · rcases addr_snoc hb with ⟨h2, hb⟩ | ⟨h2, _⟩
          · obtain ⟨_, q2, _⟩ := p5 m p hb
            rw [ab _ _ q2] at hp
            cases hp
          · omega)
    (fun H' p => by
      obtain ⟨p1, as, p3, p4, p5, p6⟩ := p
      exact q D as H' (fresh_back e2 hD) (e2.trans p1) p3 p4 p5 p6)
where
  addr_snoc {xs : List Addr} {v u : Addr} {i : Nat} (h : (xs ++ [v])[i]? = some u) : (i < xs.length ∧ xs[i]? = some u) ∨ (i = xs.length ∧ v = u) := by
    rcases Nat.lt_or_ge i xs.length with hi | hi
    · rw [List.getElem?_append_left hi] at h
      exact .inl ⟨hi, h⟩
    · rw [List.getElem?_append_right hi] at h
      have e : i - xs.length = 0 := by
        have := (List.getElem?_eq_some_iff.mp h).1
        simp at this
        omega
      rw [e] at h
      cases h
      exact .inr ⟨by omega, rfl⟩
/-- a tuple: there or new -/
abbrev IsT (xs : List V) : V → Hp → Prop := fun u H' => ∃ a, u = .ref a ∧ H' a = some (.tup xs)
theorem en_tv {te : TE} {a : Addr} {xs : List V} (h : Ev te σ H (.ref a)) (ha : H a = some (.tup xs)) : EvN te σ H (IsT xs) := fun H1 e Q q => h H1 e Q fun H2 e2 => q _ H2 e2 fun H3 h3 _ => ⟨a, rfl, h3 _ _ ha⟩
theorem en_sl {te : TE} {tl th : TO} {lo hi : Option Int} {a : Addr} {xs : List V} (h : Ev te σ H (.ref a)) (h1 : EvO tl σ H lo) (h2 : EvO th σ H hi) (ha : H a = some (.tup xs)) : EvN (tSl (rSlA K) te tl th) σ H (IsT (cutV xs lo hi)) := fun H1 e Q q =>
  h H1 e _ fun H2 e2 => h1 H2 (e.trans e2) _ fun H3 e3 => h2 H3 ((e.trans e2).trans e3) _ fun H4 e4 => ⟨a, xs, rfl, st_of ((((e.trans e2).trans e3).trans e4) _ _ ha), fun hc => q _ H4 ((e2.trans e3).trans e4) fun H5 h5 _ => ⟨a, rfl, by
    have ec : cutV xs lo hi = xs := by
      unfold cutV
      rw [hc.1, hc.2, List.drop_zero, Nat.sub_zero, List.take_length]
    rw [ec]
    exact h5 _ _ ha⟩, fun _ p hp => q _ _ (((e2.trans e3).trans e4).trans (Ex.new hp)) fun H5 _ s5 => ⟨p, rfl, s5 _ _ (fresh_back ((e2.trans e3).trans e4) hp) upd_same⟩⟩
theorem en_catA {ta tb : TE} {xs ys : List V} (h1 : EvN ta σ H (IsT xs)) (h2 : EvN tb σ H (IsT ys)) (hz : xs.length + ys.length ≤ 90000) : EvN (tOp (rCatA K) ta tb) σ H (IsT (xs ++ ys)) := fun H1 e Q q =>
  h1 H1 e _ fun v H2 e2 hv => h2 H2 (e.trans e2) _ fun u H3 e3 hu => by
    have s1 : ∀ H4, Since H1 H3 H4 → Since H1 H2 H4 := fun H4 s a o hn h => s a o hn (e3 _ _ h)
    have s2 : ∀ H4, Since H1 H3 H4 → Since H2 H3 H4 := fun H4 s a o hn h => s a o (fresh_back e2 hn) h
    obtain ⟨a, rfl, ha⟩ := hv H3 ((e.trans e2).trans e3) (s1 H3 fun _ _ _ h => h)
    obtain ⟨b, rfl, hb⟩ := hu H3 ((e.trans e2).trans e3) (s2 H3 fun _ _ _ h => h)
    refine ⟨a, b, xs, ys, rfl, rfl, st_of ha, st_of hb, sz_of (by omega), fun hx => q _ H3 (e2.trans e3) fun H4 h4 s4 => ?_, fun _ hy => q _ H3 (e2.trans e3) fun H4 h4 s4 => ?_, fun _ _ p hp => q _ _ ((e2.trans e3).trans (Ex.new hp)) fun H4 _ s4 => ⟨p, rfl, s4 _ _ (fresh_back (e2.trans e3) hp) upd_same⟩⟩
    · rw [hx]
      exact hu H4 h4 (s2 H4 s4)
    · rw [hy, List.append_nil]
      exact hv H4 h4 (s1 H4 s4)
end
def rot (ns : List Int) : List Int := ns.drop 1 ++ ns.take 1
def behindOf (ns : List Int) : Dct := ns.zip (rot ns)
theorem rot_len (ns : List Int) : (rot ns).length = ns.length := by
  unfold rot
  rw [List.length_append, List.length_drop, List.length_take]
  omega
theorem merge_new : ∀ (l : Dct) (acc : List (L2.Key × V)), (l.map (·.1)).Nodup → (∀ p ∈ l, valV acc (.inl p.1) = none) → mergeK acc (enc l) = acc ++ enc l
  | [], acc, _, _ => (List.append_nil acc).symm
  | p :: r, acc, hn, hv => by
    rw [List.map_cons, List.nodup_cons] at hn
    show mergeK (putK acc (.inl p.1) (.int p.2)) (enc r) = acc ++ ((Sum.inl p.1, V.int p.2) :: enc r)
    rw [putK_new _ (hv p List.mem_cons_self), merge_new r _ hn.2 fun q hq => ?_, List.append_assoc]
    · rfl
    · rw [← putK_new _ (hv p List.mem_cons_self), valV_put, if_neg]
      · exact hv q (List.mem_cons_of_mem _ hq)
      · intro z
        have := Sum.inl.inj z
        exact hn.1 (this ▸ List.mem_map_of_mem (f := (·.1)) hq)
theorem zip_enc : ∀ (ks ys : List Int), zipK ks (ys.map V.int) = enc (ks.zip ys)
  | [], _ => rfl
  | _ :: _, [] => rfl
  | k :: ks, y :: ys => congrArg (((Sum.inl k : L2.Key), V.int y) :: ·) (zip_enc ks ys)
theorem merge_behind {ns : List Int} (h : ns.Nodup) : mergeK [] (zipK ns ((rot ns).map V.int)) = enc (behindOf ns) := by
  rw [zip_enc]
  refine merge_new _ _ ?_ fun _ _ => rfl
  rw [List.map_fst_zip (by rw [rot_len]; exact Nat.le_refl _)]
  exact h
theorem cutD1 (xs : List V) : cutV xs (some 1) none = xs.drop 1 := by
  unfold cutV
  rw [HT.sIx_none, show HT.sIx xs.length 0 (some 1) = min 1 xs.length from HT.sIx_nat _ _ 1]
  by_cases h : 1 ≤ xs.length
  · rw [Nat.min_eq_left h]
    exact List.take_of_length_le (by rw [List.length_drop]; exact Nat.le_refl _)
  · have e : xs = [] := List.length_eq_zero_iff.mp (by omega)
    subst e
    rfl
theorem cutT1 (xs : List V) : cutV xs none (some 1) = xs.take 1 := by
  unfold cutV
  rw [HT.sIx_none, show HT.sIx xs.length xs.length (some 1) = min 1 xs.length from HT.sIx_nat _ _ 1, List.drop_zero, Nat.sub_zero]
  by_cases h : 1 ≤ xs.length
  · rw [Nat.min_eq_left h]
  · rw [Nat.min_eq_right (by omega), List.take_length, List.take_of_length_le (by omega)]
theorem scBehind : FnScope ["web", "turn"] ["web"] (defScope sBehind) := ⟨rfl, rfl, rfl, by decide +kernel, rfl, by decide +kernel, by decide +kernel⟩
def spBehind (C : Addr) : Sp := fun vs H Q _ => ∃ (x : Addr) (ts : List (List Int)), vs = [.ref x] ∧ WebAt C H x ts ∧ OkT ts ∧
  ∀ (l : Addr) (as : List Addr) (H' : Hp), H l = none → Evl.Ex H H' → H' l = some (.lst (as.map V.ref)) → DctAt H' as (ts.map behindOf) → (∀ a ∈ as, H a = none) → Q (.ref l) H'
section
variable {P : Program} {w : World} {K : PySem.W.Frag} {mg : Str → Option Value} {base : Heap}
theorem ok_behind {C f : Addr} {fd : FuncData} {k : Nat} (F : Fun K "places_behind" "places_behind" sBehind f fd) (T : TWeb K mg C) (mdict : mg "dict" = none) (mzip : mg "zip" = none) :
    FnOk P w K mg base CX0 (k + 1) f fd ["web"] (spBehind C) := by
  refine F.ok scBehind (fun vs H Q E h => ?_) (fun cdv A outer s H vs Q E hr h => ?_)
  · obtain ⟨x, ts, rfl, _⟩ := h
    rfl
  · obtain ⟨x, ts, rfl, hW, hT, q⟩ := h
    have nd := scBehind.nd
    refine ⟨_, pss_one (ps_ret (pe_lc (own := [("turn", 1)]) (g := gName 1) (tt := tYes) (te := tDictZip K (tCons (tVar 1) (tCons (tOp (rCatA K) (tSl (rSlA K) (tVar 1) (tPart (tC (.int 1))) tNoPart) (tSl (rSlA K) (tVar 1) tNoPart (tPart (tC (.int 1))))) tNil))) rfl nd (pi_tup (pe_fld (pv 0) rfl)) (blkOk_by (N := ["web", "turn"]) (sc := defScope sBehind) (by decide +kernel)) (fun _ _ _ _ _ => pg_name (i := 1) nd rfl (Or.inl rfl)) (fun _ _ _ _ _ => pts_nil)
      (fun _ _ _ _ _ => pe_dictZip (by rfl) mdict (by rfl) mzip (pa_cons (pv 1) (pa_cons (pe_op op_catA (pe_slice sl_tupA (pv 1) (po_some pe_int) po_none) (pe_slice sl_tupA (pv 1) po_none (po_some pe_int))) pa_nil))))), ?_⟩
    obtain ⟨dx, t, ti, h1, ⟨bs, h2, hbl, hrow⟩, h3⟩ := hW
    have hmap : (bs.map V.ref).length = ts.length := by rw [List.length_map, hbl]
    have p2 := hT.most
    refine go_lcF (o := fun i => .dK (enc (behindOf (ts.getD i [])))) (ei_tup (ev_fld (Evl.ev_var rfl) h1 T.cl T.nT (wf_t _ _ _)) (Evl.st_of h2)) aims_at (fun _ => rfl) (by omega) (fun i hi H1 e1 Q1 q1 => ?_) H (Evl.Ex.refl H) _ fun D as H2 hD e2 h4 h5 h6 h7 => q D as H2 hD e2 h4 ⟨by rw [h5, hmap, List.length_map], h7, fun i a d ha hd => ?_⟩ fun a ha => ?_
    · obtain ⟨a, ns, ha, hn⟩ := both_at hbl (show i < bs.length by rw [List.length_map] at hi; exact hi)
      have hat := hrow i a ns ha hn
      have ed : ts.getD i [] = ns := by rw [List.getD_eq_getElem?_getD, hn]; rfl
      obtain ⟨t1, _, _⟩ := hT.pl i ns hn
      have hsh := hT.short hn
      have c1 : Evl.Ev (tVar 1) ([none, some ((bs.map V.ref).getD i .non)] : L2.St) H (.ref a) := Evl.ev_is (Evl.ev_var rfl) (refs_getD ha)
      have rr : EvN (tOp (rCatA K) (tSl (rSlA K) (tVar 1) (tPart (tC (.int 1))) tNoPart) (tSl (rSlA K) (tVar 1) tNoPart (tPart (tC (.int 1))))) ([none, some ((bs.map V.ref).getD i .non)] : L2.St) H (IsT ((rot ns).map V.int)) := by
        have := en_catA (K := K) (en_sl (K := K) c1 (Evl.eo_some Evl.ev_c) Evl.eo_none hat) (en_sl (K := K) c1 Evl.eo_none (Evl.eo_some Evl.ev_c) hat) (by rw [cutD1, cutT1, List.length_drop, List.length_take, List.length_map]; omega)
        rw [cutD1, cutT1, ← List.map_drop, ← List.map_take, ← List.map_append] at this
        exact this
      show tCons _ _ _ _ _
      refine cons_v (c1.mono e1) fun H3 e3 => ?_
      refine rr H3 (e1.trans e3) _ fun v H4 e4 hv => ?_
      obtain ⟨b, rfl, hb⟩ := hv H4 ((e1.trans e3).trans e4) fun _ _ _ h => h
      refine ⟨a, b, ns, (rot ns).map V.int, rfl, Evl.st_of (((e1.trans e3).trans e4) _ _ hat), Evl.st_of hb, by rw [List.length_map, rot_len], fun p hp => q1 p _ (Evl.fresh_back (e3.trans e4) hp) ((e3.trans e4).trans (Evl.Ex.new hp)) ?_⟩
      rw [upd_same, merge_behind t1, ed]
    · rw [List.getElem?_map] at hd
      cases hq : ts[i]? with
      | none => rw [hq] at hd; cases hd
      | some ns =>
        rw [hq] at hd
        cases hd
        have := (h6 i a ha).2.1
        rw [List.getD_eq_getElem?_getD, hq] at this
        exact this
    · obtain ⟨i, hi, rfl⟩ := List.mem_iff_getElem.mp ha
      exact (h6 i _ (List.getElem?_eq_getElem hi)).1
end
end P05
end S_Dl
section S_Dp
namespace P05
open PySem PySem.Spec PyProof.Rows L2 Tl Hk LamX EnL
/-! ### what stands behind in a row -/
def idxI : List Int → Int → Option Nat
  | [], _ => none
  | x :: r, p => if x = p then some 0 else (idxI r p).map (· + 1)
theorem idx_of : ∀ {ns : List Int} {p : Int} {j : Nat}, idxI ns p = some j → ns[j]? = some p ∧ ∀ (m : Nat) (z : Int), m < j → ns[m]? = some z → z ≠ p
  | [], _, _, h => by cases h
  | x :: r, p, j, h => by
    unfold idxI at h
    by_cases e : x = p
    · rw [if_pos e] at h
      cases h
      exact ⟨by rw [e] <;> rfl, fun m z hm => absurd hm (Nat.not_lt_zero m)⟩
    · rw [if_neg e] at h
      cases hq : idxI r p with
      | none => rw [hq] at h; cases h
      | some j' =>
        rw [hq] at h
        cases h
        obtain ⟨a1, a2⟩ := idx_of hq
        refine ⟨by simpa using a1, fun m z hm hz => ?_⟩
        cases m with
        | zero =>
          cases hz
          exact e
        | succ m => exact a2 m z (by have : m + 1 < j' + 1 := hm; omega) (by simpa using hz)
theorem idx_mem : ∀ {ns : List Int} {p : Int}, p ∈ ns → ∃ j, idxI ns p = some j
  | [], _, h => nomatch h
  | x :: r, p, h => by
    unfold idxI
    by_cases e : x = p
    · exact ⟨0, if_pos e⟩
    · rw [if_neg e]
      obtain ⟨j, hj⟩ := idx_mem ((List.mem_cons.mp h).resolve_left fun z => e z.symm)
      exact ⟨j + 1, by rw [hj]; rfl⟩
def behindL (ns : List Int) (p : Int) : Option Int := match idxI ns p with
  | none => none
  | some j => ns[(j + 1) % ns.length]?
theorem behind_some {ns : List Int} {p : Int} (h : p ∈ ns) : ∃ j c, idxI ns p = some j ∧ j < ns.length ∧ ns[j]? = some p ∧ behindL ns p = some c ∧ ns[(j + 1) % ns.length]? = some c ∧ c ∈ ns := by
  obtain ⟨j, hj⟩ := idx_mem h
  have h1 := (idx_of hj).1
  have hl : j < ns.length := (List.getElem?_eq_some_iff.mp h1).1
  have hm : (j + 1) % ns.length < ns.length := Nat.mod_lt _ (by omega)
  refine ⟨j, ns[(j + 1) % ns.length], hj, hl, h1, ?_, List.getElem?_eq_getElem hm, List.getElem_mem hm⟩
  unfold behindL
  rw [hj]
  exact List.getElem?_eq_getElem hm
theorem behind_mem {ns : List Int} {p c : Int} (h : behindL ns p = some c) : p ∈ ns ∧ c ∈ ns := by
  unfold behindL at h
  cases hj : idxI ns p with
  | none => rw [hj] at h; cases h
  | some j =>
    rw [hj] at h
    exact ⟨List.mem_of_getElem? (idx_of hj).1, List.mem_of_getElem? h⟩
theorem behind_inj {ns : List Int} (hn : ns.Nodup) {p q c : Int} (h1 : behindL ns p = some c) (h2 : behindL ns q = some c) : p = q := by
  obtain ⟨i, a, _, i2, i3, i4, i5, _⟩ := behind_some (behind_mem h1).1
  obtain ⟨j, b, _, j2, j3, j4, j5, _⟩ := behind_some (behind_mem h2).1
  rw [h1] at i4
  cases i4
  rw [h2] at j4
  cases j4
  obtain ⟨u1, u2⟩ := List.getElem?_eq_some_iff.mp i5
  obtain ⟨v1, v2⟩ := List.getElem?_eq_some_iff.mp j5
  have e := (List.getElem_inj hn).mp (u2.trans v2.symm)
  have : i = j := by
    by_cases h3 : i + 1 < ns.length
    · rw [Nat.mod_eq_of_lt h3] at e
      by_cases h4 : j + 1 < ns.length
      · rw [Nat.mod_eq_of_lt h4] at e
        omega
      · have : j + 1 = ns.length := by omega
        rw [this, Nat.mod_self] at e
        omega
    · have h5 : i + 1 = ns.length := by omega
      rw [h5, Nat.mod_self] at e
      by_cases h4 : j + 1 < ns.length
      · rw [Nat.mod_eq_of_lt h4] at e
        omega
      · omega
  subst this
  rw [i3] at j3
  exact Option.some.inj j3
theorem look_zip : ∀ (ns ms : List Int) (p : Int), ns.length = ms.length → look (ns.zip ms) p = (idxI ns p).bind fun j => ms[j]?
  | [], [], _, _ => rfl
  | [], _ :: _, _, h => nomatch h
  | _ :: _, [], _, h => nomatch h
  | x :: ns, y :: ms, p, h => by
    have ih := look_zip ns ms p (Nat.succ.inj h)
    unfold look at ih ⊢
    rw [List.zip_cons_cons, List.find?_cons]
    unfold idxI
    by_cases e : x = p
    · rw [if_pos e, decide_eq_true e]
      rfl
    · rw [if_neg e, decide_eq_false e]
      dsimp only
      rw [ih]
      cases idxI ns p <;> rfl
theorem rot_at {ns : List Int} {j : Nat} (h : j < ns.length) : (rot ns)[j]? = ns[(j + 1) % ns.length]? := by
  unfold rot
  by_cases h1 : j + 1 < ns.length
  · rw [Nat.mod_eq_of_lt h1, List.getElem?_append_left (by rw [List.length_drop]; omega), List.getElem?_drop, Nat.add_comm]
  · have : j + 1 = ns.length := by omega
    rw [this, Nat.mod_self, List.getElem?_append_right (by rw [List.length_drop]; omega), List.length_drop, List.getElem?_take]
    rw [if_pos (by omega)]
    congr 1
    omega
theorem look_behind (ns : List Int) (p : Int) : look (behindOf ns) p = behindL ns p := by
  unfold behindOf
  rw [look_zip ns (rot ns) p (rot_len ns).symm]
  unfold behindL
  cases hj : idxI ns p with
  | none => rfl
  | some j => exact rot_at (List.getElem?_eq_some_iff.mp (idx_of hj).1).1
/-! ### sides, and what is next -/
abbrev Sd := Int × Int
def nxs (ts : List (List Int)) (s : Sd) : Option Sd := if 1 ≤ s.2 then (ts[(s.2 - 1).toNat]?).bind fun ns => (behindL ns s.1).map fun c => (s.2, c) else none
def Side (ts : List (List Int)) (s : Sd) : Prop := 1 ≤ s.2 ∧ ∃ ns, ts[(s.2 - 1).toNat]? = some ns ∧ s.1 ∈ ns
theorem side_next {ts : List (List Int)} {s : Sd} (h : Side ts s) : ∃ c, nxs ts s = some (s.2, c) ∧ ∃ ns, ts[(s.2 - 1).toNat]? = some ns ∧ behindL ns s.1 = some c := by
  obtain ⟨h1, ns, h2, h3⟩ := h
  obtain ⟨_, c, _, _, _, h4, _, _⟩ := behind_some h3
  refine ⟨c, ?_, ns, h2, h4⟩
  unfold nxs
  rw [if_pos h1, h2]
  show (behindL ns s.1).map _ = _
  rw [h4]
  rfl
theorem next_side {ts : List (List Int)} {s : Sd} {c : Int} {ns : List Int} (h1 : 1 ≤ s.2) (h2 : ts[(s.2 - 1).toNat]? = some ns) (h3 : behindL ns s.1 = some c) : nxs ts s = some (s.2, c) := by
  unfold nxs
  rw [if_pos h1, h2]
  show (behindL ns s.1).map _ = _
  rw [h3]
  rfl
theorem nxs_some {ts : List (List Int)} {s t : Sd} (h : nxs ts s = some t) : Side ts s ∧ t.1 = s.2 ∧ ∃ ns, ts[(s.2 - 1).toNat]? = some ns ∧ behindL ns s.1 = some t.2 := by
  unfold nxs at h
  split at h
  · rename_i h1
    cases h2 : ts[(s.2 - 1).toNat]? with
    | none => rw [h2] at h; cases h
    | some ns =>
      rw [h2] at h
      have h : (behindL ns s.1).map (fun c => (s.2, c)) = some t := h
      cases h3 : behindL ns s.1 with
      | none => rw [h3] at h; cases h
      | some c =>
        rw [h3] at h
        cases h
        exact ⟨⟨h1, ns, h2, (behind_mem h3).1⟩, rfl, ns, rfl, h3⟩
  · cases h
theorem nxs_inj {ts : List (List Int)} (hT : OkT ts) {s t u : Sd} (h1 : nxs ts s = some u) (h2 : nxs ts t = some u) : s = t := by
  obtain ⟨_, a1, ns, a2, a3⟩ := nxs_some h1
  obtain ⟨_, b1, ms, b2, b3⟩ := nxs_some h2
  have e : s.2 = t.2 := a1.symm.trans b1
  rw [e, b2] at a2
  cases a2
  exact Prod.ext (behind_inj (hT.pl _ _ b2).1 a3 b3) e
theorem nxs_side {ts : List (List Int)} (hT : OkT ts) {s t : Sd} (h : nxs ts s = some t) : Side ts t := by
  obtain ⟨⟨h1, _⟩, a1, ns, a2, a3⟩ := nxs_some h
  have hc := (behind_mem a3).2
  obtain ⟨ms, m1, m2⟩ := hT.sym _ ns t.2 a2 hc
  have := (hT.pl _ ns a2).2.1 t.2 hc
  refine ⟨this.1, ms, m1, ?_⟩
  rw [a1, show s.2 = (((s.2 - 1).toNat : Nat) : Int) + 1 by omega]
  exact m2
/-- the other way round -/
theorem side_swap {ts : List (List Int)} (hT : OkT ts) {s : Sd} (h : Side ts s) : Side ts (s.2, s.1) := by
  obtain ⟨h1, ns, h2, h3⟩ := h
  obtain ⟨ms, m1, m2⟩ := hT.sym _ ns s.1 h2 h3
  refine ⟨((hT.pl _ ns h2).2.1 _ h3).1, ms, m1, ?_⟩
  show s.2 ∈ ms
  rw [show s.2 = (((s.2 - 1).toNat : Nat) : Int) + 1 by omega]
  exact m2
/-! ### a walk -/
def walkS (ts : List (List Int)) : Nat → List Sd → Sd → Option (List Sd × List Sd)
  | 0, _, _ => none
  | f + 1, seen, s => if s ∈ seen then some ([], seen) else match nxs ts s with
    | none => none
    | some t => match walkS ts f (seen ++ [s]) t with
      | none => none
      | some r => some (s :: r.1, r.2)
theorem walkS_seen {ts : List (List Int)} : ∀ {f : Nat} {seen : List Sd} {s : Sd} {l r : List Sd}, walkS ts f seen s = some (l, r) → r = seen ++ l ∧ l.length ≤ f
  | 0, _, _, _, _, h => nomatch h
  | f + 1, seen, s, l, r, h => by
    unfold walkS at h
    split at h
    · cases h
      exact ⟨(List.append_nil _).symm, Nat.zero_le _⟩
    · split at h
      · cases h
      · split at h
        · cases h
        · rename_i q hq
          cases h
          obtain ⟨e, el⟩ := walkS_seen (l := q.1) (r := q.2) hq
          exact ⟨by rw [e, List.append_assoc]; rfl, by show q.1.length + 1 ≤ f + 1; omega⟩
/-- sides one behind another -/
def Path (ts : List (List Int)) (l : List Sd) : Prop := ∀ (i : Nat) (u v : Sd), l[i]? = some u → l[i + 1]? = some v → nxs ts u = some v
/-- once round -/
structure Cyc (ts : List (List Int)) (l : List Sd) : Prop where
  ne : l ≠ []
  nd : l.Nodup
  side : ∀ s ∈ l, Side ts s
  path : ∀ s, l.head? = some s → Path ts (l ++ [s])
def Closed (ts : List (List Int)) (seen : List Sd) : Prop := ∀ s t, nxs ts s = some t → (s ∈ seen ↔ t ∈ seen)
theorem path_snoc {ts : List (List Int)} {p : List Sd} {s t : Sd} (h : Path ts (p ++ [s])) (hs : nxs ts s = some t) : Path ts (p ++ [s] ++ [t]) := fun i u v h1 h2 => by
  rcases Nat.lt_or_ge (i + 1) (p ++ [s]).length with hi | hi
  · rw [List.getElem?_append_left hi] at h2
    rw [List.getElem?_append_left (by omega)] at h1
    exact h i u v h1 h2
  · have hl : i + 1 < (p ++ [s] ++ [t]).length := (List.getElem?_eq_some_iff.mp h2).1
    have e : i + 1 = (p ++ [s]).length := by
      rw [List.length_append (as := p ++ [s])] at hl
      simp only [List.length_singleton] at hl
      omega
    rw [List.getElem?_append_right hi, e, Nat.sub_self] at h2
    cases h2
    have ei : i = p.length := by simp at e; omega
    rw [List.getElem?_append_left (by simp; omega), ei, List.getElem?_append_right (Nat.le_refl _), Nat.sub_self] at h1
    cases h1
    exact hs
theorem nodup_le : ∀ {l m : List Sd}, l.Nodup → (∀ s ∈ l, s ∈ m) → l.length ≤ m.length
  | [], _, _, _ => Nat.zero_le _
  | a :: l, m, hn, h => by
    have h1 := List.nodup_cons.mp hn
    have h2 := nodup_le (m := m.erase a) h1.2 fun s hs => (List.mem_erase_of_ne (fun e => h1.1 (by rw [← e]; exact hs))).mpr (h s (List.mem_cons_of_mem _ hs))
    rw [List.length_erase_of_mem (h a List.mem_cons_self)] at h2
    have := List.length_pos_of_mem (h a List.mem_cons_self)
    show l.length + 1 ≤ _
    omega
/-- the walk goes on till it is once round -/
theorem walk_go {ts : List (List Int)} (hT : OkT ts) {all seen : List Sd} (ha : ∀ s, Side ts s → s ∈ all) (hsd : ∀ s ∈ seen, Side ts s) (hc : Closed ts seen) :
    ∀ (f : Nat) (p : List Sd) (s s0 : Sd), (p ++ [s]).head? = some s0 → Path ts (p ++ [s]) → Side ts s → (seen ++ p).Nodup → (∀ u ∈ p, Side ts u) → s0 ∉ seen → all.length + 1 ≤ f + (seen ++ p).length →
      ∃ q, walkS ts f (seen ++ p) s = some (q, seen ++ p ++ q) ∧ (seen ++ (p ++ q)).Nodup ∧ p ++ q ≠ [] ∧ (p ++ q).head? = some s0 ∧ (∀ u ∈ p ++ q, Side ts u) ∧ Path ts (p ++ q ++ [s0])
  | 0, p, s, s0, _, _, _, hn, hp, _, hf => by
    have := nodup_le hn fun u hu => ha u ((List.mem_append.mp hu).elim (hsd u) (hp u))
    omega
  | f + 1, p, s, s0, hh, hP, hS, hn, hp, h0, hf => by
    unfold walkS
    by_cases hm : s ∈ seen ++ p
    · rw [if_pos hm]
      have hpre : ∀ (i : Nat) (u : Sd), p[i]? = some u → i + 1 = p.length → nxs ts u = some s := fun i u hu hi => hP i u s (by rw [List.getElem?_append_left (by omega)]; exact hu) (by rw [List.getElem?_append_right (by omega), hi, Nat.sub_self]; rfl)
      have hs0 : s = s0 ∧ p ≠ [] := by
        rcases List.mem_append.mp hm with hm1 | hm1
        · exfalso
          rcases List.eq_nil_or_concat p with rfl | ⟨p', u, rfl⟩
          · cases hh
            exact h0 hm1
          · have := hpre p'.length u (by simp) (by simp)
            have hu := (hc u s this).mpr hm1
            exact (List.nodup_append.mp hn).2.2 u hu u (by simp) rfl
        · obtain ⟨j, hj⟩ := List.mem_iff_getElem?.mp hm1
          have hjl := (List.getElem?_eq_some_iff.mp hj).1
          refine ⟨?_, fun z => by rw [z] at hm1; cases hm1⟩
          cases j with
          | zero =>
            cases p with
            | nil => cases hm1
            | cons a p =>
              cases hj
              cases hh
              rfl
          | succ j =>
            exfalso
            obtain ⟨u, hu⟩ : ∃ u, p[j]? = some u := ⟨_, List.getElem?_eq_getElem (by omega)⟩
            have e1 : nxs ts u = some s := hP j u s (by rw [List.getElem?_append_left (by omega)]; exact hu) (by rw [List.getElem?_append_left hjl]; exact hj)
            obtain ⟨v, hv⟩ : ∃ v, p[p.length - 1]? = some v := ⟨_, List.getElem?_eq_getElem (by omega)⟩
            have e2 := hpre (p.length - 1) v hv (by omega)
            have e3 := nxs_inj hT e1 e2
            subst e3
            obtain ⟨l1, g1⟩ := List.getElem?_eq_some_iff.mp hu
            obtain ⟨l2, g2⟩ := List.getElem?_eq_some_iff.mp hv
            have := (List.getElem_inj (List.nodup_append.mp hn).2.1).mp (g1.trans g2.symm)
            omega
      obtain ⟨rfl, hne⟩ := hs0
      refine ⟨[], by rw [List.append_nil], by rw [List.append_nil]; exact hn, by rw [List.append_nil]; exact hne, ?_, by rw [List.append_nil]; exact hp, by rw [List.append_nil]; exact hP⟩
      rw [List.append_nil]
      cases p with
      | nil => exact absurd rfl hne
      | cons a p => cases hh; rfl
    · rw [if_neg hm]
      obtain ⟨c, h1, _⟩ := side_next hS
      rw [h1]
      dsimp only
      have hn2 : (seen ++ (p ++ [s])).Nodup := by
        rw [← List.append_assoc, List.nodup_append]
        refine ⟨hn, by simp, fun x hx y hy e => ?_⟩
        rw [List.mem_singleton.mp hy] at e
        exact hm (e ▸ hx)
      obtain ⟨q, w1, w2, w3, w4, w5, w6⟩ := walk_go hT ha hsd hc f (p ++ [s]) (s.2, c) s0 (by
        cases p with
        | nil => exact hh
        | cons a p => exact hh) (path_snoc hP h1) (nxs_side hT h1) hn2 (fun u hu => (List.mem_append.mp hu).elim (hp u) fun z => by rw [List.mem_singleton.mp z]; exact hS) h0 (by
        simp only [List.length_append, List.length_singleton] at hf ⊢
        omega)
      have ea : seen ++ p ++ [s] = seen ++ (p ++ [s]) := List.append_assoc ..
      rw [ea, w1]
      have eq : p ++ [s] ++ q = p ++ (s :: q) := by rw [List.append_assoc]; rfl
      refine ⟨s :: q, ?_, by rw [← eq]; exact w2, by rw [← eq]; exact w3, by rw [← eq]; exact w4, by rw [← eq]; exact w5, by rw [← eq]; exact w6⟩
      dsimp only
      rw [← List.append_assoc, List.append_assoc (as := seen ++ p)]
      rfl
theorem walk_cyc {ts : List (List Int)} (hT : OkT ts) {all seen : List Sd} {f : Nat} {s : Sd} (ha : ∀ s, Side ts s → s ∈ all) (hsd : ∀ s ∈ seen, Side ts s) (hc : Closed ts seen) (hn : seen.Nodup) (hs : Side ts s) (h0 : s ∉ seen) (hf : all.length + 1 ≤ f) :
    ∃ l, walkS ts f seen s = some (l, seen ++ l) ∧ (seen ++ l).Nodup ∧ Cyc ts l ∧ l.head? = some s := by
  obtain ⟨q, w1, w2, w3, w4, w5, w6⟩ := walk_go hT ha hsd hc f [] s s rfl (fun i u v h1 h2 => by simp at h2) hs (by rw [List.append_nil]; exact hn) (fun u hu => nomatch hu) h0 (by omega)
  simp only [List.append_nil, List.nil_append] at w1 w2 w3 w4 w5 w6
  exact ⟨q, w1, w2, ⟨w3, (List.nodup_append.mp w2).2.1, w5, fun t ht => by rw [w4] at ht; cases ht; exact w6⟩, w4⟩
theorem cyc_prev {ts : List (List Int)} {l : List Sd} (h : Cyc ts l) {v : Sd} (hv : v ∈ l) : ∃ u ∈ l, nxs ts u = some v := by
  obtain ⟨s, hs⟩ : ∃ s, l.head? = some s := by
    cases l with
    | nil => exact absurd rfl h.ne
    | cons a r => exact ⟨a, rfl⟩
  have hP := h.path s hs
  obtain ⟨j, hj⟩ := List.mem_iff_getElem?.mp hv
  have hjl := (List.getElem?_eq_some_iff.mp hj).1
  cases j with
  | zero =>
    have e : v = s := by
      rw [List.head?_eq_getElem?, hj] at hs
      exact Option.some.inj hs
    obtain ⟨u, hu⟩ : ∃ u, l[l.length - 1]? = some u := ⟨_, List.getElem?_eq_getElem (by omega)⟩
    refine ⟨u, List.mem_of_getElem? hu, hP (l.length - 1) u v (by rw [List.getElem?_append_left (by omega)]; exact hu) ?_⟩
    rw [List.getElem?_append_right (by omega), show l.length - 1 + 1 - l.length = 0 by omega, e]
    rfl
  | succ j =>
    obtain ⟨u, hu⟩ : ∃ u, l[j]? = some u := ⟨_, List.getElem?_eq_getElem (by omega)⟩
    exact ⟨u, List.mem_of_getElem? hu, hP j u v (by rw [List.getElem?_append_left (by omega)]; exact hu) (by rw [List.getElem?_append_left hjl]; exact hj)⟩
theorem cyc_next {ts : List (List Int)} {l : List Sd} (h : Cyc ts l) {u v : Sd} (hu : u ∈ l) (hv : nxs ts u = some v) : v ∈ l := by
  obtain ⟨s, hs⟩ : ∃ s, l.head? = some s := by
    cases l with
    | nil => exact absurd rfl h.ne
    | cons a r => exact ⟨a, rfl⟩
  have hP := h.path s hs
  obtain ⟨j, hj⟩ := List.mem_iff_getElem?.mp hu
  have hjl := (List.getElem?_eq_some_iff.mp hj).1
  by_cases hl : j + 1 < l.length
  · have := hP j u l[j + 1] (by rw [List.getElem?_append_left hjl]; exact hj) (by rw [List.getElem?_append_left hl]; exact List.getElem?_eq_getElem hl)
    rw [this] at hv
    cases hv
    exact List.getElem_mem hl
  · have := hP j u s (by rw [List.getElem?_append_left hjl]; exact hj) (by rw [List.getElem?_append_right (by omega), show j + 1 - l.length = 0 by omega]; rfl)
    rw [this] at hv
    cases hv
    exact List.mem_of_head? hs
theorem closed_app {ts : List (List Int)} (hT : OkT ts) {seen l : List Sd} (h : Closed ts seen) (hl : Cyc ts l) : Closed ts (seen ++ l) := fun s t hst => by
  rw [List.mem_append, List.mem_append, h s t hst]
  refine or_congr Iff.rfl ⟨fun z => cyc_next hl z hst, fun z => ?_⟩
  obtain ⟨u, hu, e⟩ := cyc_prev hl z
  rw [nxs_inj hT hst e]
  exact hu
end P05
end S_Dp
section S_Dm
namespace P05
open PySem PySem.Spec PyProof.Rows L2 Tl Hk LamX EnL
abbrev FSt := List Dct × List (List Int)
def stepP (fu : Nat) (p : Int) (st : Option FSt) (o : Int) : Option FSt :=
  match st with
  | none => none
  | some q => if 1 ≤ o then match q.1[(o - 1).toNat]? with
      | none => none
      | some d => if (look d p).isSome = true then match walk fu q.1 p o with
          | none => none
          | some r => some (r.2, q.2 ++ [r.1])
        else some q
    else none
def facesFrom (fu : Nat) : Nat → List (List Int) → Option FSt → Option FSt
  | _, [], st => st
  | i, ns :: r, st => facesFrom fu (i + 1) r ((srt ns).foldl (stepP fu ((i : Int) + 1)) st)
def facesM (ts : List (List Int)) : Option (List (List Int)) := if ts.length = 1 then some [[]] else (facesFrom 400 0 ts (some (ts.map behindOf, []))).map (·.2)
theorem stepP_none {fu : Nat} {p : Int} : ∀ l : List Int, l.foldl (stepP fu p) none = none
  | [] => rfl
  | _ :: r => stepP_none r
theorem stepP_le {fu : Nat} {p : Int} : ∀ {l : List Int} {q r : FSt}, l.foldl (stepP fu p) (some q) = some r → q.2.length ≤ r.2.length
  | [], q, r, h => by cases h; exact Nat.le_refl _
  | o :: l, q, r, h => by
    rw [List.foldl_cons] at h
    cases hq : stepP fu p (some q) o with
    | none => rw [hq, stepP_none] at h; cases h
    | some q2 =>
      rw [hq] at h
      refine Nat.le_trans ?_ (stepP_le h)
      unfold stepP at hq
      dsimp only at hq
      split at hq
      · split at hq
        · cases hq
        · split at hq
          · split at hq
            · cases hq
            · cases hq
              rw [List.length_append]
              exact Nat.le_add_right _ _
          · cases hq
            exact Nat.le_refl _
      · cases hq
theorem facesFrom_none {fu : Nat} : ∀ (l : List (List Int)) (i : Nat), facesFrom fu i l none = none
  | [], _ => rfl
  | ns :: r, i => by
    unfold facesFrom
    rw [stepP_none]
    exact facesFrom_none r (i + 1)
theorem facesFrom_le {fu : Nat} : ∀ {l : List (List Int)} {i : Nat} {q r : FSt}, facesFrom fu i l (some q) = some r → q.2.length ≤ r.2.length
  | [], _, q, r, h => by cases h; exact Nat.le_refl _
  | ns :: l, i, q, r, h => by
    unfold facesFrom at h
    cases hq : (srt ns).foldl (stepP fu ((i : Int) + 1)) (some q) with
    | none => rw [hq, facesFrom_none] at h; cases h
    | some q2 =>
      rw [hq] at h
      exact Nat.le_trans (stepP_le hq) (facesFrom_le h)
end P05
end S_Dm
section S_Dq
namespace P05
open PySem PySem.Spec PyProof.Rows L2 Tl Hk LamX EnL
/-! ### all sides, in order -/
def sidesF : Nat → List (List Int) → List Sd
  | _, [] => []
  | i, ns :: r => (srt ns).map (fun o => ((i : Int) + 1, o)) ++ sidesF (i + 1) r
abbrev sidesL (ts : List (List Int)) : List Sd := sidesF 0 ts
def Lx (s t : Sd) : Prop := s.1 < t.1 ∨ (s.1 = t.1 ∧ s.2 < t.2)
theorem sides_mem : ∀ {l : List (List Int)} {i : Nat} {s : Sd}, s ∈ sidesF i l ↔ ∃ (j : Nat) (ns : List Int), l[j]? = some ns ∧ s.1 = ((i + j : Nat) : Int) + 1 ∧ s.2 ∈ ns
  | [], i, s => ⟨(fun h => nomatch h), fun ⟨j, ns, h, _⟩ => by simp at h⟩
  | ns :: r, i, s => by
    unfold sidesF
    rw [List.mem_append, sides_mem]
    constructor
    · rintro (h | ⟨j, ms, h1, h2, h3⟩)
      · obtain ⟨o, ho, rfl⟩ := List.mem_map.mp h
        exact ⟨0, ns, rfl, rfl, (srt_perm ns).mem_iff.mp ho⟩
      · exact ⟨j + 1, ms, h1, by rw [h2]; congr 2; omega, h3⟩
    · rintro ⟨j, ms, h1, h2, h3⟩
      cases j with
      | zero =>
        cases h1
        exact .inl (List.mem_map.mpr ⟨s.2, (srt_perm ns).mem_iff.mpr h3, Prod.ext (by rw [h2]; rfl) rfl⟩)
      | succ j => exact .inr ⟨j, ms, h1, by rw [h2]; congr 2; omega, h3⟩
theorem sides_up : ∀ {l : List (List Int)} {i : Nat}, (∀ ns ∈ l, ns.Nodup) → (sidesF i l).Pairwise Lx
  | [], _, _ => List.Pairwise.nil
  | ns :: r, i, h => by
    unfold sidesF
    rw [List.pairwise_append]
    refine ⟨?_, sides_up fun ms hm => h ms (List.mem_cons_of_mem _ hm), fun s hs t ht => ?_⟩
    · rw [List.pairwise_map]
      have hn : (srt ns).Nodup := (srt_perm ns).nodup_iff.mpr (h ns List.mem_cons_self)
      exact ((srt_up ns).and hn).imp fun ⟨a, b⟩ => .inr ⟨rfl, by show _ < _; omega⟩
    · obtain ⟨o, _, rfl⟩ := List.mem_map.mp hs
      obtain ⟨j, ms, _, h2, _⟩ := sides_mem.mp ht
      exact .inl (by rw [h2]; show (i : Int) + 1 < _; omega)
theorem lx_irr {s : Sd} (h : Lx s s) : False := by
  rcases h with h | ⟨_, h⟩ <;> omega
theorem sides_nd {l : List (List Int)} {i : Nat} (h : ∀ ns ∈ l, ns.Nodup) : (sidesF i l).Nodup := (sides_up h).imp fun {a b} (h : Lx a b) (e : a = b) => by subst e; exact lx_irr h
theorem OkT.nds {ts : List (List Int)} (h : OkT ts) : ∀ ns ∈ ts, ns.Nodup := fun ns hn => by
  obtain ⟨i, hi⟩ := List.mem_iff_getElem?.mp hn
  exact (h.pl i ns hi).1
theorem side_mem {ts : List (List Int)} (hT : OkT ts) {s : Sd} : Side ts s ↔ s ∈ sidesL ts := by
  rw [sides_mem]
  constructor
  · intro h
    obtain ⟨h1, ns, h2, h3⟩ := side_swap hT h
    exact ⟨(s.1 - 1).toNat, ns, h2, by show s.1 = _; have : 1 ≤ s.1 := h1; omega, h3⟩
  · rintro ⟨j, ns, h1, h2, h3⟩
    have : Side ts (s.2, s.1) := by
      refine ⟨by show 1 ≤ s.1; omega, ns, ?_, h3⟩
      show ts[(s.1 - 1).toNat]? = some ns
      rw [show (s.1 - 1).toNat = j by omega]
      exact h1
    exact side_swap hT this
/-! ### all rounds -/
abbrev RSt := List Sd × List (List Sd)
def stepS (ts : List (List Int)) (fu : Nat) (st : Option RSt) (s : Sd) : Option RSt := match st with
  | none => none
  | some q => if s ∈ q.1 then some q else match walkS ts fu q.1 s with
    | none => none
    | some r => some (r.2, q.2 ++ [r.1])
structure Rnd (ts : List (List Int)) (pre seen : List Sd) (cs : List (List Sd)) : Prop where
  flat : seen = cs.flatten
  nd : seen.Nodup
  side : ∀ s ∈ seen, Side ts s
  closed : Closed ts seen
  all : ∀ s ∈ pre, s ∈ seen
  good : ∀ c ∈ cs, Cyc ts c ∧ ∀ s, c.head? = some s → ∀ u ∈ c, u ≠ s → Lx s u
theorem run_go {ts : List (List Int)} (hT : OkT ts) {fu : Nat} (hf : (sidesL ts).length + 1 ≤ fu) : ∀ (rest pre seen : List Sd) (cs : List (List Sd)), sidesL ts = pre ++ rest → Rnd ts pre seen cs → ∃ seen' cs', rest.foldl (stepS ts fu) (some (seen, cs)) = some (seen', cs') ∧ Rnd ts (pre ++ rest) seen' cs'
  | [], pre, seen, cs, _, r => ⟨seen, cs, rfl, by rw [List.append_nil]; exact r⟩
  | s :: rest, pre, seen, cs, e, r => by
    have e2 : sidesL ts = (pre ++ [s]) ++ rest := by rw [e, List.append_assoc]; rfl
    rw [List.foldl_cons]
    have hs : Side ts s := (side_mem hT).mpr (by rw [e]; simp)
    by_cases hm : s ∈ seen
    · have es : stepS ts fu (some (seen, cs)) s = some (seen, cs) := by
        unfold stepS
        dsimp only
        rw [if_pos hm]
      rw [es]
      have := run_go hT hf rest (pre ++ [s]) seen cs e2 ⟨r.flat, r.nd, r.side, r.closed, fun u hu => (List.mem_append.mp hu).elim (r.all u) fun z => by rw [List.mem_singleton.mp z]; exact hm, r.good⟩
      rw [List.append_assoc] at this
      exact this
    · obtain ⟨l, w1, w2, w3, w4⟩ := walk_cyc hT (fun s h => (side_mem hT).mp h) r.side r.closed r.nd hs hm hf
      have es : stepS ts fu (some (seen, cs)) s = some (seen ++ l, cs ++ [l]) := by
        unfold stepS
        dsimp only
        rw [if_neg hm, w1]
      rw [es]
      have hsl : s ∈ l := List.mem_of_head? w4
      have := run_go hT hf rest (pre ++ [s]) (seen ++ l) (cs ++ [l]) e2 ⟨by rw [r.flat, List.flatten_append]; simp, w2, fun u hu => (List.mem_append.mp hu).elim (r.side u) (w3.side u), closed_app hT r.closed w3, fun u hu => List.mem_append.mpr ((List.mem_append.mp hu).elim (fun z => .inl (r.all u z)) fun z => .inr (by rw [List.mem_singleton.mp z]; exact hsl)), fun c hc => ?_⟩
      · rw [List.append_assoc] at this
        exact this
      · rcases List.mem_append.mp hc with hc | hc
        · exact r.good c hc
        · rw [List.mem_singleton.mp hc]
          refine ⟨w3, fun t ht u hu hne => ?_⟩
          rw [w4] at ht
          cases ht
          have hu2 : u ∈ sidesL ts := (side_mem hT).mp (w3.side u hu)
          have hup := sides_up (i := 0) hT.nds
          rw [show sidesF 0 ts = pre ++ s :: rest from e, List.pairwise_append] at hup
          rw [e] at hu2
          rcases List.mem_append.mp hu2 with z | z
          · exact absurd rfl ((List.nodup_append.mp w2).2.2 u (r.all u z) u hu)
          · rcases List.mem_cons.mp z with z | z
            · exact absurd z hne
            · exact (List.pairwise_cons.mp hup.2.1).1 u z
def runS (ts : List (List Int)) (fu : Nat) : Option RSt := (sidesL ts).foldl (stepS ts fu) (some ([], []))
theorem run_all {ts : List (List Int)} (hT : OkT ts) {fu : Nat} (hf : (sidesL ts).length + 1 ≤ fu) : ∃ seen cs, runS ts fu = some (seen, cs) ∧ Rnd ts (sidesL ts) seen cs := by
  obtain ⟨seen, cs, h1, h2⟩ := run_go hT hf (sidesL ts) [] [] [] rfl ⟨rfl, List.nodup_nil, fun s h => (nomatch h), fun s t _ => ⟨(fun h => nomatch h), (fun h => nomatch h)⟩, fun s h => (nomatch h), fun c h => nomatch h⟩
  exact ⟨seen, cs, h1, h2⟩
/-! ### the dicts behind -/
def dsF (seen : List Sd) : Nat → List (List Int) → List Dct
  | _, [] => []
  | i, ns :: r => (behindOf ns).filter (fun p => decide ((p.1, (i : Int) + 1) ∉ seen)) :: dsF seen (i + 1) r
abbrev dsOf (ts : List (List Int)) (seen : List Sd) : List Dct := dsF seen 0 ts
theorem dsF_nil : ∀ {l : List (List Int)} {i : Nat}, dsF [] i l = l.map behindOf
  | [], _ => rfl
  | ns :: r, i => by
    unfold dsF
    rw [dsF_nil, List.map_cons]
    congr 1
    exact List.filter_eq_self.mpr fun p _ => by simp
theorem dsF_at : ∀ {seen : List Sd} {l : List (List Int)} {i j : Nat} {ns : List Int}, l[j]? = some ns → (dsF seen i l)[j]? = some ((behindOf ns).filter fun p => decide ((p.1, ((i + j : Nat) : Int) + 1) ∉ seen))
  | _, [], _, _, _, h => by simp at h
  | seen, ms :: r, i, 0, ns, h => by
    cases h
    rfl
  | seen, ms :: r, i, j + 1, ns, h => by
    have := dsF_at (seen := seen) (i := i + 1) (l := r) (j := j) h
    rw [show i + 1 + j = i + (j + 1) by omega] at this
    exact this
theorem look_filter {l : Dct} {g : Int → Bool} {k : Int} : look (l.filter fun p => g p.1) k = if g k = true then look l k else none := by
  unfold look
  induction l with
  | nil => simp
  | cons p r ih =>
    rw [List.filter_cons]
    by_cases e : p.1 = k
    · by_cases h : g p.1 = true
      · rw [if_pos h, List.find?_cons, decide_eq_true e, List.find?_cons, decide_eq_true e]
        rw [if_pos (e ▸ h)]
      · rw [if_neg h, ih, if_neg (e ▸ h), if_neg (e ▸ h)]
    · by_cases h : g p.1 = true
      · rw [if_pos h, List.find?_cons, decide_eq_false e, List.find?_cons, decide_eq_false e]
        exact ih
      · rw [if_neg h, ih, List.find?_cons, decide_eq_false e]
theorem look_ds {ns : List Int} {seen : List Sd} {b k : Int} : look ((behindOf ns).filter fun p => decide ((p.1, b) ∉ seen)) k = if (k, b) ∈ seen then none else behindL ns k := by
  rw [look_filter (g := fun a => decide ((a, b) ∉ seen)), look_behind]
  by_cases h : (k, b) ∈ seen
  · rw [if_pos h, if_neg (by simp [h])]
  · rw [if_neg h, if_pos (by simp [h])]
theorem dsF_set : ∀ {seen : List Sd} {l : List (List Int)} {i j : Nat} {ns : List Int} {a : Int}, l[j]? = some ns → (dsF seen i l).set j (cast ((behindOf ns).filter fun p => decide ((p.1, ((i + j : Nat) : Int) + 1) ∉ seen)) a) = dsF (seen ++ [(a, ((i + j : Nat) : Int) + 1)]) i l
  | _, [], _, _, _, _, h => by simp at h
  | seen, ms :: r, i, 0, ns, a, h => by
    cases h
    show _ :: dsF seen (i + 1) r = _ :: dsF _ (i + 1) r
    have e : ∀ (l : List (List Int)) (i2 : Nat), i < i2 → dsF seen i2 l = dsF (seen ++ [(a, ((i + 0 : Nat) : Int) + 1)]) i2 l := fun l => by
      induction l with
      | nil => intro _ _; rfl
      | cons ms r ih =>
        intro i2 hi
        unfold dsF
        rw [ih (i2 + 1) (by omega)]
        congr 1
        refine List.filter_congr fun p _ => decide_eq_decide.mpr ?_
        rw [List.mem_append, List.mem_singleton]
        refine not_congr ⟨.inl, fun z => z.resolve_right fun z => ?_⟩
        have := congrArg Prod.snd z
        have : (i2 : Int) + 1 = ((i + 0 : Nat) : Int) + 1 := this
        omega
    rw [e r (i + 1) (by omega)]
    congr 1
    unfold cast
    rw [List.filter_filter]
    refine List.filter_congr fun p _ => ?_
    rw [← Bool.decide_and]
    refine decide_eq_decide.mpr ?_
    rw [List.mem_append, List.mem_singleton, not_or]
    constructor
    · rintro ⟨h1, h2⟩
      exact ⟨h2, fun z => h1 (congrArg Prod.fst z)⟩
    · rintro ⟨h1, h2⟩
      exact ⟨fun z => h2 (by rw [z]; rfl), h1⟩
  | seen, ms :: r, i, j + 1, ns, a, h => by
    have ih := dsF_set (seen := seen) (i := i + 1) (l := r) (j := j) (a := a) h
    rw [show i + 1 + j = i + (j + 1) by omega] at ih
    show _ :: (dsF seen (i + 1) r).set j _ = _ :: dsF _ (i + 1) r
    rw [ih]
    congr 1
    refine List.filter_congr fun p _ => decide_eq_decide.mpr ?_
    rw [List.mem_append, List.mem_singleton]
    refine not_congr ⟨.inl, fun z => z.resolve_right fun z => ?_⟩
    have : (i : Int) + 1 = ((i + (j + 1) : Nat) : Int) + 1 := congrArg Prod.snd z
    omega
/-- the program's walk is this one -/
theorem walk_ds {ts : List (List Int)} (hT : OkT ts) : ∀ {f : Nat} {seen : List Sd} {s : Sd} {l r : List Sd}, Side ts s → walkS ts f seen s = some (l, r) → walk f (dsOf ts seen) s.1 s.2 = some (l.map Prod.fst, dsOf ts r)
  | 0, _, _, _, _, _, h => nomatch h
  | f + 1, seen, s, l, r, hS, h => by
    obtain ⟨c, hn, ns, hns, hb⟩ := side_next hS
    have hat := dsF_at (seen := seen) (i := 0) hns
    have e2 : ((0 + (s.2 - 1).toNat : Nat) : Int) + 1 = s.2 := by have := hS.1; omega
    rw [e2] at hat
    unfold walkS at h
    unfold walk
    rw [hat]
    dsimp only
    rw [if_pos hS.1, look_ds]
    by_cases hm : s ∈ seen
    · rw [if_pos hm] at h
      cases h
      rw [if_pos hm]
      rfl
    · rw [if_neg hm, hn] at h
      dsimp only at h
      rw [if_neg hm, hb]
      dsimp only
      have hset := dsF_set (seen := seen) (i := 0) (a := s.1) hns
      rw [e2] at hset
      rw [hset]
      cases hw : walkS ts f (seen ++ [s]) (s.2, c) with
      | none => rw [hw] at h; cases h
      | some q =>
        rw [hw] at h
        cases h
        have := walk_ds hT (nxs_side hT hn) (l := q.1) (r := q.2) hw
        rw [this]
        rfl
theorem stepS_none {ts : List (List Int)} {fu : Nat} : ∀ l : List Sd, l.foldl (stepS ts fu) none = none
  | [] => rfl
  | _ :: r => stepS_none r
theorem faces_row {ts : List (List Int)} (hT : OkT ts) {fu : Nat} {p : Int} : ∀ (os : List Int) {q r : RSt}, (∀ o ∈ os, Side ts (p, o)) → (os.map fun o => (p, o)).foldl (stepS ts fu) (some q) = some r →
    os.foldl (stepP fu p) (some (dsOf ts q.1, q.2.map (List.map Prod.fst))) = some (dsOf ts r.1, r.2.map (List.map Prod.fst))
  | [], q, r, _, h => by cases h; rfl
  | o :: os, q, r, hs, h => by
    rw [List.map_cons, List.foldl_cons] at h
    have hS := hs o List.mem_cons_self
    obtain ⟨c, hn, ns, hns, hb⟩ := side_next hS
    have hat := dsF_at (seen := q.1) (i := 0) hns
    have e2 : ((0 + (o - 1).toNat : Nat) : Int) + 1 = o := by have : 1 ≤ o := hS.1; omega
    rw [e2] at hat
    cases hq : stepS ts fu (some q) (p, o) with
    | none => rw [hq, stepS_none] at h; cases h
    | some q2 =>
      rw [hq] at h
      have ih := faces_row hT os (q := q2) (fun o ho => hs o (List.mem_cons_of_mem _ ho)) h
      rw [List.foldl_cons, ← ih]
      congr 1
      unfold stepP
      dsimp only
      rw [if_pos hS.1, hat]
      dsimp only
      rw [look_ds]
      unfold stepS at hq
      dsimp only at hq
      by_cases hm : (p, o) ∈ q.1
      · rw [if_pos hm] at hq ⊢
        cases hq
        rfl
      · rw [if_neg hm] at hq ⊢
        cases hw : walkS ts fu q.1 (p, o) with
        | none => rw [hw] at hq; cases hq
        | some w =>
          rw [hw] at hq
          cases hq
          have hw2 := walk_ds hT hS (l := w.1) (r := w.2) hw
          have hw2 : walk fu (dsOf ts q.1) p o = _ := hw2
          have hb' : behindL ns p = some c := hb
          rw [hb', hw2]
          show (if (some c).isSome = true then some (dsOf ts w.2, q.2.map (List.map Prod.fst) ++ [w.1.map Prod.fst]) else _) = _
          rw [if_pos (show (some c).isSome = true from rfl), List.map_append]
          rfl
theorem faces_from {ts : List (List Int)} (hT : OkT ts) {fu : Nat} : ∀ (l : List (List Int)) (i : Nat) {q r : RSt}, (∀ s ∈ sidesF i l, Side ts s) → (sidesF i l).foldl (stepS ts fu) (some q) = some r →
    facesFrom fu i l (some (dsOf ts q.1, q.2.map (List.map Prod.fst))) = some (dsOf ts r.1, r.2.map (List.map Prod.fst))
  | [], i, q, r, _, h => by cases h; rfl
  | ns :: l, i, q, r, hs, h => by
    unfold sidesF at h hs
    rw [List.foldl_append] at h
    cases hq : ((srt ns).map fun o => ((i : Int) + 1, o)).foldl (stepS ts fu) (some q) with
    | none => rw [hq, stepS_none] at h; cases h
    | some q2 =>
      rw [hq] at h
      have h1 := faces_row hT (srt ns) (fun o ho => hs _ (List.mem_append_left _ (List.mem_map.mpr ⟨o, ho, rfl⟩))) hq
      unfold facesFrom
      rw [h1]
      exact faces_from hT l (i + 1) (fun s h => hs s (List.mem_append_right _ h)) h
end P05
end S_Dq
section S_Dr
namespace P05
open PySem PySem.Spec PyProof.Rows L2 Tl Hk LamX EnL
/-! ### the sides of a face -/
theorem cyc_head {ts : List (List Int)} {c : List Sd} (h : Cyc ts c) : ∃ s r, c = s :: r := by
  cases c with
  | nil => exact absurd rfl h.ne
  | cons s r => exact ⟨s, r, rfl⟩
/-- what comes behind the i-th -/
theorem cyc_at {ts : List (List Int)} {c : List Sd} (h : Cyc ts c) {i : Nat} {u : Sd} (hu : c[i]? = some u) : ∃ v, c[(i + 1) % c.length]? = some v ∧ nxs ts u = some v := by
  obtain ⟨s, r, rfl⟩ := cyc_head h
  have hP := h.path s rfl
  have hi := (List.getElem?_eq_some_iff.mp hu).1
  by_cases hl : i + 1 < (s :: r).length
  · rw [Nat.mod_eq_of_lt hl]
    obtain ⟨v, hv⟩ : ∃ v, (s :: r)[i + 1]? = some v := ⟨_, List.getElem?_eq_getElem hl⟩
    exact ⟨v, hv, hP i u v (by rw [List.getElem?_append_left hi]; exact hu) (by rw [List.getElem?_append_left hl]; exact hv)⟩
  · have e : i + 1 = (s :: r).length := by omega
    rw [e, Nat.mod_self]
    exact ⟨s, rfl, hP i u s (by rw [List.getElem?_append_left hi]; exact hu) (by rw [e, List.getElem?_append_right (Nat.le_refl _), Nat.sub_self]; rfl)⟩
abbrev faceOf (c : List Sd) : List Int := c.map Prod.fst
theorem face_sides {ts : List (List Int)} {c : List Sd} (h : Cyc ts c) : (faceOf c).zip (rot (faceOf c)) = c := by
  refine List.ext_getElem? fun i => ?_
  cases hu : c[i]? with
  | none =>
    refine List.getElem?_eq_none ?_
    rw [List.length_zip, rot_len, List.length_map]
    have := List.getElem?_eq_none_iff.mp hu
    omega
  | some u =>
    have hi := (List.getElem?_eq_some_iff.mp hu).1
    obtain ⟨v, hv, hn⟩ := cyc_at h hu
    obtain ⟨_, e1, _⟩ := nxs_some hn
    rw [List.getElem?_zip_eq_some]
    refine ⟨by rw [List.getElem?_map, hu]; rfl, ?_⟩
    rw [rot_at (by rw [List.length_map]; exact hi), List.length_map, List.getElem?_map, hv]
    show some v.1 = some u.2
    rw [e1]
/-! ### the same round, begun elsewhere -/
theorem cyc_uniq {ts : List (List Int)} {c d : List Sd} (hc : Cyc ts c) (hd : Cyc ts d) (h : c.head? = d.head?) : c = d := by
  have le : ∀ {c d : List Sd}, Cyc ts c → Cyc ts d → c.head? = d.head? → (∀ (i : Nat), i < c.length → i < d.length → c[i]? = d[i]?) ∧ c.length ≤ d.length := fun {c d} hc hd h => by
    have h1 : ∀ (i : Nat), i < c.length → i < d.length → c[i]? = d[i]? := fun i => by
      induction i with
      | zero => intro _ _; rw [← List.head?_eq_getElem?, ← List.head?_eq_getElem?, h]
      | succ i ih =>
        intro a b
        have e := ih (by omega) (by omega)
        obtain ⟨u, hu⟩ : ∃ u, c[i]? = some u := ⟨_, List.getElem?_eq_getElem (by omega)⟩
        obtain ⟨v, hv, n1⟩ := cyc_at hc hu
        obtain ⟨w, hw, n2⟩ := cyc_at hd (e ▸ hu)
        rw [Nat.mod_eq_of_lt a] at hv
        rw [Nat.mod_eq_of_lt b] at hw
        rw [hv, hw, ← n1, ← n2]
    refine ⟨h1, ?_⟩
    rcases Nat.lt_or_ge d.length c.length with hlt | hge
    · exfalso
      obtain ⟨s, r, rfl⟩ := cyc_head hd
      have hi : (s :: r).length - 1 < (s :: r).length := by simp
      obtain ⟨u, hu⟩ : ∃ u, (s :: r)[(s :: r).length - 1]? = some u := ⟨_, List.getElem?_eq_getElem hi⟩
      obtain ⟨v, hv, n1⟩ := cyc_at hd hu
      rw [show (s :: r).length - 1 + 1 = (s :: r).length by simp, Nat.mod_self] at hv
      have hcu : c[(s :: r).length - 1]? = some u := (h1 _ (by omega) hi).trans hu
      obtain ⟨w, hw, n2⟩ := cyc_at hc hcu
      rw [show (s :: r).length - 1 + 1 = (s :: r).length by simp, Nat.mod_eq_of_lt hlt] at hw
      rw [n1] at n2
      cases n2
      have h0 : c[0]? = some v := (h1 0 (by omega) (by simp)).trans hv
      obtain ⟨l1, g1⟩ := List.getElem?_eq_some_iff.mp h0
      obtain ⟨l2, g2⟩ := List.getElem?_eq_some_iff.mp hw
      have := (List.getElem_inj hc.nd).mp (g1.trans g2.symm)
      simp at this
    · exact hge
  obtain ⟨a1, a2⟩ := le hc hd h
  obtain ⟨_, b2⟩ := le hd hc h.symm
  refine List.ext_getElem? fun i => ?_
  rcases Nat.lt_or_ge i c.length with hi | hi
  · exact a1 i hi (by omega)
  · rw [List.getElem?_eq_none hi, List.getElem?_eq_none (by omega)]
theorem cyc_rot1 {ts : List (List Int)} {s : Sd} {r : List Sd} (h : Cyc ts (s :: r)) : Cyc ts (r ++ [s]) := by
  refine ⟨by simp, (List.perm_append_singleton s r).nodup_iff.mpr h.nd, fun u hu => h.side u ((List.perm_append_singleton s r).mem_iff.mp hu), fun t ht i u v h1 h2 => ?_⟩
  have hP := h.path s rfl
  have ht2 : (s :: r ++ [s])[1]? = some t := by
    cases r with
    | nil => cases ht; rfl
    | cons a r => cases ht; rfl
  have e0 : r ++ [s] = (s :: r ++ [s]).drop 1 := rfl
  rcases Nat.lt_or_ge (i + 1) (r ++ [s]).length with hl | hl
  · rw [List.getElem?_append_left (by omega), e0, List.getElem?_drop] at h1
    rw [List.getElem?_append_left hl, e0, List.getElem?_drop] at h2
    exact hP (1 + i) u v h1 (by rw [show 1 + i + 1 = 1 + (i + 1) by omega]; exact h2)
  · have hl2 := (List.getElem?_eq_some_iff.mp h2).1
    have e1 : i + 1 = (r ++ [s]).length := by
      rw [List.length_append (as := r ++ [s])] at hl2
      simp only [List.length_singleton] at hl2
      omega
    rw [List.getElem?_append_right hl, e1, Nat.sub_self] at h2
    cases h2
    have ei : i = r.length := by simp at e1; omega
    rw [List.getElem?_append_left (by simp; omega), ei, List.getElem?_append_right (Nat.le_refl _), Nat.sub_self] at h1
    cases h1
    exact hP 0 s t rfl ht2
theorem cyc_rot {ts : List (List Int)} : ∀ (i : Nat) {c : List Sd}, Cyc ts c → i ≤ c.length → Cyc ts (c.drop i ++ c.take i)
  | 0, c, h, _ => by simpa using h
  | i + 1, c, h, hi => by
    have ih := cyc_rot i h (by omega)
    have e1 : c.drop i = c[i] :: c.drop (i + 1) := List.drop_eq_getElem_cons (by omega)
    rw [e1] at ih
    have := cyc_rot1 (s := c[i]) (r := c.drop (i + 1) ++ c.take i) ih
    rw [List.append_assoc, List.take_append_getElem (by omega)] at this
    exact this
/-- where the least of a round stands -/
def LeastAt (c : List Sd) (j : Nat) : Prop := ∃ s, c[j]? = some s ∧ ∀ u ∈ c, u ≠ s → Lx s u
theorem lx_asym {s t : Sd} (h1 : Lx s t) (h2 : Lx t s) : False := by
  rcases h1 with h1 | ⟨h1, h3⟩ <;> rcases h2 with h2 | ⟨h2, h4⟩ <;> omega
theorem least_uniq {c : List Sd} (hn : c.Nodup) {i j : Nat} (h1 : LeastAt c i) (h2 : LeastAt c j) : i = j := by
  obtain ⟨s, a1, a2⟩ := h1
  obtain ⟨t, b1, b2⟩ := h2
  have e : s = t := by
    rcases Decidable.em (s = t) with e | e
    · exact e
    · exact (lx_asym (a2 t (List.mem_of_getElem? b1) (Ne.symm e)) (b2 s (List.mem_of_getElem? a1) e)).elim
  subst e
  obtain ⟨l1, g1⟩ := List.getElem?_eq_some_iff.mp a1
  obtain ⟨l2, g2⟩ := List.getElem?_eq_some_iff.mp b1
  exact (List.getElem_inj hn).mp (g1.trans g2.symm)
/-- back from a round begun at the i-th to the one begun at the least -/
theorem rot_back {c : List Sd} {i : Nat} (hi : i < c.length) (hl : LeastAt c 0) : ∃ j, LeastAt (c.drop i ++ c.take i) j ∧ (c.drop i ++ c.take i).drop j ++ (c.drop i ++ c.take i).take j = c := by
  obtain ⟨s, h1, h2⟩ := hl
  have mem : ∀ {u}, u ∈ c.drop i ++ c.take i → u ∈ c := fun h => (List.mem_append.mp h).elim List.mem_of_mem_drop List.mem_of_mem_take
  by_cases h0 : i = 0
  · subst h0
    exact ⟨0, ⟨s, by simpa using h1, fun u hu => h2 u (mem hu)⟩, by simp⟩
  · refine ⟨c.length - i, ⟨s, ?_, fun u hu => h2 u (mem hu)⟩, ?_⟩
    · rw [List.getElem?_append_right (by rw [List.length_drop]; exact Nat.le_refl _), List.length_drop, Nat.sub_self, List.getElem?_take, if_pos (by omega)]
      exact h1
    · have e : c.length - i = (c.drop i).length := by rw [List.length_drop]
      rw [e, List.drop_left, List.take_left]
      exact List.take_append_drop i c
/-! ### how many -/
theorem range_getD (l : List Int) : (List.range l.length).map (fun j => l.getD j 0) = l := by
  refine List.ext_getElem (by simp) fun i h1 h2 => ?_
  rw [List.getElem_map, List.getElem_range, List.getD_eq_getElem?_getD, List.getElem?_eq_getElem h2]
  rfl
theorem range_filt (l : List Int) (g : Int → Bool) : ((List.range l.length).filter fun j => g (l.getD j 0)).length = (l.filter g).length := by
  have : (l.filter g).length = (((List.range l.length).map (fun j => l.getD j 0)).filter g).length := by rw [range_getD]
  rw [this, List.filter_map, List.length_map]
  rfl
theorem two_parts {α : Type} (p : α → Bool) : ∀ l : List α, l.length = (l.filter p).length + (l.filter fun s => !p s).length
  | [] => rfl
  | a :: l => by
    have ih := two_parts p l
    rw [List.filter_cons, List.filter_cons]
    cases h : p a with
    | true =>
      rw [if_pos rfl, if_neg (by decide), List.length_cons, List.length_cons]
      omega
    | false =>
      rw [if_neg (by decide), if_pos (by decide), List.length_cons, List.length_cons]
      omega
theorem ties_count {ts : List (List Int)} (hT : OkT ts) : (sidesL ts).length = 2 * (tiesOf ts).length := by
  have h1 : (tiesOf ts).length = ((sidesL ts).filter fun s => decide (s.1 < s.2)).length := by
    have : ∀ (n : Nat), n ≤ ts.length → (rows (fun i => (srt (ts.getD i [])).length) (fun i j => decide ((i : Int) + 1 < (srt (ts.getD i [])).getD j 0)) (fun i j => (((i : Int) + 1, (srt (ts.getD i [])).getD j 0) : Int × Int)) n).length = ((sidesF 0 (ts.take n)).filter fun s => decide (s.1 < s.2)).length := fun n => by
      have app : ∀ (l : List (List Int)) (i : Nat) (ns : List Int), sidesF i (l ++ [ns]) = sidesF i l ++ (srt ns).map (fun o => (((i + l.length : Nat) : Int) + 1, o)) := fun l => by
        induction l with
        | nil => intro i ns; show (srt ns).map _ ++ [] = [] ++ _; rw [List.append_nil]; rfl
        | cons a l ih =>
          intro i ns
          show (srt a).map _ ++ sidesF (i + 1) (l ++ [ns]) = (srt a).map _ ++ sidesF (i + 1) l ++ _
          rw [ih, List.append_assoc]
          congr 3
          funext o
          rw [List.length_cons, show i + 1 + l.length = i + (l.length + 1) by omega]
      induction n with
      | zero => intro _; rfl
      | succ n ih =>
        intro hn
        have hlt : n < ts.length := by omega
        rw [rows_succ, List.length_append, ih (by omega), List.take_succ_eq_append_getElem hlt, app, List.filter_append, List.length_append, List.length_take, Nat.min_eq_left (by omega)]
        congr 1
        have eg : ts.getD n [] = ts[n] := by rw [List.getD_eq_getElem?_getD, List.getElem?_eq_getElem hlt]; rfl
        rw [List.filter_map, List.length_map]
        unfold els
        dsimp only
        rw [eg, List.length_map, range_filt (srt ts[n]) fun x => decide ((n : Int) + 1 < x)]
        congr 1
        refine List.filter_congr fun x _ => ?_
        show decide ((n : Int) + 1 < x) = decide (((0 + n : Nat) : Int) + 1 < x)
        rw [Nat.zero_add]
    have h := this ts.length (Nat.le_refl _)
    rw [List.take_length] at h
    exact h
  have h2 : ((sidesL ts).filter fun s => decide (s.1 < s.2)).length = ((sidesL ts).filter fun s => !decide (s.1 < s.2)).length := by
    have hp : (((sidesL ts).filter fun s => decide (s.1 < s.2)).map Prod.swap).Perm ((sidesL ts).filter fun s => !decide (s.1 < s.2)) := by
      refine (List.perm_ext_iff_of_nodup ?_ ((sides_nd hT.nds).filter _)).mpr fun s => ?_
      · refine List.Pairwise.map _ (fun a b (h : a ≠ b) => ?_) ((sides_nd (i := 0) hT.nds).filter _)
        intro e
        exact h (Prod.ext (congrArg Prod.snd e) (congrArg Prod.fst e))
      · rw [List.mem_map, List.mem_filter]
        constructor
        · rintro ⟨t, ht, rfl⟩
          obtain ⟨t1, t2⟩ := List.mem_filter.mp ht
          have t2 := of_decide_eq_true t2
          refine ⟨(side_mem hT).mp (side_swap hT ((side_mem hT).mpr t1)), ?_⟩
          rw [Bool.not_eq_true']
          exact decide_eq_false (show ¬(t.2 < t.1) by omega)
        · rintro ⟨s1, s2⟩
          rw [Bool.not_eq_true'] at s2
          have s2 := of_decide_eq_false s2
          have hS := (side_mem hT).mpr s1
          refine ⟨(s.2, s.1), List.mem_filter.mpr ⟨(side_mem hT).mp (side_swap hT hS), decide_eq_true ?_⟩, rfl⟩
          show s.2 < s.1
          obtain ⟨j, ns, h1, h2, h3⟩ := sides_mem.mp s1
          have h4 := (hT.pl j ns h1).2.2
          have : s.1 ≠ s.2 := fun e => h4 (by
            have : ((j : Int) + 1) = s.2 := by rw [← e, h2]; simp
            rw [this]
            exact h3)
          omega
    have := hp.length_eq
    rwa [List.length_map] at this
  have h3 := two_parts (fun s : Sd => decide (s.1 < s.2)) (sidesL ts)
  omega
/-- all rounds together have as many places as there are sides -/
theorem rnd_len {ts : List (List Int)} (hT : OkT ts) {seen : List Sd} {cs : List (List Sd)} (r : Rnd ts (sidesL ts) seen cs) : (cs.map List.length).sum = (sidesL ts).length := by
  have hp : seen.Perm (sidesL ts) := (List.perm_ext_iff_of_nodup r.nd (sides_nd hT.nds)).mpr fun s => ⟨fun h => (side_mem hT).mp (r.side s h), r.all s⟩
  rw [← hp.length_eq, r.flat, List.length_flatten]
theorem rnd_least {ts : List (List Int)} {pre seen : List Sd} {cs : List (List Sd)} (r : Rnd ts pre seen cs) {c : List Sd} (hc : c ∈ cs) : Cyc ts c ∧ LeastAt c 0 := by
  obtain ⟨h1, h2⟩ := r.good c hc
  obtain ⟨s, q, rfl⟩ := cyc_head h1
  exact ⟨h1, s, rfl, h2 s rfl⟩
/-- there is a least one -/
theorem least_ex : ∀ {c : List Sd}, c ≠ [] → c.Nodup → ∃ j, LeastAt c j
  | [], h, _ => absurd rfl h
  | s :: r, _, hn => by
    obtain ⟨h1, h2⟩ := List.nodup_cons.mp hn
    by_cases hr : r = []
    · subst hr
      exact ⟨0, s, rfl, fun u hu hne => absurd (List.mem_singleton.mp hu) hne⟩
    · obtain ⟨j, t, a1, a2⟩ := least_ex hr h2
      have hne : s ≠ t := fun e => h1 (e ▸ List.mem_of_getElem? a1)
      by_cases hl : Lx s t
      · refine ⟨0, s, rfl, fun u hu hus => ?_⟩
        rcases List.mem_cons.mp hu with e | e
        · exact absurd e hus
        · by_cases hut : u = t
          · rw [hut]; exact hl
          · have h3 := a2 u e hut
            unfold Lx at hl h3 ⊢
            omega
      · refine ⟨j + 1, t, a1, fun u hu hut => ?_⟩
        rcases List.mem_cons.mp hu with e | e
        · rw [e]
          have hne2 : ¬(s.1 = t.1 ∧ s.2 = t.2) := fun z => hne (Prod.ext z.1 z.2)
          unfold Lx at hl ⊢
          omega
        · exact a2 u e hut
end P05
end S_Dr
section S_Ct
namespace P05
open PySem PySem.Spec PyProof.Rows L2 Tl Hk LamX
/-- a value, and the web's turns if it is one -/
inductive WbV (K : PySem.W.Frag) (C : Addr) (H : Hp) : V → Option (List (List Int)) → Prop where
  | no {v : V} {n : String} (h : Ty7 K H v n) : WbV K C H v none
  | web {x : Addr} {ts : List (List Int)} (h : WebAt C H x ts) : WbV K C H (.ref x) (some ts)
theorem WbV.ex {K : PySem.W.Frag} {C : Addr} {H H' : Hp} {v : V} {o : Option (List (List Int))} (h : WbV K C H v o) (e : Evl.Ex H H') : WbV K C H' v o := by
  cases h with
  | no h => exact .no (h.ex e)
  | web h => exact .web (h.ex e)
theorem WbV.at {K : PySem.W.Frag} {C : Addr} {H : Hp} {v : V} {ts : List (List Int)} (h : WbV K C H v (some ts)) : ∃ x, v = .ref x ∧ WebAt C H x ts := by
  cases h with
  | web h => exact ⟨_, rfl, h⟩
abbrev tys : List String := ["NoneType", "bool", "int", "str", "list", "tuple", "dict"]
theorem Ty7.mem {K : PySem.W.Frag} {H : Hp} {v : V} {n : String} (h : Ty7 K H v n) : n ∈ tys := by
  cases h <;> decide
/-- isinstance of plain values in the class at C -/
def TKit (K : PySem.W.Frag) (C : Addr) : Prop := ∀ n ∈ tys, PySem.W.kitOne K (.type n) (.ref C) = some false
theorem rc_wbv {K : PySem.W.Frag} {mg : Str → Option Value} {C : Addr} {H : Hp} {v : V} {o : Option (List (List Int))} (T : TWeb K mg C) (I : TIns K C) (N : TKit K C) (h : WbV K C H v o) : Evl.RC (rIsi K) [v, .ref C] H (.bl o.isSome) := by
  cases h with
  | @no v n h => exact fun H1 e _ q => ⟨v, .ref C, .type n, .ref C, false, rfl, .own C, (h.ex e).tyx, N n h.mem, q H1 (Evl.Ex.refl H1)⟩
  | web h => exact rc_web T I h
theorem web_wbv {K : PySem.W.Frag} {C : Addr} {H : Hp} {x : Addr} {ts : List (List Int)} (h : WebAt C H x ts) : WbV K C H (.ref x) (some ts) := .web h
def spWantWeb (K : PySem.W.Frag) (C CE : Addr) : Sp := fun vs H Q E => ∃ (v : V) (o : Option (List (List Int))), vs = [v] ∧ WbV K C H v o ∧ (o = none → Rz CE H E "web") ∧ (o.isSome = true → ∀ H', Evl.Ex H H' → Q .non H')
theorem scWantWeb : FnScope ["web"] ["web"] (defScope sWantWeb) := ⟨rfl, rfl, rfl, by decide +kernel, rfl, by decide +kernel, by decide +kernel⟩
section
variable {P : Program} {w : World} {K : PySem.W.Frag} {mg : Str → Option Value} {base : Heap}
theorem ok_wantWeb {qI : Str} {f C CE fI : Addr} {fd : FuncData} {k : Nat} (F : Fun K "want_web" "want_web" sWantWeb f fd) (T : TWeb K mg C) (I : TIns K C) (N : TKit K C) (TP : PySem.PartX.PartTxt K mg "BadWeb" qI CE fI) (mi : mg "isinstance" = none) :
    FnOk P w K mg base (L2.CX P w) (k + 3) f fd ["web"] (spWantWeb K C CE) := by
  refine F.okX scWantWeb (fun vs H Q E h => ?_) (fun cdv A outer s H vs Q E hr h => ?_)
  · obtain ⟨v, o, rfl, _⟩ := h
    rfl
  · obtain ⟨v, o, rfl, h, hn, hy⟩ := h
    refine ⟨_, pss_one (ps_if (pt_not (pt_val (pe_callB call_isi (by rfl) mi (by decide +kernel) (pa_cons (pv 0) (pa_cons (pe_glob (v := .ref C) (by rfl) T.mgC rfl) pa_nil))))) (pss_one (ps_raisePart rfl TP (k := k + 2) hr (takes_of rfl rfl rfl rfl) (pa_cons pe_str pa_nil) (by rfl) (by decide))) pss_nil), ?_⟩
    refine Evl.s_when (Evl.et_not (Evl.et_B (Evl.ev_cb (Evl.ea_cons (Evl.ev_var rfl) (Evl.ea_cons Evl.ev_c Evl.ea_nil)) (rc_wbv T I N h)))) (fun hb H1 e1 => ?_) fun hb H1 e1 => ?_
    · have ho : o = none := by
        cases o with
        | none => rfl
        | some ts => cases hb
      exact ⟨.str "web", rfl, fun d hd => hn ho H1 d e1 hd⟩
    · refine hy ?_ H1 e1
      cases o with
      | none => cases hb
      | some ts => rfl
end
end P05
end S_Ct
section S_Ds
namespace P05
open PySem PySem.Spec PyProof.Rows L2 Tl Hk LamX EnL
abbrev Pure1 (H : Hp) (Q : VK) (R : V → Hp → Prop) : Prop := ∀ v H', Evl.Ex H H' → (∀ H3, Since H H' H3 → R v H3) → Q v H'
/-- all but the dicts at as and the list at F stays -/
def KeepD (as : List Addr) (F : Addr) (A B : Hp) : Prop := ∀ b o, b ∉ as → b ≠ F → A b = some o → B b = some o
theorem KeepD.of {as : List Addr} {F : Addr} {A B : Hp} (e : Evl.Ex A B) : KeepD as F A B := fun b o _ _ h => e b o h
theorem KeepD.trans {as : List Addr} {F : Addr} {A B C : Hp} (h : KeepD as F A B) (k : KeepD as F B C) : KeepD as F A C := fun b o h1 h2 h3 => k b o h1 h2 (h b o h1 h2 h3)
/-- what stands in the loops: the dicts, the faces found -/
def FacesSt (H0 : Hp) (l F : Addr) (as : List Addr) (q : FSt) (H' : Hp) : Prop := H' l = some (.lst (as.map V.ref)) ∧ DctAt H' as q.1 ∧ ∃ fa : List Addr, H' F = some (.lst (fa.map V.ref)) ∧ RowsT H' fa q.2 ∧ ∀ a ∈ fa, H0 a = none
theorem scFaces : FnScope ["web", "left", "faces", "at", "turn", "other"] ["web"] (defScope sFacesOf) := ⟨rfl, rfl, rfl, by decide +kernel, rfl, by decide +kernel, by decide +kernel⟩
def spFaces (K : PySem.W.Frag) (C CE : Addr) : Sp := fun vs H Q E => ∃ (v : V) (o : Option (List (List Int))), vs = [v] ∧ WbV K C H v o ∧ (o = none → Rz CE H E "web") ∧ (∀ ts, o = some ts → OkT ts ∧ ∃ fs, facesM ts = some fs ∧ fs.length ≤ 50000 ∧ Pure1 H Q fun v H3 => ∃ t, v = .ref t ∧ TT H3 t fs)
section
variable {P : Program} {w : World} {K : PySem.W.Frag} {mg : Str → Option Value} {base : Heap}
set_option maxHeartbeats 2000000 in
theorem ok_faces {C CE f fWW fB fT : Addr} {fd fdWW fdB fdT : FuncData} {k : Nat} (F : Fun K "faces_of" "faces_of" sFacesOf f fd) (T : TWeb K mg C)
    (FWW : Fun K "want_web" "want_web" sWantWeb fWW fdWW) (GWW : FnOk P w K mg base (L2.CX P w) k fWW fdWW ["web"] (spWantWeb K C CE)) (bWW : Binds K fdWW ["web"] []) (gWW : mg "want_web" = some (.ref fWW))
    (FB : Fun K "places_behind" "places_behind" sBehind fB fdB) (GB : FnOk P w K mg base CX0 k fB fdB ["web"] (spBehind C)) (bB : Binds K fdB ["web"] []) (gB : mg "places_behind" = some (.ref fB))
    (FT : Fun K "_taken_round" "_taken_round" sTaken fT fdT) (GT : FnOk P w K mg base CX0 k fT fdT ["left", "one", "other"] spTaken) (bT : Binds K fdT ["left", "one", "other"] []) (gT : mg "_taken_round" = some (.ref fT))
    (mtup : mg "tuple" = none) (menum : mg "enumerate" = none) (msort : mg "sorted" = none) :
    FnOk P w K mg base (L2.CX P w) (k + 1) f fd ["web"] (spFaces K C CE) := by
  refine F.okX scFaces (fun vs H Q E h => ?_) (fun cdv A outer s H vs Q E hr h => ?_)
  · obtain ⟨v, o, rfl, _⟩ := h
    rfl
  · obtain ⟨v, o, rfl, hv, hno, hyes⟩ := h
    have nd := scFaces.nd
    refine ⟨_, pss_cons (ps_expr (pe_callS GWW hr (by rfl) gWW FWW.kp bWW (fun σ => passAt (takes_of rfl rfl rfl rfl) σ) (pa_cons (pv 0) pa_nil)))
      (pss_cons (ps_if (pt_cmpR op_eq (pe_fld (pv 0) rfl) pe_int (nomark _)) (pss_one (ps_ret (pe_tup (pa_cons (pe_tup pa_nil) pa_nil)))) pss_nil)
      (pss_cons (ps_set (i := 1) nd rfl (.inl rfl) (pe_call GB hr (by rfl) gB FB.kp bB .nil pass0 (pa_cons (pv 0) pa_nil)))
      (pss_cons (ps_set (i := 2) nd rfl (.inl rfl) (pe_lst pa_nil))
      (pss_cons (ps_for (passes_of rfl) rfl (pi_enumT (by rfl) menum (pa_cons (pe_fld (pv 0) rfl) pa_nil)) (pg_tup (by rfl) (pgs_cons (pg_name (i := 3) nd rfl (Or.inl rfl)) (pgs_cons (pg_name (i := 4) nd rfl (Or.inl rfl)) pgs_nil)))
        (pss_one (ps_for (passes_of rfl) rfl (pi_list (pe_callB cr_sortedU (by rfl) msort (by decide +kernel) (pa_cons (pv 4) pa_nil))) (pg_name (i := 5) nd rfl (Or.inl rfl))
          (pss_one (ps_if (pt_cmp (pc_din (hu_of hr) (pe_op op_add (pv 3) pe_int) (pe_ix ix_list (pv 1) (pe_op op_sub (pv 5) pe_int) (fun _ _ => rfl))))
            (pss_one (ps_expr (pe_bm PySem.F.plainAttrs_list PySem.F.slot_list_append PySem.F.type_list_append mt_append (pv 2) (pa_cons (pe_call GT hr (by rfl) gT FT.kp bT .nil pass0 (pa_cons (pv 1) (pa_cons (pe_op op_add (pv 3) pe_int) (pa_cons (pv 5) pa_nil)))) pa_nil)))) pss_nil)))))
      (pss_one (ps_ret (pe_callTy call_tuple_of (by rfl) mtup (by decide +kernel) (pa_cons (pv 2) pa_nil)))))))), ?_⟩
    refine callS_go (vs := [v]) (Evl.ea_cons (Evl.ev_var rfl) Evl.ea_nil) fun H0 e0 => ⟨v, o, rfl, hv.ex e0, fun z => (hno z).ex e0, fun hs H1 e01 => ?_⟩
    have e1 := e0.trans e01
    clear hno e0 e01
    obtain ⟨ts, rfl⟩ : ∃ ts, o = some ts := by
      cases o with
      | none => cases hs
      | some ts => exact ⟨ts, rfl⟩
    obtain ⟨x, rfl, hW⟩ := hv.at
    obtain ⟨hT, fs, hf, hz, q⟩ := hyes ts rfl
    clear hyes hv hs
    obtain ⟨dx, t, ti, h1, h2, h3⟩ := id hW
    refine Evl.q_when (b := decide (ts.length = 1)) (Evl.et_is (Evl.et_test (Evl.ev_op (ev_fld (Evl.ev_var rfl) (e1 _ _ h1) T.cl T.nM (wf_m _ _ _)) Evl.ev_c (Evl.rv_eq rfl))) (decide_eq_decide.mpr ⟨fun z => by have := V.int.inj z; omega, fun z => by rw [z] <;> rfl⟩)) (fun hb H2 e2 => ?_) (fun hb H2 e2 => ?_)
    · have hl1 : ts.length = 1 := of_decide_eq_true hb
      unfold facesM at hf
      rw [if_pos hl1] at hf
      cases hf
      refine ⟨Nat.zero_le _, fun p hp => ⟨by show 1 ≤ sizeLine; decide, fun t2 ht2 => ?_⟩⟩
      have e02 := e1.trans e2
      have ept : p ≠ t2 := fun z => by rw [← z, upd_same] at ht2; cases ht2
      have n2 : H2 t2 = none := by
        rw [upd_ne ept.symm] at ht2
        exact ht2
      refine q _ _ ((e02.trans (Evl.Ex.new hp)).trans (Evl.Ex.new ht2)) fun H3 s3 => ⟨t2, rfl, [p], s3 _ _ (Evl.fresh_back e02 n2) upd_same, rfl, fun i a ns ha hn => ?_⟩
      cases i with
      | zero =>
        cases ha
        cases hn
        exact s3 _ _ (Evl.fresh_back e02 hp) (by rw [upd_ne ept, upd_same]; rfl)
      | succ i => simp at ha
    · have hl1 : ¬ ts.length = 1 := of_decide_eq_false hb
      unfold facesM at hf
      rw [if_neg hl1] at hf
      cases hff : facesFrom 400 0 ts (some (ts.map behindOf, [])) with
      | none => rw [hff] at hf; cases hf
      | some r =>
        rw [hff] at hf
        cases hf
        obtain ⟨dF, fF⟩ := r
        have e02 := e1.trans e2
        -- left
        refine ⟨_, rfl, x, ts, rfl, hW.ex e02, hT, fun l as H3 hl e3 h3l hD3 hn3 => ?_⟩
        refine Evl.q_asgL (xs := []) (Evl.el_lst Evl.ea_nil (Nat.zero_le _)) fun fa H4 hfa e4 h4 => ?_
        have e04 : Evl.Ex H H4 := (e02.trans e3).trans e4
        have hasN : ∀ a ∈ as, H a = none := fun a ha => Evl.fresh_back e02 (hn3 a ha)
        have hasS : ∀ a ∈ as, ∃ d : Dct, H3 a = some (.dK (enc d)) := fun a ha => by
          obtain ⟨i, hi, rfl⟩ := List.mem_iff_getElem.mp ha
          exact ⟨_, hD3.2.2 i _ _ (List.getElem?_eq_getElem hi) (List.getElem?_eq_getElem (hD3.1 ▸ hi))⟩
        have fas : fa ∉ as := fun z => by
          obtain ⟨d, h⟩ := hasS fa z
          rw [hfa] at h
          cases h
        have las : l ∉ as := fun z => by
          obtain ⟨d, h⟩ := hasS l z
          rw [h3l] at h
          cases h
        have lfa : l ≠ fa := ne_of_none h3l hfa
        have nfa : H fa = none := Evl.fresh_back (e02.trans e3) hfa
        have exK : ∀ {A : Hp}, KeepD as fa H4 A → Evl.Ex H A := fun hk b o h => hk b o (fun z => by rw [hasN b z] at h; cases h) (fun z => by rw [z, nfa] at h; cases h) (e04 _ _ h)
        have snK : ∀ {A B C : Hp}, Evl.Ex H4 A → KeepD as fa B C → Since A B C := fun ex hk b o hn h => hk b o (fun z => by
          obtain ⟨d, hd⟩ := hasS b z
          rw [ex _ _ (e4 _ _ hd)] at hn
          cases hn) (fun z => by rw [z, ex _ _ h4] at hn; cases hn) h
        obtain ⟨bs, hb2, hbl, hrow⟩ := h2
        have hmap : (bs.map V.ref).length = ts.length := by rw [List.length_map, hbl]
        have lift : ∀ {q : FSt} {A B : Hp}, FacesSt H l fa as q A → Evl.Ex A B → FacesSt H l fa as q B := fun {q A B} p e => by
          obtain ⟨p1, p2, ga, p3, p4, p5⟩ := p
          exact ⟨e _ _ p1, p2.keep fun a _ o h => e _ _ h, ga, e _ _ p3, p4.ex e, p5⟩
        refine q_forI (B := H) (ei_enumT (Evl.ea_cons (ev_fld (Evl.ev_var rfl) h1 T.cl T.nT (wf_t _ _ _)) Evl.ea_nil) (Evl.st_of hb2)) aims_enum e04
          (fun H5 i σ' H' => ∃ (y3 y4 y5 : Option V) (q : FSt), σ' = [some (.ref x), some (.ref l), some (.ref fa), y3, y4, y5] ∧ facesFrom 400 i (ts.drop i) (some q) = some (dF, fF) ∧ FacesSt H l fa as q H' ∧ KeepD as fa H5 H') (fun H5 e5 => ?_) (fun H5 i σ' H' e5 hi p => ?_) (fun H5 i σ' H' H'' e5 hi p e6 => ?_) (fun H5 σ' H' e5 p => ?_)
        · exact ⟨_, _, _, _, rfl, hff, ⟨e5 _ _ (e4 _ _ h3l), hD3.keep fun a _ o h => e5 _ _ (e4 _ _ h), [], e5 _ _ h4, ⟨rfl, fun i a ns h => by simp at h⟩, fun a h => (nomatch h)⟩, fun _ _ _ _ h => h⟩
        · obtain ⟨y3, y4, y5, q, rfl, p1, p2, p3⟩ := p
          exact ⟨exK ((KeepD.of e5).trans p3), snK (Evl.Ex.refl H4) p3⟩
        · obtain ⟨y3, y4, y5, q0, rfl, p1, p2, p3⟩ := p
          obtain ⟨a, ns, ha, hn⟩ := both_at hbl (show i < bs.length by rw [List.length_map] at hi; exact hi)
          have hat := hrow i a ns ha hn
          have hdr : ts.drop i = ns :: ts.drop (i + 1) := List.drop_eq_getElem_cons (List.getElem?_eq_some_iff.mp hn).1 |>.trans (by rw [(List.getElem?_eq_some_iff.mp hn).2])
          rw [hdr] at p1
          unfold facesFrom at p1
          cases hqr : (srt ns).foldl (stepP 400 ((i : Int) + 1)) (some q0) with
          | none => rw [hqr, facesFrom_none] at p1; cases p1
          | some qr =>
            rw [hqr] at p1
            have k6 : KeepD as fa H5 H'' := p3.trans (KeepD.of e6)
            have e46 : KeepD as fa H4 H'' := (KeepD.of e5).trans k6
            have hasS'' : ∀ a ∈ as, ∃ o, H'' a = some o := fun a ha => by
              obtain ⟨j, hj, rfl⟩ := List.mem_iff_getElem.mp ha
              have := p2.2.1
              exact ⟨_, e6 _ _ (this.2.2 j _ _ (List.getElem?_eq_getElem hj) (List.getElem?_eq_getElem (this.1 ▸ hj)))⟩
            have hfa'' : ∃ o, H'' fa = some o := by
              obtain ⟨_, _, ga, p6, _⟩ := p2
              exact ⟨_, e6 _ _ p6⟩
            refine s_forI (B := H) (ei_listN (el_sorted (Evl.ev_is (Evl.ev_var rfl) (refs_getD ha)) (.inr (Evl.st_of hat)))) aims_at (exK e46)
              (fun H6 j σ2 Hx => ∃ (y5 : Option V) (q : FSt), σ2 = [some (.ref x), some (.ref l), some (.ref fa), some (.int (i : Nat)), some ((bs.map V.ref).getD i .non), y5] ∧ ((srt ns).drop j).foldl (stepP 400 ((i : Int) + 1)) (some q) = some qr ∧ FacesSt H l fa as q Hx ∧ KeepD as fa H5 Hx ∧ KeepD as fa H6 Hx) (fun H6 e7 => ?_) (fun H6 j σ2 Hx e7 hj p => ?_) (fun H6 j σ2 Hx Hy e7 hj p e8 => ?_) (fun H6 σ2 Hx e7 p => ?_)
            · exact ⟨_, q0, rfl, hqr, lift (lift p2 e6) e7, k6.trans (KeepD.of e7), fun _ _ _ _ h => h⟩
            · obtain ⟨y5, q1, rfl, r1, r2, r3, r4⟩ := p
              refine ⟨exK ((KeepD.of e5).trans r3), fun b o hn h => r4 b o (fun z => ?_) (fun z => ?_) h⟩
              · obtain ⟨o', h'⟩ := hasS'' b z
                rw [h'] at hn
                cases hn
              · obtain ⟨o', h'⟩ := hfa''
                rw [z, h'] at hn
                cases hn
            · obtain ⟨y5, q1, rfl, r1, r2, r3, r4⟩ := p
              have hj' : j < (srt ns).length := by rw [List.length_map] at hj; exact hj
              have hdr2 : (srt ns).drop j = (srt ns)[j] :: (srt ns).drop (j + 1) := List.drop_eq_getElem_cons hj'
              have ho : ((srt ns).map V.int).getD j .non = .int (srt ns)[j] := by rw [ints_getD hj', List.getD_eq_getElem?_getD, List.getElem?_eq_getElem hj'] <;> rfl
              rw [hdr2, List.foldl_cons] at r1
              generalize (srt ns)[j] = o at r1 ho
              cases hst : stepP 400 ((i : Int) + 1) (some q1) o with
              | none => rw [hst, stepP_none] at r1; cases r1
              | some q2 =>
                rw [hst] at r1
                have le2 := stepP_le r1
                have le3 := facesFrom_le p1
                unfold stepP at hst
                dsimp only at hst
                by_cases o1 : 1 ≤ o
                · rw [if_pos o1] at hst
                  cases hd1 : q1.1[(o - 1).toNat]? with
                  | none => rw [hd1] at hst; cases hst
                  | some d =>
                    rw [hd1] at hst
                    dsimp only at hst
                    have r2y := lift r2 e8
                    obtain ⟨s1, s2, ga, s3, s4, s5⟩ := r2y
                    have hix : (o - 1).toNat < as.length := by rw [s2.1]; exact (List.getElem?_eq_some_iff.mp hd1).1
                    have haa : as[(o - 1).toNat]? = some as[(o - 1).toNat] := List.getElem?_eq_getElem hix
                    have hdd := s2.2.2 _ _ _ haa hd1
                    generalize as[(o - 1).toNat] = A0 at haa hdd
                    have at0 : atI (as.map V.ref) (o - 1) = some (.ref A0) := by
                      have en : o - 1 = ((o - 1).toNat : Int) := by omega
                      rw [en]
                      exact atI_nat (by rw [List.getElem?_map, haa]; rfl)
                    have ev0 : Evl.Ev (tDIn (tOp (rI0 fun i j => V.int (i + j)) (tVar 3) (tC (.int 1))) (tOp (rIxL K) (tVar 1) (tOp (rI0 fun i j => V.int (i - j)) (tVar 5) (tC (.int 1))))) ([some (.ref x), some (.ref l), some (.ref fa), some (.int (i : Nat)), some ((bs.map V.ref).getD i .non), some (((srt ns).map V.int).getD j .non)] : L2.St) Hy (.bl (look d ((i : Int) + 1)).isSome) :=
                      Evl.ev_is (ev_din (Evl.ev_op (Evl.ev_var rfl) Evl.ev_c Evl.rv_I0) (Evl.ev_op (Evl.ev_var rfl) (Evl.ev_op (Evl.ev_is (Evl.ev_var rfl) ho) Evl.ev_c Evl.rv_I0) (Evl.rv_ixL (Evl.sq_of s1) at0)) hdd) (by rw [val_enc]; cases look d ((i : Int) + 1) <;> rfl)
                    refine Evl.s_when (b := (look d ((i : Int) + 1)).isSome) (fun Hz ez Q' q' => ev0 Hz ez _ fun Hz2 ez2 => ⟨_, rfl, q' Hz2 ez2⟩) (fun hb Hz ez => ?_) (fun hb Hz ez => ?_)
                    · rw [if_pos hb] at hst
                      cases hwk : walk 400 q1.1 ((i : Int) + 1) o with
                      | none => rw [hwk] at hst; cases hst
                      | some r =>
                        rw [hwk] at hst
                        obtain ⟨face, es⟩ := r
                        cases hst
                        have s2z := s2.keep fun a _ o h => ez a o h
                        refine ⟨_, rfl, .inl ⟨rfl, _, Evl.sq_of (ez _ _ s3)⟩, _, rfl, _, rfl, _, _, rfl, rfl, _, rfl, ?_⟩
                        refine ⟨l, (i : Int) + 1, o, as, q1.1, 400, face, es, by rw [ho] <;> rfl, ez _ _ s1, s2z, hwk, by decide, fun p H7 hp hk7 hD7 h7 => ?_⟩
                        have pfa : p ≠ fa := fun z => by rw [z, ez _ _ s3] at hp; cases hp
                        have hfl : ga.length < 90000 := by
                          rw [s4.1]
                          have : (q1.2 ++ [face]).length ≤ fF.length := Nat.le_trans le2 le3
                          rw [List.length_append] at this
                          have hz' : fF.length ≤ 50000 := hz
                          omega
                        refine ⟨fa, ga.map V.ref, .ref p, rfl, rfl, hk7 _ _ fas (ez _ _ s3), Evl.sz_lt (by rw [List.length_map]; omega), ?_⟩
                        have keep7 : KeepD as fa Hx (upd H7 fa (.lst (ga.map V.ref ++ [.ref p]))) := fun b o h1 h2 h => by
                          rw [upd_ne h2]
                          exact hk7 b o h1 (ez _ _ (e8 _ _ h))
                        refine ⟨_, (es, q1.2 ++ [face]), rfl, r1, ⟨?_, ?_, ga ++ [p], ?_, ?_, ?_⟩, r3.trans keep7, r4.trans keep7⟩
                        · rw [upd_ne lfa]
                          exact hk7 _ _ las (ez _ _ s1)
                        · exact hD7.keep fun a ha o h => by
                            rw [upd_ne (fun z : a = fa => fas (by rw [← z]; exact ha))]
                            exact h
                        · rw [upd_same, List.map_append]
                          rfl
                        · refine ⟨by rw [List.length_append, List.length_append, s4.1] <;> rfl, fun j2 a2 ns2 ha2 hn2 => ?_⟩
                          have nf : ∀ {c : Addr} {o : HO}, Hz c = some o → (∃ xs, o = .tup xs) → c ≠ fa := fun {c o} h ⟨xs, z⟩ w => by
                            subst z
                            rw [w, ez _ _ s3] at h
                            cases h
                          rcases Nat.lt_or_ge j2 ga.length with hj2 | hj2
                          · rw [List.getElem?_append_left hj2] at ha2
                            rw [List.getElem?_append_left (by rw [← s4.1]; exact hj2)] at hn2
                            have := ez _ _ (s4.2 j2 a2 ns2 ha2 hn2)
                            rw [upd_ne (nf this ⟨_, rfl⟩)]
                            refine hk7 _ _ (fun z => ?_) this
                            obtain ⟨j3, hj3, e3'⟩ := List.mem_iff_getElem.mp z
                            have := s2z.2.2 j3 a2 _ (by rw [List.getElem?_eq_getElem hj3, e3']) (List.getElem?_eq_getElem (s2z.1 ▸ hj3))
                            rw [ez _ _ (s4.2 j2 a2 ns2 ha2 hn2)] at this
                            cases this
                          · rw [List.getElem?_append_right hj2] at ha2
                            rw [List.getElem?_append_right (by rw [← s4.1]; exact hj2), ← s4.1] at hn2
                            have e0 : j2 - ga.length = 0 := by
                              have := (List.getElem?_eq_some_iff.mp ha2).1
                              simp at this
                              omega
                            rw [e0] at ha2 hn2
                            cases ha2
                            cases hn2
                            rw [upd_ne pfa]
                            exact h7
                        · intro a ha
                          rcases List.mem_append.mp ha with h | h
                          · exact s5 a h
                          · rw [List.mem_singleton.mp h]
                            cases hq : H p with
                            | none => rfl
                            | some o' =>
                              have := ez _ _ (e8 _ _ (exK ((KeepD.of e5).trans r3) _ _ hq))
                              rw [hp] at this
                              cases this
                    · rw [if_neg (by rw [hb]; decide)] at hst
                      cases hst
                      exact ⟨_, q1, rfl, r1, lift ⟨s1, s2, ga, s3, s4, s5⟩ ez, r3.trans (KeepD.of (e8.trans ez)), r4.trans (KeepD.of (e8.trans ez))⟩
                · rw [if_neg o1] at hst
                  cases hst
            · obtain ⟨y5, q1, rfl, r1, r2, r3, r4⟩ := p
              rw [List.length_map, List.drop_length] at r1
              cases r1
              exact ⟨_, _, _, qr, rfl, p1, r2, r3⟩
        · obtain ⟨y3, y4, y5, q0, rfl, p1, p2, p3⟩ := p
          rw [hmap, List.drop_length] at p1
          cases p1
          obtain ⟨s1, s2, ga, s3, s4, s5⟩ := p2
          refine ⟨_, rfl, fa, _, rfl, .inl ⟨Evl.sq_of s3, fun t2 ht2 => ?_⟩⟩
          have exA : Evl.Ex H H' := exK ((KeepD.of e5).trans p3)
          refine q _ _ (exA.trans (Evl.Ex.new ht2)) fun H6 s6 => ⟨t2, rfl, ga, s6 _ _ (Evl.fresh_back exA ht2) upd_same, s4.1, fun i a ns ha hn => ?_⟩
          have := s4.2 i a ns ha hn
          refine s6 _ _ (s5 a (List.mem_of_getElem? ha)) ?_
          rw [upd_ne (ne_of_none this ht2)]
          exact this
end
end P05
end S_Ds
section S_Xp
set_option maxHeartbeats 1000000
namespace EnL
open PySem PySem.Spec PySem.Calls PyProof.Rows
/-! ### zip of two tuples, its pairs kept -/
abbrev ZipK (h : Heap) (z TI TO a : Addr) (f : Bool) : Prop := h.get? z = some { cls := .type "zip", dict := none, data := .fields #[rawInt a, .bool f, .bool false, .ref TI, .ref TO], slots := #[] }
section
variable {prog : Program} {w : World} {A : Around} {E : Value → Shared → Prop} {s : Shared}
theorem zk_free {z TI TO a : Addr} {f : Bool} {oa : Obj} {Q : Bool → Shared → Prop} (hz : ZipK s.heap z TI TO a f) (ha : s.heap.get? a = some oa) (h : ∀ h', ZipK h' z TI TO a true → Heap.SameBut z s.heap h' → Q false { s with heap := h' }) :
    wpAny (model prog w) A (Builtin.SmallTypes.ownedTupleIsFree (.ref z)) Q E s := by
  unfold Builtin.SmallTypes.ownedTupleIsFree
  refine wpAny_bind (wpAny_field hz rfl (x := rawInt a) rfl ?_)
  show wpAny _ _ (loadIfAlive ((a : Int).toNat) >>= _) _ _ _
  rw [Int.toNat_natCast]
  refine wpAny_bind (PySem.W.kdx_alive ha ?_)
  simp only [Option.isNone_some, Bool.false_eq_true, if_false]
  refine wpAny_bind (wpAny_field hz rfl (x := .bool f) rfl ?_)
  cases f with
  | true =>
    rw [if_neg (show ¬ ((Value.bool true != Value.bool true) = true) from Bool.false_ne_true)]
    exact wpAny_pure (h _ hz (Heap.SameBut.refl _ _))
  | false =>
    rw [if_pos (show (Value.bool false != Value.bool true) = true from rfl)]
    refine wpAny_bind (wpAny_setField_rec hz (by simp) fun h₅ hz₅ hs₅ => ?_)
    exact wpAny_pure (h _ hz₅ hs₅)
theorem zk_item0 {z TI TO a i1 i2 l1 l2 : Addr} {f : Bool} {oa : Obj} {k1 k2 : Nat} {xs ys : Array Value} {x y : Value} {Q : Value → Shared → Prop} (hz : ZipK s.heap z TI TO a f) (ha : s.heap.get? a = some oa) (hTI : IsPair s.heap TI (.ref i1) (.ref i2))
    (TIz : TI ≠ z) (i1z : i1 ≠ z) (i2z : i2 ≠ z) (i12 : i1 ≠ i2) (l1z : l1 ≠ z) (l2z : l2 ≠ z) (l2i1 : l2 ≠ i1)
    (h1 : s.heap.IsTupleIter i1 l1 k1) (h2 : s.heap.IsTupleIter i2 l2 k2) (hl1 : s.heap.IsTuple l1 xs) (hl2 : s.heap.IsTuple l2 ys) (hx : xs[k1]? = some x) (hy : ys[k2]? = some y)
    (hQ : ∀ h', ZipK h' z TI TO a true → h'.IsTupleIter i1 l1 (k1 + 1) → h'.IsTupleIter i2 l2 (k2 + 1) → IsPair h' s.heap.objs.size x y → h'.objs.size = s.heap.objs.size + 1 →
      (∀ c o, c ≠ z → c ≠ i1 → c ≠ i2 → s.heap.get? c = some o → h'.get? c = some o) → Q (.ref s.heap.objs.size) { s with heap := h' }) :
    wpAny (model prog w) A (Builtin.«zip.__next__» ⟨[.ref z], []⟩) (fun fin s' => ∃ v, fin = .done (.ret v) ∧ Q v s') E s := by
  show wpAny _ _ (field (.ref z) 2 >>= _) _ _ _
  refine wpAny_bind (wpAny_field hz rfl (x := .bool false) rfl ?_)
  show wpAny _ _ (field (.ref z) 3 >>= _) _ _ _
  refine wpAny_bind (wpAny_field hz rfl (x := .ref TI) rfl ?_)
  refine wpAny_bind (wpAny_seqItems hTI rfl ?_)
  show wpAny _ _ (Builtin.SmallTypes.ownedTupleIsFree (.ref z) >>= _) _ _ _
  refine wpAny_bind (zk_free hz ha fun h₁ hz₁ hs₁ => ?_)
  simp only [Bool.false_eq_true, if_false]
  refine wpAny_bind ?_
  rw [← Array.forIn_toList]
  simp only [List.forIn_cons, List.forIn_nil]
  refine wpAny_bind (wpAny_bind (wpAny_holding ?_))
  show wpAny _ _ (Builtin.SmallTypes.nextOf (.ref i1) >>= _) _ _ _
  refine wpAny_bind (RZ.nextOf_tuple_item (h1.extBut hs₁.extBut i1z) (hl1.extBut hs₁.extBut l1z) hx fun h₂ h1₂ hs₂ => wpAny_pure ?_)
  refine wpAny_pure ?_
  refine wpAny_bind (wpAny_bind (wpAny_holding ?_))
  show wpAny _ _ (Builtin.SmallTypes.nextOf (.ref i2) >>= _) _ _ _
  refine wpAny_bind (RZ.nextOf_tuple_item ((h2.extBut hs₁.extBut i2z).extBut hs₂.extBut i12.symm) ((hl2.extBut hs₁.extBut l2z).extBut hs₂.extBut l2i1) hy fun h₃ h2₃ hs₃ => wpAny_pure ?_)
  refine wpAny_pure (wpAny_pure ?_)
  show wpAny _ _ (newTuple [x, y] >>= _) _ _ _
  refine wpAny_bind (wpAny_newTuple ?_)
  have hsz : h₃.objs.size = s.heap.objs.size := by rw [hs₃.1, hs₂.1, hs₁.1]
  have hz₃ : ZipK h₃ z TI TO a true := hs₃.extBut _ _ i2z.symm (hs₂.extBut _ _ i1z.symm hz₁)
  refine wpAny_pure ⟨_, rfl, ?_⟩
  rw [hsz]
  have up : ∀ c o, h₃.get? c = some o → (h₃.push { cls := .type "tuple", data := .seq #[x, y] }).get? c = some o := fun c o e => Heap.get?_push_of_some _ e
  refine hQ _ (up _ _ hz₃) ((h1₂.extBut hs₃.extBut i12).at fun o e => up _ o e) (h2₃.at fun o e => up _ o e) ?_ (by rw [Heap.size_push, hsz]) fun c o c1 c2 c3 e => up _ _ (hs₃.extBut _ _ c3 (hs₂.extBut _ _ c2 (hs₁.extBut _ _ c1 e)))
  have := Heap.get?_push_size h₃ (o := { cls := .type "tuple", data := .seq #[x, y] }) rfl
  rw [hsz] at this
  exact this
theorem zk_item {z TI TO a i1 i2 l1 l2 : Addr} {f : Bool} {oa : Obj} {k1 k2 : Nat} {xs ys : Array Value} {x y : Value} {Q : Option Value → Shared → Prop} (hz : ZipK s.heap z TI TO a f) (ha : s.heap.get? a = some oa) (hTI : IsPair s.heap TI (.ref i1) (.ref i2))
    (TIz : TI ≠ z) (i1z : i1 ≠ z) (i2z : i2 ≠ z) (i12 : i1 ≠ i2) (l1z : l1 ≠ z) (l2z : l2 ≠ z) (l2i1 : l2 ≠ i1)
    (h1 : s.heap.IsTupleIter i1 l1 k1) (h2 : s.heap.IsTupleIter i2 l2 k2) (hl1 : s.heap.IsTuple l1 xs) (hl2 : s.heap.IsTuple l2 ys) (hx : xs[k1]? = some x) (hy : ys[k2]? = some y)
    (hQ : ∀ h', ZipK h' z TI TO a true → h'.IsTupleIter i1 l1 (k1 + 1) → h'.IsTupleIter i2 l2 (k2 + 1) → IsPair h' s.heap.objs.size x y → h'.objs.size = s.heap.objs.size + 1 →
      (∀ c o, c ≠ z → c ≠ i1 → c ≠ i2 → s.heap.get? c = some o → h'.get? c = some o) → Q (some (.ref s.heap.objs.size)) { s with heap := h' }) :
    wpAny (model prog w) A (pyNext (.ref z)) Q E s := by
  have hT : s.TypeIs (.ref z) "zip" := ⟨_, hz, rfl⟩
  unfold pyNext
  exact wpAny_bind (wpAny_attempt (wpAny_callSpecial?_slot (name := Str.ofString "__next__") hT F.slot_zip_next
    (wpAny_call_entry F.slot_zip_next hT F.entry_zip_next
      (zk_item0 hz ha hTI TIz i1z i2z i12 l1z l2z l2i1 h1 h2 hl1 hl2 hx hy fun h' a1 a2 a3 a4 a5 a6 => wpAny_pure (hQ h' a1 a2 a3 a4 a5 a6)) (F.args_zip_next_1 _))))
/-- at the first tuple's end -/
theorem zk_end {z TI TO a i1 i2 l1 : Addr} {f : Bool} {oa : Obj} {k1 : Nat} {xs : Array Value} {Q : Option Value → Shared → Prop} (hh : A.handled = none) (hz : ZipK s.heap z TI TO a f) (ha : s.heap.get? a = some oa) (hTI : IsPair s.heap TI (.ref i1) (.ref i2))
    (i1z : i1 ≠ z) (l1z : l1 ≠ z) (h1 : s.heap.IsTupleIter i1 l1 k1) (hl1 : s.heap.IsTuple l1 xs) (hx : xs[k1]? = none)
    (hQ : ∀ h', (∀ c o, c ≠ z → c ≠ i1 → s.heap.get? c = some o → h'.get? c = some o) → Q none { s with heap := h' }) : wpAny (model prog w) A (pyNext (.ref z)) Q E s := by
  have hT : s.TypeIs (.ref z) "zip" := ⟨_, hz, rfl⟩
  unfold pyNext
  refine wpAny_bind (wpAny_attempt (wpAny_callSpecial?_slot (name := Str.ofString "__next__") hT F.slot_zip_next
    (wpAny_call_entry F.slot_zip_next hT F.entry_zip_next ?_ (F.args_zip_next_1 _))))
  show wpAny _ _ (field (.ref z) 2 >>= _) _ _ _
  refine wpAny_bind (wpAny_field hz rfl (x := .bool false) rfl ?_)
  show wpAny _ _ (field (.ref z) 3 >>= _) _ _ _
  refine wpAny_bind (wpAny_field hz rfl (x := .ref TI) rfl ?_)
  refine wpAny_bind (wpAny_seqItems hTI rfl ?_)
  show wpAny _ _ (Builtin.SmallTypes.ownedTupleIsFree (.ref z) >>= _) _ _ _
  refine wpAny_bind (zk_free hz ha fun h₁ hz₁ hs₁ => ?_)
  simp only [Bool.false_eq_true, if_false]
  refine wpAny_bind ?_
  rw [← Array.forIn_toList]
  simp only [List.forIn_cons, List.forIn_nil]
  refine wpAny_bind (wpAny_bind (wpAny_holding ?_))
  show wpAny _ _ (Builtin.SmallTypes.nextOf (.ref i1) >>= _) _ _ _
  refine wpAny_bind (RZ.nextOf_tuple_end hh (h1.extBut hs₁.extBut i1z) (hl1.extBut hs₁.extBut l1z) hx fun h₂ e hs₂ he => ?_)
  obtain ⟨o, ho, hc⟩ := he
  refine wpAny_bind (wpAny_isInstance (T := "StopIteration") (b := true) ⟨o, ho, hc⟩ isSubtype_stop ?_)
  exact wpAny_pure (hQ _ fun c o c1 c2 e => hs₂ _ _ c2 (hs₁.extBut _ _ c1 e))
end
end EnL
end S_Xp
section S_Xq
namespace EnL
open PySem PySem.Spec PySem.Calls PyProof.Rows
/-! ### list(zip(a, b)) of two tuples -/
section
variable {prog : Program} {w : World} {A : Around} {E : Value → Shared → Prop} {s : Shared}
/-- the zip's own parts -/
structure ZqAp (z TI TO i1 i2 l1 l2 S : Addr) : Prop where
  ap : ZipApart z TI TO i1 i2 l1 l2
  zS : z < S
  tiS : TI < S
  toS : TO < S
  i1S : i1 < S
  i2S : i2 < S
  l1S : l1 < S
  l2S : l2 < S
  l1i1 : l1 ≠ i1
  l1i2 : l1 ≠ i2
  l2i1 : l2 ≠ i1
  l2i2 : l2 ≠ i2
def ZqSt (h : Heap) (z TI TO i1 i2 S : Addr) (i : Nat) : Prop := IsPair h TI (.ref i1) (.ref i2) ∧ (∃ x y, IsPair h TO x y) ∧ ((i = 0 ∧ IsZip h z TI TO .none) ∨ ∃ a f oa, ZipK h z TI TO a f ∧ h.get? a = some oa ∧ S < a)
theorem ZqSt.keep {h h' : Heap} {z TI TO i1 i2 l1 l2 S : Addr} {i : Nat} (D : ZqAp z TI TO i1 i2 l1 l2 S) (x : ZqSt h z TI TO i1 i2 S i) (hk : ∀ b o, b ≠ S → h.get? b = some o → h'.get? b = some o) : ZqSt h' z TI TO i1 i2 S i := by
  obtain ⟨a1, ⟨x, y, a2⟩, a3⟩ := x
  refine ⟨hk _ _ (Nat.ne_of_lt D.tiS) a1, ⟨x, y, hk _ _ (Nat.ne_of_lt D.toS) a2⟩, ?_⟩
  rcases a3 with ⟨q, a3⟩ | ⟨a, f, oa, a3, ha, hl⟩
  · exact .inl ⟨q, hk _ _ (Nat.ne_of_lt D.zS) a3⟩
  · exact .inr ⟨a, f, oa, hk _ _ (Nat.ne_of_lt D.zS) a3, hk _ _ (Nat.ne_of_gt hl) ha, hl⟩
theorem zq_item {z TI TO i1 i2 l1 l2 S : Addr} {i : Nat} {xs ys : Array Value} {x y : Value} {Q : Option Value → Shared → Prop} (D : ZqAp z TI TO i1 i2 l1 l2 S) (hst : ZqSt s.heap z TI TO i1 i2 S i) (hS : S < s.heap.objs.size)
    (h1 : s.heap.IsTupleIter i1 l1 i) (h2 : s.heap.IsTupleIter i2 l2 i) (hl1 : s.heap.IsTuple l1 xs) (hl2 : s.heap.IsTuple l2 ys) (hx : xs[i]? = some x) (hy : ys[i]? = some y)
    (hQ : ∀ h', ZqSt h' z TI TO i1 i2 S (i + 1) → h'.IsTupleIter i1 l1 (i + 1) → h'.IsTupleIter i2 l2 (i + 1) → IsPair h' s.heap.objs.size x y → h'.objs.size = s.heap.objs.size + 1 →
      (∀ b o, b ≠ z → b ≠ TO → b ≠ i1 → b ≠ i2 → s.heap.get? b = some o → h'.get? b = some o) → Q (some (.ref s.heap.objs.size)) { s with heap := h' }) :
    wpAny (model prog w) A (pyNext (.ref z)) Q E s := by
  obtain ⟨hTI, ⟨x0, y0, hTO⟩, hz⟩ := hst
  rcases hz with ⟨rfl, hz⟩ | ⟨a, f, oa, hz, ha, hl⟩
  · refine RZ.pyNext_zipT_item D.ap hz hTI hTO h1 h2 hl1 hl2 hx hy fun h' b1 b2 b3 b4 b5 b6 b7 => ?_
    exact hQ h' ⟨b7 _ _ D.ap.TIz D.ap.TITO D.ap.TIi1 D.ap.TIi2 hTI, ⟨_, _, b2⟩, .inr ⟨s.heap.objs.size, false, _, b1, b5, hS⟩⟩ b3 b4 b5 b6 b7
  · refine zk_item hz ha hTI D.ap.TIz D.ap.i1z D.ap.i2z D.ap.i12 D.ap.l1z D.ap.l2z D.l2i1 h1 h2 hl1 hl2 hx hy fun h' b1 b2 b3 b4 b5 b6 => ?_
    refine hQ h' ⟨b6 _ _ D.ap.TIz D.ap.TIi1 D.ap.TIi2 hTI, ⟨x0, y0, b6 _ _ D.ap.TOz D.ap.TOi1 D.ap.TOi2 hTO⟩, .inr ⟨a, true, oa, b1, b6 _ _ ?_ ?_ ?_ ha, hl⟩⟩ b2 b3 b4 b5 fun b o c1 c2 c3 c4 e => b6 b o c1 c3 c4 e
    · exact Nat.ne_of_gt (Nat.lt_trans D.zS hl)
    · exact Nat.ne_of_gt (Nat.lt_trans D.i1S hl)
    · exact Nat.ne_of_gt (Nat.lt_trans D.i2S hl)
theorem zq_end {z TI TO i1 i2 l1 l2 S : Addr} {i : Nat} {xs ys : Array Value} {Q : Option Value → Shared → Prop} (hh : A.handled = none) (D : ZqAp z TI TO i1 i2 l1 l2 S) (hst : ZqSt s.heap z TI TO i1 i2 S i)
    (h1 : s.heap.IsTupleIter i1 l1 i) (h2 : s.heap.IsTupleIter i2 l2 i) (hl1 : s.heap.IsTuple l1 xs) (hl2 : s.heap.IsTuple l2 ys) (hx : xs[i]? = none)
    (hQ : ∀ h', (∀ c o, c ≠ z → c ≠ TO → c ≠ i1 → c ≠ i2 → s.heap.get? c = some o → h'.get? c = some o) → Q none { s with heap := h' }) : wpAny (model prog w) A (pyNext (.ref z)) Q E s := by
  obtain ⟨hTI, ⟨x0, y0, hTO⟩, hz⟩ := hst
  rcases hz with ⟨rfl, hz⟩ | ⟨a, f, oa, hz, ha, hl⟩
  · exact RZ.pyNext_zipT_end hh D.ap hz hTI hTO h1 h2 hl1 hl2 (.inl hx) hQ
  · exact zk_end hh hz ha hTI D.ap.i1z D.ap.l1z h1 hl1 hx fun h' hk => hQ h' fun c o c1 _ c3 _ e => hk c o c1 c3 e
structure ZqG (xs ys : Array Value) (lo : Addr) (h : Heap) (as : List Addr) : Prop where
  rise : as.Pairwise (· < ·)
  above : ∀ a ∈ as, lo < a
  pairs : ∀ (j : Nat) (a : Addr), as[j]? = some a → ∃ x y, xs[j]? = some x ∧ ys[j]? = some y ∧ IsPair h a x y
theorem ZqG.there {xs ys : Array Value} {lo : Addr} {h : Heap} {as : List Addr} (g : ZqG xs ys lo h as) {a : Addr} (ha : a ∈ as) : a < h.objs.size := by
  obtain ⟨j, hj⟩ := List.mem_iff_getElem?.mp ha
  obtain ⟨_, _, _, _, e⟩ := g.pairs j a hj
  exact Heap.lt_size e
end
section
variable {prog : Program} {w : World} {A : Around} {s : Shared} {R : Result → Shared → Prop}
theorem zq_loop {S z TI TO i1 i2 l1 l2 : Addr} {xs ys : Array Value} (hh : A.handled = none) (D : ZqAp z TI TO i1 i2 l1 l2 S) (hn : xs.size ≤ sizeLine) (hxy : ys.size = xs.size) (res : Value) {h₁ : Heap}
    (hR : ∀ h' tk acc k as, (∀ b o, b ≠ S → b ≠ z → b ≠ TO → b ≠ i1 → b ≠ i2 → h₁.get? b = some o → h'.get? b = some o) → h'.get? S = some { cls := .type "list", dict := none, data := .seq acc k, slots := #[] } → as.length = xs.size → ZqG xs ys S h' as →
      acc.toList = as.map Value.ref → R (.ok (.ret res)) { s with heap := h', toks := tk }) :
    ∀ (m i : Nat) (h : Heap) (tk k : Nat) (acc : Array Value) (as : List Addr), xs.size - i = m → i ≤ xs.size → ZqSt h z TI TO i1 i2 S i → h.IsTupleIter i1 l1 i → h.IsTupleIter i2 l2 i → h.IsTuple l1 xs → h.IsTuple l2 ys →
      (∀ b o, b ≠ S → b ≠ z → b ≠ TO → b ≠ i1 → b ≠ i2 → h₁.get? b = some o → h.get? b = some o) →
      h.get? S = some { cls := .type "list", dict := none, data := .seq acc k, slots := #[] } → acc.toList = as.map Value.ref → as.length = i → ZqG xs ys S h as →
      codeAny (model prog w) A (.builtin "list.extend.loop" ⟨[.ref S, .ref z, res], []⟩) R { s with heap := h, toks := tk } := by
  intro m
  induction m with
  | zero =>
    intro i h tk k acc as hk hi hst h1 h2 hl1 hl2 hkeep hS hacc hal hG
    have hin : i = xs.size := by omega
    refine codeAny_builtin PySem.F.entry_extend_loop ?_
    rw [Around.under_plainId PySem.F.plain_extend_loop _]
    show wpAny _ A.in1 (pyNext (.ref z) >>= _) _ _ _
    refine wpAny_bind (zq_end (s := { s with heap := h, toks := tk }) (A := A.in1) hh D hst h1 h2 hl1 hl2 (Array.getElem?_eq_none (by omega)) fun h' he => ?_)
    refine wpAny_pure (hR h' tk acc k as (fun b o c1 c2 c3 c4 c5 e => he b o c2 c3 c4 c5 (hkeep b o c1 c2 c3 c4 c5 e)) (he S _ (Nat.ne_of_gt D.zS) (Nat.ne_of_gt D.toS) (Nat.ne_of_gt D.i1S) (Nat.ne_of_gt D.i2S) hS) (by omega) ⟨hG.rise, hG.above, fun j a hj => ?_⟩ hacc)
    obtain ⟨x, y, e1, e2, e3⟩ := hG.pairs j a hj
    have hb := hG.above a (List.mem_of_getElem? hj)
    exact ⟨x, y, e1, e2, he a _ (Nat.ne_of_gt (Nat.lt_trans D.zS hb)) (Nat.ne_of_gt (Nat.lt_trans D.toS hb)) (Nat.ne_of_gt (Nat.lt_trans D.i1S hb)) (Nat.ne_of_gt (Nat.lt_trans D.i2S hb)) e3⟩
  | succ m ih =>
    intro i h tk k acc as hk hi hst h1 h2 hl1 hl2 hkeep hS hacc hal hG
    have hlt : i < xs.size := by omega
    have hlt2 : i < ys.size := by omega
    obtain ⟨x, hx⟩ : ∃ p, xs[i]? = some p := ⟨xs[i], by simp [hlt]⟩
    obtain ⟨y, hy⟩ : ∃ p, ys[i]? = some p := ⟨ys[i], by simp [hlt2]⟩
    have hsz : acc.size = i := by rw [← Array.length_toList, hacc, List.length_map, hal]
    refine codeAny_builtin PySem.F.entry_extend_loop ?_
    rw [Around.under_plainId PySem.F.plain_extend_loop _]
    show wpAny _ A.in1 (pyNext (.ref z) >>= _) _ _ _
    refine wpAny_bind (zq_item (s := { s with heap := h, toks := tk }) (A := A.in1) (S := S) D hst (Heap.lt_size hS) h1 h2 hl1 hl2 hx hy fun h' hst' h1' h2' ht hz hkp => ?_)
    dsimp only at ht hz hkp ⊢
    have hSl : S < h.objs.size := Heap.lt_size hS
    have hS' := hkp S _ (Nat.ne_of_gt D.zS) (Nat.ne_of_gt D.toS) (Nat.ne_of_gt D.i1S) (Nat.ne_of_gt D.i2S) hS
    have up : ∀ b o, b ≠ S → h'.get? b = some o → (h'.update S (Obj.mapSeq (·.push (Value.ref h.objs.size)))).get? b = some o := fun b o hb e => (Heap.get?_update_other _ _ (Ne.symm hb)).trans e
    show wpAny _ A.in1 (updateSeq S (·.push (Value.ref h.objs.size)) >>= _) _ _ _
    refine wpAny_bind ?_
    refine wpAny_updateSeq hS' rfl (wpAny_pure ⟨plainId_quiet PySem.F.plain_extend_loop _, ih (i + 1) _ tk _ (acc.push (Value.ref h.objs.size)) (as ++ [h.objs.size]) (by omega) hlt (hst'.keep D up) (h1'.at fun o e => up i1 o (Nat.ne_of_lt D.i1S) e) (h2'.at fun o e => up i2 o (Nat.ne_of_lt D.i2S) e)
      (let ⟨o, ho, r⟩ := hl1; ⟨o, up l1 o (Nat.ne_of_lt D.l1S) (hkp l1 o D.ap.l1z D.ap.l1TO D.l1i1 D.l1i2 ho), r⟩) (let ⟨o, ho, r⟩ := hl2; ⟨o, up l2 o (Nat.ne_of_lt D.l2S) (hkp l2 o D.ap.l2z D.ap.l2TO D.l2i1 D.l2i2 ho), r⟩)
      (fun b o c1 c2 c3 c4 c5 e => up b o c1 (hkp b o c2 c3 c4 c5 (hkeep b o c1 c2 c3 c4 c5 e))) (Heap.get?_update_self _ hS' rfl) (by rw [Array.toList_push, hacc, List.map_append]; rfl) (by rw [List.length_append, hal]; rfl) ⟨?_, ?_, ?_⟩⟩) (by rw [hsz]; omega) (by show (acc.push (Value.ref h.objs.size)).size ≤ sizeLine + 1; rw [Array.size_push, hsz]; omega)
    · refine List.pairwise_append.mpr ⟨hG.rise, List.pairwise_singleton _ _, fun a ha b hb => ?_⟩
      rw [List.mem_singleton.mp hb]
      exact hG.there ha
    · intro a ha
      rcases List.mem_append.mp ha with ha | ha
      · exact hG.above a ha
      · rw [List.mem_singleton.mp ha]; exact hSl
    · intro j b hj
      rcases Nat.lt_trichotomy j as.length with h3 | h3 | h3
      · rw [List.getElem?_append_left h3] at hj
        obtain ⟨x', y', e1, e2, e3⟩ := hG.pairs j b hj
        have hb := hG.above b (List.mem_of_getElem? hj)
        exact ⟨x', y', e1, e2, up b _ (Nat.ne_of_gt hb) (hkp b _ (Nat.ne_of_gt (Nat.lt_trans D.zS hb)) (Nat.ne_of_gt (Nat.lt_trans D.toS hb)) (Nat.ne_of_gt (Nat.lt_trans D.i1S hb)) (Nat.ne_of_gt (Nat.lt_trans D.i2S hb)) e3)⟩
      · subst h3
        have hb : h.objs.size = b := by simpa using hj
        subst hb
        exact ⟨x, y, by rw [hal]; exact hx, by rw [hal]; exact hy, up _ _ (Nat.ne_of_gt hSl) ht⟩
      · have hnone : (as ++ [h.objs.size])[j]? = none := List.getElem?_eq_none (by rw [List.length_append, List.length_singleton]; omega)
        rw [hnone] at hj; cases hj
end
theorem zq_no_len : typeLookup (.type "zip") "__len__" = pure none := by rw [typeLookup_type, builtinLookup_eq_fast]; kernel_rfl
theorem zq_no_hint : typeLookup (.type "zip") "__length_hint__" = pure none := by rw [typeLookup_type, builtinLookup_eq_fast]; kernel_rfl
section
variable {prog : Program} {w : World} {A : Around} {E : Value → Shared → Prop} {s : Shared}
theorem zq_extend {R : Result → Shared → Prop} {S z TI TO i1 i2 l1 l2 : Addr} {xs ys : Array Value} (hh : A.handled = none) (D : ZqAp z TI TO i1 i2 l1 l2 S) (hn : xs.size ≤ sizeLine) (hxy : ys.size = xs.size) (res : Value) (c₀ : Nat)
    (hz : IsZip s.heap z TI TO .none) (hTI : IsPair s.heap TI (.ref i1) (.ref i2)) (hTO : ∃ x y, IsPair s.heap TO x y) (h1 : s.heap.IsTupleIter i1 l1 0) (h2 : s.heap.IsTupleIter i2 l2 0) (hl1 : s.heap.IsTuple l1 xs) (hl2 : s.heap.IsTuple l2 ys) (hS : s.heap.get? S = some { cls := .type "list", data := .seq #[] c₀ })
    (hR : ∀ h' tk acc k as, (∀ b o, b ≠ S → b ≠ z → b ≠ TO → b ≠ i1 → b ≠ i2 → s.heap.get? b = some o → h'.get? b = some o) → h'.get? S = some { cls := .type "list", dict := none, data := .seq acc k, slots := #[] } → as.length = xs.size → ZqG xs ys S h' as →
      acc.toList = as.map Value.ref → R (.ok (.ret res)) { s with heap := h', toks := tk }) :
    wpAny (model prog w) A.in1 (Builtin.List.listExtendWith (.ref S) (.ref z) res)
      (fun fin s' => match fin with | .done f => R (.ok f) s' | .again c' => c'.quiet = true ∧ codeAny (model prog w) A c' R s') (fun e s' => R (.error e) s') s := by
  have hT : s.TypeIs (.ref z) "zip" := ⟨_, hz, rfl⟩
  unfold Builtin.List.listExtendWith
  refine wpAny_bind (wpAny_typeOf hT ?_)
  have e1 : Builtin.List.listSameRef (.ref S) (.ref z) = false := by simp [Builtin.List.listSameRef, Nat.ne_of_gt D.zS]
  have e2 : (Value.type "zip" == Value.type "list") = false := by decide
  have e3 : (Value.type "zip" == Value.type "tuple") = false := by decide
  simp only [e1, e2, e3, Bool.or_false, Bool.false_eq_true, if_false]
  refine wpAny_bind (wpAny_pyIter_zip hz ?_)
  refine wpAny_bind (wpAny_holding ?_)
  unfold Builtin.List.listLengthHint
  refine wpAny_bind (wpAny_specialOf hT zq_no_len ?_)
  show wpAny _ A.in1 (specialOf (Value.ref z) (Str.ofString "__length_hint__") >>= _) _ _ _
  refine wpAny_bind (wpAny_specialOf hT zq_no_hint ?_)
  refine wpAny_pure ?_
  show wpAny _ A.in1 (rule "list.extend.makes-room" >>= fun _ => Builtin.List.listTouch (.ref S) >>= fun _ =>
    again (.builtin "list.extend.loop" ⟨[.ref S, .ref z, res], []⟩)) _ _ _
  refine wpAny_bind (wpAny_rule ?_)
  refine wpAny_bind ?_
  show wpAny _ A.in1 (updateSeq S (·.push .none) >>= fun _ => updateSeq S (·.pop)) _ _ _
  refine wpAny_bind (wpAny_updateSeq hS rfl ?_)
  have hS₂ := Heap.get?_update_self (Obj.mapSeq (·.push Value.none)) hS rfl
  refine wpAny_updateSeq (hz := by seq_fits) hS₂ rfl ?_
  have hS₃ := Heap.get?_update_self (Obj.mapSeq (·.pop)) hS₂ rfl
  have oth : ∀ b o, b ≠ S → s.heap.get? b = some o → ((s.heap.update S (Obj.mapSeq (·.push Value.none))).update S (Obj.mapSeq (·.pop))).get? b = some o :=
    fun b o hb e => (Heap.get?_update_other _ _ (Ne.symm hb)).trans ((Heap.get?_update_other _ _ (Ne.symm hb)).trans e)
  obtain ⟨x0, y0, hTO⟩ := hTO
  refine wpAny_pure ⟨plainId_quiet PySem.F.plain_extend_loop _, zq_loop (s := s) (h₁ := s.heap) hh D hn hxy res hR xs.size 0 _ _ _ #[] [] (Nat.sub_zero _) (Nat.zero_le _) ⟨oth _ _ (Nat.ne_of_lt D.tiS) hTI, ⟨x0, y0, oth _ _ (Nat.ne_of_lt D.toS) hTO⟩, .inl ⟨rfl, oth _ _ (Nat.ne_of_lt D.zS) hz⟩⟩
    (h1.at fun o e => oth i1 o (Nat.ne_of_lt D.i1S) e) (h2.at fun o e => oth i2 o (Nat.ne_of_lt D.i2S) e) (let ⟨o, ho, r⟩ := hl1; ⟨o, oth l1 o (Nat.ne_of_lt D.l1S) ho, r⟩) (let ⟨o, ho, r⟩ := hl2; ⟨o, oth l2 o (Nat.ne_of_lt D.l2S) ho, r⟩)
    (fun b o hb _ _ _ _ e => oth b o hb e) hS₃ rfl rfl ⟨List.Pairwise.nil, (fun _ ha => nomatch ha), (fun j a hj => by simp at hj)⟩⟩
theorem zq_init {R : Result → Shared → Prop} {S z TI TO i1 i2 l1 l2 : Addr} {xs ys : Array Value} (hh : A.handled = none) (D : ZqAp z TI TO i1 i2 l1 l2 S) (hn : xs.size ≤ sizeLine) (hxy : ys.size = xs.size)
    (hz : IsZip s.heap z TI TO .none) (hTI : IsPair s.heap TI (.ref i1) (.ref i2)) (hTO : ∃ x y, IsPair s.heap TO x y) (h1 : s.heap.IsTupleIter i1 l1 0) (h2 : s.heap.IsTupleIter i2 l2 0) (hl1 : s.heap.IsTuple l1 xs) (hl2 : s.heap.IsTuple l2 ys) (hS : s.heap.get? S = some { cls := .type "list", data := .seq #[] })
    (hR : ∀ h' tk acc k as, (∀ b o, b ≠ S → b ≠ z → b ≠ TO → b ≠ i1 → b ≠ i2 → s.heap.get? b = some o → h'.get? b = some o) → h'.get? S = some { cls := .type "list", dict := none, data := .seq acc k, slots := #[] } → as.length = xs.size → ZqG xs ys S h' as →
      acc.toList = as.map Value.ref → R (.ok (.ret .none)) { s with heap := h', toks := tk }) :
    wpAny (model prog w) A.in1 (Builtin.«list.__init__» ⟨[.ref S, .ref z], []⟩)
      (fun fin s' => match fin with | .done f => R (.ok f) s' | .again c' => c'.quiet = true ∧ codeAny (model prog w) A c' R s') (fun e s' => R (.error e) s') s := by
  show wpAny _ _ (do let old ← Builtin.List.listItems (.ref S); Builtin.List.listUpdate (.ref S) (fun _ => #[]); letGo old.toList.reverse; Builtin.List.listExtendWith (.ref S) (.ref z) .none) _ _ s
  refine wpAny_bind ?_
  unfold Builtin.List.listItems
  refine wpAny_bind (wpAny_seqItems hS rfl (wpAny_pure ?_))
  show wpAny _ _ (updateSeq S (fun _ => #[]) >>= fun _ => letGo (#[] : Array Value).toList.reverse >>= fun _ => Builtin.List.listExtendWith (.ref S) (.ref z) .none) _ _ s
  refine wpAny_bind (wpAny_updateSeq hS rfl ?_)
  have hS₂ := Heap.get?_update_self (Obj.mapSeq (fun _ => (#[] : Array Value))) hS rfl
  have oth : ∀ b o, b ≠ S → s.heap.get? b = some o → (s.heap.update S (Obj.mapSeq (fun _ => (#[] : Array Value)))).get? b = some o :=
    fun b o hb e => (Heap.get?_update_other _ _ (Ne.symm hb)).trans e
  obtain ⟨x0, y0, hTO⟩ := hTO
  refine wpAny_bind (wpAny_letGo ?_)
  refine zq_extend hh D hn hxy .none _ (oth _ _ (Nat.ne_of_lt D.zS) hz) (oth _ _ (Nat.ne_of_lt D.tiS) hTI) ⟨x0, y0, oth _ _ (Nat.ne_of_lt D.toS) hTO⟩ (h1.at fun o e => oth i1 o (Nat.ne_of_lt D.i1S) e) (h2.at fun o e => oth i2 o (Nat.ne_of_lt D.i2S) e) (let ⟨o, ho, r⟩ := hl1; ⟨o, oth l1 o (Nat.ne_of_lt D.l1S) ho, r⟩) (let ⟨o, ho, r⟩ := hl2; ⟨o, oth l2 o (Nat.ne_of_lt D.l2S) ho, r⟩) hS₂ fun h' tk acc k as hk hS' hl' hG hacc => ?_
  exact hR h' tk acc k as (fun b o c1 c2 c3 c4 c5 e => hk b o c1 c2 c3 c4 c5 (oth b o c1 e)) hS' hl' hG hacc
theorem zq_call {Q : Value → Shared → Prop} {z TI TO i1 i2 l1 l2 : Addr} {xs ys : Array Value} (hh : A.handled = none) (D : ZqAp z TI TO i1 i2 l1 l2 s.heap.objs.size) (hn : xs.size ≤ sizeLine) (hxy : ys.size = xs.size)
    (hz : IsZip s.heap z TI TO .none) (hTI : IsPair s.heap TI (.ref i1) (.ref i2)) (hTO : ∃ x y, IsPair s.heap TO x y) (h1 : s.heap.IsTupleIter i1 l1 0) (h2 : s.heap.IsTupleIter i2 l2 0) (hl1 : s.heap.IsTuple l1 xs) (hl2 : s.heap.IsTuple l2 ys)
    (hQ : ∀ h' tk acc k as, (∀ b o, b ≠ z → b ≠ TO → b ≠ i1 → b ≠ i2 → s.heap.get? b = some o → h'.get? b = some o) → h'.get? s.heap.objs.size = some { cls := .type "list", dict := none, data := .seq acc k, slots := #[] } → as.length = xs.size → ZqG xs ys s.heap.objs.size h' as →
      acc.toList = as.map Value.ref → Q (.ref s.heap.objs.size) { s with heap := h', toks := tk }) :
    wpAny (model prog w) A (call (.type "list") [.ref z]) Q E s := by
  refine callType_codes (Q₁ := fun obj s₁ => obj = .ref s.heap.objs.size ∧ s₁ = { s with heap := s.heap.push { cls := .type "list", data := .seq #[] } }) PySem.F.called_list (PySem.F.typeCall_list_1 _) PySem.F.entry_list_init
    (code_list_new _ ⟨rfl, rfl⟩) fun obj s₁ h₁ => ?_
  obtain ⟨rfl, rfl⟩ := h₁
  have hS : (s.heap.push { cls := .type "list", data := .seq #[] }).get? s.heap.objs.size = some { cls := .type "list", data := .seq #[] } := Heap.get?_push_size _ rfl
  have up : ∀ b o, s.heap.get? b = some o → (s.heap.push { cls := .type "list", data := .seq #[] }).get? b = some o := fun b o e => Heap.get?_push_of_some _ e
  obtain ⟨x0, y0, hTO⟩ := hTO
  refine ⟨⟨_, hS, rfl⟩, PySem.F.args_list_init_2 _ _, zq_init (A := A.in1) hh D hn hxy (up _ _ hz) (up _ _ hTI) ⟨x0, y0, up _ _ hTO⟩ (h1.at fun o e => up _ o e) (h2.at fun o e => up _ o e) (let ⟨o, ho, r⟩ := hl1; ⟨o, up _ o ho, r⟩) (let ⟨o, ho, r⟩ := hl2; ⟨o, up _ o ho, r⟩) hS (fun h' tk acc k as hk hS' hl' hG hacc => ?_)⟩
  exact ⟨rfl, hQ h' tk acc k as (fun b o c2 c3 c4 c5 e => hk b o (Nat.ne_of_lt (Heap.lt_size e)) c2 c3 c4 c5 (up _ _ e)) hS' hl' hG hacc⟩
end
section
open L2 Tl LiI
/-- list(zip(a, b)), a and b tuples, a's items ints -/
def tListZip (K : PySem.W.Frag) (ta : TA) : TE := fun σ H Q => ta σ H fun vs H1 => ∃ (a b : Addr) (ks : List Int) (ys : List V), vs = [.ref a, .ref b] ∧ SqT K H1 a (ks.map V.int) ∧ SqT K H1 b ys ∧ ys.length = ks.length ∧
  ∀ (H' : Hp) (p : Addr) (ts : List Addr), (∀ b o, H1 b = some o → H' b = some o) → H1 p = none → H' p = some (.lst (ts.map V.ref)) → Paired (fun (t : Addr) (q : L2.Key × V) => H' t = some (.tup [kV q.1, q.2])) ts (zipK ks ys) → Q (.ref p) H'
theorem pe_listZip {X : Cx} {e e2 : Expr} {ta : TA} {p p2 q pos : Pos} (hg : Gl X "list") (hm : X.mg "list" = none) (hg2 : Gl X "zip") (hm2 : X.mg "zip" = none) (ha : PA X [e, e2] ta) (hc : X.calm = true := by rfl)
    (ns : starEach [e, e2] X.env = (false, eval e X.env) :: starEach [e2] X.env := by rfl) (np : (backTo q (starEach [e2] X.env)).any (·.1) = false := by rfl)
    (na : starEach [Expr.Call (.Name "zip" p2) [e, e2] [] q] X.env = (false, eval (Expr.Call (.Name "zip" p2) [e, e2] [] q) X.env) :: starEach [] X.env := by rfl) :
    PE X (.Call (.Name "list" p) [.Call (.Name "zip" p2) [e, e2] [] q] [] pos) (tListZip X.K ta) := by
  constructor
  intro pins s σ H Q I h
  refine Call_ (ld_blt I hg hm (show bootBuiltins "list" = some (.type "list") by decide +kernel) (PyProof.Rows.callWith_type1 (args_cons (Call_ (ld_blt I hg2 hm2 boot_zip (PyProof.Rows.callWith_type1 (thn (ha.run q pins s σ H _ I h) fun us s1 hv => ?_) ns np))) na) na rfl))
  obtain ⟨vs, H1, I1, r1, a, b, ks, ys, rfl, hA, hB, hl, q1⟩ := hv
  obtain ⟨u1, u2, rfl, ra, rb⟩ := vals2 r1
  cases ra
  cases rb
  obtain ⟨ua, va, pa, za⟩ := I1.tuple hA
  obtain ⟨ub, vb, pb, zb⟩ := I1.tuple hB
  have la : a < s1.heap.objs.size := by obtain ⟨o, ho, _⟩ := pa; exact Heap.lt_size ho
  have lb : b < s1.heap.objs.size := by obtain ⟨o, ho, _⟩ := pb; exact Heap.lt_size ho
  have D : ZipApart (s1.heap.objs.size + 4) (s1.heap.objs.size + 2) (s1.heap.objs.size + 3) s1.heap.objs.size (s1.heap.objs.size + 1) a b := PySem.W.ktu_apart _ _ _ la lb
  have n1 : ua.length = ks.length := by rw [← va.length, List.length_map]
  have n2 : ub.length = ks.length := by rw [← vb.length, hl]
  have rel := (kv_zip (P := X.prog) (w := X.w) va vb)
  refine RZ.call_zipT pa pb fun g hz hTI hTO hi1 hi2 hsz hk => args_nil ?_
  have gz : g.objs.size = s1.heap.objs.size + 5 := hsz
  have add : ∀ k, k < 5 → s1.heap.objs.size + k < g.objs.size := fun k hk5 => by rw [gz]; exact Nat.add_lt_add_left hk5 _
  have D2 : ZqAp (s1.heap.objs.size + 4) (s1.heap.objs.size + 2) (s1.heap.objs.size + 3) s1.heap.objs.size (s1.heap.objs.size + 1) a b g.objs.size :=
    ⟨D, add 4 (by decide), add 2 (by decide), add 3 (by decide), by have := add 0 (by decide); simpa using this, add 1 (by decide), Nat.lt_of_lt_of_le la (by rw [gz]; exact Nat.le_add_right _ _), Nat.lt_of_lt_of_le lb (by rw [gz]; exact Nat.le_add_right _ _),
      Nat.ne_of_lt la, Nat.ne_of_lt (Nat.lt_succ_of_lt la), Nat.ne_of_lt lb, Nat.ne_of_lt (Nat.lt_succ_of_lt lb)⟩
  refine zq_call (s := { s1 with heap := g }) (xs := ua.toArray) (ys := ub.toArray) (I1.ok.hd hc) D2 (by rw [List.size_toArray, n1]; rw [List.length_map] at za; exact za) (by simp [n1, n2]) hz hTI ⟨_, _, hTO⟩ hi1 hi2 (Heap.IsTuple.at pa fun o => hk _ o) (Heap.IsTuple.at pb fun o => hk _ o) fun h' tk' acc k as hkp hS' hl' hG hacc => ?_
  have low : ∀ {c : Addr} {o : Obj}, s1.heap.get? c = some o → ∀ k, c ≠ s1.heap.objs.size + k := fun e k z => Nat.lt_irrefl _ (Nat.lt_of_le_of_lt (Nat.le_add_right s1.heap.objs.size k) (z ▸ Heap.lt_size e))
  have hlen : as.length = (zipK ks ys).length := by
    rw [hl', List.size_toArray, n1, List.length_zip, List.length_map, hl, Nat.min_self]
  obtain ⟨H', k1, k2, k3, k4, k5, k6, J⟩ := laidS (X := X) (tk := tk') (kvs := zipK ks ys) (S := g.objs.size) (as := as) I1 (by rw [← hlen, hl', List.size_toArray, n1]; rw [List.length_map] at za; exact za) (by rw [gz]; exact Nat.le_add_right _ _)
    (fun b o e => hkp b o (low e 4) (low e 3) (by have := low e 0; simpa using this) (low e 1) (hk b o e)) hS' hlen hG.rise hG.above (fun j c hj => by
      obtain ⟨x, y, e1, e2, e3⟩ := hG.pairs j c hj
      have e1 : ua[j]? = some x := by simpa using e1
      have e2 : ub[j]? = some y := by simpa using e2
      have hjn : j < ks.length := by
        have := (List.getElem?_eq_some_iff.mp e1).1
        omega
      obtain ⟨u, hu, ru⟩ := va.get (show (ks.map V.int)[j]? = some (.int ks[j]) by rw [List.getElem?_map, List.getElem?_eq_getElem hjn]; rfl)
      obtain ⟨u2, hu2, ru2⟩ := vb.get (List.getElem?_eq_getElem (show j < ys.length by omega))
      rw [e1] at hu
      cases hu
      rw [e2] at hu2
      cases hu2
      refine ⟨(Sum.inl ks[j], ys[j]'(by omega)), _, _, ?_, ru, ru2, e3⟩
      rw [List.getElem?_zip_eq_some]
      exact ⟨by rw [List.getElem?_map, List.getElem?_eq_getElem hjn]; rfl, List.getElem?_eq_getElem _⟩) hacc
  exact ⟨.ref _, H', J, rfl, q1 H' _ as k1 k2 k5 k6⟩
end
end EnL
end S_Xq
section S_Xr
namespace EnL
open PySem PySem.Spec PyProof.Rows L2 Tl
/-! ### min of a list of pairs of ints -/
def LxP (s t : Int × Int) : Prop := s.1 < t.1 ∨ (s.1 = t.1 ∧ s.2 < t.2)
instance (s t : Int × Int) : Decidable (LxP s t) := by unfold LxP; infer_instance
theorem lexLt_pair (a b c d : Int) : HT.lexLt [a, b] [c, d] = decide (LxP (a, b) (c, d)) := by
  unfold LxP
  simp only [HT.lexLt]
  by_cases h : a = c
  · subst h
    by_cases h2 : b = d
    · subst h2
      simp
    · simp [h2]
  · simp [h]
theorem arg_least (f : Nat → Int × Int) : ∀ k, argBest (fun i j => decide (LxP (f i) (f j))) k ≤ k ∧ ∀ j, j ≤ k → ¬LxP (f j) (f (argBest (fun i j => decide (LxP (f i) (f j))) k))
  | 0 => ⟨Nat.le_refl _, fun j hj h => by
    have : j = 0 := by omega
    subst this
    unfold argBest LxP at h
    omega⟩
  | k + 1 => by
    obtain ⟨i1, i2⟩ := arg_least f k
    unfold argBest
    by_cases h : LxP (f (k + 1)) (f (argBest (fun i j => decide (LxP (f i) (f j))) k))
    · rw [if_pos (decide_eq_true h)]
      refine ⟨Nat.le_refl _, fun j hj hl => ?_⟩
      by_cases e : j = k + 1
      · subst e
        unfold LxP at hl
        omega
      · refine i2 j (by omega) ?_
        unfold LxP at hl h ⊢
        omega
    · rw [if_neg (by simpa using h)]
      refine ⟨by omega, fun j hj hl => ?_⟩
      by_cases e : j = k + 1
      · subst e
        exact h hl
      · exact i2 j (by omega) hl
/-- min(xs), xs a list of pairs of ints (ps says which) -/
def rMinP (K : PySem.W.Frag) : List V → Hp → VK → Prop := fun vs H Q => ∃ (a : Addr) (ts : List Addr) (ps : List (Int × Int)), vs = [V.ref a] ∧ SqL K H a (ts.map V.ref) ∧ ts.length = ps.length ∧ 0 < ps.length ∧ (∀ (i : Nat) (t : Addr) (p : Int × Int), ts[i]? = some t → ps[i]? = some p → H t = some (.tup [.int p.1, .int p.2])) ∧
  ∀ (m : Nat) (t : Addr) (p : Int × Int), ts[m]? = some t → ps[m]? = some p → (∀ q ∈ ps, ¬LxP q p) → Q (.ref t) H
theorem cr_minP {X : Cx} (hc : X.calm = true) (hu : X.A.units + 64 < cLine) : CallR X (.builtin "min") (rMinP X.K) := by
  intro pins s σ H vs us Q I r h
  obtain ⟨a, ts, ps, rfl, hs, hl, hne, hp, q⟩ := h
  obtain ⟨its, rv, pl, _⟩ := I.list hs
  rw [Vals.ref1 r]
  have hlen : its.length = ps.length := by rw [← rv.length, List.length_map, hl]
  have at_ : ∀ (i : Nat) (v : Value), its.toArray[i]? = some v → ∃ (t : Addr) (p : Int × Int) (u1 u2 : Tok), v = .ref t ∧ ts[i]? = some t ∧ ps[i]? = some p ∧ IsTup s.heap t #[.int p.1 u1, .int p.2 u2] := fun i v hv => by
    have hv : its[i]? = some v := by simpa using hv
    have hi : i < its.length := (List.getElem?_eq_some_iff.mp hv).1
    obtain ⟨t, ht⟩ : ∃ t, ts[i]? = some t := ⟨_, List.getElem?_eq_getElem (by omega)⟩
    obtain ⟨p, hpi⟩ : ∃ p, ps[i]? = some p := ⟨_, List.getElem?_eq_getElem (by omega)⟩
    obtain ⟨u, hu2, ru⟩ := rv.get (show (ts.map V.ref)[i]? = some (.ref t) by rw [List.getElem?_map, ht]; rfl)
    rw [hv] at hu2
    cases hu2
    cases ru
    obtain ⟨us2, r2, p2, _⟩ := I.tuple (Evl.st_of (hp i t p ht hpi))
    obtain ⟨u1, u2, rfl⟩ := Vals.int2 r2
    exact ⟨t, p, u1, u2, rfl, ht, hpi, p2⟩
  refine call_min_walkH (PySem.W.iter_listW (A := X.A.in1) (I.ok.hd hc) pl.isList fun s₂ e W st hfp hw hk => ?_)
  refine ⟨_, _, _, _, _, _, _, s.heap, fun i j => decide (LxP (ps.getD i (0, 0)) (ps.getD j (0, 0))), rfl, W, st, hfp, by rw [List.size_toArray]; omega, hw, hk, fun i j vi vj s' Q' E' hk' hi hj hq => ?_, fun v s' hP m => ?_⟩
  · obtain ⟨t1, p1, u1, u2, rfl, _, e1, g1⟩ := at_ i vi hi
    obtain ⟨t2, p2, w1, w2, rfl, _, e2, g2⟩ := at_ j vj hj
    have g1' : IsTup s'.heap t1 #[.int p1.1 u1, .int p1.2 u2] := let ⟨o, ho, r⟩ := g1; ⟨o, hk' _ _ ho, r⟩
    have g2' : IsTup s'.heap t2 #[.int p2.1 w1, .int p2.2 w2] := let ⟨o, ho, r⟩ := g2; ⟨o, hk' _ _ ho, r⟩
    have := HT.lt_tupInts (prog := X.prog) (w := X.w) (A := X.A.in1) (E := E') (Q := Q') (s := s') g1' g2' (ns := [p1.1, p1.2]) (ms := [p2.1, p2.2]) (.cons _ _ (.cons _ _ .nil)) (.cons _ _ (.cons _ _ .nil)) (by show X.A.units + 1 < cLine; omega) (by
      rw [lexLt_pair]
      have d1 : ps.getD i (0, 0) = p1 := by rw [List.getD_eq_getElem?_getD, e1]; rfl
      have d2 : ps.getD j (0, 0) = p2 := by rw [List.getD_eq_getElem?_getD, e2]; rfl
      dsimp only at hq
      rw [d1, d2] at hq
      exact hq)
    exact this
  · obtain ⟨h', tk, rfl, hk'⟩ := PySem.W.moved_old e rfl m
    obtain ⟨t, p, _, _, rfl, ht, hpi, _⟩ := at_ _ v hP
    obtain ⟨_, hm⟩ := arg_least (fun i => ps.getD i (0, 0)) (its.toArray.size - 1)
    refine ⟨.ref t, H, I.kept (t' := tk) hk', rfl, q _ t p ht hpi fun x hx => ?_⟩
    obtain ⟨j, hj⟩ := List.mem_iff_getElem?.mp hx
    have hjl := (List.getElem?_eq_some_iff.mp hj).1
    have := hm j (by rw [List.size_toArray]; omega)
    have d1 : ps.getD j (0, 0) = x := by rw [List.getD_eq_getElem?_getD, hj]; rfl
    have d2 : ps.getD (argBest (fun i j => decide (LxP (ps.getD i (0, 0)) (ps.getD j (0, 0)))) (its.toArray.size - 1)) (0, 0) = p := by rw [List.getD_eq_getElem?_getD, hpi]; rfl
    rw [d1, d2] at this
    exact this
end EnL
end S_Xr
section S_Du
namespace P05
open PySem PySem.Spec PyProof.Rows L2 Tl Hk LamX EnL
/-! ### the sides of a face, and a face from its least -/
def PairsAt (H : Hp) (p : Addr) (qs : List Sd) : Prop := ∃ ts : List Addr, H p = some (.lst (ts.map V.ref)) ∧ ts.length = qs.length ∧ ∀ (i : Nat) (t : Addr) (q : Sd), ts[i]? = some t → qs[i]? = some q → H t = some (.tup [.int q.1, .int q.2])
theorem PairsAt.ex {A B : Hp} {p : Addr} {qs : List Sd} (h : PairsAt A p qs) (e : Evl.Ex A B) : PairsAt B p qs := by
  obtain ⟨ts, h1, h2, h3⟩ := h
  exact ⟨ts, e _ _ h1, h2, fun i t q a b => e _ _ (h3 i t q a b)⟩
def spSides : Sp := fun vs H Q _ => ∃ (f : Addr) (ns : List Int), vs = [.ref f] ∧ H f = some (.tup (ns.map V.int)) ∧ ns.length ≤ 40000 ∧ ∀ p H', Evl.Ex H H' → PairsAt H' p (ns.zip (rot ns)) → Q (.ref p) H'
def spLeast : Sp := fun vs H Q _ => ∃ (f : Addr) (ns : List Int) (j : Nat), vs = [.ref f] ∧ H f = some (.tup (ns.map V.int)) ∧ ns.length ≤ 40000 ∧ LeastAt (ns.zip (rot ns)) j ∧ (ns.zip (rot ns)).Nodup ∧ ∀ v H', Evl.Ex H H' → IsT ((ns.drop j ++ ns.take j).map V.int) v H' → Q v H'
theorem scSides : FnScope ["places"] ["places"] (defScope sSidesOf) := ⟨rfl, rfl, rfl, by decide +kernel, rfl, by decide +kernel, by decide +kernel⟩
theorem scLeast : FnScope ["face", "sides", "at"] ["face"] (defScope sFromLeast) := ⟨rfl, rfl, rfl, by decide +kernel, rfl, by decide +kernel, by decide +kernel⟩
theorem pair_len {α β : Type} {R : α → β → Prop} : ∀ {as : List α} {bs : List β}, Paired R as bs → as.length = bs.length
  | _, _, .nil => rfl
  | _, _, .cons _ t => congrArg (· + 1) (pair_len t)
theorem pair_at {α β : Type} {R : α → β → Prop} : ∀ {as : List α} {bs : List β} {i : Nat} {a : α} {b : β}, Paired R as bs → as[i]? = some a → bs[i]? = some b → R a b
  | _, _, _, _, _, .nil, h, _ => by simp at h
  | _, _, 0, _, _, .cons h _, h1, h2 => by cases h1; cases h2; exact h
  | _, _, i + 1, _, _, .cons _ t, h1, h2 => pair_at (i := i) t (by simpa using h1) (by simpa using h2)
abbrev sdD (q : Sd) : PyData := .tuple ([q.1, q.2].map PyData.int)
theorem sd_eqv (q r : Sd) : PyData.eqv (sdD q) (sdD r) = decide (q = r) := by
  refine (PySem.W.Datum.eqv (α := List Int) [q.1, q.2] [r.1, r.2] : PyData.eqv (.tuple _) (.tuple _) = _).trans (decide_eq_decide.mpr ⟨fun h => ?_, fun h => by rw [h]⟩)
  injection h with h1 h2
  injection h2 with h3 _
  exact Prod.ext h1 h3
theorem dpa_of {K : PySem.W.Frag} {H : Hp} : ∀ {xs : List V} {ds : List PyData}, xs.length = ds.length → (∀ (i : Nat) v d, xs[i]? = some v → ds[i]? = some d → Dp K H v d) → DpAll K H xs ds
  | [], [], _, _ => .nil
  | [], _ :: _, h, _ => nomatch h
  | _ :: _, [], h, _ => nomatch h
  | x :: xs, d :: ds, h, hx => .cons (hx 0 x d rfl rfl) (dpa_of (Nat.succ.inj h) fun i v d a b => hx (i + 1) v d a b)
section
variable {P : Program} {w : World} {K : PySem.W.Frag} {mg : Str → Option Value} {base : Heap}
theorem ok_sides {f : Addr} {fd : FuncData} {k : Nat} (F : Fun K "sides_of" "sides_of" sSidesOf f fd) (mlist : mg "list" = none) (mzip : mg "zip" = none) : FnOk P w K mg base CX0 (k + 1) f fd ["places"] spSides := by
  refine F.ok scSides (fun vs H Q E h => ?_) (fun cdv A outer s H vs Q E hr h => ?_)
  · obtain ⟨a, ns, rfl, _⟩ := h
    rfl
  · obtain ⟨a, ns, rfl, ha, hn, q⟩ := h
    refine ⟨_, pss_one (ps_ret (pe_listZip (by rfl) mlist (by rfl) mzip (pa_cons (pv 0) (pa_cons (pe_op op_catA (pe_slice sl_tupA (pv 0) (po_some pe_int) po_none) (pe_slice sl_tupA (pv 0) po_none (po_some pe_int))) pa_nil)))), ?_⟩
    have c1 : Evl.Ev (tVar 0) (start ["places"] [.ref a]) H (.ref a) := Evl.ev_var rfl
    have rr : EvN (tOp (rCatA K) (tSl (rSlA K) (tVar 0) (tPart (tC (.int 1))) tNoPart) (tSl (rSlA K) (tVar 0) tNoPart (tPart (tC (.int 1))))) (start ["places"] [.ref a]) H (IsT ((rot ns).map V.int)) := by
      have := en_catA (K := K) (en_sl (K := K) c1 (Evl.eo_some Evl.ev_c) Evl.eo_none ha) (en_sl (K := K) c1 Evl.eo_none (Evl.eo_some Evl.ev_c) ha) (by rw [cutD1, cutT1, List.length_drop, List.length_take, List.length_map]; omega)
      rw [cutD1, cutT1, ← List.map_drop, ← List.map_take, ← List.map_append] at this
      exact this
    refine ret_go (show tCons _ _ _ _ _ from ⟨.ref a, rfl, rr H (Evl.Ex.refl H) _ fun v H2 e2 hv => ?_⟩)
    obtain ⟨b, rfl, hb⟩ := hv H2 e2 fun _ _ _ h => h
    refine ⟨a, b, ns, (rot ns).map V.int, rfl, Evl.st_of (e2 _ _ ha), Evl.st_of hb, by rw [List.length_map, rot_len], fun H' p ts hk hp hl hpair => q p H' (e2.trans hk) ⟨ts, hl, ?_, fun i t x ht hx => ?_⟩⟩
    · rw [pair_len hpair, List.length_zip, List.length_zip, List.length_map, List.length_map]
    · obtain ⟨x1, x2⟩ := List.getElem?_zip_eq_some.mp hx
      have := pair_at hpair ht (show (zipK ns ((rot ns).map V.int))[i]? = some (Sum.inl x.1, .int x.2) from List.getElem?_zip_eq_some.mpr ⟨by rw [List.getElem?_map, x1]; rfl, by rw [List.getElem?_map, x2]; rfl⟩)
      exact this
theorem ok_least {f fS : Addr} {fd fdS : FuncData} {k : Nat} (F : Fun K "from_least_side" "from_least_side" sFromLeast f fd)
    (FS : Fun K "sides_of" "sides_of" sSidesOf fS fdS) (GS : FnOk P w K mg base CX0 k fS fdS ["places"] spSides) (bS : Binds K fdS ["places"] []) (gS : mg "sides_of" = some (.ref fS)) (mmin : mg "min" = none) : FnOk P w K mg base CX0 (k + 1) f fd ["face"] spLeast := by
  refine F.ok scLeast (fun vs H Q E h => ?_) (fun cdv A outer s H vs Q E hr h => ?_)
  · obtain ⟨a, ns, j, rfl, _⟩ := h
    rfl
  · obtain ⟨a, ns, j, rfl, ha, hn, hj, hnd, q⟩ := h
    have nd := scLeast.nd
    refine ⟨_, pss_cons (ps_set (i := 1) nd rfl (.inl rfl) (pe_call GS hr (by rfl) gS FS.kp bS .nil pass0 (pa_cons (pv 0) pa_nil)))
      (pss_cons (ps_set (i := 2) nd rfl (.inl rfl) (pe_bm PySem.F.plainAttrs_list PySem.F.slot_list_index PySem.F.type_list_index (mt_indexD (show (A.deeper _).units + 65 < cLine by have := hr.un; omega)) (pv 1) (pa_cons (pe_callB (cr_minP rfl hr.units) (by rfl) mmin (by decide +kernel) (pa_cons (pv 1) pa_nil)) pa_nil)))
      (pss_one (ps_ret (pe_op op_catA (pe_slice sl_tupA (pv 0) (po_some (pv 2)) po_none) (pe_slice sl_tupA (pv 0) po_none (po_some (pv 2))))))), ?_⟩
    refine asg_go ⟨.ref a, rfl, a, ns, rfl, ha, hn, fun p H1 e1 hP => ?_⟩
    obtain ⟨ts, hl, hlen, hpr⟩ := hP
    obtain ⟨qs, hqs⟩ : ∃ qs, ns.zip (rot ns) = qs := ⟨_, rfl⟩
    rw [hqs] at hj hnd hlen hpr
    obtain ⟨s0, hs0, hmin⟩ := hj
    have hjl := (List.getElem?_eq_some_iff.mp hs0).1
    refine asg_go ⟨.ref p, rfl, .inl ⟨rfl, _, Evl.sq_of hl⟩, .ref p, rfl, p, ts, qs, rfl, Evl.sq_of hl, hlen, by omega, hpr, fun m t x ht hx hle => ?_⟩
    have ex : x = s0 := by
      rcases Decidable.em (x = s0) with e | e
      · exact e
      · exact (hle s0 (List.mem_of_getElem? hs0) (hmin x (List.mem_of_getElem? hx) e)).elim
    subst ex
    have em : m = j := by
      obtain ⟨l1, g1⟩ := List.getElem?_eq_some_iff.mp hx
      obtain ⟨l2, g2⟩ := List.getElem?_eq_some_iff.mp hs0
      exact (List.getElem_inj hnd).mp (g1.trans g2.symm)
    subst em
    refine ⟨p, .ref t, sdD x, qs.map sdD, m, sdD x, rfl, rfl, .lst (Evl.sq_of hl) (dpa_of (by rw [List.length_map, List.length_map, hlen]) fun i v d hv hd => ?_), .tup (Evl.st_of (hpr m t x ht hx)) (.cons (.int _) (.cons (.int _) .nil)), ?_, rfl, by rw [List.getElem?_map, hx]; rfl, by rw [sd_eqv, decide_eq_true rfl], fun i z hi hz => ?_, ?_⟩
    · rw [List.getElem?_map] at hv hd
      obtain ⟨t', ht', rfl⟩ := Option.map_eq_some_iff.mp hv
      obtain ⟨q', hq', rfl⟩ := Option.map_eq_some_iff.mp hd
      exact .tup (Evl.st_of (hpr i t' q' ht' hq')) (.cons (.int _) (.cons (.int _) .nil))
    · refine shaped_list (c := 5) (by decide) fun d hd => ?_
      obtain ⟨q', _, rfl⟩ := List.mem_map.mp hd
      exact ⟨rfl, by simp [PyData.depth, PyData.depthAll]⟩
    · rw [List.getElem?_map] at hz
      obtain ⟨q', hq', rfl⟩ := Option.map_eq_some_iff.mp hz
      rw [sd_eqv]
      refine decide_eq_false fun e => ?_
      subst e
      obtain ⟨l1, g1⟩ := List.getElem?_eq_some_iff.mp hq'
      obtain ⟨l2, g2⟩ := List.getElem?_eq_some_iff.mp hx
      have := (List.getElem_inj hnd).mp (g1.trans g2.symm)
      omega
    · have ha1 := e1 _ _ ha
      refine s_retN (en_catA (K := K) (en_sl (K := K) (Evl.ev_var (i := 0) rfl) (Evl.eo_some (Evl.ev_var (i := 2) rfl)) Evl.eo_none ha1) (en_sl (K := K) (Evl.ev_var (i := 0) rfl) Evl.eo_none (Evl.eo_some (Evl.ev_var (i := 2) rfl)) ha1) (by rw [cutFrom, cutTo', List.length_drop, List.length_take, List.length_map]; omega)) fun v H2 e2 hv => q v H2 (e1.trans e2) ?_
      have := hv H2 e2 fun _ _ _ h => h
      rw [cutFrom, cutTo', ← List.map_drop, ← List.map_take, ← List.map_append] at this
      exact this
end
end P05
end S_Du
section S_Dv
namespace P05
open PySem PySem.Spec PyProof.Rows L2 Tl Hk LamX EnL
theorem passAll {CX : CXT} {X : Cx} {E : XK} (h : ∀ σ, PassesAt CX X σ E) : Passes CX X E := fun pins σ H s e s' I c => h σ pins H s e s' I c
section
open Evl
variable {K : PySem.W.Frag} {σ : L2.St} {G : Hp} {C x : Addr}
theorem meth_go {m : Str} {sp : Sp} {E : XK} {ta : TE} {t : TA} {Q : VK} {dx : Addr} {fs : List (Str × V)} {vs : List V} (ho : Ev ta σ G (.ref x)) (hx : G x = some (.ins C dx fs)) (hl : fs.lookup m = none) (hv : EvA t σ G vs) (k : ∀ H1, Ex G H1 → sp (.ref x :: (vs ++ [])) H1 Q E) : tMeth C m sp [] E ta t σ G Q :=
  ho G (Ex.refl G) _ fun H1 e1 => ⟨x, dx, fs, rfl, e1 _ _ hx, hl, hv H1 e1 _ fun H2 e2 => k H2 (e1.trans e2)⟩
theorem methN_go {m : Str} {sp : Sp} {E : XK} {ta : TE} {t : TA} {Q : VK} {dx : Addr} {fs : List (Str × V)} {vs : List V} {n : Nat} {gV : List V → List V → List V} (ho : Ev ta σ G (.ref x)) (hx : G x = some (.ins C dx fs)) (hl : fs.lookup m = none) (hv : EvA t σ G vs) (hn : vs.length = n) (k : ∀ H1, Ex G H1 → sp (gV [.ref x] vs) H1 Q E) : tMethN C m n sp gV E ta t σ G Q :=
  ho G (Ex.refl G) _ fun H1 e1 => ⟨x, dx, fs, rfl, e1 _ _ hx, hl, hv H1 e1 _ fun H2 e2 => ⟨hn, k H2 (e1.trans e2)⟩⟩
theorem when_go {tc : L2.TT} {tu tz : TS} {D : Ends} (h : tc σ G fun b H1 => if b = true then tu { D with nx := tz D } σ H1 else tz D σ H1) : tSeq (tIfS tc tu tNext) tz D σ G := h
theorem not_go {t : L2.TT} {Q : Bool → Hp → Prop} (h : t σ G fun c H1 => Q (!c) H1) : tNot t σ G Q := h
theorem b_go {te : TE} {Q : Bool → Hp → Prop} (h : te σ G fun x H' => ∃ k, x = .bl k ∧ Q k H') : tB te σ G Q := h
end
theorem asg_last {te : TE} {i : Nat} {D : Ends} {σ : L2.St} {H : Hp} (h : te σ H fun v H1 => D.nx (σ.set i (some v)) H1) : tAsg te (gName i) D σ H := h
theorem q_asg1 {te : TE} {g : TG} {tz : TS} {D : Ends} {σ : L2.St} {H : Hp} (h : te σ H fun x H1 => g x σ H1 fun σ1 H2 => tz D σ1 H2) : tSeq (tAsg te g) tz D σ H := h
theorem ifs_go {tc : L2.TT} {tu tw : TS} {D : Ends} {σ : L2.St} {G : Hp} (h : tc σ G fun b H1 => if b = true then tu D σ H1 else tw D σ H1) : tIfS tc tu tw D σ G := h
theorem test_go {te : TE} {σ : L2.St} {G : Hp} {Q : Bool → Hp → Prop} (h : te σ G fun x H' => ∃ k, x = .bl k ∧ Q k H') : tTest te σ G Q := h
theorem and_go {t u : L2.TT} {σ : L2.St} {G : Hp} {Q : Bool → Hp → Prop} (h : t σ G fun c H1 => if c = true then u σ H1 Q else Q false H1) : tAnd t u σ G Q := h
theorem tif_go {t : L2.TT} {ta tb : TE} {σ : L2.St} {G : Hp} {Q : VK} (h : t σ G fun c H1 => if c = true then ta σ H1 Q else tb σ H1 Q) : tIf t ta tb σ G Q := h
theorem for_list {K : PySem.W.Frag} {te : TE} {g : TG} {tb tz : TS} {D : Ends} {σ : L2.St} {H : Hp} (h : te σ H fun v H' => tSeq (tFor (iList K (tC v)) g tb) tz D σ H') : tSeq (tFor (iList K te) g tb) tz D σ H := h
theorem sides_len : ∀ {l : List (List Int)} {i : Nat}, (sidesF i l).length = (l.map List.length).sum
  | [], _ => rfl
  | ns :: r, i => by
    unfold sidesF
    rw [List.length_append, List.length_map, srt_len, sides_len, List.map_cons, List.sum_cons]
def spFrom (C : Addr) : Sp := fun vs H Q _ => ∃ (x : Addr) (ts : List (List Int)) (p q : Int) (c : List Sd), vs = [.ref x, .int p, .int q] ∧ WebAt C H x ts ∧ OkT ts ∧ Cyc ts c ∧ c.head? = some (p, q) ∧ ∀ f H', Evl.Ex H H' → H' f = some (.tup ((faceOf c).map V.int)) → Q (.ref f) H'
theorem scFrom : FnScope ["web", "one", "other"] ["web", "one", "other"] (defScope sFaceFrom) := ⟨rfl, rfl, rfl, by decide +kernel, rfl, by decide +kernel, by decide +kernel⟩
theorem scFaceAt : FnScope ["web", "one", "other"] ["web", "one", "other"] (defScope sFaceAt) := ⟨rfl, rfl, rfl, by decide +kernel, rfl, by decide +kernel, by decide +kernel⟩
/-- what face_at answers of a web -/
def FcW (K : PySem.W.Frag) (CB CF : Addr) (ts : List (List Int)) (v u : V) (H : Hp) (Q : VK) (E : XK) : Prop := OkT ts ∧ (wi v (.int 1) (.int (ts.length : Int)) = false → Rz CB H E "one") ∧ (wi v (.int 1) (.int (ts.length : Int)) = true → wi u (.int 1) (.int (ts.length : Int)) = false → Rz CB H E "other") ∧
  (∀ (p : Nat) (o : Int) (ns : List Int), v = .int (p : Int) → u = .int o → 1 ≤ p → 1 ≤ o → o ≤ ts.length → ts[p - 1]? = some ns → (o ∉ ns → Rz CF H E "other") ∧ (o ∈ ns → ∃ c j, Cyc ts c ∧ c.head? = some ((p : Int), o) ∧ LeastAt c j ∧ ∀ v H', Evl.Ex H H' → IsT ((faceOf (c.drop j ++ c.take j)).map V.int) v H' → Q v H'))
def spFaceAt (K : PySem.W.Frag) (C CE CB CF : Addr) : Sp := fun vs H Q E => ∃ (wv v u : V) (o : Option (List (List Int))) (n m : String), vs = [wv, v, u] ∧ WbV K C H wv o ∧ Ty7 K H v n ∧ Ty7 K H u m ∧ (o = none → Rz CE H E "web") ∧ (∀ ts, o = some ts → FcW K CB CF ts v u H Q E)
section
variable {P : Program} {w : World} {K : PySem.W.Frag} {mg : Str → Option Value} {base : Heap}
theorem ok_from {C f fB fT : Addr} {fd fdB fdT : FuncData} {k : Nat} (F : Fun K "_face_from" "_face_from" sFaceFrom f fd)
    (FB : Fun K "places_behind" "places_behind" sBehind fB fdB) (GB : FnOk P w K mg base CX0 k fB fdB ["web"] (spBehind C)) (bB : Binds K fdB ["web"] []) (gB : mg "places_behind" = some (.ref fB))
    (FT : Fun K "_taken_round" "_taken_round" sTaken fT fdT) (GT : FnOk P w K mg base CX0 k fT fdT ["left", "one", "other"] spTaken) (bT : Binds K fdT ["left", "one", "other"] []) (gT : mg "_taken_round" = some (.ref fT)) :
    FnOk P w K mg base CX0 (k + 1) f fd ["web", "one", "other"] (spFrom C) := by
  refine F.ok scFrom (fun vs H Q E h => ?_) (fun cdv A outer s H vs Q E hr h => ?_)
  · obtain ⟨x, ts, p, o, c, rfl, _⟩ := h
    rfl
  · obtain ⟨x, ts, p, o, c, rfl, hW, hT, hc, hh, q⟩ := h
    refine ⟨_, pss_one (ps_ret (pe_call GT hr (by rfl) gT FT.kp bT .nil pass0 (pa_cons (pe_call GB hr (by rfl) gB FB.kp bB .nil pass0 (pa_cons (pv 0) pa_nil)) (pa_cons (pv 1) (pa_cons (pv 2) pa_nil))))), ?_⟩
    have hs : Side ts (p, o) := hc.side _ (List.mem_of_head? hh)
    obtain ⟨l, w1, _, w3, w4⟩ := walk_cyc hT (seen := []) (f := (sidesL ts).length + 1) (fun s h => (side_mem hT).mp h) (fun s h => (nomatch h)) (fun s t _ => ⟨(fun h => nomatch h), (fun h => nomatch h)⟩) List.nodup_nil hs (fun h => nomatch h) (Nat.le_refl _)
    have el : l = c := cyc_uniq w3 hc (w4.trans hh.symm)
    subst el
    have wd := walk_ds hT hs w1
    rw [show dsOf ts [] = ts.map behindOf from dsF_nil] at wd
    refine ret_go ⟨.ref x, rfl, x, ts, rfl, hW, hT, fun L as H1 hL e1 h1 hD hN => ⟨.int p, rfl, .int o, rfl, L, p, o, as, _, (sidesL ts).length + 1, faceOf l, _, rfl, h1, hD, wd, by rw [sides_len]; have := hT.few; omega, fun t H2 ht hk hD2 h2 => q t H2 (fun b u hb => hk b u (fun z => by rw [hN b z] at hb; cases hb) (e1 _ _ hb)) h2⟩⟩
theorem ok_faceAt {qI : Str} {C CE CB CF f fWW fT fF fL fI : Addr} {fd fdWW fdT fdF fdL : FuncData} {k : Nat} (F : Fun K "face_at" "face_at" sFaceAt f fd) (T : TWeb K mg C)
    (FWW : Fun K "want_web" "want_web" sWantWeb fWW fdWW) (GWW : FnOk P w K mg base (L2.CX P w) (k + 2) fWW fdWW ["web"] (spWantWeb K C CE)) (bWW : Binds K fdWW ["web"] []) (gWW : mg "want_web" = some (.ref fWW))
    (MT : Meth K C "tied" fT) (GT : FnOk P w K mg base (L2.CX P w) (k + 2) fT fdT ["self", "one", "other"] (spTied K C CB)) (bT : Binds K fdT ["self", "one", "other"] [])
    (FF : Fun K "_face_from" "_face_from" sFaceFrom fF fdF) (GF : FnOk P w K mg base CX0 (k + 2) fF fdF ["web", "one", "other"] (spFrom C)) (bF : Binds K fdF ["web", "one", "other"] []) (gF : mg "_face_from" = some (.ref fF))
    (FL : Fun K "from_least_side" "from_least_side" sFromLeast fL fdL) (GL : FnOk P w K mg base CX0 (k + 2) fL fdL ["face"] spLeast) (bL : Binds K fdL ["face"] []) (gL : mg "from_least_side" = some (.ref fL))
    (TP : PySem.PartX.PartTxt K mg "Misfit" qI CF fI) :
    FnOk P w K mg base (L2.CX P w) (k + 3) f fd ["web", "one", "other"] (spFaceAt K C CE CB CF) := by
  refine F.okX scFaceAt (fun vs H Q E h => ?_) (fun cdv A outer s H vs Q E hr h => ?_)
  · obtain ⟨wv, v, u, o, n, m, rfl, _⟩ := h
    rfl
  · obtain ⟨wv, v, u, o, n, m, rfl, hv, h7, h8, hno, hyes⟩ := h
    refine ⟨_, pss_cons (ps_expr (pe_callS GWW hr (by rfl) gWW FWW.kp bWW (fun σ => passAt (takes_of rfl rfl rfl rfl) σ) (pa_cons (pv 0) pa_nil)))
      (pss_cons (ps_if (pt_not (pt_val (pe_meth (pv 0) T.cl MT GT hr bT .nil (passAll fun σ => passAt (takes_of rfl rfl rfl rfl) σ) (pa_cons (pv 1) (pa_cons (pv 2) pa_nil))))) (pss_one (ps_raisePart rfl TP (k := k + 2) hr (takes_of rfl rfl rfl rfl) (pa_cons pe_str pa_nil) (by rfl) (by decide))) pss_nil)
      (pss_one (ps_ret (pe_call GL hr (by rfl) gL FL.kp bL .nil pass0 (pa_cons (pe_call GF hr (by rfl) gF FF.kp bF .nil pass0 (pa_cons (pv 0) (pa_cons (pv 1) (pa_cons (pv 2) pa_nil)))) pa_nil))))), ?_⟩
    refine callS_go (vs := [wv]) (Evl.ea_cons (Evl.ev_var rfl) Evl.ea_nil) fun H0 e0 => ⟨wv, o, rfl, hv.ex e0, fun z => (hno z).ex e0, fun hs H1 e01 => ?_⟩
    have e1 := e0.trans e01
    clear hno e0 e01
    obtain ⟨ts, rfl⟩ : ∃ ts, o = some ts := by
      cases o with
      | none => cases hs
      | some ts => exact ⟨ts, rfl⟩
    obtain ⟨x, rfl, hW⟩ := hv.at
    obtain ⟨hT, hn1, hn2, hy⟩ := hyes ts rfl
    clear hyes hv hs
    obtain ⟨dx, t, ti, h1, _, _⟩ := id hW
    refine when_go (not_go (b_go (meth_go (vs := [v, u]) (Evl.ev_var rfl) (e1 _ _ h1) rfl (Evl.ea_cons (Evl.ev_var rfl) (Evl.ea_cons (Evl.ev_var rfl) Evl.ea_nil)) fun H2 e2 => ?_)))
    have e12 := e1.trans e2
    refine ⟨x, ts, v, u, n, m, rfl, hW.ex e12, h7.ex e12, h8.ex e12, fun z => (hn1 z).ex e12, fun z1 z2 => (hn2 z1 z2).ex e12, fun p q ns ev eu p1 q1 q2 hns H3 e3 => ⟨_, rfl, ?_⟩⟩
    have e13 := e12.trans e3
    obtain ⟨y1, y2⟩ := hy p q ns ev eu p1 q1 q2 hns
    subst ev eu
    by_cases hm : q ∈ ns
    · rw [decide_eq_true hm]
      obtain ⟨c, j, hc, hh, hj, hq⟩ := y2 hm
      refine if_go (fun z => nomatch z) fun _ => ?_
      refine ret_go ⟨.ref x, rfl, .int (p : Int), rfl, .int q, rfl, x, ts, (p : Int), q, c, rfl, hW.ex e13, hT, hc, hh, fun f H4 e4 h4 => ?_⟩
      have hlen : (faceOf c).length ≤ 40000 := by
        have := nodup_le (m := sidesL ts) hc.nd fun s hs => (side_mem hT).mp (hc.side s hs)
        rw [sides_len] at this
        have := hT.few
        rw [List.length_map]
        omega
      refine ⟨f, faceOf c, j, rfl, h4, hlen, by rw [face_sides hc]; exact hj, by rw [face_sides hc]; exact hc.nd, fun r H5 e5 hr5 => hq r H5 ((e13.trans e4).trans e5) ?_⟩
      rw [faceOf, List.map_append, List.map_drop, List.map_take]
      exact hr5
    · rw [decide_eq_false hm]
      refine if_go (fun _ => ?_) fun z => nomatch z
      exact ⟨.str "other", rfl, fun d hd => y1 hm H3 d e13 hd⟩
end
end P05
end S_Dv
section S_Dw
namespace P05
open PySem PySem.Spec PyProof.Rows L2 Tl Hk LamX EnL
/-! ### the law's own faces -/
def stepW (ts : List (List Int)) (fu : Nat) (st : Option RSt) (s : Sd) : Option RSt := match st with
  | none => none
  | some q => match walkS ts fu q.1 s with
    | none => none
    | some r => some (r.2, if r.1 = [] then q.2 else q.2 ++ [r.1])
theorem walkS_ne {ts : List (List Int)} {f : Nat} {seen : List Sd} {s : Sd} {l r : List Sd} (h : walkS ts f seen s = some (l, r)) (hs : s ∉ seen) : l ≠ [] := by
  cases f with
  | zero => cases h
  | succ f =>
    unfold walkS at h
    rw [if_neg hs] at h
    split at h
    · cases h
    · split at h
      · cases h
      · cases h
        exact List.cons_ne_nil _ _
theorem stepW_eq {ts : List (List Int)} {fu : Nat} (hf : 1 ≤ fu) (st : Option RSt) (s : Sd) : stepW ts fu st s = stepS ts fu st s := by
  unfold stepW stepS
  cases st with
  | none => rfl
  | some q =>
    dsimp only
    by_cases hm : s ∈ q.1
    · rw [if_pos hm]
      obtain ⟨f, rfl⟩ : ∃ f, fu = f + 1 := ⟨fu - 1, by omega⟩
      unfold walkS
      rw [if_pos hm]
      dsimp only
      rw [if_pos rfl]
    · rw [if_neg hm]
      cases hw : walkS ts fu q.1 s with
      | none => rfl
      | some r =>
        dsimp only
        rw [if_neg (walkS_ne (l := r.1) (r := r.2) hw hm)]
theorem foldW {ts : List (List Int)} {fu : Nat} (hf : 1 ≤ fu) : ∀ (l : List Sd) (st : Option RSt), l.foldl (stepW ts fu) st = l.foldl (stepS ts fu) st
  | [], _ => rfl
  | s :: l, st => by rw [List.foldl_cons, List.foldl_cons, stepW_eq hf, foldW hf l]
theorem stepW_none {ts : List (List Int)} {fu : Nat} : ∀ l : List Sd, l.foldl (stepW ts fu) none = none
  | [] => rfl
  | _ :: r => stepW_none r
theorem stepW_le {ts : List (List Int)} {fu : Nat} : ∀ {l : List Sd} {q r : RSt}, l.foldl (stepW ts fu) (some q) = some r → q.1.length ≤ r.1.length ∧ q.2.length ≤ r.2.length
  | [], q, r, h => by cases h; exact ⟨Nat.le_refl _, Nat.le_refl _⟩
  | o :: l, q, r, h => by
    rw [List.foldl_cons] at h
    cases hq : stepW ts fu (some q) o with
    | none => rw [hq, stepW_none] at h; cases h
    | some q2 =>
      rw [hq] at h
      obtain ⟨b1, b2⟩ := stepW_le h
      unfold stepW at hq
      dsimp only at hq
      split at hq
      · cases hq
      · rename_i r2 hr2
        cases hq
        have := (walkS_seen (l := r2.1) (r := r2.2) hr2).1
        refine ⟨Nat.le_trans ?_ b1, Nat.le_trans ?_ b2⟩
        · show q.1.length ≤ r2.2.length
          rw [this, List.length_append]
          omega
        · dsimp only
          split
          · exact Nat.le_refl _
          · rw [List.length_append]
            exact Nat.le_add_right _ _
/-! ### sides as they are put together -/
def sidesU : Nat → List (List Int) → List Sd
  | _, [] => []
  | i, ns :: r => ns.map (fun o => ((i : Int) + 1, o)) ++ sidesU (i + 1) r
theorem sidesU_app : ∀ (l : List (List Int)) (i : Nat) (ns : List Int), sidesU i (l ++ [ns]) = sidesU i l ++ ns.map (fun o => (((i + l.length : Nat) : Int) + 1, o))
  | [], i, ns => by show ns.map _ ++ [] = [] ++ _; rw [List.append_nil]; rfl
  | a :: l, i, ns => by
    show a.map _ ++ sidesU (i + 1) (l ++ [ns]) = a.map _ ++ sidesU (i + 1) l ++ _
    rw [sidesU_app l, List.append_assoc]
    congr 3
    funext o
    rw [List.length_cons, show i + 1 + l.length = i + (l.length + 1) by omega]
theorem sidesU_perm : ∀ (l : List (List Int)) (i : Nat), (sidesU i l).Perm (sidesF i l)
  | [], _ => List.Perm.refl _
  | ns :: r, i => ((srt_perm ns).symm.map _).append (sidesU_perm r (i + 1))
theorem sides_uniq : ∀ {a b : List Sd}, a.Perm b → a.Pairwise (fun s t => ¬Lx t s) → b.Pairwise Lx → a = b
  | [], b, hp, _, _ => (List.Perm.nil_eq hp).symm ▸ rfl
  | s :: a, [], hp, _, _ => absurd hp.length_eq (by simp)
  | s :: a, t :: b, hp, ha, hb => by
    obtain ⟨a1, a2⟩ := List.pairwise_cons.mp ha
    obtain ⟨b1, b2⟩ := List.pairwise_cons.mp hb
    have e : s = t := by
      rcases List.mem_cons.mp (hp.mem_iff.mp List.mem_cons_self) with e | hs
      · exact e
      · rcases List.mem_cons.mp (hp.mem_iff.mpr List.mem_cons_self) with e | ht
        · exact e.symm
        · exact (a1 t ht (b1 s hs)).elim
    subst e
    rw [sides_uniq hp.cons_inv a2 b2]
def sE (seen : List (Int × Int)) : List (List L2.Key × V) := seen.map fun p => ([.inl p.1, .inl p.2], .bl true)
theorem key2 {a b c d : Int} : ([.inl a, .inl b] : List L2.Key) = [.inl c, .inl d] ↔ (a, b) = (c, d) := by
  constructor
  · intro h
    injection h with h1 h2
    injection h2 with h3 _
    rw [Sum.inl.inj h1, Sum.inl.inj h3]
  · intro h
    cases h
    rfl
theorem val_sE (seen : List (Int × Int)) (a b : Int) : (valV (sE seen) [.inl a, .inl b]).isSome = decide ((a, b) ∈ seen) := by
  unfold sE
  induction seen with
  | nil => rfl
  | cons p r ih =>
    obtain ⟨c, d⟩ := p
    rw [List.map_cons]
    by_cases e : (c, d) = (a, b)
    · rw [valV_pos (key2.mpr e), decide_eq_true (by rw [e]; exact List.mem_cons_self)]
      rfl
    · rw [valV_neg (fun z => e (key2.mp z)), ih]
      exact decide_eq_decide.mpr ⟨fun h => List.mem_cons_of_mem _ h, fun h => (List.mem_cons.mp h).elim (fun z => absurd z.symm e) id⟩
theorem put_sE {seen : List (Int × Int)} {a b : Int} (h : (a, b) ∉ seen) : putK (sE seen) [.inl a, .inl b] (.bl true) = sE (seen ++ [(a, b)]) := by
  have hv : valV (sE seen) [.inl a, .inl b] = none := by
    cases hq : valV (sE seen) [.inl a, .inl b] with
    | none => rfl
    | some v =>
      have := val_sE seen a b
      rw [hq, decide_eq_false h] at this
      cases this
  rw [putK_new _ hv]
  unfold sE
  rw [List.map_append]
  rfl
/-- all but these three stays -/
def Keep2 (S F : Addr) (A B : Hp) : Prop := ∀ b o, b ≠ S → b ≠ F → A b = some o → B b = some o
theorem Keep2.of {S F : Addr} {A B : Hp} (e : Evl.Ex A B) : Keep2 S F A B := fun b o _ _ h => e b o h
theorem Keep2.trans {S F : Addr} {A B C : Hp} (h : Keep2 S F A B) (k : Keep2 S F B C) : Keep2 S F A C := fun b o h1 h2 h3 => k b o h1 h2 (h b o h1 h2 h3)
def LFSt (S F : Addr) (q : RSt) (H' : Hp) : Prop := H' S = some (.dT (sE q.1)) ∧ ∃ fa : List Addr, H' F = some (.lst (fa.map V.ref)) ∧ RowsT H' fa (q.2.map faceOf) ∧ S ∉ fa ∧ F ∉ fa
/-- without two -/
def less2 (H : Hp) (S F : Addr) : Hp := fun b => if b = S ∨ b = F then none else H b
theorem less2_ex {H H' : Hp} {S F : Addr} (k : Keep2 S F H H') : Evl.Ex (less2 H S F) H' := fun b o h => by
  unfold less2 at h
  split at h
  · cases h
  · rename_i h0
    exact k b o (fun e => h0 (.inl e)) (fun e => h0 (.inr e)) h
theorem less2_at {H : Hp} {S F b : Addr} {o : HO} (h : H b = some o) (h1 : b ≠ S) (h2 : b ≠ F) : less2 H S F b = some o := by
  unfold less2
  rw [if_neg (fun z => z.elim h1 h2)]
  exact h
/-- the pair that a value is -/
def kOf (H : Hp) : V → Int × Int
  | .ref t => match H t with
    | some (.tup [.int a, .int b]) => (a, b)
    | _ => (0, 0)
  | _ => (0, 0)
theorem kOf_at {H : Hp} {t : Addr} {q : Sd} (h : H t = some (.tup [.int q.1, .int q.2])) : kOf H (.ref t) = q := by
  show (match H t with
    | some (.tup [.int a, .int b]) => (a, b)
    | _ => (0, 0)) = q
  rw [h]
/-- the sides, sorted -/
theorem sorted_sides {H : Hp} {ts : List (List Int)} (hT : OkT ts) {as : List Addr} {ys : List V} (hl : as.length = (sidesU 0 ts).length) (ha : ∀ (i : Nat) (t : Addr) (q : Sd), as[i]? = some t → (sidesU 0 ts)[i]? = some q → H t = some (.tup [.int q.1, .int q.2])) (h1 : SrtO.Srtd (ltP (kOf H)) ys) (h2 : SrtO.Stb (ltP (kOf H)) ys (as.map V.ref)) :
    ∃ us : List Addr, ys = us.map V.ref ∧ us.length = (sidesL ts).length ∧ ∀ (i : Nat) (t : Addr) (q : Sd), us[i]? = some t → (sidesL ts)[i]? = some q → H t = some (.tup [.int q.1, .int q.2]) := by
  have hk : (as.map V.ref).map (kOf H) = sidesU 0 ts := by
    refine List.ext_getElem? fun i => ?_
    rw [List.getElem?_map, List.getElem?_map]
    cases h : as[i]? with
    | none =>
      rw [List.getElem?_eq_none (by have := List.getElem?_eq_none_iff.mp h; omega)]
      rfl
    | some t =>
      have hi := (List.getElem?_eq_some_iff.mp h).1
      have hq : (sidesU 0 ts)[i]? = some ((sidesU 0 ts)[i]'(by omega)) := List.getElem?_eq_getElem _
      rw [hq]
      show some (kOf H (.ref t)) = _
      rw [kOf_at (ha i t _ h hq)]
  have hp : (ys.map (kOf H)).Perm (sidesL ts) := ((h2.perm.map (kOf H)).trans (List.Perm.of_eq hk)).trans (sidesU_perm ts 0)
  have he : ys.map (kOf H) = sidesL ts := sides_uniq hp (List.pairwise_map.mpr (h1.imp fun {a b} h z => by
    have := SrtO.lexB_no.mp h
    unfold Lx at z
    omega)) (sides_up hT.nds)
  have hm : ∀ v ∈ ys, ∃ t ∈ as, v = .ref t := fun v hv => by
    obtain ⟨t, ht, e⟩ := List.mem_map.mp (h2.perm.mem_iff.mp hv)
    exact ⟨t, ht, e.symm⟩
  have hus : ∃ us : List Addr, ys = us.map V.ref ∧ ∀ t ∈ us, t ∈ as := by
    clear hp he h1 h2
    induction ys with
    | nil => exact ⟨[], rfl, fun t h => nomatch h⟩
    | cons v r ih =>
      obtain ⟨us, e, hu⟩ := ih fun x hx => hm x (List.mem_cons_of_mem _ hx)
      obtain ⟨t, ht, rfl⟩ := hm v List.mem_cons_self
      exact ⟨t :: us, by rw [e]; rfl, fun x hx => (List.mem_cons.mp hx).elim (fun z => z ▸ ht) (hu x)⟩
  obtain ⟨us, rfl, hu⟩ := hus
  refine ⟨us, rfl, by rw [← he, List.length_map, List.length_map], fun i t q ht hq => ?_⟩
  rw [← he, List.getElem?_map, List.getElem?_map, ht] at hq
  have hq : some (kOf H (.ref t)) = some q := hq
  obtain ⟨j, hj⟩ := List.mem_iff_getElem?.mp (hu t (List.mem_of_getElem? ht))
  have hjl := (List.getElem?_eq_some_iff.mp hj).1
  have := ha j t _ hj (List.getElem?_eq_getElem (by omega))
  rw [kOf_at this] at hq
  cases hq
  exact this
theorem fmod_nat (a b : Nat) : Int.fmod (a : Int) (b : Int) = ((a % b : Nat) : Int) := by
  rw [Int.fmod_eq_emod_of_nonneg _ (by omega)]
  rfl
abbrev nLF : List Str := ["turns", "sides", "seen", "found", "at", "row", "other", "side", "one", "face"]
theorem scLFaces : FnScope nLF ["turns"] (defScope sLFaces) := ⟨rfl, rfl, rfl, by decide +kernel, rfl, by decide +kernel, by decide +kernel⟩
end P05
end S_Dw
section S_Xh
namespace EnL
open PySem PySem.Spec PyProof.Rows L2 Tl
/-! ### == and != by an own __eq__, whatever it says -/
section
variable {prog : Program} {w : World} {A : Around} {E : Value → Shared → Prop} {s : Shared} {K : PySem.W.Frag} {x C f L : Addr} {h₀ : Heap} {m : Str → Option Value} {ox : Obj} {od : Option Obj} {b tb : Value}
theorem check_slotK {M : Model} {id owner n : String} {rest : List Value} {Q : Unit → Shared → Prop} (hk : builtinKind id = some .slot) (hs : splitId id = some (owner, n)) (ha : argsOk id ⟨.ref x :: rest, []⟩)
    (X : K.In s.heap) (I : PySem.W.InstAt s.heap x ox C od) (hm : PySem.W.mroIn K C (.type owner) = some true) (hq : Q () s) : wpAny M A (checkBuiltinCall id ⟨.ref x :: rest, []⟩) Q E s := by
  simp only [checkBuiltinCall, hk, hs]
  refine wpAny_bind ?_
  unfold isInstance
  refine wpAny_bind (I.type.here ?_)
  refine (PySem.W.looks_mroIn X hm).here ?_
  cases hsig : Manifest.signature? id with
  | none => exact wpAny_pure hq
  | some sig =>
    simp only [argsOk, hsig] at ha
    have h2 : Bind.checkArgs id sig ⟨.ref x :: rest, []⟩ = pure () := ha
    show wpAny M A (Bind.checkArgs id sig ⟨.ref x :: rest, []⟩) Q E _
    rw [h2]; exact wpAny_pure hq
theorem ifBound_ne {M : Model} {Q : Option Value → Shared → Prop} (X : K.In s.heap) (I : PySem.W.InstAt s.heap x ox C od) (hs : PySem.W.findIn K (.ref C) "__ne__" = some (some (.builtin "object.__ne__")))
    (h : wpAny M A (call (.builtin "object.__ne__") [.ref x, b]) (fun v => Q (some v)) E s) : wpAny M A (callSpecialIfBound? (.ref x) "__ne__" [b]) Q E s := by
  simp only [callSpecialIfBound?, bindSpecialIfBound?]
  refine wpAny_holding (wpAny_bind (wpAny_bind (wpAny_bind (I.type.here ((PySem.W.looks_findIn X hs).here ?_)))))
  refine wpAny_bind (wpAny_askSetting (wpAny_ite ?_))
  have fin : wpAny M A (call (.builtin "object.__ne__") ([.ref x] ++ [b]) >>= fun v => pure (some v)) Q E s := wpAny_bind (wpAny_mono h (fun v s' h' => wpAny_pure h') fun _ _ h' => h')
  split
  · rw [F.cmp_object.ne.bind]
    exact wpAny_bind (wpAny_pure (wpAny_pure (by exact fin)))
  · refine wpAny_tryCatch ?_
    rw [F.cmp_object.ne.bind]
    exact wpAny_bind (wpAny_pure (wpAny_pure (by exact fin)))
theorem ne_entryK {Q : Fin → Shared → Prop} (X : K.In s.heap) (I : PySem.W.InstAt s.heap x ox C od) (hu : A.units < cLine) (hs : PySem.W.findIn K (.ref C) "__eq__" = some (some (.ref f))) (hf : PySem.W.isFn K (.ref f) = true)
    (hcall : wpAny (model prog w) A (call (.ref f) [.ref x, b]) (fun v s' => ∃ k, v = .bool k ∧ Q (.done (.ret (.bool (!k)))) s') E s) :
    wpAny (model prog w) A (Builtin.«object.__ne__» ⟨[.ref x, b], []⟩) Q E s := by
  unfold Builtin.«object.__ne__»
  have eq1 := fun (Q1 : Option Value → Shared → Prop) (h : wpAny (model prog w) A (call (.ref f) [.ref x, b]) (fun v => Q1 (some v)) E s) => PySem.W.ifBound_K (args := [b]) (E := E) X I hs hf h
  repeat (first
    | with_reducible refine wpAny_cRoomFor hu ?_
    | (refine wpAny_bind (m := callSpecialIfBound? (.ref x) (Str.ofString "__eq__") [b])
        (eq1 _ (wpAny_mono hcall (fun v s' hv => by
          obtain ⟨k, rfl, hq⟩ := hv
          repeat (first | exact hq | exact wpAny_pure hq | exact wpAny_truthy_bool hq | (refine wpAny_bind (m := truthy (.bool _)) (wpAny_truthy_bool ?_)) | wp_step)) fun _ _ e => e)))
    | wp_step)
theorem richK {op : CmpOp} {Q : Value → Shared → Prop} (hu : A.units < cLine) (X : K.In s.heap) (I : PySem.W.InstAt s.heap x ox C od) (hb : PySem.W.Looks (model prog w) s.heap (typeOf b) tb) (hn : PySem.W.notFirst K C tb = true)
    (h : wpAny (model prog w) A (tryCompare (.ref x) (cmpInfo op).2.1 b) (fun r s' => ∃ v, r = some v ∧ Q v s') E s) : wpAny (model prog w) A (richCompare op (.ref x) b) Q E s := by
  unfold richCompare
  simp only [oneThing_ref]
  refine wpAny_holding (wpAny_bind (wpAny_cRoomFor hu ?_))
  refine wpAny_bind (I.type.here (wpAny_bind (hb.here ?_)))
  split
  · rename_i q
    have e : PySem.W.subIn K tb (.ref C) = some false := by
      rcases Bool.or_eq_true_iff.mp hn with e | e
      · rw [beq_iff_eq.mp e] at q; simp at q
      · exact beq_iff_eq.mp e
    refine wpAny_bind ((PySem.W.looks_subIn X e).here ?_)
    simp only [Bool.false_eq_true, if_false]
    refine wpAny_bind (wpAny_mono h (fun r s' z => ?_) fun _ _ e => e)
    obtain ⟨v, rfl, hq⟩ := z
    exact wpAny_pure hq
  · refine wpAny_bind (wpAny_pure ?_)
    simp only [Bool.false_eq_true, if_false]
    refine wpAny_bind (wpAny_mono h (fun r s' z => ?_) fun _ _ e => e)
    obtain ⟨v, rfl, hq⟩ := z
    exact wpAny_pure hq
theorem cmp_ne {Q : Value → Shared → Prop} (hu : A.units + 1 < cLine) (X : K.In s.heap) (I : PySem.W.InstAt s.heap x ox C od) (hb : PySem.W.Looks (model prog w) s.heap (typeOf b) tb) (hn : PySem.W.notFirst K C tb = true)
    (hs : PySem.W.findIn K (.ref C) "__eq__" = some (some (.ref f))) (hf : PySem.W.isFn K (.ref f) = true) (hne : PySem.W.findIn K (.ref C) "__ne__" = some (some (.builtin "object.__ne__"))) (hm : PySem.W.mroIn K C (.type "object") = some true)
    (h : wpAny (model prog w) A.in1 (call (.ref f) [.ref x, b]) (fun v s' => ∃ k, v = .bool k ∧ Q (.bool (!k)) s') E s) : wpAny (model prog w) A (richCompare .NotEq (.ref x) b) Q E s := by
  refine richK (Nat.lt_of_succ_lt hu) X I hb hn ?_
  show wpAny (model prog w) A (tryCompare (.ref x) "__ne__" b) (fun r s' => ∃ v, r = some v ∧ Q v s') E s
  unfold tryCompare
  refine wpAny_bind (ifBound_ne (Q := fun r s' => wpAny (model prog w) A (match r with | some .notImplemented => pure none | none => pure none | some v => pure (some v)) (fun r s' => ∃ v, r = some v ∧ Q v s') E s') X I hne (wpAny_call (codeAny_call_builtin F.cmp_object.ne.plain F.cmpEntry_ne (check_slotK F.cmpKind_ne F.cmpSplit_ne (F.cmpArgs_ne _ _) X I hm (ne_entryK (A := A.in1) X I hu hs hf (wpAny_mono h (fun v s' hv => ?_) fun _ _ e => e))))))
  obtain ⟨k, rfl, hq⟩ := hv
  exact ⟨k, rfl, wpAny_pure ⟨_, rfl, hq⟩⟩
end
/-- y stands aside when an instance of the class at C is compared with it -/
def Aside (K : PySem.W.Frag) (C : Addr) (H : Hp) (y : V) : Prop := (∃ b dy gs, y = .ref b ∧ H b = some (.ins C dy gs)) ∨ (∃ b ys, y = .ref b ∧ SqT K H b ys ∧ PySem.W.subIn K (.type "tuple") (.ref C) = some false)
/-- x == y (neg: x != y), x an instance of the class at C with an own __eq__ -/
def rOwnEq (K : PySem.W.Frag) (C : Addr) (neg : Bool) (sp : Sp) (E : XK) : R2 := fun x y H Q => ∃ a dx fs, x = .ref a ∧ H a = some (.ins C dx fs) ∧ Aside K C H y ∧ sp [x, y] H (fun v H' => ∃ k, v = .bl k ∧ Q (.bl (k != neg)) H') E
section
variable {X : Cx} {CX : CXT} {C f : Addr} {fd : FuncData} {ps : List Str} {n : Nat} {sp : Sp} {E : XK}
theorem aside_looks {pins : List (Addr × Obj)} {σ : L2.St} {H : Hp} {s : Shared} {y : V} {u : Value} (I : Inv X pins σ H s) (ry : RelV y u) (h : Aside X.K C H y) : ∃ tb, PySem.W.Looks (model X.prog X.w) s.heap (typeOf u) tb ∧ PySem.W.notFirst X.K C tb = true := by
  rcases h with ⟨b, dy, gs, rfl, hb⟩ | ⟨b, ys, rfl, hb, hs⟩
  · cases (show u = Value.ref b from ry)
    obtain ⟨mB, J, _⟩ := ins_get I.hok hb
    obtain ⟨od, J, _⟩ := J.look
    exact ⟨_, J.type, by simp [PySem.W.notFirst]⟩
  · cases (show u = Value.ref b from ry)
    obtain ⟨its, _, ⟨o, e, ec, _⟩, _⟩ := I.tuple hb
    refine ⟨.type "tuple", ?_, by simp [PySem.W.notFirst, hs]⟩
    intro A Q E s' k q
    refine wpAny_typeOf_ref (k _ _ e) ?_
    rw [ec]
    exact q
theorem op_ownEq (hs : PySem.W.findIn X.K (.ref C) "__eq__" = some (some (.ref f))) (hf : PySem.W.isFn X.K (.ref f) = true) (F : FnOk X.prog X.w X.K X.mg X.base CX n f fd ps sp) (hb : Binds X.K fd ps [])
    (hr : Room n X.A) (hx : Passes CX X E) : OpR X (compareOp .Eq) (rOwnEq X.K C false sp E) := by
  intro pins s σ H x y v u Q I rx ry h
  obtain ⟨a, dx, fs, rfl, ha, hy, q⟩ := h
  cases (show v = Value.ref a from rx)
  obtain ⟨mA, J, _⟩ := ins_get I.hok ha
  obtain ⟨od, J, _⟩ := J.look
  obtain ⟨m, hF⟩ := I.fr
  obtain ⟨tb, L, hn⟩ := aside_looks I ry hy
  show wpAny (model X.prog X.w) X.A (richCompare .Eq (.ref a) u) (EP X pins σ Q) X.xe s
  refine PySem.W.cmp_K (op := .Eq) hr.units0 hF I.ok.mod.kin J L hn hs hf ?_
  refine wpAny_mono (run_fn (us := [.ref a, u]) (vs := [.ref a, y]) F hr hb .nil hx I (.cons rfl (.cons ry .nil)) q) (fun w s' z => ?_) fun _ _ x => x
  obtain ⟨z', H', I', rz, k, ez, qz⟩ := z
  subst ez
  cases (show w = Value.bool k from rz)
  refine ⟨.bl k, H', I', rfl, ?_⟩
  cases k <;> exact qz
theorem op_ownNe (hs : PySem.W.findIn X.K (.ref C) "__eq__" = some (some (.ref f))) (hf : PySem.W.isFn X.K (.ref f) = true) (hne : PySem.W.findIn X.K (.ref C) "__ne__" = some (some (.builtin "object.__ne__"))) (hm : PySem.W.mroIn X.K C (.type "object") = some true)
    (F : FnOk X.prog X.w X.K X.mg X.base CX n f fd ps sp) (hb : Binds X.K fd ps []) (hr : Room (n + 1) X.A) (hx : Passes CX X E) : OpR X (compareOp .NotEq) (rOwnEq X.K C true sp E) := by
  intro pins s σ H x y v u Q I rx ry h
  obtain ⟨a, dx, fs, rfl, ha, hy, q⟩ := h
  cases (show v = Value.ref a from rx)
  obtain ⟨mA, J, _⟩ := ins_get I.hok ha
  obtain ⟨od, J, _⟩ := J.look
  obtain ⟨tb, L, hn⟩ := aside_looks I ry hy
  show wpAny (model X.prog X.w) X.A (richCompare .NotEq (.ref a) u) (EP X pins σ Q) X.xe s
  refine cmp_ne (by have := hr.un; omega) I.kIn J L hn hs hf hne hm ?_
  have hl := F.len _ _ _ _ q
  have r2 : Vals [V.ref a, y] [Value.ref a, u] := .cons rfl (.cons ry .nil)
  refine wpAny_call (codeAny_mono (F.run X.A.in1 X.stack s H ⟨[.ref a, u], []⟩ [.ref a, u] [.ref a, y] _ E hr.in1 I.env0.in1 (by
    have := hb s [.ref a, u] I.kIn (by simpa using hl)
    simpa using this) r2 q) fun r s' hq => ?_)
  cases r with
  | error e => exact hx pins σ H s e s' I hq
  | ok fl =>
    cases fl with
    | ret w =>
      obtain ⟨z, H', I', rz, k, ez, qz⟩ := I.after hq
      subst ez
      cases (show w = Value.bool k from rz)
      refine ⟨k, rfl, .bl (!k), H', I', rfl, ?_⟩
      cases k <;> exact qz
    | next => exact False.elim hq
    | brk => exact False.elim hq
    | cont => exact False.elim hq
end
end EnL
end S_Xh
section S_Xi
namespace EnL
open PySem PySem.Spec PyProof.Rows L2 Tl Hk
/-! ### values told by what is new -/
/-- of H what G has not -/
def nw (G H : Hp) : Hp := fun a => if (G a).isNone = true then H a else none
theorem nw_of {G H : Hp} {a : Addr} {o : HO} (h : G a = none) (h2 : H a = some o) : nw G H a = some o := by
  unfold nw
  rw [h]
  exact h2
theorem nw_at {G H : Hp} {a : Addr} {o : HO} (h : nw G H a = some o) : G a = none ∧ H a = some o := by
  unfold nw at h
  cases z : G a with
  | none => rw [z] at h; exact ⟨rfl, h⟩
  | some u => rw [z] at h; cases h
theorem nw_ex {G H : Hp} : Evl.Ex (nw G H) H := fun a o h => (nw_at h).2
theorem nw_by {G H H' : Hp} (h : ∀ a o, G a = none → H a = some o → H' a = some o) : Evl.Ex (nw G H) H' := fun a o e => h a o (nw_at e).1 (nw_at e).2
theorem nw_up {G H H' : Hp} (e : Evl.Ex H H') : Evl.Ex (nw G H) (nw G H') := fun a o h => nw_of (nw_at h).1 (e _ _ (nw_at h).2)
theorem nw_back {G G' H : Hp} (e : Evl.Ex G G') : Evl.Ex (nw G' H) (nw G H) := fun a o h => nw_of (Evl.fresh_back e (nw_at h).1) (nw_at h).2
def Mono (R : V → Hp → Prop) : Prop := ∀ v H H', Evl.Ex H H' → R v H → R v H'
section
open Evl
variable {K : PySem.W.Frag} {σ : L2.St} {G : Hp} {te : TE} {ta : TA} {R R' : V → Hp → Prop} {n : Nat}
def EvF (te : TE) (σ : L2.St) (G : Hp) (R : V → Hp → Prop) : Prop := ∀ H1, Ex G H1 → ∀ Q : VK, (∀ v H2, Ex H1 H2 → R v (nw H1 H2) → Q v H2) → te σ H1 Q
def EvAF (ta : TA) (σ : L2.St) (G : Hp) (n : Nat) (R : V → Hp → Prop) : Prop := ∀ H1, Ex G H1 → ∀ Q : List V → Hp → Prop, (∀ vs H2, Ex H1 H2 → vs.length = n → (∀ v ∈ vs, R v (nw H1 H2)) → Q vs H2) → ta σ H1 Q
theorem ef_nil : EvAF tNil σ G 0 R := fun H1 e Q q => q [] H1 (Ex.refl H1) rfl fun v h => nomatch h
theorem ef_cons {tr : TA} (m : Mono R) (h : EvF te σ G R) (hr : EvAF tr σ G n R) : EvAF (tCons te tr) σ G (n + 1) R := fun H1 e Q q => h H1 e _ fun v H2 e2 hv => hr H2 (e.trans e2) _ fun vs H3 e3 l3 h3 =>
  q (v :: vs) H3 (e2.trans e3) (by rw [List.length_cons, l3]) fun u hu => by
    rcases List.mem_cons.mp hu with z | z
    · subst z
      exact m _ _ _ (nw_up e3) hv
    · exact m _ _ _ (nw_back e2) (h3 u z)
theorem ef_c {v : V} (h : Ev te σ G v) (r : ∀ H, R v H) : EvF te σ G R := fun H1 e Q q => h H1 e Q fun H2 e2 => q v H2 e2 (r _)
theorem ef_l {xs : List V} (h : EvL te σ G xs) (r : ∀ p H, H p = some (.lst xs) → R (.ref p) H) : EvF te σ G R := fun H1 e Q q => h H1 e Q fun p H2 hp e2 h2 => q _ H2 e2 (r p _ (nw_of hp h2))
theorem ef_u {xs : List V} (h : EvU te σ G xs) (r : ∀ p H, H p = some (.tup xs) → R (.ref p) H) : EvF te σ G R := fun H1 e Q q => h H1 e Q fun p H2 hp e2 h2 => q _ H2 e2 (r p _ (nw_of hp h2))
theorem ef_d (r : ∀ p H, H p = some (.dK []) → R (.ref p) H) : EvF tDNewK σ G R := fun H1 e Q q p hp => q _ _ (Ex.new hp) (r p _ (nw_of hp upd_same))
theorem ef_lst (m : Mono R) (h : EvAF ta σ G n R) (hn : n ≤ 100000) (r : ∀ p xs H, H p = some (.lst xs) → xs.length = n → (∀ v ∈ xs, R v H) → R' (.ref p) H) : EvF (tLst ta) σ G R' := fun H1 e Q q => h H1 e _ fun vs H2 e2 l2 h2 =>
  ⟨by rw [sizeLine_eq]; omega, fun p hp => q _ _ (e2.trans (Ex.new hp)) (r p vs _ (nw_of (fresh_back e2 hp) upd_same) l2 fun v hv => m _ _ _ (nw_up (Ex.new hp)) (h2 v hv))⟩
theorem mem_rep {α : Type} {xs : List α} {k : Nat} {v : α} (h : v ∈ (List.replicate k xs).flatten) : v ∈ xs := by
  obtain ⟨ys, h1, h2⟩ := List.mem_flatten.mp h
  rw [(List.mem_replicate.mp h1).2] at h2
  exact h2
theorem ef_rep {ti : TE} {k : Int} {m : Nat} (mo : Mono R) (h : EvF te σ G (fun u H' => ∃ p xs, u = .ref p ∧ H' p = some (.lst xs) ∧ xs.length ≤ m ∧ ∀ v ∈ xs, R v H')) (hi : ∀ H', Ex G H' → Ev ti σ H' (.int k)) (k0 : 0 ≤ k) (k1 : k ≤ 10000) (hm : m ≤ 5)
    (r : ∀ p ys H, H p = some (.lst ys) → ys.length ≤ m * k.toNat → (∀ v ∈ ys, R v H) → R' (.ref p) H) : EvF (tOp rRep te ti) σ G R' := fun H1 e Q q => h H1 e _ fun v H2 e2 hv => by
  obtain ⟨p, xs, rfl, hp, hl, hx⟩ := hv
  refine hi H2 (e.trans e2) H2 (Ex.refl _) _ fun H3 e3 => ⟨p, k, xs, rfl, rfl, e3 _ _ (nw_at hp).2, by omega, by omega, ?_, fun b hb => q _ _ ((e2.trans e3).trans (Ex.new hb)) (r b _ _ (nw_of (fresh_back (e2.trans e3) hb) upd_same) ?_ fun v hv => mo _ _ _ (nw_up (e3.trans (Ex.new hb))) (hx v (mem_rep hv)))⟩
  · rw [sizeLine_eq]
    have : k.toNat ≤ 10000 := by omega
    have := Nat.mul_le_mul (show xs.length ≤ 5 by omega) this
    omega
  · have len : ∀ j : Nat, ((List.replicate j xs).flatten).length = j * xs.length := fun j => by
      induction j with
      | zero => rw [Nat.zero_mul]; rfl
      | succ j ih => rw [List.replicate_succ, List.flatten_cons, List.length_append, ih, Nat.succ_mul, Nat.add_comm]
    rw [len]
    rw [Nat.mul_comm]
    exact Nat.mul_le_mul hl (Nat.le_refl _)
/-- a comprehension whose items are new objects, all unlike -/
theorem go_lcD {wi : TI} {g : TG} {te : TE} {vs : List Nat} {n : Nat} {Y : Nat → Hp → V → Hp → Prop} {s : Nat → L2.St → L2.St} {σ : L2.St} {H : Hp} {o : Nat → HO} (hw : EvI wi σ H n Y) (aim : Aims g n Y s) (hs : ∀ i, wipe (s i (wipe σ vs)) vs = wipe σ vs) (hn : n ≤ 90000)
    (he : ∀ i, i < n → ∀ H1, Ex H H1 → ∀ Q : VK, (∀ p H2, H1 p = none → Ex H1 H2 → H2 p = some (o i) → Q (.ref p) H2) → te (s i (wipe σ vs)) H1 Q) (H1 : Hp) (e : Ex H H1) (Q : VK)
    (q : ∀ (D : Addr) (as : List Addr) (H2 : Hp), H1 D = none → Ex H1 H2 → H2 D = some (.lst (as.map V.ref)) → as.length = n → as.Nodup → (∀ (i : Nat) (a : Addr), as[i]? = some a → H1 a = none ∧ a ≠ D ∧ H2 a = some (o i)) → Q (.ref D) H2) :
    tLc wi g tYes te vs σ H1 Q :=
  hw H1 e _ fun J G H2 e2 w sG D hD => lc_it w (fun i H' => Ex H2 H' ∧ ∃ as : List Addr, H' D = some (.lst (as.map V.ref)) ∧ as.length = i ∧ as.Nodup ∧ (∀ (k : Nat) (a : Addr), as[k]? = some a → H1 a = none ∧ H' a = some (o k) ∧ a ≠ D))
    ⟨Ex.new hD, [], upd_same, rfl, List.nodup_nil, fun i v h => by simp at h⟩ (fun i H' _ p => sG H' ((e.trans e2).trans p.1) fun a o _ ha => p.1 _ _ ha)
    (fun i x A B hi p y => by
      obtain ⟨p1, as, p3, p4, pn, p5⟩ := p
      obtain ⟨ab, k⟩ := aim i (wipe σ vs) A x B hi y
      refine k _ ⟨hs i, ?_⟩
      show te (s i (wipe σ vs)) B _
      refine he i hi B (((e.trans e2).trans p1).trans ab) _ fun p C hp eC hC => ⟨as.map V.ref, eC _ _ (ab _ _ p3), sz_lt (by rw [List.length_map]; omega), ((p1.trans ab).trans eC).mut hD, as ++ [p], ?_, by rw [List.length_append, p4] <;> rfl, ?_, fun j a ha => ?_⟩
      · rw [upd_same, List.map_append]
        rfl
      · rw [List.nodup_append]
        refine ⟨pn, by simp, fun x hx y hy e => ?_⟩
        rw [List.mem_singleton.mp hy] at e
        subst e
        obtain ⟨j, hj⟩ := List.mem_iff_getElem?.mp hx
        rw [ab _ _ (p5 j x hj).2.1] at hp
        cases hp
      · rcases addr_snoc ha with ⟨_, ha⟩ | ⟨rfl, rfl⟩
        · obtain ⟨q1, q2, q3⟩ := p5 j a ha
          exact ⟨q1, by rw [upd_ne q3]; exact eC _ _ (ab _ _ q2), q3⟩
        · have pD : p ≠ D := fun z => by rw [z, ab _ _ p3] at hp; cases hp
          exact ⟨fresh_back ((e2.trans p1).trans ab) hp, by rw [upd_ne pD, p4]; exact hC, pD⟩)
    (fun H' p => by
      obtain ⟨p1, as, p3, p4, pn, p5⟩ := p
      exact q D as H' (fresh_back e2 hD) (e2.trans p1) p3 p4 pn fun i a ha => ⟨(p5 i a ha).1, (p5 i a ha).2.2, (p5 i a ha).2.1⟩)
end
end EnL
end S_Xi
section S_Dx
namespace P05
open PySem PySem.Spec PyProof.Rows L2 Tl Hk LamX EnL
/-- the faces that are told -/
def facesV (ts : List (List Int)) (cs : List (List Sd)) : List (List Int) := if ts.length = 1 then [[]] else cs.map faceOf
def spLFaces : Sp := fun vs H Q _ => ∃ (l : Addr) (ts : List (List Int)) (seen : List Sd) (cs : List (List Sd)), vs = [.ref l] ∧ LL H l ts ∧ OkT ts ∧ (sidesL ts).length ≤ 400 ∧ runS ts 500 = some (seen, cs) ∧ ∀ F fa H', Evl.Ex H H' → H F = none → H' F = some (.lst (fa.map V.ref)) → RowsT H' fa (facesV ts cs) → Q (.ref F) H'
section
variable {P : Program} {w : World} {K : PySem.W.Frag} {mg : Str → Option Value} {base : Heap}
set_option maxHeartbeats 4000000 in
theorem ok_lfaces {f : Addr} {fd : FuncData} {k : Nat} (F : Fun K "_law_faces" "_law_faces" sLFaces f fd)
    (mlen : mg "len" = none) (mint : mg "int" = none) (mtup : mg "tuple" = none) (menum : mg "enumerate" = none) (msort : mg "sorted" = none) : FnOk P w K mg base CX0 (k + 1) f fd ["turns"] spLFaces := by
  refine F.ok scLFaces (fun vs H Q E h => ?_) (fun cdv A outer s H vs Q E hr h => ?_)
  · obtain ⟨l, ts, seen, cs, rfl, _⟩ := h
    rfl
  · obtain ⟨l, ts, seenF, csF, rfl, hL, hT, hz, hf, q⟩ := h
    have nd := scLFaces.nd
    refine ⟨_, pss_cons (ps_if (pt_cmpR op_eq (pe_callB call_len_seq (by rfl) mlen PySem.boot_len (pa_cons (pv 0) pa_nil)) pe_int (nomark _)) (pss_one (ps_ret (pe_lst (pa_cons (pe_tup pa_nil) pa_nil)))) pss_nil)
      (pss_cons (ps_par3 (i := 1) (j := 2) (l := 3) (by rfl) nd rfl rfl rfl (by decide) (by decide) (by decide) rfl rfl rfl (pa_cons (pe_lst pa_nil) (pa_cons pe_dnewT (pa_cons (pe_lst pa_nil) pa_nil))) (by rfl))
      (pss_cons (ps_for PassesOwn.never rfl (pi_enum (by rfl) menum (pa_cons (pv 0) pa_nil)) (pg_tup (by rfl) (pgs_cons (pg_name (i := 4) nd rfl (Or.inr rfl)) (pgs_cons (pg_name (i := 5) nd rfl (Or.inl rfl)) pgs_nil)))
        (pss_one (ps_set (i := 1) nd rfl (.inl rfl) (pe_op op_cat (pv 1)
          (pe_lc (own := [("other", 6)]) (g := gName 6) (tt := tYes) (te := tTup (tCons (tOp (rI0 fun i j => .int (i + j)) (tVar 4) (tC (.int 1))) (tCons (tVar 6) tNil))) rfl nd (pi_list (pv 5)) (blkOk_by (N := nLF) (sc := defScope sLFaces) (by decide +kernel)) (fun _ _ _ _ _ => pg_name (i := 6) nd rfl (Or.inl rfl)) (fun _ _ _ _ _ => pts_nil)
            (fun _ _ _ _ _ => pe_tup (pa_cons (pe_op op_add (pv 4) pe_int) (pa_cons (pv 6) pa_nil))))))))
      (pss_cons (ps_for PassesOwn.never rfl (pi_list (pe_callB cr_sortedPO (by rfl) msort (by decide +kernel) (pa_cons (pv 1) pa_nil))) (pg_name (i := 7) nd rfl (Or.inl rfl))
        (pss_cons (ps_asg (pe_tup (pa_cons (pv 7) (pa_cons (pe_lst pa_nil) pa_nil))) (pg_tup (by rfl) (pgs_cons (pg_tup (by rfl) (pgs_cons (pg_name (i := 8) nd rfl (Or.inl rfl)) (pgs_cons (pg_name (i := 6) nd rfl (Or.inl rfl)) pgs_nil))) (pgs_cons (pg_name (i := 9) nd rfl (Or.inl rfl)) pgs_nil))))
        (pss_cons (ps_while PassesOwn.never (pt_cmp (pc_dnotin (hu_of hr) (pe_tup (pa_cons (pv 8) (pa_cons (pv 6) pa_nil))) (pv 2)))
          (pss_cons (ps_dput (hu_of hr) (pv 2) (pe_tup (pa_cons (pv 8) (pa_cons (pv 6) pa_nil))) pe_bl rfl)
          (pss_cons (ps_expr (pe_bm PySem.F.plainAttrs_list PySem.F.slot_list_append PySem.F.type_list_append mt_append (pv 9) (pa_cons (pv 8) pa_nil)))
          (pss_cons (ps_set (i := 5) nd rfl (.inl rfl) (pe_ix ix_list (pv 0) (pe_op op_sub (pv 6) pe_int) (fun _ _ => rfl)))
          (pss_one (ps_par (i := 8) (j := 6) (by rfl) nd rfl rfl (by decide) rfl rfl (pa_cons (pv 6) (pa_cons (pe_ix ix_list (pv 5) (pe_op op_modN (pe_callTy call_int1 (by rfl) mint (by decide +kernel) (pa_cons (pe_op op_add (pe_bm PySem.F.plainAttrs_list PySem.F.slot_list_index PySem.F.type_list_index mt_index (pv 5) (pa_cons (pv 8) pa_nil)) pe_int) pa_nil))
              (pe_callB call_len_seq (by rfl) mlen PySem.boot_len (pa_cons (pv 5) pa_nil))) (fun _ _ => rfl)) pa_nil)) (by rfl)))))))
        (pss_one (ps_if (pt_cmpR (op_neD hr.units) (pv 9) (pe_lst pa_nil) (nomark _)) (pss_one (ps_expr (pe_bm PySem.F.plainAttrs_list PySem.F.slot_list_append PySem.F.type_list_append mt_append (pv 3) (pa_cons (pe_callTy call_tuple_of (by rfl) mtup (by decide +kernel) (pa_cons (pv 9) pa_nil)) pa_nil)))) pss_nil)))))
      (pss_one (ps_ret (pv 3)))))), ?_⟩
    obtain ⟨as, hl, hal, hrow⟩ := hL
    have hmap : (as.map V.ref).length = ts.length := by rw [List.length_map, hal]
    have hmost := hT.most
    obtain ⟨seen', cs', hrun', hR⟩ := run_all hT (fu := 500) (by omega)
    rw [hf] at hrun'
    cases hrun'
    have hseen : seenF.length ≤ 400 := Nat.le_trans (nodup_le (m := sidesL ts) hR.nd fun s hs => (side_mem hT).mp (hR.side s hs)) hz
    have hcs : csF.length ≤ 400 := by
      have h1 : csF.length ≤ (csF.map List.length).sum := by
        have hg := fun c hc => (hR.good c hc).1.ne
        clear hR hf hseen q
        induction csF with
        | nil => exact Nat.zero_le _
        | cons c r ih =>
          have h2 := ih fun d hd => hg d (List.mem_cons_of_mem _ hd)
          have h3 : 1 ≤ c.length := by
            cases c with
            | nil => exact absurd rfl (hg [] List.mem_cons_self)
            | cons a b => exact Nat.succ_le_succ (Nat.zero_le _)
          rw [List.map_cons, List.sum_cons, List.length_cons]
          omega
      rw [rnd_len hT hR] at h1
      omega
    have hz2 : (sidesF 0 ts).length ≤ 400 := hz
    refine Evl.q_when (b := decide (ts.length = 1)) (Evl.et_is (Evl.et_test (Evl.ev_op (Evl.ev_is (Evl.ev_len (Evl.ev_var rfl) (Evl.sq_of hl)) (by rw [hmap])) Evl.ev_c (Evl.rv_eq rfl))) (decide_eq_decide.mpr ⟨fun z => by have := V.int.inj z; omega, fun z => by rw [z] <;> rfl⟩)) (fun hb H2 e2 => ?_) (fun hb H2 e2 => ?_)
    · refine ret_go (lst_go (cons_any (tup_go ⟨Nat.zero_le _, fun p hp => ⟨by show 1 ≤ sizeLine; decide, fun F0 hF => ?_⟩⟩)))
      have pF : F0 ≠ p := fun z => by rw [z, upd_same] at hF; cases hF
      have hF2 : H2 F0 = none := by rw [upd_ne pF] at hF; exact hF
      refine q F0 [p] _ ((e2.trans (Evl.Ex.new hp)).trans (Evl.Ex.new hF)) (Evl.fresh_back e2 hF2) upd_same ?_
      unfold facesV
      rw [if_pos (of_decide_eq_true hb)]
      refine ⟨rfl, fun i a ns ha hn => ?_⟩
      cases i with
      | zero =>
        cases ha
        cases hn
        rw [upd_ne pF.symm, upd_same]
        rfl
      | succ i => simp at ha
    have hl1 : ¬ ts.length = 1 := of_decide_eq_false hb
    clear hb
    refine ⟨Nat.zero_le _, fun L0 hL0 => ?_⟩
    intro S hS
    refine ⟨Nat.zero_le _, fun F0 hF => ⟨_, _, _, rfl, ?_⟩⟩
    have sL : S ≠ L0 := fun z => by rw [z, upd_same] at hS; cases hS
    have fS : F0 ≠ S := fun z => by rw [z, upd_same] at hF; cases hF
    have fL : F0 ≠ L0 := fun z => by rw [z, upd_ne sL.symm, upd_same] at hF; cases hF
    have nS : H2 S = none := by rw [upd_ne sL] at hS; exact hS
    have nF : H2 F0 = none := by rw [upd_ne fS, upd_ne fL] at hF; exact hF
    have e3 : Evl.Ex H (upd (upd (upd H2 L0 (.lst [])) S (.dT [])) F0 (.lst [])) := ((e2.trans (Evl.Ex.new hL0)).trans (Evl.Ex.new hS)).trans (Evl.Ex.new hF)
    have h3L : (upd (upd (upd H2 L0 (.lst [])) S (.dT [])) F0 (.lst [])) L0 = some (.lst []) := by rw [upd_ne fL.symm, upd_ne sL.symm, upd_same]
    have h3S : (upd (upd (upd H2 L0 (.lst [])) S (.dT [])) F0 (.lst [])) S = some (.dT (sE [])) := by rw [upd_ne fS.symm, upd_same] <;> rfl
    have h3F : (upd (upd (upd H2 L0 (.lst [])) S (.dT [])) F0 (.lst [])) F0 = some (.lst []) := upd_same
    generalize upd (upd (upd H2 L0 (.lst [])) S (.dT [])) F0 (.lst []) = H3 at e3 h3L h3S h3F
    have nS0 : H S = none := Evl.fresh_back e2 nS
    have nF0 : H F0 = none := Evl.fresh_back e2 nF
    clear nS nF hF hS hL0 sL fL e2
    -- the sides put together
    refine q_forI (B := H) (Tl.ei_enum (Evl.ea_cons (Evl.ev_var (i := 0) rfl) Evl.ea_nil) (Evl.sq_of hl)) aims_enum e3
      (fun H4 i σ' H' => ∃ y4 y5 y6 y7 y8 y9 p, σ' = [some (.ref l), some (.ref p), some (.ref S), some (.ref F0), y4, y5, y6, y7, y8, y9] ∧ Evl.Ex H4 H' ∧ PairsAt H' p (sidesU 0 (ts.take i)))
      (fun H4 e4 => ⟨none, none, none, none, none, none, L0, rfl, Evl.Ex.refl _, [], e4 _ _ h3L, rfl, fun i t q h => by simp at h⟩) (fun H4 i σ' H' e4 _ ⟨_, _, _, _, _, _, _, _, e5, _⟩ => ⟨(e3.trans e4).trans e5, fun b u _ hu => e5 _ _ hu⟩) ?_ ?_
    · rintro H4 i σ' H5 H6 e4 hi ⟨y4, y5, y6, y7, y8, y9, p, rfl, e5, ps, hp, hpl, hpr⟩ e6
      rw [hmap] at hi
      obtain ⟨a, ns, ha, hn⟩ := both_at hal (show i < as.length by omega)
      rw [refs_getD ha]
      have hrowH := e6 _ _ (e5 _ _ (e4 _ _ (e3 _ _ (hrow i a ns ha hn))))
      have hns := hT.short hn
      refine asg_last (op_go ⟨.ref p, rfl, ?_⟩)
      have ex36 := (e3.trans e4).trans (e5.trans e6)
      refine go_lcD (H := H6) (o := fun j => .tup [.int ((i : Int) + 1), .int (ns.getD j 0)]) (ei_list (K := K) (Evl.ev_var (i := 5) rfl) (Evl.sq_of hrowH)) (aims_at (j := 6)) (fun _ => rfl) (by rw [List.length_map]; omega) (fun j hj H7 e7 Q7 q7 => ?_) H6 (Evl.Ex.refl _) _ fun D bs H8 hD e8 h8 l8 _ r8 => ?_
      · rw [List.length_map] at hj
        exact (Evl.eu_tup (vs := [.int ((i : Int) + 1), .int (ns.getD j 0)]) (Evl.ea_cons (Evl.ev_op (Evl.ev_var rfl) Evl.ev_c Evl.rv_I0) (Evl.ea_cons (Evl.ev_is (Evl.ev_var rfl) (ints_getD hj)) Evl.ea_nil)) (by show 2 ≤ 100000; decide)) H7 (Evl.Ex.refl _) _ fun p H8 hp e8 h8 => q7 p H8 hp e8 h8
      · rw [List.length_map] at l8
        have hp8 := e8 _ _ (e6 _ _ hp)
        have hps : ps.length ≤ 400 := by
          rw [hpl]
          have h1 : (sidesU 0 (ts.take i)).length ≤ (sidesU 0 ts).length := by
            have hsp : ∀ (a b : List (List Int)) (m : Nat), (sidesU m a).length ≤ (sidesU m (a ++ b)).length := fun a b => by
              induction a with
              | nil => intro m; exact Nat.zero_le _
              | cons x a ih => intro m; show (x.map _ ++ sidesU (m + 1) a).length ≤ (x.map _ ++ sidesU (m + 1) (a ++ b)).length; rw [List.length_append, List.length_append]; have := ih (m + 1); omega
            have := hsp (ts.take i) (ts.drop i) 0
            rwa [List.take_append_drop] at this
          rw [(sidesU_perm ts 0).length_eq] at h1
          omega
        refine ⟨p, D, ps.map V.ref, bs.map V.ref, rfl, rfl, hp8, h8, by rw [List.length_map, List.length_map, sizeLine_eq]; omega, fun z hz => ?_⟩
        have eZ := Evl.Ex.new (o := .lst (ps.map V.ref ++ bs.map V.ref)) hz
        refine ⟨_, _, _, _, _, _, z, rfl, ((e5.trans e6).trans e8).trans eZ, ps ++ bs, by rw [List.map_append]; exact upd_same, ?_, fun j t x ht hx => ?_⟩
        all_goals rw [List.take_succ_eq_append_getElem hi, sidesU_app, (List.getElem?_eq_some_iff.mp hn).2] at *
        · rw [List.length_append, List.length_append, hpl, l8, List.length_map]
        · rw [List.length_take, Nat.min_eq_left (by omega), Nat.zero_add] at hx
          rcases Nat.lt_or_ge j ps.length with hj | hj
          · rw [List.getElem?_append_left hj] at ht
            rw [List.getElem?_append_left (by rw [← hpl]; exact hj)] at hx
            exact eZ _ _ (e8 _ _ (e6 _ _ (hpr j t x ht hx)))
          · rw [List.getElem?_append_right hj] at ht
            rw [List.getElem?_append_right (by rw [← hpl]; exact hj), ← hpl, List.getElem?_map] at hx
            obtain ⟨o, ho, rfl⟩ := Option.map_eq_some_iff.mp hx
            have := eZ _ _ (r8 _ t ht).2.2
            rw [List.getD_eq_getElem?_getD, ho] at this
            exact this
    rintro H4 σ' H5 e4 ⟨y4, y5, y6, y7, y8, y9, p, rfl, e5, ps, hp, hpl, hpr⟩
    rw [hmap, List.take_of_length_le (Nat.le_refl _)] at hpl hpr
    have e35 := e4.trans e5
    have h5S := e35 _ _ h3S
    have h5F := e35 _ _ h3F
    have e05 := e3.trans e35
    clear h3S h3F h3L e35 e4 e5
    -- sorted
    refine for_list ⟨.ref p, rfl, p, ps.map V.ref, kOf H5, rfl, Evl.sq_of hp, fun x hx => ?_, fun ys z hs1 hs2 hz' => ?_⟩
    · obtain ⟨t, ht, rfl⟩ := List.mem_map.mp hx
      obtain ⟨j, hj⟩ := List.mem_iff_getElem?.mp ht
      have hjl := (List.getElem?_eq_some_iff.mp hj).1
      have := hpr j t _ hj (List.getElem?_eq_getElem (by omega))
      exact ⟨t, rfl, by rw [kOf_at this]; exact this⟩
    obtain ⟨us, rfl, hul, hur⟩ := sorted_sides hT hpl hpr hs1 hs2
    clear hs1 hs2 hpr hpl hp
    have zS : z ≠ S := fun e => by rw [e, h5S] at hz'; cases hz'
    have zF : z ≠ F0 := fun e => by rw [e, h5F] at hz'; cases hz'
    have e56 := Evl.Ex.new (o := .lst (us.map V.ref)) hz'
    have h6z : upd H5 z (.lst (us.map V.ref)) z = some (.lst (us.map V.ref)) := upd_same
    have h6u : ∀ (i : Nat) (t : Addr) (q : Sd), us[i]? = some t → (sidesL ts)[i]? = some q → upd H5 z (.lst (us.map V.ref)) t = some (.tup [.int q.1, .int q.2]) := fun i t q a b => e56 _ _ (hur i t q a b)
    have h6S := e56 _ _ h5S
    have h6F := e56 _ _ h5F
    have e06 := e05.trans e56
    clear hz' hur h5S h5F e05
    generalize upd H5 z (.lst (us.map V.ref)) = H6 at e56 h6z h6u h6S h6F e06
    clear e56
    have hrun : (sidesL ts).foldl (stepW ts 500) (some ([], [])) = some (seenF, csF) := by rw [foldW (by decide)]; exact hf
    have nodup6 : F0 ≠ S := fun z => by rw [z, h6S] at h6F; cases h6F
    have exK : ∀ {A : Hp}, Keep2 S F0 H6 A → Evl.Ex H A := fun hk b o h => hk b o (fun z => by rw [z, nS0] at h; cases h) (fun z => by rw [z, nF0] at h; cases h) (e06 _ _ h)
    have lift : ∀ {q : RSt} {A B : Hp}, LFSt S F0 q A → Evl.Ex A B → LFSt S F0 q B := fun {q A B} p e => by
      obtain ⟨p1, ga, p3, p4, p5⟩ := p
      exact ⟨e _ _ p1, ga, e _ _ p3, p4.ex e, p5⟩
    refine q_forI (B := less2 H6 S F0) (ei_list (K := K) Evl.ev_c (Evl.sq_of (less2_at h6z zS zF))) (aims_at (j := 7)) (less2_ex fun _ _ _ _ h => h)
      (fun H7 j σ' H' => ∃ (y5 y6 y7 y8 y9 : Option V) (q : RSt), σ' = [some (.ref l), some (.ref p), some (.ref S), some (.ref F0), y4, y5, y6, y7, y8, y9] ∧ ((sidesL ts).drop j).foldl (stepW ts 500) (some q) = some (seenF, csF) ∧ LFSt S F0 q H' ∧ Keep2 S F0 H7 H') (fun H7 e7 => ?_) (fun H7 j σ' H' e7 hj pp => ?_) (fun H7 j σ' Hx Hy e7 hj pp e8 => ?_) (fun H7 σ' H' e7 pp => ?_)
    · exact ⟨_, _, _, _, _, ([], []), rfl, hrun, ⟨e7 _ _ h6S, [], e7 _ _ h6F, ⟨rfl, fun i a ns h => by simp at h⟩, List.not_mem_nil, List.not_mem_nil⟩, fun _ _ _ _ h => h⟩
    · obtain ⟨y5, y6, y7, y8, y9, q0, rfl, p1, p2, p3⟩ := pp
      exact ⟨less2_ex ((Keep2.of e7).trans p3), fun b o hn h => p3 b o (fun z => by rw [z, h6S] at hn; cases hn) (fun z => by rw [z, h6F] at hn; cases hn) h⟩
    · obtain ⟨y5, y6, y7, y8, y9, q1, rfl, r1, r2, r3⟩ := pp
      rw [List.length_map] at hj
      have hj2 : j < (sidesL ts).length := by omega
      obtain ⟨t, s0, ht, hs0⟩ := both_at hul hj
      rw [refs_getD ht]
      have r2y := lift r2 e8
      have k67 : Keep2 S F0 H6 Hy := ((Keep2.of e7).trans r3).trans (Keep2.of e8)
      have tS : t ≠ S := fun e => by have := h6u j t s0 ht hs0; rw [e, h6S] at this; cases this
      have tF : t ≠ F0 := fun e => by have := h6u j t s0 ht hs0; rw [e, h6F] at this; cases this
      have htH := k67 t _ tS tF (h6u j t s0 ht hs0)
      have hdr2 : (sidesL ts).drop j = s0 :: (sidesL ts).drop (j + 1) := by rw [List.drop_eq_getElem_cons hj2, (List.getElem?_eq_some_iff.mp hs0).2]
      rw [hdr2, List.foldl_cons] at r1
      have exHy : Evl.Ex H Hy := exK k67
      have hst : ∃ q2, stepW ts 500 (some q1) s0 = some q2 := by
        cases h : stepW ts 500 (some q1) s0 with
        | none => rw [h, stepW_none] at r1; cases r1
        | some q2 => exact ⟨q2, rfl⟩
      obtain ⟨q2, hst⟩ := hst
      rw [hst] at r1
      have le2 := stepW_le r1
      unfold stepW at hst
      dsimp only at hst
      cases hwk : walkS ts 500 q1.1 s0 with
      | none => rw [hwk] at hst; cases hst
      | some r =>
        rw [hwk] at hst
        obtain ⟨lF, sF⟩ := r
        dsimp only at hst
        cases hst
        have wl := walkS_seen hwk
        obtain ⟨s1, ga, s3, s4, s5, s6⟩ := r2y
        refine q_asg1 (tup_go ⟨.ref t, rfl, Nat.zero_le _, fun Fc hFc => ⟨by show 2 ≤ sizeLine; decide, fun tp htp => ⟨tp, _, rfl, Evl.st_of upd_same, rfl, .ref t, _, rfl, t, [.int s0.1, .int s0.2], rfl, Evl.st_of ?_, rfl, .int s0.1, _, rfl, .int s0.2, _, rfl, rfl, .ref Fc, _, rfl, rfl, ?_⟩⟩⟩)
        · rw [upd_ne (fun e => by rw [← e, upd_ne (ne_of_none htH hFc)] at htp; rw [htH] at htp; cases htp), upd_ne (ne_of_none htH hFc)]
          exact htH
        have ftp : Fc ≠ tp := fun e => by rw [← e, upd_same] at htp; cases htp
        have eG := (Evl.Ex.new (o := .lst []) hFc).trans (Evl.Ex.new (o := .tup [.ref t, .ref Fc]) htp)
        have gFc : upd (upd Hy Fc (.lst [])) tp (.tup [.ref t, .ref Fc]) Fc = some (.lst (([] : List Int).map V.int)) := by rw [upd_ne ftp, upd_same]; rfl
        generalize upd (upd Hy Fc (.lst [])) tp (.tup [.ref t, .ref Fc]) = G0 at eG gFc
        have fcS : Fc ≠ S := fun z => by rw [z, s1] at hFc; cases hFc
        have fcF : Fc ≠ F0 := fun z => by rw [z, s3] at hFc; cases hFc
        clear htp ftp
        dsimp only
        refine Evl.q_while (fun m σ' Hw => ∃ (seen : List Sd) (a1 b1 : Int) (acc rest : List Sd) (y5 : Option V), σ' = [some (.ref l), some (.ref p), some (.ref S), some (.ref F0), y4, y5, some (.int b1), some (.ref t), some (.int a1), some (.ref Fc)] ∧ walkS ts m seen (a1, b1) = some (rest, sF) ∧ acc ++ rest = lF ∧ Hw S = some (.dT (sE seen)) ∧ Hw Fc = some (.lst ((faceOf acc).map V.int)) ∧ ∀ b o, b ≠ S → b ≠ Fc → G0 b = some o → Hw b = some o) 500 ?_ ?_
        · exact ⟨q1.1, s0.1, s0.2, [], lF, _, rfl, hwk, rfl, eG _ _ s1, gFc, fun b o h1 h2 h => h⟩
        · rintro m σ' Hw ⟨seen, a1, b1, acc, rest, y5', rfl, w1, w2, w3, w4, w5⟩
          cases m with
          | zero => cases w1
          | succ m =>
            have wl2 := walkS_seen w1
            unfold walkS at w1
            refine ⟨!decide ((a1, b1) ∈ seen), fun Hz ez Q2 q2 => ⟨_, rfl, _, rfl, by show 2 ≤ sizeLine; decide, fun p hp => ⟨_, rfl, S, valV (sE seen) [.inl a1, .inl b1], rfl, DGet.t (k := [.inl a1, .inl b1]) (by rw [upd_ne (ne_of_none (ez _ _ w3) hp)]; exact ez _ _ w3) upd_same, _, rfl, by rw [val_sE]; exact q2 _ (Evl.Ex.new hp)⟩⟩, fun hb Hz ez => ?_, fun hb Hz ez => ?_⟩
            · have hno : (a1, b1) ∉ seen := fun z => by rw [decide_eq_true z] at hb; cases hb
              rw [if_neg hno] at w1
              cases hnx : nxs ts (a1, b1) with
              | none => rw [hnx] at w1; cases w1
              | some s' =>
                rw [hnx] at w1
                dsimp only at w1
                obtain ⟨⟨hb1, _⟩, e1, ms, hts1, hbl⟩ := nxs_some hnx
                obtain ⟨s'1, nx⟩ := s'
                have e1 : s'1 = b1 := e1
                subst e1
                have hb1 : 1 ≤ s'1 := hb1
                have hts1 : ts[(s'1 - 1).toNat]? = some ms := hts1
                have hbl : behindL ms a1 = some nx := hbl
                cases hrec : walkS ts m (seen ++ [(a1, s'1)]) (s'1, nx) with
                | none => rw [hrec] at w1; cases w1
                | some rr =>
                  rw [hrec] at w1
                  obtain ⟨rr1, rr2⟩ := rr
                  cases w1
                  have l1 : seen.length ≤ rr2.length := by
                    have h := congrArg List.length (show rr2 = _ from wl2.1)
                    rw [List.length_append] at h
                    omega
                  have l2 : rr2.length ≤ 400 := Nat.le_trans le2.1 hseen
                  refine ⟨fun σ2 H2 => ∃ m', m' < m + 1 ∧ ∃ (seen : List Sd) (a1 b1 : Int) (acc rest : List Sd) (y5 : Option V), σ2 = [some (.ref l), some (.ref p), some (.ref S), some (.ref F0), y4, y5, some (.int b1), some (.ref t), some (.int a1), some (.ref Fc)] ∧ walkS ts m' seen (a1, b1) = some (rest, rr2) ∧ acc ++ rest = lF ∧ H2 S = some (.dT (sE seen)) ∧ H2 Fc = some (.lst ((faceOf acc).map V.int)) ∧ ∀ b o, b ≠ S → b ≠ Fc → G0 b = some o → H2 b = some o, fun _ _ h => h, ?_⟩
                  refine ⟨_, rfl, _, rfl, _, rfl, by show 2 ≤ sizeLine; decide, fun p' hp => ⟨S, _, rfl, DPut.t (k := [.inl a1, .inl s'1]) (by rw [upd_ne (ne_of_none (ez _ _ w3) hp)]; exact ez _ _ w3) upd_same (Evl.sz_lt (by unfold sE; rw [List.length_map]; omega)), ?_⟩⟩
                  rw [put_sE hno]
                  have pS : p' ≠ S := (ne_of_none (ez _ _ w3) hp).symm
                  have pFc : p' ≠ Fc := (ne_of_none (ez _ _ w4) hp).symm
                  have al : acc.length ≤ 500 := by
                    have := wl.2
                    rw [← w2, List.length_append] at this
                    omega
                  have hFc3 : (upd (upd Hz p' (.tup [.int a1, .int s'1])) S (.dT (sE (seen ++ [(a1, s'1)])))) Fc = some (.lst ((faceOf acc).map V.int)) := by rw [upd_ne fcS, upd_ne pFc.symm]; exact ez _ _ w4
                  have hS3 : (upd (upd Hz p' (.tup [.int a1, .int s'1])) S (.dT (sE (seen ++ [(a1, s'1)])))) S = some (.dT (sE (seen ++ [(a1, s'1)]))) := upd_same
                  have hk3 : ∀ b o', b ≠ S → b ≠ Fc → G0 b = some o' → (upd (upd Hz p' (.tup [.int a1, .int s'1])) S (.dT (sE (seen ++ [(a1, s'1)])))) b = some o' := fun b o' h1 h2 h => by
                    have := ez _ _ (w5 b o' h1 h2 h)
                    rw [upd_ne h1, upd_ne (ne_of_none this hp)]
                    exact this
                  generalize upd (upd Hz p' (.tup [.int a1, .int s'1])) S (.dT (sE (seen ++ [(a1, s'1)]))) = H3' at hFc3 hS3 hk3 ⊢
                  refine Evl.q_app hFc3 (Evl.ev_var rfl) (Evl.ev_var rfl) (by rw [List.length_map, List.length_map]; omega) fun H4' e4 => ?_
                  have hk4 : ∀ b o', b ≠ S → b ≠ Fc → G0 b = some o' → (upd H4' Fc (.lst ((faceOf acc).map V.int ++ [.int a1]))) b = some o' := fun b o' h1 h2 h => by
                    rw [upd_ne h2]
                    exact e4 _ _ (hk3 b o' h1 h2 h)
                  have exB : ∀ b o', H b = some o' → (upd H4' Fc (.lst ((faceOf acc).map V.int ++ [.int a1]))) b = some o' := fun b o' h => hk4 b o' (fun z => by rw [z, nS0] at h; cases h) (fun z => by rw [z, Evl.fresh_back exHy hFc] at h; cases h) (eG _ _ (exHy _ _ h))
                  have hS4 : (upd H4' Fc (.lst ((faceOf acc).map V.int ++ [.int a1]))) S = some (.dT (sE (seen ++ [(a1, s'1)]))) := by rw [upd_ne fcS.symm]; exact e4 _ _ hS3
                  have hF4 : (upd H4' Fc (.lst ((faceOf acc).map V.int ++ [.int a1]))) Fc = some (.lst ((faceOf (acc ++ [(a1, s'1)])).map V.int)) := by rw [upd_same]; simp [faceOf]
                  generalize upd H4' Fc (.lst ((faceOf acc).map V.int ++ [.int a1])) = H5' at hk4 exB hS4 hF4 ⊢
                  have hi1 : (s'1 - 1).toNat < as.length := by rw [hal]; exact (List.getElem?_eq_some_iff.mp hts1).1
                  obtain ⟨a2, ha2⟩ : ∃ a2, as[(s'1 - 1).toNat]? = some a2 := ⟨_, List.getElem?_eq_getElem hi1⟩
                  have at0 : atI (as.map V.ref) (s'1 - 1) = some (.ref a2) := by
                    have en : s'1 - 1 = ((s'1 - 1).toNat : Int) := by omega
                    rw [en]
                    exact atI_nat (by rw [List.getElem?_map, ha2]; rfl)
                  refine Evl.q_asg (v := .ref a2) (Evl.ev_op (Evl.ev_var rfl) (Evl.ev_op (Evl.ev_var rfl) Evl.ev_c Evl.rv_I0) (Evl.rv_ixL (Evl.sq_of (exB _ _ hl)) at0)) fun H6' e6' => ?_
                  have hrow2 := e6' _ _ (exB _ _ (hrow _ a2 ms ha2 hts1))
                  obtain ⟨jj, c, hj1, hj2', hj3, hj4, hj5, _⟩ := behind_some (behind_mem hbl).1
                  rw [hbl] at hj4
                  cases hj4
                  have evi : ∀ {σ : L2.St}, σ[5]? = some (some (.ref a2)) → σ[8]? = some (some (.int a1)) → Evl.Ev (tBM K "list" (rIndex K) (tVar 5) (tCons (tVar 8) tNil)) σ H6' (.int (jj : Int)) := fun h5 h8 H1 e Q q => ⟨.ref a2, h5, .inl ⟨rfl, _, Evl.sq_of (e _ _ hrow2)⟩, .int a1, h8, a2, ms.map V.int, .int a1, jj, .int a1, rfl, rfl, Evl.sq_of (e _ _ hrow2), rfl, flat_ints ms, by rw [List.getElem?_map, hj3] <;> rfl, by show decide (a1 = a1) = true; exact decide_eq_true rfl, fun m z hm hz => by
                    rw [List.getElem?_map] at hz
                    cases hq : ms[m]? with
                    | none => rw [hq] at hz; cases hz
                    | some y =>
                      rw [hq] at hz
                      cases hz
                      show decide (y = a1) = false
                      exact decide_eq_false ((idx_of hj1).2 m y hm hq), q H1 (Evl.Ex.refl H1)⟩
                  refine ⟨.int s'1, rfl, (Evl.ev_op (x := .ref a2) (y := .int (((jj + 1) % ms.length : Nat) : Int)) (Evl.ev_var rfl) (Evl.ev_is (Evl.ev_op (ev_int (Evl.ev_op (evi rfl rfl) Evl.ev_c Evl.rv_I0)) (Evl.ev_len (Evl.ev_var rfl) (Evl.sq_of hrow2)) (Evl.rv_I (by rw [List.length_map]; omega))) ?_) (Evl.rv_ixL (v := .int nx) (Evl.sq_of hrow2) (atI_nat (by rw [List.getElem?_map, hj5]; rfl)))) H6' (Evl.Ex.refl _) _ fun H7' e7' => ⟨_, _, rfl, ?_⟩⟩
                  · rw [List.length_map]
                    exact congrArg V.int (fmod_nat (jj + 1) ms.length)
                  · exact ⟨m, Nat.lt_succ_self m, seen ++ [(a1, s'1)], s'1, nx, acc ++ [(a1, s'1)], rr1, _, rfl, hrec, by rw [List.append_assoc]; exact w2, e7' _ _ (e6' _ _ hS4), e7' _ _ (e6' _ _ hF4), fun b o' h1 h2 h => e7' _ _ (e6' _ _ (hk4 b o' h1 h2 h))⟩
            · have hyes : (a1, b1) ∈ seen := by
                cases hd : decide ((a1, b1) ∈ seen) with
                | true => exact of_decide_eq_true hd
                | false => rw [hd] at hb; cases hb
              rw [if_pos hyes] at w1
              cases w1
              rw [List.append_nil] at w2
              subst w2
              have hFz := ez _ _ w4
              have gz : ∀ b o', b ≠ S → b ≠ Fc → G0 b = some o' → Hz b = some o' := fun b o' h1 h2 h => ez _ _ (w5 b o' h1 h2 h)
              have keepZ : Keep2 S F0 Hx Hz := fun b o' h1 h2 h => gz b o' h1 (ne_of_none (e8 _ _ h) hFc) (eG _ _ (e8 _ _ h))
              have rowsZ : RowsT Hz ga (q1.2.map faceOf) := ⟨s4.1, fun j2 a2 ns2 h1 h2 => gz a2 _ (fun z => s5 (by rw [← z]; exact List.mem_of_getElem? h1)) (ne_of_none (s4.2 j2 a2 ns2 h1 h2) hFc) (eG _ _ (s4.2 j2 a2 ns2 h1 h2))⟩
              refine Evl.s_when (b := !(faceOf acc).isEmpty) (Evl.et_test (ev_neNil (Evl.ev_var rfl) (Evl.sq_of hFz))) (fun hb2 H7 e7 => ?_) (fun hb2 H7 e7 => ?_)
              · have hne : acc ≠ [] := fun z => by subst z; cases hb2
                rw [if_neg hne] at r1 le2
                have gal : ga.length ≤ 50000 := by
                  rw [s4.1, List.length_map]
                  have h1 : (q1.2 ++ [acc]).length ≤ csF.length := le2.2
                  rw [List.length_append] at h1
                  omega
                have hF7 := e7 _ _ (gz F0 _ nodup6 fcF.symm (eG _ _ s3))
                refine ⟨.ref F0, rfl, .inl ⟨rfl, _, Evl.sq_of hF7⟩, .ref Fc, rfl, Fc, _, rfl, .inl ⟨Evl.sq_of (e7 _ _ hFz), fun u hu => ?_⟩⟩
                have e7u := Evl.Ex.new (o := .tup ((faceOf acc).map V.int)) hu
                have uF : u ≠ F0 := fun z => by rw [z, hF7] at hu; cases hu
                refine ⟨F0, ga.map V.ref, .ref u, rfl, rfl, e7u _ _ hF7, Evl.sz_lt (by rw [List.length_map]; omega), ?_⟩
                have e78 := e7.trans e7u
                have u8 : upd H7 u (.tup ((faceOf acc).map V.int)) u = some (.tup ((faceOf acc).map V.int)) := upd_same
                generalize upd H7 u (.tup ((faceOf acc).map V.int)) = H8 at e7u e78 u8
                refine ⟨_, _, _, _, _, (_, q1.2 ++ [acc]), rfl, r1, ⟨?_, ga ++ [u], ?_, ⟨by rw [List.length_map, List.length_append, List.length_append, s4.1, List.length_map] <;> rfl, fun j2 a2 ns2 h1 h2 => ?_⟩, ?_, ?_⟩, ?_⟩
                · rw [upd_ne nodup6.symm]
                  exact e78 _ _ (ez _ _ w3)
                · rw [upd_same, List.map_append]
                  rfl
                · rw [List.map_append] at h2
                  rcases Nat.lt_or_ge j2 ga.length with hj2 | hj2
                  · rw [List.getElem?_append_left hj2] at h1
                    rw [List.getElem?_append_left (by rw [← s4.1]; exact hj2)] at h2
                    rw [upd_ne (fun z => s6 (by rw [← z]; exact List.mem_of_getElem? h1))]
                    exact e78 _ _ (rowsZ.2 j2 a2 ns2 h1 h2)
                  · rw [List.getElem?_append_right hj2] at h1
                    rw [List.getElem?_append_right (by rw [← s4.1]; exact hj2), ← s4.1] at h2
                    have e0 : j2 - ga.length = 0 := by
                      have := (List.getElem?_eq_some_iff.mp h1).1
                      simp at this
                      omega
                    rw [e0] at h1 h2
                    cases h1
                    cases h2
                    rw [upd_ne uF]
                    exact u8
                · intro z
                  rcases List.mem_append.mp z with z | z
                  · exact s5 z
                  · have : S = u := List.mem_singleton.mp z
                    rw [← this, e7 _ _ (ez _ _ w3)] at hu
                    cases hu
                · intro z
                  rcases List.mem_append.mp z with z | z
                  · exact s6 z
                  · exact uF (List.mem_singleton.mp z).symm
                · exact r3.trans fun b o' h1 h2 h => by rw [upd_ne h2]; exact e78 _ _ (keepZ b o' h1 h2 h)
              · have hne : acc = [] := by
                  cases acc with
                  | nil => rfl
                  | cons x r => cases hb2
                rw [if_pos hne] at r1
                exact ⟨_, _, _, _, _, (_, q1.2), rfl, r1, ⟨e7 _ _ (ez _ _ w3), ga, e7 _ _ (gz F0 _ nodup6 fcF.symm (eG _ _ s3)), rowsZ.ex e7, s5, s6⟩, r3.trans fun b o' h1 h2 h => e7 _ _ (keepZ b o' h1 h2 h)⟩
    · obtain ⟨y5, y6, y7, y8, y9, q0, rfl, p1, p2, p3⟩ := pp
      rw [List.length_map, hul, List.drop_length] at p1
      cases p1
      obtain ⟨s1, ga, s3, s4, _⟩ := p2
      refine Evl.s_ret (Evl.ev_var rfl) fun H8 e8 => q F0 ga H8 ((exK ((Keep2.of e7).trans p3)).trans e8) nF0 (e8 _ _ s3) ?_
      unfold facesV
      rw [if_neg hl1]
      exact s4.ex e8
end
end P05
end S_Dx
section S_Dy
namespace P05
/-! ### turns that grow -/
structure Sy (ts : List (List Int)) : Prop where
  pl : ∀ (i : Nat) (ns : List Int), ts[i]? = some ns → ns.Nodup ∧ (∀ x ∈ ns, 1 ≤ x ∧ x ≤ (ts.length : Int)) ∧ ((i : Int) + 1) ∉ ns
  sym : ∀ (i : Nat) (ns : List Int) (o : Int), ts[i]? = some ns → o ∈ ns → ∃ ms, ts[(o - 1).toNat]? = some ms ∧ ((i : Int) + 1) ∈ ms
theorem OkT.sy {ts : List (List Int)} (h : OkT ts) : Sy ts := ⟨h.pl, h.sym⟩
theorem Sy.ok {ts : List (List Int)} (h : Sy ts) (h1 : 1 ≤ ts.length) (h8 : ts.length ≤ 8) : OkT ts := by
  refine ⟨h1, by omega, h.pl, h.sym, ?_⟩
  have : (ts.map List.length).sum ≤ ts.length * 8 := sum_few fun t ht => by
    obtain ⟨i, hi⟩ := List.mem_iff_getElem?.mp ht
    obtain ⟨a, b, _⟩ := h.pl i t hi
    have := nodup_len a b
    omega
  omega
theorem sides_small {ts : List (List Int)} (h : OkT ts) (h8 : ts.length ≤ 8) : (sidesL ts).length ≤ 64 := by
  rw [sides_len]
  have : (ts.map List.length).sum ≤ ts.length * 8 := sum_few fun t ht => by
    obtain ⟨i, hi⟩ := List.mem_iff_getElem?.mp ht
    obtain ⟨a, b, _⟩ := h.pl i t hi
    have := nodup_len a b
    omega
  omega
theorem Sy.app {ts : List (List Int)} (h : Sy ts) : Sy (ts ++ [[]]) where
  pl := fun i ns hn => by
    rw [List.length_append]
    rcases Nat.lt_or_ge i ts.length with hi | hi
    · rw [List.getElem?_append_left hi] at hn
      obtain ⟨a, b, c⟩ := h.pl i ns hn
      exact ⟨a, fun x hx => by have := b x hx; simp; omega, c⟩
    · rw [List.getElem?_append_right hi] at hn
      have : ns ∈ [([] : List Int)] := List.mem_of_getElem? hn
      rw [List.mem_singleton.mp this]
      exact ⟨List.nodup_nil, fun x hx => (nomatch hx), fun hx => nomatch hx⟩
  sym := fun i ns o hn ho => by
    rcases Nat.lt_or_ge i ts.length with hi | hi
    · rw [List.getElem?_append_left hi] at hn
      obtain ⟨ms, h1, h2⟩ := h.sym i ns o hn ho
      exact ⟨ms, by rw [List.getElem?_append_left (List.getElem?_eq_some_iff.mp h1).1]; exact h1, h2⟩
    · rw [List.getElem?_append_right hi] at hn
      have : ns ∈ [([] : List Int)] := List.mem_of_getElem? hn
      rw [List.mem_singleton.mp this] at ho
      cases ho
/-- a tie more between two places that have none -/
theorem Sy.tie {ts : List (List Int)} {i j r s : Nat} {ns ms : List Int} (h : Sy ts) (hij : i ≠ j) (h1 : ts[i]? = some ns) (h2 : ts[j]? = some ms) (hno : ((j : Int) + 1) ∉ ns) :
    Sy ((ts.set i (put r ((j : Int) + 1) ns)).set j (put s ((i : Int) + 1) ms)) := by
  have il := (List.getElem?_eq_some_iff.mp h1).1
  have jl := (List.getElem?_eq_some_iff.mp h2).1
  have lt : ((ts.set i (put r ((j : Int) + 1) ns)).set j (put s ((i : Int) + 1) ms)).length = ts.length := by rw [List.length_set, List.length_set]
  have atj : ((ts.set i (put r ((j : Int) + 1) ns)).set j (put s ((i : Int) + 1) ms))[j]? = some (put s ((i : Int) + 1) ms) := by
    rw [List.getElem?_set_self (by rw [List.length_set]; omega)]
  have atl : ((ts.set i (put r ((j : Int) + 1) ns)).set j (put s ((i : Int) + 1) ms))[i]? = some (put r ((j : Int) + 1) ns) := by
    rw [List.getElem?_set_ne (by omega), List.getElem?_set_self (by omega)]
  have ato : ∀ m, m ≠ j → m ≠ i → ((ts.set i (put r ((j : Int) + 1) ns)).set j (put s ((i : Int) + 1) ms))[m]? = ts[m]? := fun m a b => by
    rw [List.getElem?_set_ne (Ne.symm a), List.getElem?_set_ne (Ne.symm b)]
  have nl : ((i : Int) + 1) ∉ ms := fun z => by
    obtain ⟨us, u1, u2⟩ := h.sym j ms _ h2 z
    rw [show (((i : Int) + 1) - 1).toNat = i by omega, h1] at u1
    cases u1
    exact hno u2
  have up : ∀ (m : Nat) (us : List Int), ts[m]? = some us → ∃ vs, ((ts.set i (put r ((j : Int) + 1) ns)).set j (put s ((i : Int) + 1) ms))[m]? = some vs ∧ ∀ x ∈ us, x ∈ vs := fun m us hu => by
    by_cases a : m = j
    · subst a
      rw [h2] at hu
      cases hu
      exact ⟨_, atj, fun x hx => put_mem.mpr (.inr hx)⟩
    · by_cases b : m = i
      · subst b
        rw [h1] at hu
        cases hu
        exact ⟨_, atl, fun x hx => put_mem.mpr (.inr hx)⟩
      · exact ⟨us, by rw [ato m a b]; exact hu, fun x hx => hx⟩
  refine ⟨fun m us hu => ?_, fun m us o hu ho => ?_⟩
  · rw [lt]
    by_cases a : m = j
    · subst a
      rw [atj] at hu
      cases hu
      obtain ⟨p1, p2, p3⟩ := h.pl m ms h2
      refine ⟨put_nodup p1 nl, fun x hx => ?_, fun z => ?_⟩
      · rcases put_mem.mp hx with e | e
        · omega
        · exact p2 x e
      · rcases put_mem.mp z with e | e
        · omega
        · exact p3 e
    · by_cases b : m = i
      · subst b
        rw [atl] at hu
        cases hu
        obtain ⟨p1, p2, p3⟩ := h.pl _ ns h1
        refine ⟨put_nodup p1 hno, fun x hx => ?_, fun z => ?_⟩
        · rcases put_mem.mp hx with e | e
          · omega
          · exact p2 x e
        · rcases put_mem.mp z with e | e
          · omega
          · exact p3 e
      · rw [ato m a b] at hu
        exact h.pl m us hu
  · by_cases a : m = j
    · subst a
      rw [atj] at hu
      cases hu
      rcases put_mem.mp ho with e | e
      · refine ⟨put r ((m : Int) + 1) ns, ?_, put_mem.mpr (.inl rfl)⟩
        rw [e, show (((i : Int) + 1) - 1).toNat = i by omega]
        exact atl
      · obtain ⟨us, u1, u2⟩ := h.sym m ms o h2 e
        obtain ⟨vs, v1, v2⟩ := up _ us u1
        exact ⟨vs, v1, v2 _ u2⟩
    · by_cases b : m = i
      · subst b
        rw [atl] at hu
        cases hu
        rcases put_mem.mp ho with e | e
        · refine ⟨put s ((m : Int) + 1) ms, ?_, put_mem.mpr (.inl rfl)⟩
          rw [e, show ((j : Int) + 1 - 1).toNat = j by omega]
          exact atj
        · obtain ⟨us, u1, u2⟩ := h.sym _ ns o h1 e
          obtain ⟨vs, v1, v2⟩ := up _ us u1
          exact ⟨vs, v1, v2 _ u2⟩
      · rw [ato m a b] at hu
        obtain ⟨us2, u1, u2⟩ := h.sym m us o hu ho
        obtain ⟨vs, v1, v2⟩ := up _ us2 u1
        exact ⟨vs, v1, v2 _ u2⟩
/-- rows begun elsewhere -/
theorem Sy.rows {ts us : List (List Int)} (h : Sy ts) (hl : us.length = ts.length) (hr : ∀ (i : Nat) (ms : List Int), us[i]? = some ms → ∃ ns, ts[i]? = some ns ∧ ms.Perm ns) : Sy us := by
  refine ⟨fun i ms hm => ?_, fun i ms o hm ho => ?_⟩
  · obtain ⟨ns, hn, hp⟩ := hr i ms hm
    obtain ⟨a, b, c⟩ := h.pl i ns hn
    exact ⟨hp.nodup_iff.mpr a, fun x hx => by rw [hl]; exact b x (hp.mem_iff.mp hx), fun z => c (hp.mem_iff.mp z)⟩
  · obtain ⟨ns, hn, hp⟩ := hr i ms hm
    obtain ⟨ks, k1, k2⟩ := h.sym i ns o hn (hp.mem_iff.mp ho)
    have hlt := (List.getElem?_eq_some_iff.mp k1).1
    have hu : us[(o - 1).toNat]? = some (us[(o - 1).toNat]'(by omega)) := List.getElem?_eq_getElem _
    obtain ⟨ns2, hn2, hp2⟩ := hr _ _ hu
    rw [k1] at hn2
    cases hn2
    exact ⟨_, hu, hp2.mem_iff.mpr k2⟩
/-- a corner: a place, and where in its row -/
def Cr (ts : List (List Int)) (q : Sd) : Prop := 1 ≤ q.1 ∧ 0 ≤ q.2 ∧ ∃ ns, ts[(q.1 - 1).toNat]? = some ns ∧ q.2 ≤ (ns.length : Int)
theorem Sy.grow {ts : List (List Int)} {q : Sd} {ns : List Int} (h : Sy ts) (h1 : 1 ≤ q.1) (hn : ts[(q.1 - 1).toNat]? = some ns) : Sy (ts.set (q.1 - 1).toNat (put q.2.toNat ((ts.length : Int) + 1) ns) ++ [[q.1]]) := by
  have hl := (List.getElem?_eq_some_iff.mp hn).1
  have := (h.app).tie (i := ts.length) (j := (q.1 - 1).toNat) (r := 0) (s := q.2.toNat) (ns := []) (ms := ns) (by omega) (by rw [List.getElem?_append_right (Nat.le_refl _), Nat.sub_self]; rfl) (by rw [List.getElem?_append_left hl]; exact hn) (fun z => nomatch z)
  have e : ((ts ++ [[]]).set ts.length (put 0 (((q.1 - 1).toNat : Int) + 1) [])).set (q.1 - 1).toNat (put q.2.toNat ((ts.length : Int) + 1) ns) = ts.set (q.1 - 1).toNat (put q.2.toNat ((ts.length : Int) + 1) ns) ++ [[q.1]] := by
    rw [List.set_append_right _ _ (Nat.le_refl _), Nat.sub_self, List.set_append_left _ _ hl]
    congr 1
    show [put 0 (((q.1 - 1).toNat : Int) + 1) []] = [[q.1]]
    rw [show (((q.1 - 1).toNat : Int) + 1) = q.1 by omega]
    rfl
  rw [e] at this
  exact this
end P05
end S_Dy
section S_Dz
namespace P05
open PySem PySem.Spec PyProof.Rows L2 Tl Hk LamX EnL
/-! ### corners -/
abbrev nCo : List Str := ["turns", "face", "at", "place"]
theorem scCo : FnScope nCo ["turns", "face"] (defScope sLCorners) := ⟨rfl, rfl, rfl, by decide +kernel, rfl, by decide +kernel, by decide +kernel⟩
theorem scPut : FnScope ["turns", "corner", "place"] ["turns", "corner", "place"] (defScope sLPut) := ⟨rfl, rfl, rfl, by decide +kernel, rfl, by decide +kernel, by decide +kernel⟩
def spCorners : Sp := fun vs H Q _ => ∃ (A f : Addr) (ts : List (List Int)) (fs : List Int), vs = [.ref A, .ref f] ∧ LL H A ts ∧ OkT ts ∧ H f = some (.tup (fs.map V.int)) ∧ fs.length ≤ 400 ∧ (fs = [] ∨ ∃ c, Cyc ts c ∧ fs = faceOf c) ∧
  ∀ D qs H', Evl.Ex H H' → PairsAt H' D qs → (∀ q ∈ qs, Cr ts q) → qs ≠ [] → qs.length ≤ fs.length + 1 → Q (.ref D) H'
def spPut : Sp := fun vs H Q _ => ∃ (A b a : Addr) (as : List Addr) (ns : List Int) (q : Sd) (o : Int), vs = [.ref A, .ref b, .int o] ∧ H A = some (.lst (as.map V.ref)) ∧ H b = some (.tup [.int q.1, .int q.2]) ∧ 1 ≤ q.1 ∧ as[(q.1 - 1).toNat]? = some a ∧ H a = some (.lst (ns.map V.int)) ∧ ns.length ≤ 2000 ∧ 0 ≤ q.2 ∧ q.2 ≤ (ns.length : Int) ∧
  ∀ G, Evl.Ex H G → Q .non (upd G a (.lst ((put q.2.toNat o ns).map V.int)))
/-- the item ahead, round the end -/
theorem atI_prev {xs : List V} {i : Nat} {v : V} (hi : i < xs.length) (h : xs[(i + xs.length - 1) % xs.length]? = some v) : atI xs ((i : Int) - 1) = some v := by
  cases i with
  | zero =>
    rw [Nat.zero_add, Nat.mod_eq_of_lt (by omega)] at h
    have hne : xs ≠ [] := fun z => by rw [z] at hi; cases hi
    have e0 : xs.getLast hne = v := by
      rw [List.getLast_eq_getElem]
      rw [List.getElem?_eq_getElem (by omega)] at h
      exact Option.some.inj h
    have e : xs = xs.dropLast ++ [v] := by
      rw [← e0]
      exact (List.dropLast_concat_getLast hne).symm
    rw [e]
    exact atI_last _ _
  | succ i =>
    rw [show i + 1 + xs.length - 1 = i + xs.length by omega, Nat.add_mod_right, Nat.mod_eq_of_lt (by omega)] at h
    rw [show (((i + 1 : Nat) : Int) - 1) = (i : Int) by omega]
    exact atI_nat h
theorem cyc_back {ts : List (List Int)} {c : List Sd} (h : Cyc ts c) {i : Nat} {v : Sd} (hv : c[i]? = some v) : ∃ u, c[(i + c.length - 1) % c.length]? = some u ∧ nxs ts u = some v := by
  have hi := (List.getElem?_eq_some_iff.mp hv).1
  have hm : (i + c.length - 1) % c.length < c.length := Nat.mod_lt _ (by omega)
  obtain ⟨u, hu⟩ : ∃ u, c[(i + c.length - 1) % c.length]? = some u := ⟨_, List.getElem?_eq_getElem hm⟩
  obtain ⟨w, hw, hn⟩ := cyc_at h hu
  refine ⟨u, hu, ?_⟩
  have e : ((i + c.length - 1) % c.length + 1) % c.length = i := by
    rw [Nat.mod_add_mod, show i + c.length - 1 + 1 = i + c.length by omega, Nat.add_mod_right, Nat.mod_eq_of_lt hi]
  rw [e, hv] at hw
  cases hw
  exact hn
theorem dpa_ints {K : PySem.W.Frag} {H : Hp} : ∀ ns : List Int, DpAll K H (ns.map V.int) (ns.map PyData.int)
  | [] => .nil
  | i :: r => .cons (.int i) (dpa_ints r)
theorem tup_shaped (ns : List Int) : SeqAt.shaped (.tuple (ns.map PyData.int)) = true := by
  simp [SeqAt.shaped, PyData.canLay0, PyData.depth, PySem.W.ke_canLayAll0, PySem.W.ke_depthAll]
theorem tup_eqv (ns ms : List Int) : PyData.eqv (.tuple (ns.map PyData.int)) (.tuple (ms.map PyData.int)) = decide (ns = ms) := PySem.W.Datum.eqv (α := List Int) ns ms
/-- the corner ahead of the i-th place of a round -/
def crOf (ts : List (List Int)) (c : List Sd) (i : Nat) : Sd := ((c.getD i (0, 0)).1, (((idxI (ts.getD ((c.getD i (0, 0)).1 - 1).toNat []) (c.getD ((i + c.length - 1) % c.length) (0, 0)).1).getD 0 : Nat) : Int) + 1)
theorem crOf_at {ts : List (List Int)} {c : List Sd} (hT : OkT ts) (h : Cyc ts c) {i : Nat} {v : Sd} (hv : c[i]? = some v) : ∃ (u : Sd) (ns : List Int) (j : Nat), c[(i + c.length - 1) % c.length]? = some u ∧ 1 ≤ v.1 ∧ ts[(v.1 - 1).toNat]? = some ns ∧ idxI ns u.1 = some j ∧ j < ns.length ∧ crOf ts c i = (v.1, (j : Int) + 1) := by
  obtain ⟨u, hu, hn⟩ := cyc_back h hv
  obtain ⟨⟨h1, _⟩, e1, ns, hns, hb⟩ := nxs_some hn
  obtain ⟨j, _, hj, hjl, _⟩ := behind_some (behind_mem hb).1
  rw [← e1] at h1 hns
  refine ⟨u, ns, j, hu, h1, hns, hj, hjl, ?_⟩
  unfold crOf
  have d1 : c.getD i (0, 0) = v := by rw [List.getD_eq_getElem?_getD, hv]; rfl
  have d2 : c.getD ((i + c.length - 1) % c.length) (0, 0) = u := by rw [List.getD_eq_getElem?_getD, hu]; rfl
  have d3 : ts.getD (v.1 - 1).toNat [] = ns := by rw [List.getD_eq_getElem?_getD, hns]; rfl
  rw [d1, d2, d3, hj]
  rfl
section
variable {P : Program} {w : World} {K : PySem.W.Frag} {mg : Str → Option Value} {base : Heap}
set_option maxHeartbeats 2000000 in
theorem ok_corners {f : Addr} {fd : FuncData} {k : Nat} (F : Fun K "_law_corners" "_law_corners" sLCorners f fd) (menum : mg "enumerate" = none) : FnOk P w K mg base CX0 (k + 1) f fd ["turns", "face"] spCorners := by
  refine F.ok scCo (fun vs H Q E h => ?_) (fun cdv A0 outer s H vs Q E hr h => ?_)
  · obtain ⟨A, f, ts, fs, rfl, _⟩ := h
    rfl
  · obtain ⟨A, fa, ts, fs, rfl, hL, hT, hf, hfl, hc, q⟩ := h
    have nd := scCo.nd
    refine ⟨_, pss_cons (ps_if (pt_cmpR (op_eqD hr.units) (pv 1) (pe_tup pa_nil) (nomark _)) (pss_one (ps_ret (pe_lst (pa_cons (pe_tup (pa_cons pe_int (pa_cons pe_int pa_nil))) pa_nil)))) pss_nil)
      (pss_one (ps_ret (pe_lc (own := [("at", 2), ("place", 3)]) (g := gTup K 2 (gCons (gName 2) (gCons (gName 3) gNil))) (tt := tYes)
        (te := tTup (tCons (tVar 3) (tCons (tOp (rI0 fun i j => .int (i + j)) (tBM K "list" (rIndex K) (tOp (rIxL K) (tVar 0) (tOp (rI0 fun i j => .int (i - j)) (tVar 3) (tC (.int 1)))) (tCons (tOp (rIxT K) (tVar 1) (tOp (rI0 fun i j => .int (i - j)) (tVar 2) (tC (.int 1)))) tNil)) (tC (.int 1))) tNil)))
        rfl nd (pi_enumT (by rfl) menum (pa_cons (pv 1) pa_nil)) (blkOk_by (N := nCo) (sc := defScope sLCorners) (by decide +kernel)) (fun _ _ _ _ _ => pg_tup (by rfl) (pgs_cons (pg_name (i := 2) nd rfl (Or.inl rfl)) (pgs_cons (pg_name (i := 3) nd rfl (Or.inl rfl)) pgs_nil))) (fun _ _ _ _ _ => pts_nil)
        (fun _ _ _ _ _ => pe_tup (pa_cons (pv 3) (pa_cons (pe_op op_add (pe_bm PySem.F.plainAttrs_list PySem.F.slot_list_index PySem.F.type_list_index mt_index (pe_ix ix_list (pv 0) (pe_op op_sub (pv 3) pe_int) (fun _ _ => rfl)) (pa_cons (pe_ix ix_tup (pv 1) (pe_op op_sub (pv 2) pe_int) (fun _ _ => rfl)) pa_nil)) pe_int) pa_nil)))))), ?_⟩
    obtain ⟨as, hl, hal, hrow⟩ := hL
    refine when_go (test_go (op_go ⟨.ref fa, rfl, (Evl.eu_tup (vs := []) Evl.ea_nil (Nat.zero_le _)) H (Evl.Ex.refl _) _ fun e0 H1 he e1 h1 => ?_⟩))
    refine ⟨.tuple (fs.map PyData.int), .tuple [], .tup (Evl.st_of (e1 _ _ hf)) (dpa_ints fs), .tup (Evl.st_of h1) .nil, tup_shaped fs, tup_shaped [], ?_⟩
    refine ⟨_, rfl, ?_⟩
    rw [show PyData.eqv (.tuple (fs.map PyData.int)) (.tuple []) = decide (fs = []) from tup_eqv fs []]
    refine if_go (fun hb => ?_) fun hb => ?_
    · refine ret_go (lst_go (cons_any (tup_go (cons_c (cons_c ⟨by show 2 ≤ sizeLine; decide, fun p hp => ⟨by show 1 ≤ sizeLine; decide, fun D hD => ?_⟩⟩)))))
      have pD : D ≠ p := fun z => by rw [z, upd_same] at hD; cases hD
      refine q D [(1, 0)] _ ((e1.trans (Evl.Ex.new hp)).trans (Evl.Ex.new hD)) ⟨[p], upd_same, rfl, fun i t x ht hx => ?_⟩ (fun x hx => ?_) (List.cons_ne_nil _ _) (by show 1 ≤ _; omega)
      · cases i with
        | zero =>
          cases ht
          cases hx
          rw [upd_ne pD.symm, upd_same]
        | succ i => simp at ht
      · rw [List.mem_singleton.mp hx]
        have := hT.pos
        exact ⟨Int.le_refl _, Int.le_refl _, ts[0], by show ts[0]? = _; exact List.getElem?_eq_getElem _, by show (0 : Int) ≤ _; omega⟩
    · have hne : fs ≠ [] := of_decide_eq_false hb
      obtain ⟨c, hcy, rfl⟩ := hc.resolve_left hne
      have hcl : (faceOf c).length = c.length := List.length_map ..
      have hf1 := e1 _ _ hf
      refine ret_go (go_lcD (H := H1) (o := fun i => .tup [.int (crOf ts c i).1, .int (crOf ts c i).2]) (ei_enumT (K := K) (Evl.ea_cons (Evl.ev_var (i := 1) rfl) Evl.ea_nil) (Evl.st_of hf1)) aims_enum (fun _ => rfl) (by rw [List.length_map]; omega) (fun i hi H2 e2 Q2 q2 => ?_) H1 (Evl.Ex.refl _) _ fun D bs H2 hD e2 h2 l2 _ r2 => ?_)
      · rw [List.length_map, hcl] at hi
        obtain ⟨v, hv⟩ : ∃ v, c[i]? = some v := ⟨_, List.getElem?_eq_getElem hi⟩
        obtain ⟨u, ns, j, hu, v1, hns, hj, hjl, ec⟩ := crOf_at hT hcy hv
        rw [ec] at q2
        obtain ⟨a, ha⟩ : ∃ a, as[(v.1 - 1).toNat]? = some a := ⟨_, List.getElem?_eq_getElem (by rw [hal]; exact (List.getElem?_eq_some_iff.mp hns).1)⟩
        have hrow1 := e1 _ _ (hrow _ a ns ha hns)
        have hv3 : ((faceOf c).map V.int).getD i .non = .int v.1 := by
          rw [List.getD_eq_getElem?_getD, List.getElem?_map, List.getElem?_map, hv]
          rfl
        have at1 : atI (as.map V.ref) (v.1 - 1) = some (.ref a) := by
          rw [show v.1 - 1 = (((v.1 - 1).toNat : Nat) : Int) by omega]
          exact atI_nat (by rw [List.getElem?_map, ha]; rfl)
        have at2 : atI ((faceOf c).map V.int) ((i : Int) - 1) = some (.int u.1) := atI_prev (by rw [List.length_map, hcl]; exact hi) (by rw [List.length_map, hcl, List.getElem?_map, List.getElem?_map, hu]; rfl)
        refine (Evl.eu_tup (vs := [.int v.1, .int ((j : Int) + 1)]) (Evl.ea_cons (Evl.ev_is (Evl.ev_var rfl) hv3) (Evl.ea_cons (Evl.ev_op (x := .int (j : Int)) (fun H3 e3 Q3 q3 => ?_) Evl.ev_c Evl.rv_I0) Evl.ea_nil)) (by show 2 ≤ 100000; decide)) H2 e2 _ fun p H3 hp e3 h3 => q2 p H3 hp e3 h3
        refine (Evl.ev_op (H := H1) (x := .ref A) (z := .ref a) (Evl.ev_var rfl) (Evl.ev_op (Evl.ev_is (Evl.ev_var rfl) hv3) Evl.ev_c Evl.rv_I0) (Evl.rv_ixL (Evl.sq_of (e1 _ _ hl)) at1)) H3 e3 _ fun H4 e4 => ⟨.inl ⟨rfl, _, Evl.sq_of ((e3.trans e4) _ _ hrow1)⟩, ?_⟩
        refine (Evl.ev_op (H := H1) (x := .ref fa) (z := .int u.1) (Evl.ev_var rfl) (Evl.ev_op (Evl.ev_var rfl) Evl.ev_c Evl.rv_I0) (Evl.rv_ixT (Evl.st_of hf1) at2)) H4 (e3.trans e4) _ fun H5 e5 => ?_
        refine ⟨a, ns.map V.int, .int u.1, j, .int u.1, rfl, rfl, Evl.sq_of (((e3.trans e4).trans e5) _ _ hrow1), rfl, flat_ints ns, by rw [List.getElem?_map, (idx_of hj).1] <;> rfl, by show decide (u.1 = u.1) = true; exact decide_eq_true rfl, fun m z hm hz => ?_, q3 H5 (e4.trans e5)⟩
        rw [List.getElem?_map] at hz
        cases hq : ns[m]? with
        | none => rw [hq] at hz; cases hz
        | some y =>
          rw [hq] at hz
          cases hz
          show decide (y = u.1) = false
          exact decide_eq_false ((idx_of hj).2 m y hm hq)
      · rw [List.length_map, hcl] at l2
        refine q D ((List.range c.length).map (crOf ts c)) H2 (e1.trans e2) ⟨bs, h2, by rw [l2, List.length_map, List.length_range], fun i t x ht hx => ?_⟩ (fun x hx => ?_) (fun z => ?_) (by rw [List.length_map, List.length_range, hcl]; omega)
        · rw [List.getElem?_map] at hx
          obtain ⟨i', hi', rfl⟩ := Option.map_eq_some_iff.mp hx
          have hlt := (List.getElem?_eq_some_iff.mp hi').1
          rw [List.length_range] at hlt
          rw [List.getElem?_range hlt] at hi'
          cases hi'
          exact (r2 i t ht).2.2
        · obtain ⟨i, hi, rfl⟩ := List.mem_map.mp hx
          have hlt := List.mem_range.mp hi
          obtain ⟨u, ns, j, _, v1, hns, _, hjl, ec⟩ := crOf_at hT hcy (List.getElem?_eq_getElem hlt)
          rw [ec]
          exact ⟨v1, by show (0 : Int) ≤ (j : Int) + 1; omega, ns, hns, by show (j : Int) + 1 ≤ _; omega⟩
        · have := congrArg List.length z
          rw [List.length_map, List.length_range] at this
          exact hne (List.length_eq_zero_iff.mp (by rw [hcl]; exact this))

theorem ok_put {f : Addr} {fd : FuncData} {k : Nat} (F : Fun K "_law_put" "_law_put" sLPut f fd) : FnOk P w K mg base CX0 (k + 1) f fd ["turns", "corner", "place"] spPut := by
  refine F.ok scPut (fun vs H Q E h => ?_) (fun cdv A0 outer s H vs Q E hr h => ?_)
  · obtain ⟨A, b, a, as, ns, q, o, rfl, _⟩ := h
    rfl
  · obtain ⟨A, b, a, as, ns, x, o, rfl, hA, hb, hx1, ha, hr1, hns, hx2, hx3, q⟩ := h
    refine ⟨_, pss_one (ps_expr (pe_bm PySem.F.plainAttrs_list PySem.F.slot_list_insert PySem.F.type_list_insert mt_insert (pe_ix ix_list (pv 0) (pe_op op_sub (pe_ix ix_tup (pv 1) pe_int (fun _ _ => rfl)) pe_int) (fun _ _ => rfl)) (pa_cons (pe_ix ix_tup (pv 1) pe_int (fun _ _ => rfl)) (pa_cons (pv 2) pa_nil)))), ?_⟩
    have at1 : atI (as.map V.ref) (x.1 - 1) = some (.ref a) := by
      rw [show x.1 - 1 = (((x.1 - 1).toNat : Nat) : Int) by omega]
      exact atI_nat (by rw [List.getElem?_map, ha]; rfl)
    have ix0 : ∀ {σ : L2.St} {G : Hp}, Evl.Ex H G → σ[1]? = some (some (.ref b)) → Evl.Ev (tOp (rIxT K) (tVar 1) (tC (.int 0))) σ G (.int x.1) := fun e h1 => Evl.ev_op (Evl.ev_var h1) Evl.ev_c (Evl.rv_ixT (Evl.st_of (e _ _ hb)) rfl)
    have ix1 : ∀ {σ : L2.St} {G : Hp}, Evl.Ex H G → σ[1]? = some (some (.ref b)) → Evl.Ev (tOp (rIxT K) (tVar 1) (tC (.int 1))) σ G (.int x.2) := fun e h1 => Evl.ev_op (Evl.ev_var h1) Evl.ev_c (Evl.rv_ixT (Evl.st_of (e _ _ hb)) rfl)
    refine (Evl.ev_op (H := H) (x := .ref A) (z := .ref a) (Evl.ev_var rfl) (Evl.ev_op (ix0 (Evl.Ex.refl _) rfl) Evl.ev_c Evl.rv_I0) (Evl.rv_ixL (Evl.sq_of hA) at1)) H (Evl.Ex.refl _) _ fun H1 e1 => ⟨.inl ⟨rfl, _, Evl.sq_of (e1 _ _ hr1)⟩, ?_⟩
    refine (ix1 (G := H1) e1 rfl) H1 (Evl.Ex.refl _) _ fun H2 e2 => ⟨.int o, rfl, a, ns.map V.int, x.2, .int o, rfl, rfl, e2 _ _ (e1 _ _ hr1), by rw [List.length_map, sizeLine_eq]; omega, hx2, by omega, ?_⟩
    have e4 : (put x.2.toNat o ns).map V.int = (ns.map V.int).take x.2.toNat ++ [.int o] ++ (ns.map V.int).drop x.2.toNat := by
      unfold put
      rw [List.map_append, List.map_append, List.map_take, List.map_drop]
      rfl
    have := q H2 (e1.trans e2)
    rw [e4] at this
    exact this
end
end P05
end S_Dz
section S_Xj
namespace EnL
open PySem PySem.Spec PyProof.Rows L2 Tl Hk
/-! ### what can be shown -/
structure Sh (c k : Nat) (d : PyData) : Prop where
  ok : d.showable = true
  nd : d.hasDict = false
  deep : d.depth ≤ k
  len : d.shown.length ≤ c
theorem pile_le : ∀ {ts : List Str} {c : Nat}, (∀ t ∈ ts, t.length ≤ c) → piled ts ≤ ts.length * (c + 2)
  | [], c, _ => Nat.zero_le _
  | t :: r, c, h => by
    have h1 := h t List.mem_cons_self
    have h2 := pile_le (ts := r) (c := c) fun u hu => h u (List.mem_cons_of_mem _ hu)
    rw [List.length_cons, Nat.succ_mul]
    show t.length + 2 + piled r ≤ _
    omega
theorem tup_le {ts : List Str} {c : Nat} (h : ∀ t ∈ ts, t.length ≤ c) : (tupleText ts).length ≤ ts.length * (c + 2) + 3 := by
  unfold tupleText
  rw [strLen_append, strLen_append]
  have e1 : (("(" : String) : Str).length = 1 := rfl
  have e2 : (((if ts.length == 1 then ",)" else ")" : String)) : Str).length ≤ 2 := by split <;> decide
  have e3 : (Str.join ", " ts).length ≤ piled ts := by
    cases ts with
    | nil => exact Nat.le_refl _
    | cons t r => have := join_length_add (t :: r) (by simp); omega
  have := pile_le h
  omega
theorem show_all : ∀ {ds : List PyData}, (∀ d ∈ ds, d.showable = true) → PyData.showableAll ds = true
  | [], _ => rfl
  | d :: r, h => by
    show (d.showable && PyData.showableAll r) = true
    rw [h d List.mem_cons_self, show_all fun x hx => h x (List.mem_cons_of_mem _ hx)] <;> rfl
theorem nd_all : ∀ {ds : List PyData}, (∀ d ∈ ds, d.hasDict = false) → PyData.hasDictAll ds = false
  | [], _ => rfl
  | d :: r, h => by
    show (d.hasDict || PyData.hasDictAll r) = false
    rw [h d List.mem_cons_self, nd_all fun x hx => h x (List.mem_cons_of_mem _ hx)] <;> rfl
theorem deepAll : ∀ {ds : List PyData} {k : Nat}, (∀ d ∈ ds, d.depth ≤ k) → PyData.depthAll ds ≤ k
  | [], k, _ => Nat.zero_le _
  | d :: r, k, h => by
    unfold PyData.depthAll
    have h1 := h d List.mem_cons_self
    have h2 := deepAll (ds := r) (k := k) fun x hx => h x (List.mem_cons_of_mem _ hx)
    omega
theorem Sh.le {c k c' k' : Nat} {d : PyData} (h : Sh c k d) (h1 : c ≤ c') (h2 : k ≤ k') : Sh c' k' d := ⟨h.ok, h.nd, Nat.le_trans h.deep h2, Nat.le_trans h.len h1⟩
theorem sh_int {x : Int} (h : x.natAbs ≤ 64) : Sh 66 1 (.int x) := by
  refine ⟨decide_eq_true (Nat.lt_of_le_of_lt (Nat.log2_le_self _) (by omega)), rfl, by unfold PyData.depth; omega, ?_⟩
  have b1 := len_str_of_int x
  show (Str.ofString (toString x)).length ≤ 66
  omega
theorem sh_bl (b : Bool) : Sh 66 1 (.bool b) := by
  refine ⟨rfl, rfl, by unfold PyData.depth; omega, ?_⟩
  cases b <;> decide +kernel
theorem sh_tup {c k m C : Nat} {ds : List PyData} (h : ∀ d ∈ ds, Sh c k d) (hl : ds.length ≤ m) (hC : m * (c + 2) + 3 ≤ C) : Sh C (k + 1) (.tuple ds) := by
  refine ⟨show_all fun d hd => (h d hd).ok, nd_all fun d hd => (h d hd).nd, Nat.succ_le_succ (deepAll fun d hd => (h d hd).deep), ?_⟩
  show (tupleText (PyData.shownAll ds)).length ≤ _
  rw [shownAll_eq]
  have h2 := tup_le (ts := ds.map PyData.shown) (c := c) fun t ht => by
    obtain ⟨d, hd, rfl⟩ := List.mem_map.mp ht
    exact (h d hd).len
  rw [List.length_map] at h2
  have := Nat.mul_le_mul hl (Nat.le_refl (c + 2))
  omega
theorem sh_lst {c k m C : Nat} {ds : List PyData} (h : ∀ d ∈ ds, Sh c k d) (hl : ds.length ≤ m) (hC : m * (c + 2) + 3 ≤ C) : Sh C (k + 1) (.list ds) := by
  refine ⟨show_all fun d hd => (h d hd).ok, nd_all fun d hd => (h d hd).nd, Nat.succ_le_succ (deepAll fun d hd => (h d hd).deep), ?_⟩
  show (listText (PyData.shownAll ds)).length ≤ _
  rw [shownAll_eq]
  have h2 := listText_le (ts := ds.map PyData.shown) (c := c) fun t ht => by
    obtain ⟨d, hd, rfl⟩ := List.mem_map.mp ht
    exact (h d hd).len
  rw [List.length_map] at h2
  have := Nat.mul_le_mul hl (Nat.le_refl (c + 2))
  omega
/-- a row of small ints -/
theorem sh_row {ns : List Int} (h : ns.length ≤ 64) (h2 : ∀ x ∈ ns, x.natAbs ≤ 64) : Sh 4400 2 (.tuple (ns.map PyData.int)) := sh_tup (c := 66) (m := 64) (fun d hd => by
  obtain ⟨x, hx, rfl⟩ := List.mem_map.mp hd
  exact sh_int (h2 x hx)) (by rw [List.length_map]; exact h) (by decide)
theorem sh_rowL {ns : List Int} (h : ns.length ≤ 64) (h2 : ∀ x ∈ ns, x.natAbs ≤ 64) : Sh 4400 2 (.list (ns.map PyData.int)) := sh_lst (c := 66) (m := 64) (fun d hd => by
  obtain ⟨x, hx, rfl⟩ := List.mem_map.mp hd
  exact sh_int (h2 x hx)) (by rw [List.length_map]; exact h) (by decide)
/-! ### a value told as data -/
section
open Evl
variable {K : PySem.W.Frag} {σ : L2.St} {G : Hp} {te : TE} {ta : TA} {d : PyData} {ds : List PyData}
def EvD (K : PySem.W.Frag) (te : TE) (σ : L2.St) (G : Hp) (d : PyData) : Prop := ∀ H1, Ex G H1 → ∀ Q : VK, (∀ v H2, Ex H1 H2 → Dp K H2 v d → Q v H2) → te σ H1 Q
def EvAD (K : PySem.W.Frag) (ta : TA) (σ : L2.St) (G : Hp) (ds : List PyData) : Prop := ∀ H1, Ex G H1 → ∀ Q : List V → Hp → Prop, (∀ vs H2, Ex H1 H2 → DpAll K H2 vs ds → Q vs H2) → ta σ H1 Q
theorem dpAll_len : ∀ {H : Hp} {vs : List V} {ds : List PyData}, DpAll K H vs ds → vs.length = ds.length
  | _, _, _, .nil => rfl
  | _, _, _, .cons _ a => by rw [List.length_cons, List.length_cons, dpAll_len a]
theorem ev_up {v : V} {H : Hp} (h : Ev te σ G v) (e : Ex G H) : Ev te σ H v := fun H1 e1 => h H1 (e.trans e1)
theorem ed_nil : EvAD K tNil σ G [] := fun H1 e Q q => q [] H1 (Ex.refl H1) .nil
theorem ed_cons {tr : TA} (h : EvD K te σ G d) (hr : EvAD K tr σ G ds) : EvAD K (tCons te tr) σ G (d :: ds) := fun H1 e Q q => h H1 e _ fun v H2 e2 hv => hr H2 (e.trans e2) _ fun vs H3 e3 hs => q (v :: vs) H3 (e2.trans e3) (.cons (dp_ex e3 hv) hs)
theorem ed_v {v : V} (h : Ev te σ G v) (hd : Dp K G v d) : EvD K te σ G d := fun H1 e Q q => h H1 e Q fun H2 e2 => q v H2 e2 (dp_ex (e.trans e2) hd)
theorem ed_u {xs : List V} (h : EvU te σ G xs) (hd : DpAll K G xs ds) : EvD K te σ G (.tuple ds) := fun H1 e Q q => h H1 e Q fun p H2 hp e2 h2 => q _ H2 e2 (.tup (st_of h2) (dpa_ex (e.trans e2) hd))
theorem ed_l {xs : List V} (h : EvL te σ G xs) (hd : DpAll K G xs ds) : EvD K te σ G (.list ds) := fun H1 e Q q => h H1 e Q fun p H2 hp e2 h2 => q _ H2 e2 (.lst (sq_of h2) (dpa_ex (e.trans e2) hd))
theorem ed_lst (h : EvAD K ta σ G ds) (hn : ds.length ≤ 100000) : EvD K (tLst ta) σ G (.list ds) := fun H1 e Q q => h H1 e _ fun vs H2 e2 h2 =>
  ⟨by rw [sizeLine_eq, dpAll_len h2]; omega, fun p hp => q _ _ (e2.trans (Ex.new hp)) (.lst (sq_of upd_same) (dpa_ex (Ex.new hp) h2))⟩
theorem ed_tup (h : EvAD K ta σ G ds) (hn : ds.length ≤ 100000) : EvD K (tTup ta) σ G (.tuple ds) := fun H1 e Q q => h H1 e _ fun vs H2 e2 h2 =>
  ⟨by rw [sizeLine_eq, dpAll_len h2]; omega, fun p hp => q _ _ (e2.trans (Ex.new hp)) (.tup (st_of upd_same) (dpa_ex (Ex.new hp) h2))⟩
theorem dpa_ints {H : Hp} : ∀ ns : List Int, DpAll K H (ns.map V.int) (ns.map PyData.int)
  | [] => .nil
  | x :: r => .cons (.int x) (dpa_ints r)
theorem ev_reprV {c k : Nat} (h : EvD K te σ G d) (hr : ∀ v H, Dp K H v d → ∃ a, v = .ref a) (s : Sh c k d) (hc : c ≤ 1000000) (hk : k ≤ 20) : Ev (tCB (rReprX K) (tCons te tNil)) σ G (.str d.shown) := fun H1 e Q q => h H1 e _ fun v H2 e2 hv => by
  obtain ⟨a, rfl⟩ := hr v H2 hv
  exact .inl (.inl ⟨a, d, rfl, hv, s.ok, s.nd, Nat.le_trans s.deep hk, Nat.le_trans s.len (by rw [sizeLine_eq]; omega), q H2 e2⟩)
theorem dp_lst {v : V} {H : Hp} (h : Dp K H v (.list ds)) : ∃ a, v = .ref a := by
  cases h with
  | lst h a => exact ⟨_, rfl⟩
theorem dp_tup {v : V} {H : Hp} (h : Dp K H v (.tuple ds)) : ∃ a, v = .ref a := by
  cases h with
  | tup h a => exact ⟨_, rfl⟩
theorem ev_reprL {c k : Nat} (h : EvD K te σ G (.list ds)) (s : Sh c k (.list ds)) (hc : c ≤ 1000000) (hk : k ≤ 20) : Ev (tCB (rReprX K) (tCons te tNil)) σ G (.str (PyData.list ds).shown) := ev_reprV h (fun _ _ => dp_lst) s hc hk
theorem ev_reprU {c k : Nat} (h : EvD K te σ G (.tuple ds)) (s : Sh c k (.tuple ds)) (hc : c ≤ 1000000) (hk : k ≤ 20) : Ev (tCB (rReprX K) (tCons te tNil)) σ G (.str (PyData.tuple ds).shown) := ev_reprV h (fun _ _ => dp_tup) s hc hk
/-- [x] * 2 -/
theorem ed_two (h : EvD K te σ G d) : EvD K (tOp rRep (tLst (tCons te tNil)) (tC (.int 2))) σ G (.list [d, d]) := fun H1 e Q q => h H1 e _ fun v H2 e2 hv => by
  refine ⟨by show 1 ≤ sizeLine; decide, fun p hp => ⟨p, 2, [v], rfl, rfl, upd_same, by decide, by decide, by show 1 * 2 ≤ _; decide, fun b hb => ?_⟩⟩
  have e3 := (Ex.new (o := .lst [v]) hp).trans (Ex.new (o := .lst [v, v]) hb)
  exact q _ _ (e2.trans e3) (.lst (sq_of upd_same) (.cons (dp_ex e3 hv) (.cons (dp_ex e3 hv) .nil)))
end
end EnL
end S_Xj
section S_Xk
namespace EnL
open PySem PySem.Spec PyProof.Rows L2 Tl Hk
section
open Evl
variable {K : PySem.W.Frag} {σ : L2.St} {H : Hp}
/-- a comprehension with a test that is known, whose items are new -/
theorem en_lcI {β : Type} {wi : TI} {g : TG} {tt : TT} {te : TE} {vs : List Nat} {n : Nat} {Y : Nat → Hp → V → Hp → Prop} {s : Nat → L2.St → L2.St} (hw : EvI wi σ H n Y) (aim : Aims g n Y s) (hs : ∀ i, wipe (s i (wipe σ vs)) vs = wipe σ vs) (hn : n ≤ 90000)
    (f : Nat → Bool) (b : Nat → β) (Rb : β → V → Hp → Prop) (ht : ∀ i, i < n → EvT tt (s i (wipe σ vs)) H (f i)) (he : ∀ i, i < n → f i = true → EvN te (s i (wipe σ vs)) H (Rb (b i))) : EvNL (tLc wi g tt te vs) σ H (Row2 Rb (part f b n)) := fun H1 e Q q =>
  hw H1 e _ fun J G H2 e2 w sG D hD => lc_it w (fun i H' => Ex H2 H' ∧ ∃ acc, H' D = some (.lst acc) ∧ acc.length = (part f b i).length ∧ acc.length ≤ i ∧ ∀ (k : Nat) (d : β) (v : V), (part f b i)[k]? = some d → acc[k]? = some v → ∀ H3, Ex H H3 → (∀ a o, a ≠ D → H1 a = none → H' a = some o → H3 a = some o) → Rb d v H3)
    ⟨Ex.new hD, [], upd_same, rfl, Nat.le_refl _, fun k d v h => by simp [Tl.part] at h⟩ (fun i H' _ p => sG H' ((e.trans e2).trans p.1) fun a o _ ha => p.1 _ _ ha)
    (fun i x A B hi p y => by
      obtain ⟨p1, acc, p3, p4, pl, p5⟩ := p
      obtain ⟨ab, k⟩ := aim i (wipe σ vs) A x B hi y
      refine k _ ⟨hs i, ?_⟩
      have hHB : Ex H B := ((e.trans e2).trans p1).trans ab
      refine ht i hi B hHB _ fun H6 e6 => ?_
      have hH6 := hHB.trans e6
      have p16 := (p1.trans ab).trans e6
      have old : ∀ (k : Nat) (d : β) (v : V), (part f b i)[k]? = some d → acc[k]? = some v → ∀ H3, Ex H H3 → (∀ a o, a ≠ D → H1 a = none → H6 a = some o → H3 a = some o) → Rb d v H3 := fun k d v h1 h2 H3 h3 keep => p5 k d v h1 h2 H3 h3 fun a o hne hn ha => keep a o hne hn (e6 _ _ (ab _ _ ha))
      rw [part_succ]
      cases hf : f i with
      | false =>
        rw [if_neg (show ¬ (false = true) by decide), if_neg (show ¬ (false = true) by decide), List.append_nil]
        exact ⟨p16, acc, e6 _ _ (ab _ _ p3), p4, by omega, old⟩
      | true =>
        rw [if_pos rfl, if_pos rfl]
        refine he i hi hf H6 hH6 _ fun v C eC hv => ⟨acc, eC _ _ (e6 _ _ (ab _ _ p3)), sz_lt (by omega), (p16.trans eC).mut hD, acc ++ [v], upd_same, by rw [List.length_append, List.length_append, p4] <;> rfl, by rw [List.length_append] <;> exact Nat.succ_le_succ pl, fun k d u hd hk H3 h3 keep => ?_⟩
        have at4 : ∀ a o, a ≠ D → H1 a = none → C a = some o → H3 a = some o := fun a o hne hn hc => keep a o hne hn (by rw [upd_ne hne]; exact hc)
        rcases snoc_at hk with ⟨hlt, hk⟩ | ⟨rfl, rfl⟩
        · rw [p4] at hlt
          rw [List.getElem?_append_left hlt] at hd
          exact old k d u hd hk H3 h3 fun a o hne hn ha => at4 a o hne hn (eC _ _ ha)
        · rw [p4, List.getElem?_append_right (Nat.le_refl _), Nat.sub_self] at hd
          cases hd
          refine hv H3 h3 fun a o hb hc => at4 a o (fun z => ?_) (fresh_back ((e2.trans p16)) hb) hc
          rw [z, e6 _ _ (ab _ _ p3)] at hb
          cases hb)
    (fun H' p => by
      obtain ⟨p1, acc, p3, p4, _, p5⟩ := p
      exact q D acc H' (fresh_back e2 hD) (e2.trans p1) p3 fun H3 h3 keep => ⟨p4, fun k d v hd hv => p5 k d v hd hv H3 h3 keep⟩)
theorem dpa_row2 {β : Type} {d : β → PyData} {Rb : β → V → Hp → Prop} {H : Hp} (h : ∀ b v, Rb b v H → Dp K H v (d b)) : ∀ {bs : List β} {xs : List V}, Row2 Rb bs xs H → DpAll K H xs (bs.map d)
  | [], [], _ => .nil
  | [], _ :: _, r => by cases r.1
  | _ :: _, [], r => by cases r.1
  | b :: bs, x :: xs, r => .cons (h b x (r.2 0 b x rfl rfl)) (dpa_row2 h (bs := bs) (xs := xs) ⟨Nat.succ.inj r.1, fun k d v h1 h2 => r.2 (k + 1) d v h1 h2⟩)
end
end EnL
end S_Xk
section S_Ea
namespace P05
open PySem PySem.Spec PyProof.Rows L2 Tl Hk LamX EnL
/-! ### a tie between corners -/
abbrev nBr : List Str := ["carousel", "turns", "ones", "others", "some", "one", "other"]
theorem scBr : FnScope nBr ["carousel", "turns", "ones", "others"] (defScope sLBridged) := ⟨rfl, rfl, rfl, by decide +kernel, rfl, by decide +kernel, by decide +kernel⟩
def Br (ts : List (List Int)) (v : V) (H : Hp) : Prop := ∃ (a b1 b2 : Addr) (x1 x2 : Sd), v = .ref a ∧ H a = some (.tup [.ref b1, .ref b2]) ∧ H b1 = some (.tup [.int x1.1, .int x1.2]) ∧ H b2 = some (.tup [.int x2.1, .int x2.2]) ∧ Cr ts x1 ∧ Cr ts x2 ∧ x1.1 ≠ x2.1 ∧ x2.1 ∉ ts.getD (x1.1 - 1).toNat []
theorem Br.ex {ts : List (List Int)} {v : V} {H H' : Hp} (h : Br ts v H) (e : Evl.Ex H H') : Br ts v H' := by
  obtain ⟨a, b1, b2, x1, x2, h1, h2, h3, h4, h5⟩ := h
  exact ⟨a, b1, b2, x1, x2, h1, e _ _ h2, e _ _ h3, e _ _ h4, h5⟩
theorem br_data {K : PySem.W.Frag} {ts : List (List Int)} {H : Hp} : ∀ {xs : List V}, (∀ v ∈ xs, Br ts v H) → ∃ ds, DpAll K H xs ds ∧ (∀ d ∈ ds, d.canLay0 = true ∧ d.depth ≤ 5) ∧ ds.isEmpty = xs.isEmpty
  | [], _ => ⟨[], .nil, (fun d h => nomatch h), rfl⟩
  | v :: xs, h => by
    obtain ⟨ds, h1, h2, _⟩ := br_data (K := K) fun u hu => h u (List.mem_cons_of_mem _ hu)
    obtain ⟨a, b1, b2, x1, x2, rfl, e1, e2, e3, _⟩ := h v List.mem_cons_self
    refine ⟨.tuple [sdD x1, sdD x2] :: ds, .cons (.tup (Evl.st_of e1) (.cons (.tup (Evl.st_of e2) (.cons (.int _) (.cons (.int _) .nil))) (.cons (.tup (Evl.st_of e3) (.cons (.int _) (.cons (.int _) .nil))) .nil))) h1, fun d hd => ?_, rfl⟩
    rcases List.mem_cons.mp hd with rfl | hd
    · exact ⟨rfl, by simp [PyData.depth, PyData.depthAll]⟩
    · exact h2 d hd
def spBridged : Sp := fun vs H Q _ => ∃ (t c A M1 M2 : Addr) (as : List Addr) (ts : List (List Int)) (n : Nat) (q1 q2 : List Sd) (H0 : Hp), vs = [.ref t, .ref A, .ref M1, .ref M2] ∧ Web0 H0 H t c A as ts n ∧ (∃ k, Tub H0 t c k) ∧ n ≤ 900000 ∧ OkT ts ∧ ts.length ≤ 8 ∧ PairsAt H M1 q1 ∧ PairsAt H M2 q2 ∧
  (∀ q ∈ q1, Cr ts q) ∧ (∀ q ∈ q2, Cr ts q) ∧ q1.length ≤ 65 ∧ q2.length ≤ 65 ∧ ∀ b ts' G, Web0 H0 G t c A as ts' (n + 1) → OkT ts' → ts'.length = ts.length → (ts.map List.length).sum ≤ (ts'.map List.length).sum → Q (.bl b) G
theorem part_len {β : Type} (f : Nat → Bool) (b : Nat → β) (n : Nat) : (Tl.part f b n).length ≤ n := by
  unfold Tl.part
  rw [List.length_map]
  exact Nat.le_trans (List.length_filter_le _ _) (by rw [List.length_range]; exact Nat.le_refl _)
theorem part_mem {β : Type} {f : Nat → Bool} {b : Nat → β} {n : Nat} {x : β} (h : x ∈ Tl.part f b n) : ∃ j, j < n ∧ f j = true ∧ x = b j := by
  unfold Tl.part at h
  obtain ⟨j, hj, rfl⟩ := List.mem_map.mp h
  obtain ⟨h1, h2⟩ := List.mem_filter.mp hj
  exact ⟨j, List.mem_range.mp h1, h2, rfl⟩
theorem sum_set : ∀ {ts : List (List Int)} {i : Nat} {ns ms : List Int}, ts[i]? = some ns → ns.length ≤ ms.length → (ts.map List.length).sum ≤ ((ts.set i ms).map List.length).sum
  | [], _, _, _, h, _ => by simp at h
  | a :: r, 0, ns, ms, h, hl => by
    cases h
    show a.length + (r.map List.length).sum ≤ ms.length + (r.map List.length).sum
    omega
  | a :: r, i + 1, ns, ms, h, hl => by
    have := sum_set (ts := r) (i := i) (by simpa using h) hl
    show a.length + (r.map List.length).sum ≤ a.length + ((r.set i ms).map List.length).sum
    omega
section
variable {P : Program} {w : World} {K : PySem.W.Frag} {mg : Str → Option Value} {base : Heap}
set_option maxHeartbeats 4000000 in
theorem ok_bridged {f fP fT : Addr} {fd fdP fdT : FuncData} {k : Nat} (F : Fun K "_law_bridged" "_law_bridged" sLBridged f fd)
    (FP : Fun K "_law_pick" "_law_pick" sPick fP fdP) (GP : FnOk P w K mg base CX0 k fP fdP ["carousel", "some"] (spPick K)) (bP : Binds K fdP ["carousel", "some"] []) (gP : mg "_law_pick" = some (.ref fP))
    (FT : Fun K "_law_put" "_law_put" sLPut fT fdT) (GT : FnOk P w K mg base CX0 k fT fdT ["turns", "corner", "place"] spPut) (bT : Binds K fdT ["turns", "corner", "place"] []) (gT : mg "_law_put" = some (.ref fT)) :
    FnOk P w K mg base CX0 (k + 1) f fd ["carousel", "turns", "ones", "others"] spBridged := by
  refine F.ok scBr (fun vs H Q E h => ?_) (fun cdv A0 outer s H vs Q E hr h => ?_)
  · obtain ⟨t, c, A, M1, M2, as, ts, n, q1, q2, H0, rfl, _⟩ := h
    rfl
  · obtain ⟨t, c, A, M1, M2, as, ts, n, q1, q2, H0, rfl, w0, T0, hn, hT, h8, hP1, hP2, hC1, hC2, hl1, hl2, q⟩ := h
    have nd := scBr.nd
    refine ⟨_, pss_cons (ps_set (i := 4) nd rfl (.inl rfl) (pe_lst pa_nil))
      (pss_cons (ps_for PassesOwn.never rfl (pi_list (pv 2)) (pg_name (i := 5) nd rfl (Or.inr rfl))
        (pss_one (ps_set (i := 4) nd rfl (.inl rfl) (pe_op op_cat (pv 4)
          (pe_lc (own := [("other", 6)]) (g := gName 6) (tt := tAnd (tTest (tOp rNe (tOp (rIxT K) (tVar 5) (tC (.int 0))) (tOp (rIxT K) (tVar 6) (tC (.int 0))))) (tTest (tOp (rIn K true) (tOp (rIxT K) (tVar 6) (tC (.int 0))) (tOp (rIxL K) (tVar 1) (tOp (rI0 fun i j => .int (i - j)) (tOp (rIxT K) (tVar 5) (tC (.int 0))) (tC (.int 1)))))))
            (te := tTup (tCons (tVar 5) (tCons (tVar 6) tNil))) rfl nd (pi_list (pv 3)) (blkOk_by (N := nBr) (sc := defScope sLBridged) (by decide +kernel)) (fun _ _ _ _ _ => pg_name (i := 6) nd rfl (Or.inl rfl))
            (fun _ _ _ _ _ => pts_one (PW.pt (pw_and (pt_cmpR op_ne (pe_ix ix_tup (pv 5) pe_int (fun _ _ => rfl)) (pe_ix ix_tup (pv 6) pe_int (fun _ _ => rfl)) (nomark _)) (pw_and1 (pt_cmpR op_notIn_seq (pe_ix ix_tup (pv 6) pe_int (fun _ _ => rfl)) (pe_ix ix_list (pv 1) (pe_op op_sub (pe_ix ix_tup (pv 5) pe_int (fun _ _ => rfl)) pe_int) (fun _ _ => rfl)) (by with_unfolding_all rfl))))))
            (fun _ _ _ _ _ => pe_tup (pa_cons (pv 5) (pa_cons (pv 6) pa_nil))))))))
      (pss_cons (ps_if (pt_cmpR (op_eqD hr.units) (pv 4) (pe_lst pa_nil) (nomark _)) (pss_one (ps_ret pe_bl)) pss_nil)
      (pss_cons (ps_asg (pe_call GP hr (by rfl) gP FP.kp bP .nil pass0 (pa_cons (pv 0) (pa_cons (pv 4) pa_nil))) (pg_tup (by rfl) (pgs_cons (pg_name (i := 5) nd rfl (Or.inr rfl)) (pgs_cons (pg_name (i := 6) nd rfl (Or.inl rfl)) pgs_nil))))
      (pss_cons (ps_expr (pe_call GT hr (by rfl) gT FT.kp bT .nil pass0 (pa_cons (pv 1) (pa_cons (pv 5) (pa_cons (pe_ix ix_tup (pv 6) pe_int (fun _ _ => rfl)) pa_nil)))))
      (pss_cons (ps_expr (pe_call GT hr (by rfl) gT FT.kp bT .nil pass0 (pa_cons (pv 1) (pa_cons (pv 6) (pa_cons (pe_ix ix_tup (pv 5) pe_int (fun _ _ => rfl)) pa_nil)))))
      (pss_one (ps_ret pe_bl))))))), ?_⟩
    obtain ⟨bs1, hL1, hb1l, hb1⟩ := hP1
    obtain ⟨bs2, hL2, hb2l, hb2⟩ := hP2
    refine Evl.q_asgL (xs := []) (Evl.el_lst Evl.ea_nil (Nat.zero_le _)) fun p0 H1 hp0 e1 h1 => ?_
    dsimp only
    have g1 : ∀ {j : Nat} {x : Sd}, q2[j]? = some x → q2.getD j (0, 0) = x := fun h => by rw [List.getD_eq_getElem?_getD, h]; rfl
    refine q_forI (B := H1) (ei_list (K := K) (Evl.ev_var (i := 2) rfl) (Evl.sq_of (e1 _ _ hL1))) (aims_at (j := 5)) (Evl.Ex.refl _)
      (fun H2 i σ' H' => ∃ y5 y6 p xs, σ' = [some (.ref t), some (.ref A), some (.ref M1), some (.ref M2), some (.ref p), y5, y6] ∧ Evl.Ex H2 H' ∧ H' p = some (.lst xs) ∧ xs.length ≤ 65 * i ∧ ∀ v ∈ xs, Br ts v H')
      (fun H2 e2 => ⟨none, none, p0, [], rfl, Evl.Ex.refl _, e2 _ _ h1, Nat.zero_le _, fun v h => nomatch h⟩) (fun H2 i σ' H' e2 _ ⟨_, _, _, _, _, e3, _⟩ => ⟨e2.trans e3, fun b u _ hu => e3 _ _ hu⟩) ?_ ?_
    · rintro H2 i σ' H3 H4 e2 hi ⟨y5, y6, p, xs, rfl, e3, hp, hxl, hxs⟩ e4
      rw [List.length_map] at hi
      obtain ⟨b1, x1, hb, hx⟩ := both_at hb1l hi
      rw [refs_getD hb]
      have eAll : Evl.Ex H H4 := ((e1.trans e2).trans e3).trans e4
      have w4 := w0.ex T0 eAll
      have hb1H := eAll _ _ (hb1 i b1 x1 hb hx)
      have hc1 := hC1 x1 (List.mem_of_getElem? hx)
      obtain ⟨r1, _, ns, hns, _⟩ := id hc1
      obtain ⟨a, ha⟩ : ∃ a, as[(x1.1 - 1).toNat]? = some a := ⟨_, List.getElem?_eq_getElem (by rw [w4.len]; exact (List.getElem?_eq_some_iff.mp hns).1)⟩
      obtain ⟨_, _, hrow⟩ := w4.row _ a ns ha hns
      have en : ts.getD (x1.1 - 1).toNat [] = ns := by rw [List.getD_eq_getElem?_getD, hns]; rfl
      have at1 : atI (as.map V.ref) (x1.1 - 1) = some (.ref a) := by
        rw [show x1.1 - 1 = (((x1.1 - 1).toNat : Nat) : Int) by omega]
        exact atI_nat (by rw [List.getElem?_map, ha]; rfl)
      refine asg_last (op_go ⟨.ref p, rfl, ?_⟩)
      refine (en_lcI (H := H4) (f := fun j => !decide (x1.1 = (q2.getD j (0, 0)).1) && !decide ((q2.getD j (0, 0)).1 ∈ ns)) (b := fun j => q2.getD j (0, 0)) (Rb := fun x2 v H' => ∃ a b2, v = .ref a ∧ H' a = some (.tup [.ref b1, .ref b2]) ∧ H' b2 = some (.tup [.int x2.1, .int x2.2])) (ei_list (K := K) (Evl.ev_var (i := 3) rfl) (Evl.sq_of (eAll _ _ hL2))) (aims_at (j := 6)) (fun _ => rfl) (by rw [List.length_map]; omega) (fun j hj => ?_) fun j hj hf => ?_) H4 (Evl.Ex.refl _) _ fun r ys H5 hr' e5 h5 hrows => ?_
      · rw [List.length_map] at hj
        obtain ⟨b2, x2, hbb, hxx⟩ := both_at hb2l hj
        have hb2H := eAll _ _ (hb2 j b2 x2 hbb hxx)
        rw [g1 hxx]
        have i5 : ∀ {σ : L2.St}, σ[5]? = some (some (.ref b1)) → Evl.Ev (tOp (rIxT K) (tVar 5) (tC (.int 0))) σ H4 (.int x1.1) := fun h => Evl.ev_op (Evl.ev_var h) Evl.ev_c (Evl.rv_ixT (Evl.st_of hb1H) rfl)
        have i6 : ∀ {σ : L2.St}, σ[6]? = some (some (.ref b2)) → Evl.Ev (tOp (rIxT K) (tVar 6) (tC (.int 0))) σ H4 (.int x2.1) := fun h => Evl.ev_op (Evl.ev_var h) Evl.ev_c (Evl.rv_ixT (Evl.st_of hb2H) rfl)
        refine Evl.et_and (Evl.et_is (Evl.et_test (Evl.ev_op (i5 rfl) (i6 (congrArg some (congrArg some (refs_getD hbb)))) (Evl.rv_ne rfl))) (congrArg _ (decide_eq_decide.mpr ⟨fun z => V.int.inj z, fun z => by rw [z]⟩))) fun _ => Evl.et_is (Evl.et_test (Evl.ev_op (i6 (congrArg some (congrArg some (refs_getD hbb)))) (Evl.ev_op (x := .ref A) (z := .ref a) (Evl.ev_var rfl) (Evl.ev_op (i5 rfl) Evl.ev_c Evl.rv_I0) (Evl.rv_ixL (Evl.sq_of w4.lst) at1)) (Evl.rv_niL (Evl.sq_of hrow) rfl (flat_ints _)))) ?_
        rw [in_ints]
      · rw [List.length_map] at hj
        obtain ⟨b2, x2, hbb, hxx⟩ := both_at hb2l hj
        have hb2H := eAll _ _ (hb2 j b2 x2 hbb hxx)
        rw [g1 hxx]
        refine fun H5 e Q5 q5 => (Evl.eu_tup (vs := [.ref b1, .ref b2]) (Evl.ea_cons (Evl.ev_var rfl) (Evl.ea_cons (Evl.ev_is (Evl.ev_var rfl) (refs_getD hbb)) Evl.ea_nil)) (by show 2 ≤ 100000; decide)) H5 e _ fun z H6 hz e6 h6 => q5 _ H6 e6 fun H7 h7 s7 => ⟨z, b2, rfl, s7 _ _ hz h6, h7 _ _ hb2H⟩
      · have hys := hrows H5 e5 fun _ _ _ _ h => h
        have ly : ys.length ≤ 65 := by
          rw [hys.1]
          refine Nat.le_trans (part_len _ _ _) ?_
          rw [List.length_map]
          omega
        have hi65 : 65 * i ≤ 65 * 65 := Nat.mul_le_mul (Nat.le_refl _) (by omega)
        refine ⟨p, r, xs, ys, rfl, rfl, e5 _ _ (e4 _ _ hp), h5, by rw [sizeLine_eq]; omega, fun z hz => ?_⟩
        have eZ := Evl.Ex.new (o := .lst (xs ++ ys)) hz
        refine ⟨_, _, z, xs ++ ys, rfl, ((e3.trans e4).trans e5).trans eZ, upd_same, by rw [List.length_append]; omega, fun v hv => ?_⟩
        rcases List.mem_append.mp hv with hv | hv
        · exact (hxs v hv).ex ((e4.trans e5).trans eZ)
        · obtain ⟨j, hj⟩ := List.mem_iff_getElem?.mp hv
          have hlt := (List.getElem?_eq_some_iff.mp hj).1
          rw [hys.1] at hlt
          obtain ⟨a', b2, rfl, k1, k2⟩ := hys.2 j _ v (List.getElem?_eq_getElem hlt) hj
          obtain ⟨jj, hjj, hf, eb⟩ := part_mem (List.getElem_mem hlt)
          rw [eb] at k2
          rw [List.length_map] at hjj
          obtain ⟨_, x2, _, hxx⟩ := both_at hb2l hjj
          rw [g1 hxx] at k2 hf
          rw [Bool.and_eq_true_iff, Bool.not_eq_true', Bool.not_eq_true'] at hf
          exact ⟨a', b1, b2, x1, x2, rfl, eZ _ _ k1, eZ _ _ (e5 _ _ hb1H), eZ _ _ k2, hc1, hC2 x2 (List.mem_of_getElem? hxx), of_decide_eq_false hf.1, by rw [en]; exact of_decide_eq_false hf.2⟩
    · rintro H2 σ' H3 e2 ⟨y5, y6, p, xs, rfl, e3, hp, hxl, hxs⟩
      rw [List.length_map] at hxl
      have e03 : Evl.Ex H H3 := (e1.trans e2).trans e3
      have w3 := w0.ex T0 e03
      have hx65 : xs.length ≤ 4225 := Nat.le_trans hxl (Nat.mul_le_mul (Nat.le_refl 65) (show bs1.length ≤ 65 by omega))
      clear e1 e2 e3 h1 hp0 hxl
      obtain ⟨ds, hd1, hd2, hd3⟩ := br_data (K := K) hxs
      refine when_go (test_go (op_go ⟨.ref p, rfl, (Evl.el_lst (vs := []) Evl.ea_nil (Nat.zero_le _)) H3 (Evl.Ex.refl _) _ fun z0 H4 hz0 e4 h4 => ?_⟩))
      refine ⟨.list ds, .list [], .lst (Evl.sq_of (e4 _ _ hp)) (dpa_ex e4 hd1), .lst (Evl.sq_of h4) .nil, shaped_list (c := 5) (by decide) hd2, rfl, ?_⟩
      rw [eqv_nil, hd3]
      refine ⟨_, rfl, if_go (fun hb => q _ ts H4 ((w3.ex T0 e4).go T0 (kept_ex (Evl.Ex.refl _)) ((w3.tub.ex e4).mono (by omega))) hT rfl (Nat.le_refl _)) fun hb => ?_⟩
      have hpos : 1 ≤ xs.length := by
        cases xs with
        | nil => cases hb
        | cons a b => exact Nat.succ_le_succ (Nat.zero_le _)
      have w4 := w3.ex T0 e4
      refine q_asg1 ⟨.ref t, rfl, .ref p, rfl, t, c, p, xs, n, rfl, w4.tub, by omega, fun e => ?_, .inl (.inl (e4 _ _ hp)), hpos, by omega, fun j v G hj k T => ?_⟩
      · subst e
        obtain ⟨cs, turn, rest, ht, _⟩ := w4.tub
        rw [e4 _ _ hp] at ht
        cases ht
        obtain ⟨_, _, _, _, _, z, _⟩ := hxs (.int turn) (by simp)
        cases z
      · obtain ⟨a, b1, b2, x1, x2, rfl, ha, hb1', hb2', c1, c2, hne, hno⟩ := (hxs v (List.mem_of_getElem? hj)).ex e4
        obtain ⟨cs, turn, rest, ht, _⟩ := id w4.tub
        have nt : ∀ {z : Addr} {ys : List V}, H4 z = some (.tup ys) → z ≠ t := fun h e => by rw [e, ht] at h; cases h
        have hbG1 := k _ _ (nt hb1') hb1'
        have hbG2 := k _ _ (nt hb2') hb2'
        refine ⟨a, [.ref b1, .ref b2], rfl, Evl.st_of (k _ _ (nt ha) ha), rfl, .ref b1, _, rfl, .ref b2, _, rfl, rfl, ?_⟩
        have w5 := w4.go T0 k T
        obtain ⟨r1, r2, ns, hns, r3⟩ := c1
        obtain ⟨s1, s2, ms, hms, s3⟩ := c2
        have eN : ts.getD (x1.1 - 1).toNat [] = ns := by rw [List.getD_eq_getElem?_getD, hns]; rfl
        rw [eN] at hno
        have hi := (List.getElem?_eq_some_iff.mp hns).1
        have hj2 := (List.getElem?_eq_some_iff.mp hms).1
        have hij : (x1.1 - 1).toNat ≠ (x2.1 - 1).toNat := fun z => hne (by omega)
        obtain ⟨ai, hai⟩ : ∃ a, as[(x1.1 - 1).toNat]? = some a := ⟨_, List.getElem?_eq_getElem (by rw [w5.len]; exact hi)⟩
        obtain ⟨aj, haj⟩ : ∃ a, as[(x2.1 - 1).toNat]? = some a := ⟨_, List.getElem?_eq_getElem (by rw [w5.len]; exact hj2)⟩
        obtain ⟨_, _, hrow⟩ := w5.row _ ai ns hai hns
        have nsl := hT.short hns
        have msl := hT.short hms
        dsimp only
        refine ⟨.ref A, rfl, .ref b1, rfl, (Evl.ev_op (H := G) (z := .int x2.1) (Evl.ev_var rfl) Evl.ev_c (Evl.rv_ixT (Evl.st_of hbG2) rfl)) G (Evl.Ex.refl _) _ fun G1 e1 => ⟨A, b1, ai, as, ns, x1, x2.1, rfl, e1 _ _ w5.lst, e1 _ _ hbG1, r1, hai, e1 _ _ hrow, by omega, r2, r3, fun G2 e2 => ?_⟩⟩
        have w6 := (w5.ex T0 (e1.trans e2)).set (ns := put x1.2.toNat x2.1 ns) T0 hai hi
        have g12 := e1.trans e2
        have na : ∀ {z : Addr} {ys : List V}, G z = some (.tup ys) → z ≠ ai := fun h e => by rw [e, hrow] at h; cases h
        have hb1u : upd G2 ai (.lst ((put x1.2.toNat x2.1 ns).map V.int)) b1 = some (.tup [.int x1.1, .int x1.2]) := by rw [upd_ne (na hbG1)]; exact g12 _ _ hbG1
        have hb2u : upd G2 ai (.lst ((put x1.2.toNat x2.1 ns).map V.int)) b2 = some (.tup [.int x2.1, .int x2.2]) := by rw [upd_ne (na hbG2)]; exact g12 _ _ hbG2
        generalize upd G2 ai (.lst ((put x1.2.toNat x2.1 ns).map V.int)) = G3 at w6 hb1u hb2u
        have hms2 : (ts.set (x1.1 - 1).toNat (put x1.2.toNat x2.1 ns))[(x2.1 - 1).toNat]? = some ms := by rw [List.getElem?_set_ne hij]; exact hms
        obtain ⟨_, _, hrow2⟩ := w6.row _ aj ms haj hms2
        refine ⟨.ref A, rfl, .ref b2, rfl, (Evl.ev_op (H := G3) (z := .int x1.1) (Evl.ev_var rfl) Evl.ev_c (Evl.rv_ixT (Evl.st_of hb1u) rfl)) G3 (Evl.Ex.refl _) _ fun G4 e3 => ⟨A, b2, aj, as, ms, x2, x1.1, rfl, e3 _ _ w6.lst, e3 _ _ hb2u, s1, haj, e3 _ _ hrow2, by omega, s2, s3, fun G5 e5 => ?_⟩⟩
        have w7 := (w6.ex T0 (e3.trans e5)).set (ns := put x2.2.toNat x1.1 ms) T0 haj (by rw [List.length_set]; exact hj2)
        have hs := hT.sy.tie (r := x1.2.toNat) (s := x2.2.toNat) hij hns hms (by rw [show ((((x2.1 - 1).toNat : Nat) : Int) + 1) = x2.1 by omega]; exact hno)
        rw [show ((((x2.1 - 1).toNat : Nat) : Int) + 1) = x2.1 by omega, show ((((x1.1 - 1).toNat : Nat) : Int) + 1) = x1.1 by omega] at hs
        have hl : ((ts.set (x1.1 - 1).toNat (put x1.2.toNat x2.1 ns)).set (x2.1 - 1).toNat (put x2.2.toNat x1.1 ms)).length = ts.length := by rw [List.length_set, List.length_set]
        exact q _ _ _ w7 (hs.ok (by rw [hl]; exact hT.pos) (by rw [hl]; exact h8)) hl (Nat.le_trans (sum_set hns (by rw [(put_perm _ _ _).length_eq]; simp)) (sum_set hms2 (by rw [(put_perm _ _ _).length_eq]; simp)))
end
end P05
end S_Ea
section S_Eb
namespace P05
open PySem PySem.Spec PyProof.Rows L2 Tl Hk LamX EnL
theorem back_kept {t c a : Addr} {H H1 : Hp} (k : Kept t H H1) (T1 : ∃ n, Tub H1 t c n) (h : H1 a = none) : H a = none := by
  obtain ⟨_, T1⟩ := T1
  cases z : H a with
  | none => rfl
  | some o =>
    have := k a o (T1.ne h).1 z
    rw [h] at this
    cases this
theorem Web0.push {H0 H : Hp} {t c A a : Addr} {as : List Addr} {ts : List (List Int)} {ns : List Int} {n : Nat} (w : Web0 H0 H t c A as ts n) (T0 : ∃ k, Tub H0 t c k) (ha : H a = some (.lst (ns.map V.int))) (a0 : H0 a = none) (aA : a ≠ A) (an : a ∉ as) : Web0 H0 (upd H A (.lst (as.map V.ref ++ [.ref a]))) t c A (as ++ [a]) (ts ++ [ns]) n := by
  obtain ⟨_, T0⟩ := T0
  obtain ⟨At, Ac⟩ := T0.ne w.nA
  refine ⟨fun b o hb h => ?_, by rw [upd_same, List.map_append]; rfl, w.nA, by rw [List.length_append, List.length_append, w.len]; rfl, ?_, fun j b ms hj hm => ?_, w.tub.upd At Ac⟩
  · rw [upd_ne (fun z => by rw [z, w.nA] at h; cases h)]
    exact w.kept b o hb h
  · rw [List.nodup_append]
    refine ⟨w.nd, by simp, fun x hx y hy e => ?_⟩
    rw [List.mem_singleton.mp hy] at e
    exact an (e ▸ hx)
  · rcases Nat.lt_or_ge j as.length with z | z
    · rw [List.getElem?_append_left z] at hj
      rw [List.getElem?_append_left (by rw [← w.len]; exact z)] at hm
      obtain ⟨q1, q2, q3⟩ := w.row j b ms hj hm
      exact ⟨q1, q2, by rw [upd_ne q1]; exact q3⟩
    · rw [List.getElem?_append_right z] at hj
      rw [List.getElem?_append_right (by rw [← w.len]; exact z), ← w.len] at hm
      have e0 : j - as.length = 0 := by
        have := (List.getElem?_eq_some_iff.mp hj).1
        simp at this
        omega
      rw [e0] at hj hm
      cases hj
      cases hm
      exact ⟨aA, a0, by rw [upd_ne aA]; exact ha⟩
theorem Web0.down {H H1 G : Hp} {t c A : Addr} {as : List Addr} {ts : List (List Int)} {n : Nat} (w : Web0 H1 G t c A as ts n) (k : Kept t H H1) (T1 : ∃ n, Tub H1 t c n) : Web0 H G t c A as ts n :=
  ⟨k.trans w.kept, w.lst, back_kept k T1 w.nA, w.len, w.nd, fun i a ns h1 h2 => by
    obtain ⟨r1, r2, r3⟩ := w.row i a ns h1 h2
    exact ⟨r1, back_kept k T1 r2, r3⟩, w.tub⟩
theorem Web0.mono {H0 H : Hp} {t c A : Addr} {as : List Addr} {ts : List (List Int)} {n m : Nat} (w : Web0 H0 H t c A as ts n) (h : n ≤ m) : Web0 H0 H t c A as ts m := ⟨w.kept, w.lst, w.nA, w.len, w.nd, w.row, w.tub.mono h⟩
abbrev nRo : List Str := ["carousel", "turns", "found", "row", "at"]
theorem scRo : FnScope nRo ["carousel", "turns"] (defScope sLRolled) := ⟨rfl, rfl, rfl, by decide +kernel, rfl, by decide +kernel, by decide +kernel⟩
def spRolled : Sp := fun vs H Q _ => ∃ (t c A : Addr) (as : List Addr) (ts : List (List Int)) (n : Nat) (H0 : Hp), vs = [.ref t, .ref A] ∧ Web0 H0 H t c A as ts n ∧ (∃ k, Tub H0 t c k) ∧ n ≤ 900000 ∧ OkT ts ∧ ts.length ≤ 8 ∧
  ∀ D ds us G, Web0 H G t c D ds us (n + 8) → OkT us → us.length = ts.length → Q (.ref D) G
section
variable {P : Program} {w : World} {K : PySem.W.Frag} {mg : Str → Option Value} {base : Heap}
set_option maxHeartbeats 2000000 in
theorem ok_rolled {f fS : Addr} {fd fdS : FuncData} {k : Nat} (F : Fun K "_law_rolled" "_law_rolled" sLRolled f fd)
    (FS : Fun K "_law_spin" "_law_spin" sScoop fS fdS) (GS : FnOk P w K mg base CX0 k fS fdS ["carousel", "many"] spScoop) (bS : Binds K fdS ["carousel", "many"] []) (gS : mg "_law_spin" = some (.ref fS)) (mlen : mg "len" = none) :
    FnOk P w K mg base CX0 (k + 1) f fd ["carousel", "turns"] spRolled := by
  refine F.ok scRo (fun vs H Q E h => ?_) (fun cdv A0 outer s H vs Q E hr h => ?_)
  · obtain ⟨t, c, A, as, ts, n, H0, rfl, _⟩ := h
    rfl
  · obtain ⟨t, c, A, as, ts, n, H0, rfl, w0, T0, hn, hT, h8, q⟩ := h
    have nd := scRo.nd
    refine ⟨_, pss_cons (ps_set (i := 2) nd rfl (.inl rfl) (pe_lst pa_nil))
      (pss_cons (ps_for PassesOwn.never rfl (pi_list (pv 1)) (pg_name (i := 3) nd rfl (Or.inl rfl))
        (pss_cons (ps_set (i := 4) nd rfl (.inl rfl) (pe_call GS hr (by rfl) gS FS.kp bS .nil pass0 (pa_cons (pv 0) (pa_cons (pe_op op_add (pe_callB call_len_seq (by rfl) mlen PySem.boot_len (pa_cons (pv 3) pa_nil)) pe_int) pa_nil))))
        (pss_one (ps_expr (pe_bm PySem.F.plainAttrs_list PySem.F.slot_list_append PySem.F.type_list_append mt_append (pv 2) (pa_cons (pe_op op_cat (pe_slice sl_list (pv 3) (po_some (pv 4)) po_none) (pe_slice sl_list (pv 3) po_none (po_some (pv 4)))) pa_nil))))))
      (pss_one (ps_ret (pv 2)))), ?_⟩
    refine Evl.q_asgL (xs := []) (Evl.el_lst Evl.ea_nil (Nat.zero_le _)) fun D H1 hD e1 h1 => ?_
    dsimp only
    have TH : ∃ k, Tub H t c k := ⟨_, w0.tub⟩
    have wD : Web0 H H1 t c D [] [] n := ⟨kept_ex e1, h1, hD, rfl, List.nodup_nil, fun i a ns h => by simp at h, w0.tub.ex e1⟩
    obtain ⟨cs, turn, rest, ht, _⟩ := id w0.tub
    have nt : ∀ {z : Addr}, H0 z = none → z ≠ t := fun h e => by
      obtain ⟨_, T0⟩ := T0
      exact (T0.ne h).1 e
    have ht1 := e1 _ _ ht
    have tD : t ≠ D := fun e => by rw [e, hD] at ht; cases ht
    have aD : ∀ {z : Addr} {o : HO}, H z = some o → z ≠ D := fun h e => by rw [e, hD] at h; cases h
    have hlB := less2_at (S := t) (F := D) (e1 _ _ w0.lst) (nt w0.nA) (aD w0.lst)
    refine q_forI (B := less2 H1 t D) (ei_list (K := K) (Evl.ev_var (i := 1) rfl) (Evl.sq_of hlB)) (aims_at (j := 3)) (less2_ex fun _ _ _ _ h => h)
      (fun H2 i σ' H' => ∃ y3 y4 ds us, σ' = [some (.ref t), some (.ref A), some (.ref D), y3, y4] ∧ Web0 H H' t c D ds us (n + i) ∧ us.length = i ∧ (∀ (j : Nat) (ms : List Int), us[j]? = some ms → ∃ ns, ts[j]? = some ns ∧ ms.Perm ns) ∧ (∀ b o, b ≠ t → b ≠ D → H2 b = some o → H' b = some o))
      (fun H2 e2 => ⟨none, none, [], [], rfl, wD.ex TH e2, rfl, (fun j ms h => by simp at h), fun _ _ _ _ h => h⟩)
      (fun H2 i σ' H' e2 _ ⟨_, _, ds, us, _, w', _, _, k'⟩ => ⟨less2_ex fun b o h1 h2 h => k' b o h1 h2 (e2 _ _ h), fun b o hb h => k' b o (fun z => by rw [z, ht1] at hb; cases hb) (fun z => by rw [z, h1] at hb; cases hb) h⟩) ?_ ?_
    · rintro H2 i σ' H3 H4 e2 hi ⟨y3, y4, ds, us, rfl, w3, hul, hperm, hk⟩ e4
      rw [List.length_map] at hi
      obtain ⟨a, ns, ha, hns⟩ := both_at w0.len hi
      rw [refs_getD ha]
      obtain ⟨_, a0, hrow⟩ := w0.row i a ns ha hns
      have at_ := nt a0
      have hrow4 := e4 _ _ (hk a _ at_ (aD hrow) (e2 _ _ (e1 _ _ hrow)))
      have w4 := w3.ex TH e4
      have nsl := hT.short hns
      have hi8 : i < 8 := by have := w0.len; omega
      refine asg_go ⟨.ref t, rfl, (Evl.ev_op (Evl.ev_len (K := K) (Evl.ev_var rfl) (Evl.sq_of hrow4)) Evl.ev_c Evl.rv_I0) H4 (Evl.Ex.refl _) _ fun H5 e5 => ⟨t, c, _, n + i, rfl, w4.tub.ex e5, by omega, by omega, by rw [List.length_map]; omega, fun r H6 r0 r1 k6 T6 => ?_⟩⟩
      obtain ⟨p, rfl⟩ : ∃ p : Nat, r = (p : Int) := ⟨r.toNat, by omega⟩
      have hrow6 := k6 _ _ at_ (e5 _ _ hrow4)
      have w6 := (w4.ex TH e5).go TH k6 T6
      dsimp only
      refine ⟨.ref D, rfl, .inl ⟨rfl, _, Evl.sq_of w6.lst⟩, (el_catN (Evl.el_sl (K := K) (Evl.ev_var rfl) (Evl.eo_some (Evl.ev_var rfl)) Evl.eo_none (Evl.sq_of hrow6)) (Evl.el_sl (K := K) (Evl.ev_var rfl) Evl.eo_none (Evl.eo_some (Evl.ev_var rfl)) (Evl.sq_of hrow6)) (by rw [cutFrom, cutTo', List.length_drop, List.length_take, List.length_map]; omega)) H6 (Evl.Ex.refl _) _ fun z H7 hz e7 h7 => ?_⟩
      rw [cutFrom, cutTo', ← List.map_drop, ← List.map_take, ← List.map_append] at h7
      have w7 := w6.ex TH e7
      have zD : z ≠ D := fun e => by rw [e, w6.lst] at hz; cases hz
      have zds : z ∉ ds := fun h => by
        obtain ⟨j, hj⟩ := List.mem_iff_getElem?.mp h
        have hjl := (List.getElem?_eq_some_iff.mp hj).1
        have := (w6.row j z _ hj (List.getElem?_eq_getElem (by rw [← w6.len]; exact hjl))).2.2
        rw [hz] at this
        cases this
      have z0 : H z = none := back_kept w6.kept ⟨_, w6.tub⟩ hz
      refine ⟨D, ds.map V.ref, .ref z, rfl, rfl, w7.lst, by rw [List.length_map, sizeLine_eq, w7.len]; omega, ?_⟩
      have w8 := w7.push TH h7 z0 zD zds
      refine ⟨_, _, ds ++ [z], us ++ [ns.drop p ++ ns.take p], rfl, w8.mono (by omega), by rw [List.length_append, hul]; rfl, fun j ms hm => ?_, fun b o hb hb2 h => ?_⟩
      · rcases Nat.lt_or_ge j us.length with hj | hj
        · rw [List.getElem?_append_left hj] at hm
          exact hperm j ms hm
        · rw [List.getElem?_append_right hj] at hm
          have e0 : j - us.length = 0 := by
            have := (List.getElem?_eq_some_iff.mp hm).1
            simp at this
            omega
          rw [e0] at hm
          cases hm
          have : j = i := by omega
          subst this
          exact ⟨ns, hns, List.perm_append_comm.trans (by rw [List.take_append_drop])⟩
      · rw [upd_ne hb2]
        exact e7 _ _ (k6 _ _ hb (e5 _ _ (e4 _ _ (hk b o hb hb2 h))))
    · rintro H2 σ' H3 e2 ⟨y3, y4, ds, us, rfl, w3, hul, hperm, _⟩
      rw [List.length_map, w0.len] at hul
      rw [List.length_map, w0.len] at w3
      exact Evl.s_ret (Evl.ev_var rfl) fun H4 e4 => q D ds us H4 ((w3.ex TH e4).mono (by omega)) ((hT.sy.rows hul hperm).ok (by rw [hul]; exact hT.pos) (by rw [hul]; exact h8)) hul
end
end P05
end S_Eb
section S_Wj
namespace Hk
open PySem PySem.Spec PyProof.Rows L2 Tl RZ
theorem walk_zipT {K : PySem.W.Frag} {a b : Addr} {xs ys : List V} {n : Nat} (hn : n = min xs.length ys.length) : Walk (ItzT K a b) n (fun H => SqT K H a xs ∧ SqT K H b ys) (YPair (fun i => xs[i]?) (fun i => ys[i]?)) := by
  subst hn
  refine ⟨fun i _ hi ⟨q1, q2⟩ => ?_, fun _ ⟨q1, q2⟩ => ⟨xs, ys, q1, q2, by omega⟩, fun i H v H' _ ⟨q1, q2⟩ ⟨T, x, z, z1, z2, z3, z4, z5⟩ => ⟨T, x, z, z1, z2, z3, z4 xs q1, z5 ys q2⟩⟩
  have l1 : i < xs.length := by omega
  have l2 : i < ys.length := by omega
  exact ⟨xs, ys, xs[i], ys[i], q1, q2, by simp [l1], by simp [l2]⟩
theorem aims_pair {K : PySem.W.Frag} {xs ys : List V} {n j1 j2 : Nat} : Aims (gTup K 2 (gCons (gName j1) (gCons (gName j2) gNil))) n (YPair (fun i => xs[i]?) (fun i => ys[i]?))
    (fun i σ => (σ.set j1 (some (xs.getD i .non))).set j2 (some (ys.getD i .non))) := fun i σ H v H' hi y => by
  obtain ⟨T, x, y, rfl, hT, rfl, h1, h2⟩ := y
  have h1 : xs[i]? = some x := h1
  have h2 : ys[i]? = some y := h2
  obtain rfl : xs.getD i .non = x := by rw [List.getD_eq_getElem?_getD, h1]; rfl
  obtain rfl : ys.getD i .non = y := by rw [List.getD_eq_getElem?_getD, h2]; rfl
  exact ⟨Evl.Ex.new hT, fun Q q => ⟨T, _, rfl, Evl.st_of upd_same, rfl, _, _, rfl, _, _, rfl, rfl, q⟩⟩
section
open Evl
variable {K : PySem.W.Frag} {σ : L2.St} {H : Hp} {ta tb te : TE}
theorem ei_zipL {a : Addr} {xs ys : List V} {n : Nat} (hn : n = min xs.length ys.length) (h : Ev ta σ H (.ref a)) (hx : SqL K H a xs) (h2 : EvL tb σ H ys) : EvI (iZipA K (tCons ta (tCons tb tNil))) σ H n (YPair (fun i => xs[i]?) (fun i => ys[i]?)) := fun H1 e R k =>
  h H1 e _ fun H2 e2 => h2 H2 (e.trans e2) _ fun p H3 hp e3 h3 => ⟨a, p, xs, ys, rfl, .inl ⟨ex_l ((e.trans e2).trans e3) hx, sq_of h3, k _ _ H3 (e2.trans e3) (walk_zip hn) fun A ab s => ⟨ex_l ab hx, sq_of (s p _ (fresh_back e2 hp) h3)⟩⟩⟩
theorem ei_zipT {a : Addr} {xs ys : List V} {n : Nat} (hn : n = min xs.length ys.length) (h : Ev ta σ H (.ref a)) (hx : SqT K H a xs) (h2 : EvU tb σ H ys) : EvI (iZipA K (tCons ta (tCons tb tNil))) σ H n (YPair (fun i => xs[i]?) (fun i => ys[i]?)) := fun H1 e R k =>
  h H1 e _ fun H2 e2 => h2 H2 (e.trans e2) _ fun p H3 hp e3 h3 => ⟨a, p, xs, ys, rfl, .inr ⟨ex_t ((e.trans e2).trans e3) hx, st_of h3, k _ _ H3 (e2.trans e3) (walk_zipT hn) fun A ab s => ⟨ex_t ab hx, st_of (s p _ (fresh_back e2 hp) h3)⟩⟩⟩
/-- a tuple's items from the second on: a new tuple -/
theorem eu_slFrom1 {tl : TO} {a : Addr} {xs : List V} (h : Ev te σ H (.ref a)) (h2 : EvO tl σ H (some (1 : Int))) (hs : SqT K H a xs) (hn : 1 ≤ xs.length) : EvU (tSl (rSlA K) te tl tNoPart) σ H (xs.drop 1) := fun H1 e Q q =>
  h H1 e _ fun H2 e2 => h2 H2 (e.trans e2) _ fun H4 e4 => by
    have ec : cutV xs (some ((1 : Nat) : Int)) none = xs.drop 1 := by
      unfold cutV
      rw [HT.sIx_nat, HT.sIx_none, Nat.min_eq_left hn, List.take_of_length_le (by rw [List.length_drop]; omega)]
    refine ⟨a, xs, rfl, ex_t ((e.trans e2).trans e4) hs, fun hw => ?_, fun _ p hp => ?_⟩
    · have e1 := hw.1
      rw [show (1 : Int) = ((1 : Nat) : Int) from rfl, HT.sIx_nat, Nat.min_eq_left hn] at e1
      exact absurd e1 (by decide)
    · rw [show (1 : Int) = ((1 : Nat) : Int) from rfl, ec]
      exact q p _ (fresh_back (e2.trans e4) hp) ((e2.trans e4).trans (Ex.new hp)) upd_same
end
section
variable {t : TT} {tu tw : TS} {D : Ends} {σ : L2.St} {H : Hp}
/-- a for over a range that may be empty, its bound below 0 -/
theorem s_forR1n {ta : TA} {j : Nat} {n : Int} (h : Evl.EvA ta σ H [.int n]) (hn : -100000 ≤ n ∧ n ≤ 100000) (Pv : Nat → L2.St → Hp → Prop) (h0 : ∀ H1, Evl.Ex H H1 → Pv 0 σ H1)
    (hs : ∀ (i : Nat) σ' H', (i : Int) < n → Pv i σ' H' → tu { D with nx := Pv (i + 1), ct := Pv (i + 1), bk := D.nx } (σ'.set j (some (.int (i : Int)))) H') (hd : ∀ σ' H', Pv n.toNat σ' H' → D.nx σ' H') : tFor (iRng1 ta) (gName j) tu D σ H :=
  h H (Evl.Ex.refl H) _ fun G e => ⟨n, rfl, by omega, by omega, for_range (lo := 0) (n := n.toNat) Pv (h0 G e) (fun i σ1 G1 hi p => by
    have z : (0 : Int) + (i : Int) = (i : Int) := Int.zero_add _
    show tu { D with nx := Pv (i + 1), ct := Pv (i + 1), bk := D.nx } (σ1.set j (some (.int ((0 : Int) + (i : Int))))) G1
    rw [z]
    exact hs i σ1 G1 (by omega) p) hd⟩
theorem q_forR1n {tz : TS} {ta : TA} {j : Nat} {n : Int} (h : Evl.EvA ta σ H [.int n]) (hn : -100000 ≤ n ∧ n ≤ 100000) (Pv : Nat → L2.St → Hp → Prop) (h0 : ∀ H1, Evl.Ex H H1 → Pv 0 σ H1)
    (hs : ∀ (i : Nat) σ' H', (i : Int) < n → Pv i σ' H' → tu { D with nx := Pv (i + 1), ct := Pv (i + 1), bk := tz D } (σ'.set j (some (.int (i : Int)))) H') (hd : ∀ σ' H', Pv n.toNat σ' H' → tz D σ' H') : tSeq (tFor (iRng1 ta) (gName j) tu) tz D σ H :=
  s_forR1n (D := { D with nx := tz D }) h hn Pv h0 hs hd
end
end Hk
end S_Wj
section S_Ec
namespace P05
open PySem PySem.Spec PyProof.Rows L2 Tl Hk LamX EnL
/-! ### grown turns -/
abbrev nGr : List Str := ["carousel", "many", "ties", "handles", "turns", "count", "place", "corner", "turn", "corners", "faces", "one", "other"]
theorem scGr : FnScope nGr ["carousel", "many", "ties", "handles"] (defScope sLGrown) := ⟨rfl, rfl, rfl, by decide +kernel, rfl, by decide +kernel, by decide +kernel⟩
def spGrown : Sp := fun vs H Q _ => ∃ (t c : Addr) (many ties handles : Nat) (n : Nat), vs = [.ref t, .int (many : Int), .int (ties : Int), .int (handles : Int)] ∧ Tub H t c n ∧ n ≤ 800000 ∧ 1 ≤ many ∧ many ≤ 8 ∧ ties ≤ 5 ∧ handles ≤ 3 ∧
  ∀ p D ds us cnt G, Web0 H G t c D ds us (n + 60) → OkT us → us.length ≤ 8 → G p = some (.tup [.ref D, .int cnt]) → Q (.ref p) G
/-- one place, or some tie -/
def Tied (ts : List (List Int)) : Prop := ts.length = 1 ∨ 1 ≤ (ts.map List.length).sum
theorem Tied.faces {ts : List (List Int)} (h : Tied ts) (hT : OkT ts) {seen : List Sd} {cs : List (List Sd)} (r : Rnd ts (sidesL ts) seen cs) : 1 ≤ (facesV ts cs).length := by
  unfold facesV
  by_cases h1 : ts.length = 1
  · rw [if_pos h1]
    exact Nat.le_refl _
  · rw [if_neg h1, List.length_map]
    rcases Nat.eq_zero_or_pos cs.length with z | z
    · have := rnd_len hT r
      rw [List.length_eq_zero_iff.mp z] at this
      have h2 := h.resolve_left h1
      rw [sides_len] at this
      have : 0 = (ts.map List.length).sum := this
      omega
    · exact z
theorem face_fits {ts : List (List Int)} {cs : List (List Sd)} {seen : List Sd} (hT : OkT ts) (h8 : ts.length ≤ 8) (r : Rnd ts (sidesL ts) seen cs) {fs : List Int} (h : fs ∈ facesV ts cs) : fs.length ≤ 64 ∧ (fs = [] ∨ ∃ c, Cyc ts c ∧ fs = faceOf c) := by
  unfold facesV at h
  by_cases h1 : ts.length = 1
  · rw [if_pos h1] at h
    rw [List.mem_singleton.mp h]
    exact ⟨by decide, .inl rfl⟩
  · rw [if_neg h1] at h
    obtain ⟨c, hc, rfl⟩ := List.mem_map.mp h
    have hcy := (r.good c hc).1
    refine ⟨?_, .inr ⟨c, hcy, rfl⟩⟩
    rw [List.length_map]
    exact Nat.le_trans (nodup_le hcy.nd fun s hs => (side_mem hT).mp (hcy.side s hs)) (sides_small hT h8)
theorem Tub.neL {H : Hp} {t c D : Addr} {n : Nat} {bs : List Addr} (T : Tub H t c n) (h : H D = some (.lst (bs.map V.ref))) : D ≠ t := fun z => by
  obtain ⟨cs, turn, rest, ht, _⟩ := T
  rw [z, ht] at h
  have h1 : [V.ref c, .int turn, .int rest] = bs.map V.ref := HO.lst.inj (Option.some.inj h)
  have h2 := congrArg (fun l : List V => l[1]?) h1
  simp only [List.getElem?_map] at h2
  cases hb : bs[1]? with
  | none => rw [hb] at h2; cases h2
  | some b => rw [hb] at h2; cases h2
theorem faces_few {ts : List (List Int)} {cs : List (List Sd)} {seen : List Sd} (hT : OkT ts) (h8 : ts.length ≤ 8) (hR : Rnd ts (sidesL ts) seen cs) : (facesV ts cs).length ≤ 500 := by
  have hs := sides_small hT h8
  unfold facesV
  split
  · decide
  · rw [List.length_map]
    have h1 : cs.length ≤ (cs.map List.length).sum := by
      have hg := fun c hc => (hR.good c hc).1.ne
      clear hR
      induction cs with
      | nil => exact Nat.zero_le _
      | cons c r ih =>
        have h2 := ih fun d hd => hg d (List.mem_cons_of_mem _ hd)
        have h3 : 1 ≤ c.length := by
          cases c with
          | nil => exact absurd rfl (hg [] List.mem_cons_self)
          | cons a b => exact Nat.succ_le_succ (Nat.zero_le _)
        rw [List.map_cons, List.sum_cons, List.length_cons]
        omega
    rw [rnd_len hT hR] at h1
    omega
section
open Evl
variable {K : PySem.W.Frag} {σ : L2.St} {G : Hp} {Q : VK}
abbrev tCor (K : PySem.W.Frag) : TE := tCall spCorners [] E0 (tCons (tVar 4) (tCons (tCall (spPick K) [] E0 (tCons (tVar 0) (tCons (tCall spLFaces [] E0 (tCons (tVar 4) tNil)) tNil))) tNil))
/-- corners of a face that is drawn -/
theorem go_cor {H0 : Hp} {t c A : Addr} {as : List Addr} {ts : List (List Int)} {n : Nat} (h0 : σ[0]? = some (some (.ref t))) (h4 : σ[4]? = some (some (.ref A))) (w : Web0 H0 G t c A as ts n) (T0 : ∃ k, Tub H0 t c k) (hn : n ≤ 900000) (hT : OkT ts) (h8 : ts.length ≤ 8) (hd : Tied ts)
    (q : ∀ D qs G', Web0 H0 G' t c A as ts (n + 1) → PairsAt G' D qs → (∀ x ∈ qs, Cr ts x) → qs ≠ [] → qs.length ≤ 65 → Q (.ref D) G') : tCor K σ G Q := by
  have hs := sides_small hT h8
  obtain ⟨seen, cs, hr, hR⟩ := run_all hT (fu := 500) (by omega)
  have llOf : ∀ {G : Hp} {n : Nat}, Web0 H0 G t c A as ts n → LL G A ts := fun w => ⟨as, w.lst, w.len, fun j b ns hb hn => (w.row j b ns hb hn).2.2⟩
  refine ⟨.ref A, h4, .ref t, h0, .ref A, h4, A, ts, seen, cs, rfl, llOf w, hT, by omega, hr, fun F fa G1 e1 nF hF hrow => ?_⟩
  have w1 := w.ex T0 e1
  have hfl := hd.faces hT hR
  have hlen : fa.length ≤ 500 := by
    rw [hrow.1]
    unfold facesV
    split
    · decide
    · rw [List.length_map]
      have h1 : cs.length ≤ (cs.map List.length).sum := by
        have hg := fun c hc => (hR.good c hc).1.ne
        clear hR hr hrow hfl
        induction cs with
        | nil => exact Nat.zero_le _
        | cons c r ih =>
          have h2 := ih fun d hd => hg d (List.mem_cons_of_mem _ hd)
          have h3 : 1 ≤ c.length := by
            cases c with
            | nil => exact absurd rfl (hg [] List.mem_cons_self)
            | cons a b => exact Nat.succ_le_succ (Nat.zero_le _)
          rw [List.map_cons, List.sum_cons, List.length_cons]
          omega
      rw [rnd_len hT hR] at h1
      omega
  refine ⟨t, c, F, fa.map V.ref, n, rfl, w1.tub, by omega, (w.tub.ne nF).1, .inl (.inl hF), by rw [List.length_map, hrow.1]; exact hfl, by rw [List.length_map]; omega, fun j v G2 hj k2 T2 => ?_⟩
  have w2 := w1.go T0 k2 T2
  rw [List.getElem?_map] at hj
  obtain ⟨f, hf, rfl⟩ := Option.map_eq_some_iff.mp hj
  obtain ⟨_, fs, _, hfs⟩ := both_at hrow.1 (List.getElem?_eq_some_iff.mp hf).1
  have hft := hrow.2 j f fs hf hfs
  obtain ⟨z1, z2⟩ := face_fits hT h8 hR (List.mem_of_getElem? hfs)
  obtain ⟨cs', turn, rest, ht, _⟩ := id w1.tub
  have hft2 := k2 _ _ (fun e => by rw [e, ht] at hft; cases hft) hft
  exact ⟨A, f, ts, fs, rfl, llOf w2, hT, hft2, by omega, z2, fun D qs G3 e3 hP hC hne hl => q D qs G3 (w2.ex T0 e3) hP hC hne (by omega)⟩
end
section
variable {P : Program} {w : World} {K : PySem.W.Frag} {mg : Str → Option Value} {base : Heap}
set_option maxHeartbeats 4000000 in
theorem ok_grown {f fF fC fP fT fB fS fR : Addr} {fd fdF fdC fdP fdT fdB fdS fdR : FuncData} {k : Nat} (F : Fun K "_law_grown" "_law_grown" sLGrown f fd)
    (FF : Fun K "_law_faces" "_law_faces" sLFaces fF fdF) (GF : FnOk P w K mg base CX0 k fF fdF ["turns"] spLFaces) (bF : Binds K fdF ["turns"] []) (gF : mg "_law_faces" = some (.ref fF))
    (FC : Fun K "_law_corners" "_law_corners" sLCorners fC fdC) (GC : FnOk P w K mg base CX0 k fC fdC ["turns", "face"] spCorners) (bC : Binds K fdC ["turns", "face"] []) (gC : mg "_law_corners" = some (.ref fC))
    (FP : Fun K "_law_pick" "_law_pick" sPick fP fdP) (GP : FnOk P w K mg base CX0 k fP fdP ["carousel", "some"] (spPick K)) (bP : Binds K fdP ["carousel", "some"] []) (gP : mg "_law_pick" = some (.ref fP))
    (FT : Fun K "_law_put" "_law_put" sLPut fT fdT) (GT : FnOk P w K mg base CX0 k fT fdT ["turns", "corner", "place"] spPut) (bT : Binds K fdT ["turns", "corner", "place"] []) (gT : mg "_law_put" = some (.ref fT))
    (FB : Fun K "_law_bridged" "_law_bridged" sLBridged fB fdB) (GB : FnOk P w K mg base CX0 k fB fdB ["carousel", "turns", "ones", "others"] spBridged) (bB : Binds K fdB ["carousel", "turns", "ones", "others"] []) (gB : mg "_law_bridged" = some (.ref fB))
    (FS : Fun K "_law_spin" "_law_spin" sScoop fS fdS) (GS : FnOk P w K mg base CX0 k fS fdS ["carousel", "many"] spScoop) (bS : Binds K fdS ["carousel", "many"] []) (gS : mg "_law_spin" = some (.ref fS))
    (FR : Fun K "_law_rolled" "_law_rolled" sLRolled fR fdR) (GR : FnOk P w K mg base CX0 k fR fdR ["carousel", "turns"] spRolled) (bR : Binds K fdR ["carousel", "turns"] []) (gR : mg "_law_rolled" = some (.ref fR))
    (mlen : mg "len" = none) (mrange : mg "range" = none) : FnOk P w K mg base CX0 (k + 1) f fd ["carousel", "many", "ties", "handles"] spGrown := by
  refine F.ok scGr (fun vs H Q E h => ?_) (fun cdv A0 outer s H vs Q E hr h => ?_)
  · obtain ⟨t, c, many, ties, handles, n, rfl, _⟩ := h
    rfl
  · obtain ⟨t, c, many, ties, handles, n, rfl, T0, hn, m1, m8, t5, h3, q⟩ := h
    have nd := scGr.nd
    refine ⟨_, pss_cons (ps_par (i := 4) (j := 5) (by rfl) nd rfl rfl (by decide) rfl rfl (pa_cons (pe_lst (pa_cons (pe_lst pa_nil) pa_nil)) (pa_cons pe_int pa_nil)) (by rfl))
      (pss_cons (ps_for PassesOwn.never rfl (pi_range2 (by rfl) mrange (pa_cons pe_int (pa_cons (pe_op op_add (pv 1) pe_int) pa_nil))) (pg_name (i := 6) nd rfl (Or.inl rfl))
        (pss_cons (ps_set (i := 7) nd rfl (.inl rfl) (pe_call GP hr (by rfl) gP FP.kp bP .nil pass0 (pa_cons (pv 0) (pa_cons (pe_call GC hr (by rfl) gC FC.kp bC .nil pass0 (pa_cons (pv 4) (pa_cons (pe_call GP hr (by rfl) gP FP.kp bP .nil pass0 (pa_cons (pv 0) (pa_cons (pe_call GF hr (by rfl) gF FF.kp bF .nil pass0 (pa_cons (pv 4) pa_nil)) pa_nil))) pa_nil))) pa_nil))))
        (pss_cons (ps_expr (pe_call GT hr (by rfl) gT FT.kp bT .nil pass0 (pa_cons (pv 4) (pa_cons (pv 7) (pa_cons (pv 6) pa_nil)))))
        (pss_one (ps_expr (pe_bm PySem.F.plainAttrs_list PySem.F.slot_list_append PySem.F.type_list_append mt_append (pv 4) (pa_cons (pe_lst (pa_cons (pe_ix ix_tup (pv 7) pe_int (fun _ _ => rfl)) pa_nil)) pa_nil)))))))
      (pss_cons (ps_for PassesOwn.never rfl (pi_range1 (by rfl) mrange (pa_cons (pv 2) pa_nil)) (pg_name (i := 8) nd rfl (Or.inl rfl))
        (pss_cons (ps_set (i := 9) nd rfl (.inl rfl) (pe_call GC hr (by rfl) gC FC.kp bC .nil pass0 (pa_cons (pv 4) (pa_cons (pe_call GP hr (by rfl) gP FP.kp bP .nil pass0 (pa_cons (pv 0) (pa_cons (pe_call GF hr (by rfl) gF FF.kp bF .nil pass0 (pa_cons (pv 4) pa_nil)) pa_nil))) pa_nil))))
        (pss_one (ps_expr (pe_call GB hr (by rfl) gB FB.kp bB .nil pass0 (pa_cons (pv 0) (pa_cons (pv 4) (pa_cons (pv 9) (pa_cons (pv 9) pa_nil)))))))))
      (pss_cons (ps_for PassesOwn.never rfl (pi_range1 (by rfl) mrange (pa_cons (pv 3) pa_nil)) (pg_name (i := 8) nd rfl (Or.inl rfl))
        (pss_cons (ps_set (i := 10) nd rfl (.inl rfl) (pe_call GF hr (by rfl) gF FF.kp bF .nil pass0 (pa_cons (pv 4) pa_nil)))
        (pss_cons (ps_par (i := 11) (j := 12) (by rfl) nd rfl rfl (by decide) rfl rfl (pa_cons (pe_call GS hr (by rfl) gS FS.kp bS .nil pass0 (pa_cons (pv 0) (pa_cons (pe_callB call_len_seq (by rfl) mlen PySem.boot_len (pa_cons (pv 10) pa_nil)) pa_nil))) (pa_cons (pe_call GS hr (by rfl) gS FS.kp bS .nil pass0 (pa_cons (pv 0) (pa_cons (pe_callB call_len_seq (by rfl) mlen PySem.boot_len (pa_cons (pv 10) pa_nil)) pa_nil))) pa_nil)) (by rfl))
        (pss_one (ps_if (PW.pt (pw_and (pt_cmpR op_ne (pv 11) (pv 12) (nomark _)) (pw_and1 (pt_val (pe_call GB hr (by rfl) gB FB.kp bB .nil pass0 (pa_cons (pv 0) (pa_cons (pv 4) (pa_cons (pe_call GC hr (by rfl) gC FC.kp bC .nil pass0 (pa_cons (pv 4) (pa_cons (pe_ix ix_list (pv 10) (pv 11) (fun _ _ => rfl)) pa_nil))) (pa_cons (pe_call GC hr (by rfl) gC FC.kp bC .nil pass0 (pa_cons (pv 4) (pa_cons (pe_ix ix_list (pv 10) (pv 12) (fun _ _ => rfl)) pa_nil))) pa_nil))))))))) 
          (pss_one (ps_set (i := 5) nd rfl (.inl rfl) (pe_op op_add (pv 5) pe_int))) pss_nil)))))
      (pss_one (ps_ret (pe_tup (pa_cons (pe_call GR hr (by rfl) gR FR.kp bR .nil pass0 (pa_cons (pv 0) (pa_cons (pv 4) pa_nil))) (pa_cons (pv 5) pa_nil)))))))), ?_⟩
    have TT0 : ∃ k, Tub H t c k := ⟨_, T0⟩
    refine ⟨Nat.zero_le _, fun a ha => ⟨by show 1 ≤ sizeLine; rw [sizeLine_eq]; decide, fun A hA => ⟨_, _, rfl, ?_⟩⟩⟩
    have aA : a ≠ A := fun z => by rw [z, upd_same] at hA; cases hA
    have nA : H A = none := by rw [upd_ne aA.symm] at hA; exact hA
    have w0 : Web0 H (upd (upd H a (.lst [])) A (.lst [.ref a])) t c A [a] [[]] n := by
      refine ⟨kept_ex ((Evl.Ex.new ha).trans (Evl.Ex.new hA)), upd_same, nA, rfl, by simp, fun i b ns h1 h2 => ?_, (T0.ex (Evl.Ex.new ha)).ex (Evl.Ex.new hA)⟩
      cases i with
      | zero =>
        cases h1
        cases h2
        exact ⟨aA, ha, by rw [upd_ne aA, upd_same]; rfl⟩
      | succ i => simp at h1
    have hT0 : OkT [[]] := by
      refine Sy.ok ⟨fun i ns h => ?_, fun i ns o h ho => ?_⟩ (Nat.le_refl _) (by decide)
      · cases i with
        | zero => cases h; exact ⟨List.nodup_nil, (fun x hx => nomatch hx), fun z => nomatch z⟩
        | succ i => simp at h
      · cases i with
        | zero => cases h; cases ho
        | succ i => simp at h
    dsimp only
    generalize upd (upd H a (.lst [])) A (.lst [.ref a]) = H1 at w0
    clear ha hA
    refine Evl.q_forR2 (lo := 2) (n := (many : Int) + 1) (Evl.ea_cons Evl.ev_c (Evl.ea_cons (Evl.ev_op (Evl.ev_var rfl) Evl.ev_c Evl.rv_I0) Evl.ea_nil)) ⟨by omega, by omega, by omega, by omega⟩
      (fun i σ' H' => ∃ y6 y7 y8 y9 y10 y11 y12 as ts, σ' = [some (.ref t), some (.int (many : Int)), some (.int (ties : Int)), some (.int (handles : Int)), some (.ref A), some (.int 0), y6, y7, y8, y9, y10, y11, y12] ∧ Web0 H H' t c A as ts (n + 2 * i) ∧ OkT ts ∧ Tied ts ∧ ts.length = i + 1)
      (fun H2 e2 => ⟨none, none, none, none, none, none, none, [a], [[]], rfl, w0.ex TT0 e2, hT0, .inl rfl, rfl⟩) ?_ ?_
    · rintro i σ' H2 hi ⟨y6, y7, y8, y9, y10, y11, y12, as, ts, rfl, w2, hT2, hd2, hl2⟩
      have i8 : i < 7 := by omega
      refine asg_go ⟨.ref t, rfl, go_cor rfl rfl w2 TT0 (by omega) hT2 (by omega) hd2 fun D qs G3 w3 hP hC hne hql => ?_⟩
      obtain ⟨bs, hD, hbl, hb⟩ := hP
      obtain ⟨cs0, turn0, rest0, ht0, _⟩ := id w3.tub
      have hq1 : 1 ≤ qs.length := by
        cases qs with
        | nil => exact absurd rfl hne
        | cons a b => exact Nat.succ_le_succ (Nat.zero_le _)
      refine ⟨t, c, D, bs.map V.ref, n + 2 * i + 1, rfl, w3.tub, by omega, w3.tub.neL hD, .inl (.inl hD), by rw [List.length_map, hbl]; exact hq1, by rw [List.length_map, hbl]; omega, fun j v G4 hj k4 T4 => ?_⟩
      rw [List.getElem?_map] at hj
      obtain ⟨b, hbj, rfl⟩ := Option.map_eq_some_iff.mp hj
      obtain ⟨_, x, _, hx⟩ := both_at hbl (List.getElem?_eq_some_iff.mp hbj).1
      have hbt := hb j b x hbj hx
      have hb4 := k4 _ _ (fun z => by rw [z, ht0] at hbt; cases hbt) hbt
      have w4 := w3.go TT0 k4 T4
      obtain ⟨x1, x2, ns, hns, x3⟩ := hC x (List.mem_of_getElem? hx)
      have hxi := (List.getElem?_eq_some_iff.mp hns).1
      obtain ⟨aj, haj⟩ : ∃ a, as[(x.1 - 1).toNat]? = some a := ⟨_, List.getElem?_eq_getElem (by rw [w4.len]; exact hxi)⟩
      obtain ⟨_, _, hrow⟩ := w4.row _ aj ns haj hns
      have nsl := hT2.short hns
      dsimp only
      refine ⟨.ref A, rfl, .ref b, rfl, .int (2 + (i : Int)), rfl, A, b, aj, as, ns, x, 2 + (i : Int), rfl, w4.lst, hb4, x1, haj, hrow, by omega, x2, x3, fun G5 e5 => ?_⟩
      have w5 := (w4.ex TT0 e5).set (ns := put x.2.toNat (2 + (i : Int)) ns) TT0 haj hxi
      have hb5 : upd G5 aj (.lst ((put x.2.toNat (2 + (i : Int)) ns).map V.int)) b = some (.tup [.int x.1, .int x.2]) := by rw [upd_ne (fun z => by rw [z, hrow] at hb4; cases hb4)]; exact e5 _ _ hb4
      generalize upd G5 aj (.lst ((put x.2.toNat (2 + (i : Int)) ns).map V.int)) = G6 at w5 hb5
      refine ⟨.ref A, rfl, .inl ⟨rfl, _, Evl.sq_of w5.lst⟩, (Evl.el_lst (vs := [.int x.1]) (Evl.ea_cons (Evl.ev_op (Evl.ev_var rfl) Evl.ev_c (Evl.rv_ixT (Evl.st_of hb5) rfl)) Evl.ea_nil) (by show 1 ≤ 100000; decide)) G6 (Evl.Ex.refl _) _ fun z G7 hz e7 h7 => ?_⟩
      have w7 := w5.ex TT0 e7
      have zA : z ≠ A := fun e => by rw [e, w5.lst] at hz; cases hz
      have zas : z ∉ as := fun h => by
        obtain ⟨m, hm⟩ := List.mem_iff_getElem?.mp h
        have hml := (List.getElem?_eq_some_iff.mp hm).1
        have := (w5.row m z _ hm (List.getElem?_eq_getElem (by rw [← w5.len]; exact hml))).2.2
        rw [hz] at this
        cases this
      have z0 : H z = none := back_kept w5.kept ⟨_, w5.tub⟩ hz
      refine ⟨A, as.map V.ref, .ref z, rfl, rfl, w7.lst, by rw [List.length_map, sizeLine_eq, w4.len]; omega, ?_⟩
      have w8 := w7.push (ns := [x.1]) TT0 h7 z0 zA zas
      have hg := hT2.sy.grow x1 hns
      rw [show ((ts.length : Int) + 1) = 2 + (i : Int) by omega] at hg
      have hl9 : (ts.set (x.1 - 1).toNat (put x.2.toNat (2 + (i : Int)) ns) ++ [[x.1]]).length = i + 1 + 1 := by rw [List.length_append, List.length_set, hl2]; rfl
      refine ⟨_, _, _, _, _, _, _, _, _, rfl, w8.mono (by omega), hg.ok (by omega) (by omega), .inr ?_, hl9⟩
      rw [List.map_append, List.sum_append]
      show 1 ≤ _ + (1 + 0)
      omega
    rintro σ1 H2 ⟨y6, y7, y8, y9, y10, y11, y12, as2, ts2, rfl, w2, hT2, hd2, hl2⟩
    have hl2' : ts2.length = many := by omega
    refine q_forR1n (n := (ties : Int)) (Evl.ea_cons (Evl.ev_var rfl) Evl.ea_nil) ⟨by omega, by omega⟩
      (fun i σ' H' => ∃ y6 y7 y8 y9 y10 y11 y12 as ts, σ' = [some (.ref t), some (.int (many : Int)), some (.int (ties : Int)), some (.int (handles : Int)), some (.ref A), some (.int 0), y6, y7, y8, y9, y10, y11, y12] ∧ Web0 H H' t c A as ts (n + 14 + 2 * i) ∧ OkT ts ∧ Tied ts ∧ ts.length = many)
      (fun H3 e3 => ⟨y6, y7, y8, y9, y10, y11, y12, as2, ts2, rfl, (w2.ex TT0 e3).mono (by omega), hT2, hd2, hl2'⟩) ?_ ?_
    · clear w2 hT2 hd2 hl2 hl2' w0 hT0
      rintro i σ' H3 hi ⟨y6, y7, y8, y9, y10, y11, y12, as, ts, rfl, w3, hT3, hd3, hl3⟩
      refine asg_go (go_cor rfl rfl w3 TT0 (by omega) hT3 (by omega) hd3 fun D qs G4 w4 hP hC hne hql => ?_)
      dsimp only
      refine ⟨.ref t, rfl, .ref A, rfl, .ref D, rfl, .ref D, rfl, t, c, A, D, D, as, ts, _, qs, qs, H, rfl, w4, TT0, by omega, hT3, by omega, hP, hP, hC, hC, hql, hql, fun b ts' G5 w5 hT5 hl5 hs5 => ?_⟩
      exact ⟨_, _, _, _, _, _, _, as, ts', rfl, w5.mono (by omega), hT5, hd3.imp (fun z => by rw [hl5]; exact z) (fun z => Nat.le_trans z hs5), by rw [hl5]; exact hl3⟩
    clear w2 hT2 hd2 hl2 hl2' w0 hT0
    rintro σ1 H3 ⟨y6, y7, y8, y9, y10, y11, y12, as3, ts3, rfl, w3, hT3, hd3, hl3⟩
    refine q_forR1n (n := (handles : Int)) (Evl.ea_cons (Evl.ev_var rfl) Evl.ea_nil) ⟨by omega, by omega⟩
      (fun i σ' H' => ∃ cnt y6 y7 y8 y9 y10 y11 y12 as ts, σ' = [some (.ref t), some (.int (many : Int)), some (.int (ties : Int)), some (.int (handles : Int)), some (.ref A), some (.int cnt), y6, y7, y8, y9, y10, y11, y12] ∧ Web0 H H' t c A as ts (n + 24 + 3 * i) ∧ OkT ts ∧ Tied ts ∧ ts.length = many)
      (fun H4 e4 => ⟨0, y6, y7, y8, y9, y10, y11, y12, as3, ts3, rfl, (w3.ex TT0 e4).mono (by omega), hT3, hd3, hl3⟩) ?_ ?_
    · clear w3 hT3 hd3 hl3
      rintro i σ' H4 hi ⟨cnt, y6, y7, y8, y9, y10, y11, y12, as, ts, rfl, w4, hT, hd, hl⟩
      have hs := sides_small hT (by omega)
      obtain ⟨seen, cs, hr, hR⟩ := run_all hT (fu := 500) (by omega)
      have llOf : ∀ {G : Hp} {n : Nat}, Web0 H G t c A as ts n → LL G A ts := fun w => ⟨as, w.lst, w.len, fun j b ns hb hn => (w.row j b ns hb hn).2.2⟩
      refine asg_go ⟨.ref A, rfl, A, ts, seen, cs, rfl, llOf w4, hT, by omega, hr, fun F fa G1 e1 nF hF hrow => ?_⟩
      have w5 := w4.ex TT0 e1
      have hfl := hd.faces hT hR
      have hlen := faces_few hT (by omega) hR
      rw [← hrow.1] at hfl hlen
      obtain ⟨cs0, turn0, rest0, ht0, _⟩ := id w5.tub
      have Ft : F ≠ t := w5.tub.neL hF
      dsimp only
      refine par_go (cons_any ⟨.ref t, rfl, (Evl.ev_len (K := K) (Evl.ev_var rfl) (Evl.sq_of hF)) G1 (Evl.Ex.refl _) _ fun G2 e2 => ⟨t, c, _, _, rfl, w5.tub.ex e2, by omega, by rw [List.length_map]; omega, by rw [List.length_map]; omega, fun r G3 r0 r1 k3 T3 => cons_any ?_⟩⟩)
      have hF3 := k3 _ _ Ft (e2 _ _ hF)
      refine ⟨.ref t, rfl, (Evl.ev_len (K := K) (Evl.ev_var rfl) (Evl.sq_of hF3)) G3 (Evl.Ex.refl _) _ fun G4 e4 => ⟨t, c, _, _, rfl, T3.ex e4, by omega, by rw [List.length_map]; omega, by rw [List.length_map]; omega, fun s G5 s0 s1 k5 T5 => ⟨_, _, rfl, ?_⟩⟩⟩
      have hF5 := k5 _ _ Ft (e4 _ _ hF3)
      have w6 := ((w5.ex TT0 e2).go TT0 k3 T3).ex TT0 e4 |>.go TT0 k5 T5
      rw [List.length_map] at r1 s1
      have face : ∀ z : Int, 0 ≤ z → z < (fa.length : Int) → ∃ f fs, atI (fa.map V.ref) z = some (.ref f) ∧ G5 f = some (.tup (fs.map V.int)) ∧ fs.length ≤ 64 ∧ (fs = [] ∨ ∃ c, Cyc ts c ∧ fs = faceOf c) := fun z z0 z1 => by
        obtain ⟨p, rfl⟩ : ∃ p : Nat, z = (p : Int) := ⟨z.toNat, by omega⟩
        obtain ⟨f, fs, hf, hfs⟩ := both_at hrow.1 (show p < fa.length by omega)
        have hft := hrow.2 p f fs hf hfs
        have ft : f ≠ t := fun z => by rw [z, ht0] at hft; cases hft
        obtain ⟨q1, q2⟩ := face_fits hT (by omega) hR (List.mem_of_getElem? hfs)
        exact ⟨f, fs, atI_nat (by rw [List.getElem?_map, hf]; rfl), k5 _ _ ft (e4 _ _ (k3 _ _ ft (e2 _ _ hft))), q1, q2⟩
      obtain ⟨f1, fs1, at1, hf1, l1, c1⟩ := face r r0 r1
      obtain ⟨f2, fs2, at2, hf2, l2, c2⟩ := face s s0 s1
      refine ifs_go (and_go ((Evl.et_is (b := decide (r ≠ s)) (Evl.et_test (Evl.ev_op (Evl.ev_var rfl) (Evl.ev_var rfl) (Evl.rv_ne rfl))) ?_) G5 (Evl.Ex.refl _) _ fun G6 e6 => ?_))
      · rw [← decide_not]
        exact decide_eq_decide.mpr ⟨fun z e => z (by rw [e]), fun z e => z (V.int.inj e)⟩
      have w7 := w6.ex TT0 e6
      refine if_go (fun _ => ?_) fun _ => if_go (fun z => nomatch z) fun _ => ?_
      · refine b_go ⟨.ref t, rfl, .ref A, rfl, .ref A, rfl, (Evl.ev_op (x := .ref F) (z := .ref f1) (Evl.ev_var rfl) (Evl.ev_var rfl) (Evl.rv_ixL (Evl.sq_of (e6 _ _ hF5)) at1)) G6 (Evl.Ex.refl _) _ fun G7 e7 => ⟨A, f1, ts, fs1, rfl, llOf (w7.ex TT0 e7), hT, e7 _ _ (e6 _ _ hf1), by omega, c1, fun D1 qs1 G8 e8 hP1 hC1 ne1 m1 => ?_⟩⟩
        have e68 := e6.trans (e7.trans e8)
        refine ⟨.ref A, rfl, (Evl.ev_op (x := .ref F) (z := .ref f2) (Evl.ev_var rfl) (Evl.ev_var rfl) (Evl.rv_ixL (Evl.sq_of (e68 _ _ hF5)) at2)) G8 (Evl.Ex.refl _) _ fun G9 e9 => ⟨A, f2, ts, fs2, rfl, llOf (w6.ex TT0 (e68.trans e9)), hT, e9 _ _ (e68 _ _ hf2), by omega, c2, fun D2 qs2 G10 e10 hP2 hC2 ne2 m2 => ?_⟩⟩
        have e610 := (e68.trans e9).trans e10
        refine ⟨t, c, A, D1, D2, as, ts, _, qs1, qs2, H, rfl, w6.ex TT0 e610, TT0, by omega, hT, by omega, hP1.ex (e9.trans e10), hP2, hC1, hC2, by omega, by omega, fun b ts' G11 w11 hT11 hl11 hs11 => ⟨b, rfl, ?_⟩⟩
        have hd11 : Tied ts' := hd.imp (fun z => by rw [hl11]; exact z) (fun z => Nat.le_trans z hs11)
        refine if_go (fun _ => asg_last ((Evl.ev_op (Evl.ev_var rfl) Evl.ev_c Evl.rv_I0) G11 (Evl.Ex.refl _) _ fun G12 e12 => ?_)) fun _ => ?_
        · exact ⟨_, _, _, _, _, _, _, _, as, ts', rfl, (w11.ex TT0 e12).mono (by omega), hT11, hd11, by rw [hl11]; exact hl⟩
        · exact ⟨_, _, _, _, _, _, _, _, as, ts', rfl, w11.mono (by omega), hT11, hd11, by rw [hl11]; exact hl⟩
      · exact ⟨_, _, _, _, _, _, _, _, as, ts, rfl, w7.mono (by omega), hT, hd, hl⟩
    rintro σ1 H4 ⟨cnt, y6, y7, y8, y9, y10, y11, y12, as4, ts4, rfl, w4, hT4, hd4, hl4⟩
    refine ret_go (tup_go ⟨.ref t, rfl, .ref A, rfl, t, c, A, as4, ts4, _, H, rfl, w4, TT0, by omega, hT4, by omega, fun D ds us G w5 hT5 hl5 => cons_any ⟨.int cnt, rfl, by show 2 ≤ sizeLine; rw [sizeLine_eq]; decide, fun p hp => ?_⟩⟩)
    exact q p D ds us cnt _ (((w5.down w4.kept ⟨_, w4.tub⟩).ex TT0 (Evl.Ex.new hp)).mono (by omega)) hT5 (by omega) upd_same
end
end P05
end S_Ec
section S_Xs
/-! what a def hears of what it is handed: with any names of its own behind the three -/
namespace Hk
open PySem PySem.Spec PyProof.Rows L2 LamX Tl
def THeardM (K : PySem.W.Frag) (CS : Addr) (tr : TS) (m : Nat) : (XK → Hp → VK → Prop) → Hp → VK → Prop := fun tl H Q => ∀ f : Addr,
  tl (fun cls d H' => PySem.W.exmOne K cls (.ref CS) = some true ∧ ∀ a, H' a = none → ∀ σ' : L2.St, σ'.length = m + 3 → σ'[1]? = some (some (.ref a)) → tr { nx := fun _ G => Q .non G, rt := Q } σ' (upd H' a (ErrAt cls d a))) H
    fun _ H' => tr { nx := fun _ G => Q .non G, rt := Q } (some (.ref f) :: some .non :: none :: List.replicate m none) H'
abbrev cxM (X : Cx) (more : List Str) (x : Str) (sg : Scope) (g : Addr) (cdg : Value) (A : Around) (s : Shared) (H : Hp) : Cx := (cxOf C8.CX0 X.prog X.w X.K X.mg X.base (nAsk ++ more) x sg g cdg A X.stack s H C8.E0).nox
theorem heard_givesM {X : Cx} {more : List Str} {x e q : Str} {sg : Scope} {g CS : Addr} {cdg : Value} {j : Nat} {rest : List Stmt} {tr : TS} {p1 p2 p3 p4 p5 p6 p7 p8 p9 r1 r2 r3 : Pos} (Sg : FnScope (nAsk ++ more) ["ask"] sg) (k1 : sg.names.lookup ("caught" : Str) = some NameKind.local) (k2 : sg.names.lookup ("error" : Str) = some NameKind.local)
    (hge : sg.names.lookup e = some .globalImplicit) (hme : X.mg e = some (.ref CS)) (hde : (e == ("__debug__" : Str)) = false)
    (hrt : ∀ (A : Around) (s : Shared) (H : Hp), PSs (cxM X more x sg g cdg A s H) rest tr) :
    GivesTo X (nAsk ++ more) x sg g cdg (.Assign [.Name "caught" p1] (.Constant .none j p2) p3 :: .Try [.Expr (.Call (.Name "ask" r1) [] [] r2) r3] [.ExceptHandler (some (.Name e p4)) (some "error") [.Assign [.Name "caught" p5] (.Name "error" p6) p7] p8] [] [] p9 :: rest) "ask" q (THeardM X.K CS tr more.length) := by
  intro f c' s H Q tl act hc h
  have gE : Gl (cxM X more x sg g cdg X.A s H) e := hge
  have l1 : ∀ {Y : Cx}, Y.env.scope = sg → (Y.fn "caught" = true ∨ Y.env.scope.names.lookup ("caught" : Str) = some NameKind.local) := fun z => .inr (by rw [z]; exact k1)
  refine ⟨_, pss_cons (ps_set (X := cxM X more x sg g cdg X.A s H) (i := 1) Sg.nd rfl (Or.inl k1) pe_non rfl (l1 rfl)) (pss_cons (ps_keep (X := cxM X more x sg g cdg X.A s H) (i := 2) (c := .ref CS) (ts := fun _ _ _ => tAsg (tVar 2) (gName 1))
      (tb := fun W D σ H => ∃ Ech : XK, (∀ cls d σ' H', Ech cls d H' → σ'.length = more.length + 3 → W cls d σ' H') ∧ σ[0]? = some (some (.ref f)) ∧ H c' = some (CodeO c' q) ∧ tl Ech H (fun _ H' => D.nx σ H'))
      rfl rfl rfl Sg.nd rfl k2 ⟨gE, hde, Or.inl hme⟩ (fun W pn xe tk _ => ?_) (fun a oe cls d pn _ _ => pss_one (ps_set (i := 1) Sg.nd rfl (Or.inl k1) (pe_var (i := 2) rfl (Or.inl k2)) rfl (l1 rfl)))) (hrt X.A s H)), ?_⟩
  · refine ⟨fun pins s' σ H' D I ⟨Ech, hW, h1, h2, h3⟩ => ?_⟩
    have hp := act (fun cls d σ H => σ.length = (nAsk ++ more).length → W cls d σ H) pn xe Ech r1 r2 (takes_len tk) (fun cls d σ' H' a b => hW cls d σ' H' a b)
    exact (pss_one (ps_expr (pos := r3) hp)).run pins s' σ H' D I ⟨h1, h2, h3⟩
  · have h' := h f
    refine ⟨fun cls d H' => PySem.W.exmOne X.K cls (.ref CS) = some true ∧ ∀ a, H' a = none → ∀ σ' : L2.St, σ'.length = more.length + 3 → σ'[1]? = some (some (.ref a)) → tr { nx := fun _ G => Q .non G, rt := Q } σ' (upd H' a (ErrAt cls d a)), ?_, rfl, hc, h'⟩
    rintro cls d σ' H' ⟨he, hk⟩ hl
    refine ⟨he, fun a na => ?_⟩
    exact ⟨.ref a, by rw [List.getElem?_set_self (by omega)] <;> rfl, fun na' => hk a na' _ (by simp [hl]) (by rw [List.getElem?_set_ne (by decide), List.getElem?_set_self (by simp [hl])] <;> rfl)⟩
section
variable {K : PySem.W.Frag} {σ : L2.St} {G : Hp} {m : Nat}
/-- a lambda heard that raises an error of the class D: a new tuple -/
theorem lam_raiseM {T : List (Addr × Str)} {CS D : Addr} {tr : TS} {t : XK → TE} {B H : Hp} {Q : VK} {fs : List (Str × V)} {vs : List V} (l : Live T B H) (hx : PySem.W.exmOne K (.ref D) (.ref CS) = some true)
    (ht : ∀ H1 E Q', Evl.Ex B H1 → (∀ H2 d, Evl.Ex H1 H2 → H2 d = none → E (.ref D) (some d) (upd H2 d (.xd fs))) → t E σ H1 Q')
    (hr : ∀ (G : Hp) (a d : Addr) (σ' : L2.St) (D' : Ends), G a = some (ErrAt (.ref D) (some d) a) → DictAt G (some d) fs → σ'.length = m + 3 → σ'[1]? = some (some (.ref a)) → (∀ p G', G p = none → Evl.Ex G G' → G' p = some (.tup vs) → D'.rt (.ref p) G') → tr D' σ' G)
    (k : ∀ p H3, Live T (upd B p (.tup vs)) H3 → H3 p = some (.tup vs) → B p = none → Q (.ref p) H3) : tLam T (THeardM K CS tr m) t σ H Q := by
  refine ⟨l.tabs, fun H1 eN T1 f => ht H1 _ _ (l.exN eN T1).ex fun H2 d e2 hd => ⟨hx, fun a na σ' hl hσ => ?_⟩⟩
  have ad : d ≠ a := fun z => by rw [← z, upd_same] at na; cases na
  have eG : Evl.Ex H1 (upd (upd H2 d (.xd fs)) a (ErrAt (.ref D) (some d) a)) := (e2.trans (Evl.Ex.new hd)).trans (Evl.Ex.new na)
  refine hr _ a d σ' _ upd_same ⟨d, rfl, by rw [upd_ne ad, upd_same]⟩ hl hσ fun p G' hp e hG' => ?_
  have L := ((l.exN eN T1).go eG).go e
  refine k p G' (L.add hG' fun ps z => nomatch z) hG' ?_
  exact ((l.exN eN T1).go eG).fresh hp
end
end Hk
end S_Xs
section S_Ed
namespace P05
open PySem PySem.Spec PyProof.Rows L2 Tl Hk LamX
/-! ### what is heard -/
abbrev mCa : List Str := ["word", "is_so"]
abbrev nCa : List Str := nAsk ++ mCa
theorem scCaught : FnScope nCa ["ask"] (defScope sCaught) := ⟨rfl, rfl, rfl, by decide +kernel, rfl, by decide +kernel, by decide +kernel⟩
abbrev isA (K : PySem.W.Frag) (C : Addr) : TE := tCB (fun xs H Q => rIsi K xs H Q ∨ rIsK K xs H Q) (tCons (tVar 1) (tCons (tC (.ref C)) tNil))
abbrev isP (K : PySem.W.Frag) (nm : Str) (C : Addr) : TE := tTup (tCons (tC (.str nm)) (tCons (isA K C) tNil))
abbrev threeT (K : PySem.W.Frag) (CE CB CF : Addr) : TE := tTup (tCons (isP K "web" CE) (tCons (isP K "number" CB) (tCons (isP K "misfit" CF) tNil)))
abbrev trC (K : PySem.W.Frag) (CE CB CF : Addr) : TS := tSeq (tFor (iTup K (threeT K CE CB CF)) (gTup K 2 (gCons (gName 3) (gCons (gName 4) gNil))) (tIfS (tB (tVar 4)) (tRet (tTup (tCons (tVar 3) (tCons (tKeptF K "part" (tVar 1)) tNil)))) tNext))
    (tRet (tIf (tTest (tOp (fun x y H Q => y = V.non ∧ Q (.bl (decide (x = .non))) H) (tVar 1) (tC .non))) (tC .non) (tTup (tCons (tC (.str "other")) (tCons (tC .non) tNil)))))
/-- what is known of the error classes -/
structure TE05 (K : PySem.W.Frag) (mg : Str → Option Value) (CE CB CF CS : Addr) : Prop where
  ge : mg "BadWeb" = some (.ref CE)
  gb : mg "BadNumber" = some (.ref CB)
  gf : mg "Misfit" = some (.ref CF)
  gS : mg "LaneError" = some (.ref CS)
  ee : ErrC K CE
  eb : ErrC K CB
  ef : ErrC K CF
  ne : PySem.W.findIn K (.ref CE) "part" = some none
  nb : PySem.W.findIn K (.ref CB) "part" = some none
  nf : PySem.W.findIn K (.ref CF) "part" = some none
  xe : PySem.W.exmOne K (.ref CE) (.ref CS) = some true
  xb : PySem.W.exmOne K (.ref CB) (.ref CS) = some true
  xf : PySem.W.exmOne K (.ref CF) (.ref CS) = some true
  kee : PySem.W.kitOne K (.ref CE) (.ref CE) = some true
  keb : PySem.W.kitOne K (.ref CE) (.ref CB) = some false
  kef : PySem.W.kitOne K (.ref CE) (.ref CF) = some false
  kbe : PySem.W.kitOne K (.ref CB) (.ref CE) = some false
  kbb : PySem.W.kitOne K (.ref CB) (.ref CB) = some true
  kbf : PySem.W.kitOne K (.ref CB) (.ref CF) = some false
  kfe : PySem.W.kitOne K (.ref CF) (.ref CE) = some false
  kfb : PySem.W.kitOne K (.ref CF) (.ref CB) = some false
  kff : PySem.W.kitOne K (.ref CF) (.ref CF) = some true
theorem gives_caught {X : Cx} {fH CE CB CF CS : Addr} {cdv : Value} {q : Str} (mi : X.mg "isinstance" = none) (E : TE05 X.K X.mg CE CB CF CS) :
    GivesTo X nCa "_law_caught" (defScope sCaught) fH cdv (defBody sCaught) "ask" q (THeardM X.K CS (trC X.K CE CB CF) mCa.length) := by
  refine heard_givesM (e := "LaneError") scCaught (by rfl) (by rfl) (by rfl) E.gS (by decide) fun A s H => ?_
  have v1 : ∀ {p : Pos}, PE (cxM X mCa "_law_caught" (defScope sCaught) fH cdv A s H) (.Name "caught" p) (tVar 1) := pe_var (i := 1) rfl (Or.inl (by rfl))
  have v3 : ∀ {p : Pos}, PE (cxM X mCa "_law_caught" (defScope sCaught) fH cdv A s H) (.Name "word" p) (tVar 3) := pe_var (i := 3) rfl (Or.inl (by rfl))
  have v4 : ∀ {p : Pos}, PE (cxM X mCa "_law_caught" (defScope sCaught) fH cdv A s H) (.Name "is_so" p) (tVar 4) := pe_var (i := 4) rfl (Or.inl (by rfl))
  have is : ∀ {x : Str} {C : Addr} {p1 p2 p3 p4 : Pos}, X.mg x = some (.ref C) → (defScope sCaught).names.lookup x = some .globalImplicit → (x == ("__debug__" : Str)) = false → PE (cxM X mCa "_law_caught" (defScope sCaught) fH cdv A s H) (.Call (.Name "isinstance" p1) [.Name "caught" p2, .Name x p3] [] p4) (isA X.K C) := fun {x C p1 p2 p3 p4} h1 h2 h3 =>
    pe_callB call_isAny (by rfl) mi (by decide +kernel) (pa_cons v1 (pa_cons (pe_glob (v := .ref C) h2 h1 rfl h3) pa_nil))
  have nd := scCaught.nd
  exact pss_cons (ps_for PassesOwn.never rfl (pi_tup (pe_tup (pa_cons (pe_tup (pa_cons pe_str (pa_cons (is E.ge (by rfl) (by decide)) pa_nil))) (pa_cons (pe_tup (pa_cons pe_str (pa_cons (is E.gb (by rfl) (by decide)) pa_nil))) (pa_cons (pe_tup (pa_cons pe_str (pa_cons (is E.gf (by rfl) (by decide)) pa_nil))) pa_nil)))))
      (pg_tup (by rfl) (pgs_cons (pg_name (i := 3) nd rfl (Or.inl (by rfl))) (pgs_cons (pg_name (i := 4) nd rfl (Or.inl (by rfl))) pgs_nil)))
      (pss_one (ps_if (pt_val v4) (pss_one (ps_ret (pe_tup (pa_cons v3 (pa_cons (pe_keptF v1) pa_nil))))) pss_nil)))
    (pss_one (ps_ret (pe_ifExp (pt_cmpR op_isN v1 pe_non (nomark _)) pe_non (pe_tup (pa_cons pe_str (pa_cons pe_non pa_nil))))))
theorem for_tup {K : PySem.W.Frag} {te : TE} {g : TG} {tb tz : TS} {D : Ends} {σ : L2.St} {H : Hp} (h : te σ H fun v H' => tSeq (tFor (iTup K (tC v)) g tb) tz D σ H') : tSeq (tFor (iTup K te) g tb) tz D σ H := h
section
variable {K : PySem.W.Frag} {mg : Str → Option Value} {CE CB CF CS : Addr}
/-- an error of a class: the word of the first class that it is of -/
theorem rd_words {D : Addr} {s : Str} {G : Hp} {a d : Addr} {σ : L2.St} {D' : Ends} {bs : Nat → Bool} {nm : Nat → Str} {m : Nat} (hG : G a = some (ErrAt (.ref D) (some d) a)) (hd : DictAt G (some d) [(("part" : Str), .str s)]) (hl : σ.length = mCa.length + 3) (hσ : σ[1]? = some (some (.ref a)))
    (EC : ErrC K D) (n : PySem.W.findIn K (.ref D) "part" = some none) (k0 : PySem.W.kitOne K (.ref D) (.ref CE) = some (bs 0)) (k1 : PySem.W.kitOne K (.ref D) (.ref CB) = some (bs 1)) (k2 : PySem.W.kitOne K (.ref D) (.ref CF) = some (bs 2))
    (n0 : nm 0 = "web") (n1 : nm 1 = "number") (n2 : nm 2 = "misfit") (m3 : m < 3) (hm : bs m = true) (hb : ∀ i, i < m → bs i = false)
    (q : ∀ p G', G p = none → Evl.Ex G G' → G' p = some (.tup [.str (nm m), .str s]) → D'.rt (.ref p) G') : trC K CE CB CF D' σ G := by
  obtain ⟨x0, x2, x3, x4, rfl⟩ : ∃ x0 x2 x3 x4, σ = [x0, some (.ref a), x2, x3, x4] := by
    match σ, hl, hσ with
    | [x0, x1, x2, x3, x4], _, h => exact ⟨x0, x2, x3, x4, by rw [show x1 = some (.ref a) from Option.some.inj h]⟩
  have is : ∀ {C : Addr} {b : Bool}, PySem.W.kitOne K (.ref D) (.ref C) = some b → Evl.Ev (isA K C) [x0, some (.ref a), x2, x3, x4] G (.bl b) := fun h => ev_isK rfl hG hd EC h
  have pr : ∀ {w : Str} {C : Addr} {b : Bool}, PySem.W.kitOne K (.ref D) (.ref C) = some b → Evl.EvU (isP K w C) [x0, some (.ref a), x2, x3, x4] G [.str w, .bl b] := fun h => Evl.eu_tup (Evl.ea_cons Evl.ev_c (Evl.ea_cons (is h) Evl.ea_nil)) (by show 2 ≤ 100000; decide)
  refine for_tup (tup_go (cons_any (pr k0 G (Evl.Ex.refl _) _ fun p0 H0 _ e0 h0 => cons_any (pr k1 H0 e0 _ fun p1 H1 _ e1 h1 => cons_any (pr k2 H1 (e0.trans e1) _ fun p2 H2 _ e2 h2 => ⟨by show 3 ≤ sizeLine; decide, fun t ht => ?_⟩)))))
  have eN := Evl.Ex.new (o := .tup [V.ref p0, .ref p1, .ref p2]) ht
  have e02 := (e0.trans e1).trans e2
  have eA := e02.trans eN
  have ht2 : upd H2 t (.tup [V.ref p0, .ref p1, .ref p2]) t = some (.tup [V.ref p0, .ref p1, .ref p2]) := upd_same
  have z0 := eN _ _ (e2 _ _ (e1 _ _ h0))
  have z1 := eN _ _ (e2 _ _ h1)
  have z2 := eN _ _ h2
  generalize upd H2 t (.tup [V.ref p0, .ref p1, .ref p2]) = H3 at eN eA ht2 z0 z1 z2
  refine q_forI (B := H3) (ei_rowsT (K := K) (n := 3) (W := fun A => ∀ i v, i < 3 → ([V.ref p0, .ref p1, .ref p2] : List V)[i]? = some v → ∃ r, v = .ref r ∧ A r = some (.tup [.str (nm i), .bl (bs i)])) Evl.ev_c (Evl.st_of ht2) rfl fun A eA i v hi hv => ?_) (aims_rowT2 (c := fun i => (.str (nm i), .bl (bs i)))) (Evl.Ex.refl _)
    (fun H4 i σ' H' => i ≤ m ∧ Evl.Ex H4 H' ∧ ∃ y3 y4, σ' = [x0, some (.ref a), x2, y3, y4]) (fun H4 e4 => ⟨Nat.zero_le _, Evl.Ex.refl _, _, _, rfl⟩) (fun H4 i σ' H' e4 _ ⟨_, e5, _⟩ => ⟨e4.trans e5, fun b u _ hu => e5 _ _ hu⟩) ?_ ?_
  · match i, hi, hv with
    | 0, _, h => cases h; exact ⟨p0, rfl, by rw [n0]; exact eA _ _ z0⟩
    | 1, _, h => cases h; exact ⟨p1, rfl, by rw [n1]; exact eA _ _ z1⟩
    | 2, _, h => cases h; exact ⟨p2, rfl, by rw [n2]; exact eA _ _ z2⟩
  · rintro H4 i σ' H5 H6 e4 hi ⟨him, e5, y3, y4, rfl⟩ e6
    refine Evl.s_when (b := bs i) (Evl.et_B (Evl.ev_var rfl)) (fun hbi H7 e7 => ?_) fun hbi H7 e7 => ?_
    · have : i = m := by
        rcases Nat.lt_or_ge i m with z | z
        · rw [hb i z] at hbi; cases hbi
        · omega
      subst this
      have eB : Evl.Ex G H7 := (((eA.trans e4).trans e5).trans e6).trans e7
      refine Evl.s_retU (Evl.eu_tup (Evl.ea_cons (Evl.ev_var rfl) (Evl.ea_cons (ev_keptF rfl (eB _ _ hG) (hd.imp fun x ⟨y, z⟩ => ⟨y, eB _ _ z⟩) EC n (by simp [List.lookup])) Evl.ea_nil)) (by show 2 ≤ 100000; decide)) fun p H8 hp e8 h8 => q p H8 (Evl.fresh_back eB hp) (eB.trans e8) h8
    · have : i < m := by
        rcases Nat.lt_or_ge i m with z | z
        · exact z
        · rw [show i = m by omega, hm] at hbi; cases hbi
      exact ⟨this, (e5.trans e6).trans e7, _, _, rfl⟩
  · rintro H4 σ' H5 e4 ⟨h3, _⟩
    omega
abbrev nmW (i : Nat) : Str := if i = 0 then "web" else if i = 1 then "number" else "misfit"
theorem rd_e (E : TE05 K mg CE CB CF CS) {s : Str} {G : Hp} {a d : Addr} {σ : L2.St} {D' : Ends} (hG : G a = some (ErrAt (.ref CE) (some d) a)) (hd : DictAt G (some d) [(("part" : Str), .str s)]) (hl : σ.length = mCa.length + 3) (hσ : σ[1]? = some (some (.ref a)))
    (q : ∀ p G', G p = none → Evl.Ex G G' → G' p = some (.tup [.str "web", .str s]) → D'.rt (.ref p) G') : trC K CE CB CF D' σ G :=
  rd_words (bs := fun i => decide (i = 0)) (nm := nmW) (m := 0) hG hd hl hσ E.ee E.ne E.kee E.keb E.kef rfl rfl rfl (by decide) rfl (fun i h => nomatch h) q
theorem rd_b (E : TE05 K mg CE CB CF CS) {s : Str} {G : Hp} {a d : Addr} {σ : L2.St} {D' : Ends} (hG : G a = some (ErrAt (.ref CB) (some d) a)) (hd : DictAt G (some d) [(("part" : Str), .str s)]) (hl : σ.length = mCa.length + 3) (hσ : σ[1]? = some (some (.ref a)))
    (q : ∀ p G', G p = none → Evl.Ex G G' → G' p = some (.tup [.str "number", .str s]) → D'.rt (.ref p) G') : trC K CE CB CF D' σ G :=
  rd_words (bs := fun i => decide (i = 1)) (nm := nmW) (m := 1) hG hd hl hσ E.eb E.nb E.kbe E.kbb E.kbf rfl rfl rfl (by decide) rfl (fun i h => decide_eq_false (by omega)) q
theorem rd_f (E : TE05 K mg CE CB CF CS) {s : Str} {G : Hp} {a d : Addr} {σ : L2.St} {D' : Ends} (hG : G a = some (ErrAt (.ref CF) (some d) a)) (hd : DictAt G (some d) [(("part" : Str), .str s)]) (hl : σ.length = mCa.length + 3) (hσ : σ[1]? = some (some (.ref a)))
    (q : ∀ p G', G p = none → Evl.Ex G G' → G' p = some (.tup [.str "misfit", .str s]) → D'.rt (.ref p) G') : trC K CE CB CF D' σ G :=
  rd_words (bs := fun i => decide (i = 2)) (nm := nmW) (m := 2) hG hd hl hσ E.ef E.nf E.kfe E.kfb E.kff rfl rfl rfl (by decide) rfl (fun i h => decide_eq_false (by omega)) q
end
end P05
end S_Ed
section S_Ee
namespace P05
open PySem PySem.Spec PyProof.Rows L2 Tl Hk LamX EnL
/-! ### the tables and the drawer stand -/
structure Od (T : List (Addr × Str)) (t c : Addr) (n : Nat) (H : Hp) : Prop where
  tabs : Tabs T H
  tub : Tub H t c n
theorem Od.ex {T : List (Addr × Str)} {t c : Addr} {n : Nat} {H H1 : Hp} (o : Od T t c n H) (e : Evl.Ex H H1) : Od T t c n H1 := ⟨o.tabs.ext e, o.tub.ex e⟩
theorem Od.kept {T : List (Addr × Str)} {t c : Addr} {n m : Nat} {H H1 : Hp} (o : Od T t c n H) (k : Kept t H H1) (T1 : Tub H1 t c m) : Od T t c m H1 := ⟨fun p hp => by
  obtain ⟨cs, turn, rest, ht, _⟩ := o.tub
  obtain ⟨ps, h1, h2, h3⟩ := o.tabs p hp
  refine ⟨ps, k _ _ (fun z => by rw [z, ht] at h1; cases h1) h1, h2, fun pos cv hc => ?_⟩
  obtain ⟨c', e1, e2⟩ := h3 pos cv hc
  exact ⟨c', e1, k _ _ (fun z => by rw [z, ht] at e2; cases e2) e2⟩, T1⟩
theorem Od.mono {T : List (Addr × Str)} {t c : Addr} {n m : Nat} {H : Hp} (o : Od T t c n H) (h : n ≤ m) : Od T t c m H := ⟨o.tabs, o.tub.mono h⟩
theorem Od.extN {T : List (Addr × Str)} {t c : Addr} {n : Nat} {H H' : Hp} (o : Od T t c n H) (e : ExtN H H') (tT : Tabs T H') : Od T t c n H' := ⟨tT, by
  obtain ⟨cs, turn, rest, h1, h2, h3⟩ := o.tub
  exact ⟨cs, turn, rest, e _ _ h1 (fun ps z => nomatch z), e _ _ h2 (fun ps z => nomatch z), h3⟩⟩
theorem sx_kept {t : Addr} {H H1 : Hp} (k : Kept t H H1) : Evl.Ex (strip t H) (strip t H1) := fun a o h => by
  obtain ⟨h1, h2, h3⟩ := strip_le h
  exact strip_at (k a o h1 h2) h1 h3
theorem sx_ex {t : Addr} {H H1 : Hp} (e : Evl.Ex H H1) : Evl.Ex (strip t H) (strip t H1) := sx_kept (kept_ex e)
theorem sx_but {t : Addr} {H H' : Hp} (k : ∀ a o, a ≠ t → H a = some o → (∀ ps, o ≠ .tbl ps) → H' a = some o) : Evl.Ex (strip t H) (strip t H') := fun a o h => by
  obtain ⟨h1, h2, h3⟩ := strip_le h
  exact strip_at (k a o h1 h2 h3) h1 h3
theorem tub_strip {H : Hp} {T t c : Addr} {n : Nat} {ps : Array Value} (hT : H T = some (.tbl ps)) (h : Tub H t c n) : Tub (strip T H) t c n := by
  obtain ⟨cs, turn, rest, h1, h2, h3⟩ := h
  exact ⟨cs, turn, rest, strip_tb (t := T) hT h1 (fun ps z => nomatch z), strip_tb (t := T) hT h2 (fun ps z => nomatch z), h3⟩
theorem sql_strip {K : PySem.W.Frag} {H : Hp} {T a : Addr} {xs : List V} {ps : Array Value} (hT : H T = some (.tbl ps)) (h : SqL K H a xs) : SqL K (strip T H) a xs := by
  rcases h with (h | ⟨o, h⟩) | h
  · exact .inl (.inl (strip_tb (t := T) hT h fun ps z => nomatch z))
  · exact .inl (.inr ⟨o, strip_tb (t := T) hT h fun ps z => nomatch z⟩)
  · exact .inr h
theorem sqt_strip {K : PySem.W.Frag} {H : Hp} {T a : Addr} {xs : List V} {ps : Array Value} (hT : H T = some (.tbl ps)) (h : SqT K H a xs) : SqT K (strip T H) a xs := by
  rcases h with (h | ⟨o, h⟩) | h
  · exact .inl (.inl (strip_tb (t := T) hT h fun ps z => nomatch z))
  · exact .inl (.inr ⟨o, strip_tb (t := T) hT h fun ps z => nomatch z⟩)
  · exact .inr h
theorem Ty7.strip {K : PySem.W.Frag} {H : Hp} {T : Addr} {x : V} {n : String} {ps : Array Value} (hT : H T = some (.tbl ps)) (h : Ty7 K H x n) : Ty7 K (Hk.strip T H) x n := by
  cases h with
  | non => exact .non
  | bl b => exact .bl b
  | int i => exact .int i
  | str s => exact .str s
  | lst h => exact .lst (sql_strip hT h)
  | tup h => exact .tup (sqt_strip hT h)
  | dK h => exact .dK (strip_tb (t := T) hT h fun ps z => nomatch z)
/-- a web stands where all but lists and tables do -/
theorem WebAt.keep {C : Addr} {H H' : Hp} {x : Addr} {ts : List (List Int)} (h : WebAt C H x ts) (k : ∀ a o, H a = some o → (∀ xs, o ≠ .lst xs) → (∀ ps, o ≠ .tbl ps) → H' a = some o) : WebAt C H' x ts := by
  obtain ⟨dx, t, ti, h1, ⟨as, a1, a2, a3⟩, xs, b1, b2, b3⟩ := h
  have tup : ∀ {a : Addr} {xs : List V}, H a = some (.tup xs) → H' a = some (.tup xs) := fun h => k _ _ h (fun xs z => nomatch z) fun ps z => nomatch z
  refine ⟨dx, t, ti, k _ _ h1 (fun xs z => nomatch z) (fun ps z => nomatch z), ⟨as, tup a1, a2, fun i a ns p q => tup (a3 i a ns p q)⟩, xs, tup b1, b2, fun i b v p q => ?_⟩
  obtain ⟨a, e, h⟩ := b3 i b v p q
  exact ⟨a, e, tup h⟩
theorem WebAt.stripT {C t c : Addr} {n : Nat} {H : Hp} {x : Addr} {ts : List (List Int)} (h : WebAt C H x ts) (T : Tub H t c n) : WebAt C (strip t H) x ts := h.keep fun a o ha h1 h2 => strip_at ha (fun z => by
  obtain ⟨cs, turn, rest, ht, _⟩ := T
  rw [z, ht] at ha
  exact h1 _ (Option.some.inj ha).symm) h2
theorem WebAt.stripB {C T : Addr} {H : Hp} {x : Addr} {ts : List (List Int)} {ps : Array Value} (h : WebAt C H x ts) (hT : H T = some (.tbl ps)) : WebAt C (strip T H) x ts := h.keep fun a o ha _ h2 => strip_tb (t := T) hT ha h2
theorem wi_is {p m : Nat} (h1 : 1 ≤ p) (h2 : p ≤ m) : wi (.int (p : Int)) (.int 1) (.int (m : Int)) = true := by
  show (decide ((1 : Int) ≤ (p : Int)) && decide ((p : Int) ≤ (m : Int))) = true
  rw [decide_eq_true (by omega), decide_eq_true (by omega)]
  rfl
/-- no place of m -/
def OddA (K : PySem.W.Frag) (m : Nat) (v : V) (H : Hp) : Prop := (∃ n, Ty7 K H v n) ∧ wi v (.int 1) (.int (m : Int)) = false
theorem OddA.mono {K : PySem.W.Frag} {m : Nat} : EnL.Mono (OddA K m) := fun v H H' e h => ⟨h.1.imp fun n a => a.ex e, h.2⟩
theorem wi_no {i : Int} {m : Nat} (h : i < 1 ∨ (m : Int) < i) : wi (.int i) (.int 1) (.int (m : Int)) = false := by
  show (decide ((1 : Int) ≤ i) && decide (i ≤ (m : Int))) = false
  rcases h with h | h
  · rw [decide_eq_false (by omega)] <;> rfl
  · rw [decide_eq_false (p := i ≤ (m : Int)) (by omega), Bool.and_false]
theorem odd_absurd {v : V} {m p : Nat} (h : wi v (.int 1) (.int (m : Int)) = false) (e : v = .int (p : Int)) (h1 : 1 ≤ p) (h2 : p ≤ m) : False := by
  rw [e, wi_is h1 h2] at h
  cases h
theorem cons_u {te : TE} {tr : TA} {σ : L2.St} {H : Hp} {Q : List V → Hp → Prop} {xs : List V} (h : Evl.EvU te σ H xs) (k : ∀ p H1, H p = none → Evl.Ex H H1 → H1 p = some (.tup xs) → tr σ H1 fun vs H2 => Q (.ref p :: vs) H2) : tCons te tr σ H Q := h H (Evl.Ex.refl H) _ k
theorem eu_two {s1 s2 : Str} {σ : L2.St} {G : Hp} : Evl.EvU (tTup (tCons (tC (.str s1)) (tCons (tC (.str s2)) tNil))) σ G [.str s1, .str s2] := Evl.eu_tup (Evl.ea_cons Evl.ev_c (Evl.ea_cons Evl.ev_c Evl.ea_nil)) (by show 2 ≤ 100000; decide)
theorem sx_to {t : Addr} {H B H' : Hp} (h : Evl.Ex (strip t H) B) (h2 : Evl.Ex B H') : Evl.Ex (strip t H) (strip t H') := fun a o h1 => by
  obtain ⟨a1, _, a3⟩ := strip_le h1
  exact strip_at (h2 _ _ (h _ _ h1)) a1 a3
theorem live_put {T : List (Addr × Str)} {B H : Hp} {a : Addr} {xs : List V} {o : HO} (l : Live T B H) (h : H a = some (.lst xs)) (ho : ∀ ps, o ≠ .tbl ps) : Live T (upd B a o) (upd H a o) := ⟨fun b u e => by
  by_cases z : b = a
  · rw [z, upd_same] at e ⊢
    exact e
  · rw [upd_ne z] at e ⊢
    exact l.ex b u e, fun b ps => by
  by_cases z : b = a
  · rw [z, upd_same]
    exact fun e => ho ps (Option.some.inj e)
  · rw [upd_ne z]
    exact l.nt b ps, fun p hp => by
  obtain ⟨ps, h1, h2, h3⟩ := l.tabs p hp
  refine ⟨ps, by rw [upd_ne (fun z => by rw [z, h] at h1; cases h1)]; exact h1, h2, fun pos cv hc => ?_⟩
  obtain ⟨c', e1, e2⟩ := h3 pos cv hc
  exact ⟨c', e1, by rw [upd_ne (fun z => by rw [z, h] at e2; cases e2)]; exact e2⟩⟩
theorem tabs_put {T : List (Addr × Str)} {H : Hp} {a : Addr} {xs : List V} {o : HO} (l : Tabs T H) (h : H a = some (.lst xs)) : Tabs T (upd H a o) := fun p hp => by
  obtain ⟨ps, h1, h2, h3⟩ := l p hp
  refine ⟨ps, by rw [upd_ne (fun z => by rw [z, h] at h1; cases h1)]; exact h1, h2, fun pos cv hc => ?_⟩
  obtain ⟨c', e1, e2⟩ := h3 pos cv hc
  exact ⟨c', e1, by rw [upd_ne (fun z => by rw [z, h] at e2; cases e2)]; exact e2⟩
theorem tub_put {H : Hp} {t c a : Addr} {n : Nat} {o : HO} (T : Tub H t c n) (h1 : a ≠ t) (h2 : a ≠ c) : Tub (upd H a o) t c n := by
  obtain ⟨cs, turn, rest, k1, k2, k3⟩ := T
  exact ⟨cs, turn, rest, by rw [upd_ne h1.symm]; exact k1, by rw [upd_ne h2.symm]; exact k2, k3⟩
/-- a lambda heard that draws, and raises an error of the class D: a new tuple -/
theorem lam_raiseD {K : PySem.W.Frag} {σ : L2.St} {m : Nat} {T : List (Addr × Str)} {CS D t0 c : Addr} {n : Nat} {tr : TS} {t : XK → TE} {H : Hp} {Q : VK} {fs : List (Str × V)} {vs : List V} (hT : Tabs T H) (T0 : Tub H t0 c n) (hx : PySem.W.exmOne K (.ref D) (.ref CS) = some true)
    (ht : ∀ H1 E Q', Evl.Ex (strip t0 H) H1 → Tub H1 t0 c n → (∀ H2 d, Kept t0 H1 H2 → Tub H2 t0 c (n + 1) → H2 d = none → E (.ref D) (some d) (upd H2 d (.xd fs))) → t E σ H1 Q')
    (hr : ∀ (G : Hp) (a d : Addr) (σ' : L2.St) (D' : Ends), G a = some (ErrAt (.ref D) (some d) a) → DictAt G (some d) fs → σ'.length = m + 3 → σ'[1]? = some (some (.ref a)) → (∀ p G', G p = none → Evl.Ex G G' → G' p = some (.tup vs) → D'.rt (.ref p) G') → tr D' σ' G)
    (k : ∀ p H3, Evl.Ex (strip t0 H) H3 → Tabs T H3 → Tub H3 t0 c (n + 1) → H3 p = some (.tup vs) → strip t0 H p = none → Q (.ref p) H3) : tLam T (THeardM K CS tr m) t σ H Q := by
  refine ⟨hT, fun H1 eN T1 f => ht H1 _ _ (strip_n eN) ((Od.mk hT T0).extN eN T1).tub fun H2 d kk T2 hd => ⟨hx, fun a na σ' hl hσ => ?_⟩⟩
  have o2 := ((Od.mk hT T0).extN eN T1).kept kk T2
  have eS : Evl.Ex (strip t0 H) H2 := fun b o h => kk b o (strip_le h).1 (strip_n eN b o h)
  have ad : d ≠ a := fun z => by rw [← z, upd_same] at na; cases na
  have eG : Evl.Ex H2 (upd (upd H2 d (.xd fs)) a (ErrAt (.ref D) (some d) a)) := (Evl.Ex.new hd).trans (Evl.Ex.new na)
  refine hr _ a d σ' _ upd_same ⟨d, rfl, by rw [upd_ne ad, upd_same]⟩ hl hσ fun p G' hp e hG' => ?_
  have o3 := (o2.ex eG).ex e
  exact k p G' ((eS.trans eG).trans e) o3.tabs o3.tub hG' (Evl.fresh_back (eS.trans eG) hp)
end P05
end S_Ee
section S_Ef
namespace P05
open PySem PySem.Spec PyProof.Rows L2 Tl Hk LamX EnL
/-! ### what is refused -/
abbrev nmA : Str := "_law_refused_right.<locals>.<lambda>"
abbrev Ts (T1 : Addr) : List (Addr × Str) := [(T1, nmA)]
abbrev nRf : List Str := ["carousel", "web", "turns", "odd", "bad", "worse", "one", "loose", "other", "heard"]
theorem scRf : FnScope nRf ["carousel", "web", "turns"] (defScope sLRefused) := ⟨rfl, rfl, rfl, by decide +kernel, rfl, by decide +kernel, by decide +kernel⟩
theorem ha1R : ("a1" : Str) ∉ nRf := by decide
theorem ha2R : ("a2" : Str) ∉ nRf := by decide
def spRf (C T1 : Addr) : Sp := fun vs H Q _ => ∃ (t c x l : Addr) (ts : List (List Int)) (n : Nat), vs = [.ref t, .ref x, .ref l] ∧ Od (Ts T1) t c n H ∧ n ≤ 900000 ∧ WebAt C (strip t H) x ts ∧ LL (strip t H) l ts ∧ OkT ts ∧ ts.length ≤ 8 ∧
  ∀ H', Evl.Ex (strip t H) (strip t H') → Od (Ts T1) t c (n + 5) H' → Q (.bl true) H'
section
open Evl
variable {K : PySem.W.Frag} {C : Addr} {σ : L2.St} {H G : Hp} {Q : VK} {E : XK}
theorem str_go {x : Addr} {ts : List (List Int)} (hx : WebAt C H x ts) (hT : OkT ts) (q : ∀ (s : Str) H1, Ex H H1 → Q (.str s) H1) : rStrIns C (spWebS C) E [.ref x] H Q := by
  obtain ⟨dx, t, ti, h1, _⟩ := id hx
  exact ⟨x, dx, _, rfl, h1, x, ts, rfl, hx, hT, fun H1 e1 => ⟨⟨_, rfl⟩, q _ H1 e1⟩⟩
theorem go_pickV {i : Nat} {t c : Addr} {n m : Nat} {ta : TA} {R : V → Hp → Prop} (mo : EnL.Mono R) (h0 : σ[i]? = some (some (.ref t))) (T : Tub G t c n) (hn : n < 1000000) (h : EvAF ta σ G m R) (m1 : 1 ≤ m) (m2 : m ≤ 1000)
    (q : ∀ v G', Kept t G G' → Tub G' t c (n + 1) → R v (nw G G') → Q v G') : tCall (spPick K) [] E0 (tCons (tVar i) (tCons (tLst ta) tNil)) σ G Q := by
  refine ⟨.ref t, h0, h G (Evl.Ex.refl G) _ fun vs G1 e1 l1 r1 => ⟨by rw [sizeLine_eq]; omega, fun l hl => ⟨t, c, l, vs, n, rfl, (T.ex e1).ex (Evl.Ex.new hl), hn, ((T.ex e1).ne hl).1, .inl (.inl upd_same), by omega, by omega, fun j v G' hj k T' => ?_⟩⟩⟩
  have kk : Kept t G G' := ((kept_ex e1).trans (kept_ex (Evl.Ex.new hl))).trans k
  refine q v G' kk T' (mo _ _ _ (fun a o ha => ?_) (r1 v (List.mem_of_getElem? hj)))
  obtain ⟨z1, z2⟩ := nw_at ha
  refine nw_of z1 (k _ _ (T.ne z1).1 ?_)
  rw [upd_ne (fun z => by rw [z, hl] at z2; cases z2)]
  exact z2
end
section
variable {P : Program} {w : World} {K : PySem.W.Frag} {mg : Str → Option Value} {base : Heap}
set_option maxHeartbeats 8000000 in
theorem ok_refused {f fS fP fF fA fH fT C CE CB CF CS c T1 : Addr} {fd fdS fdP fdF fdA fdH fdT : FuncData} {k : Nat} (F : Fun K "_law_refused_right" "_law_refused_right" sLRefused f fd) (hcode : fd.code = .ref c) (TB : TabB base mg c T1)
    (FS : Fun K "_law_spin" "_law_spin" sScoop fS fdS) (GS : FnOk P w K mg base CX0 k fS fdS ["carousel", "many"] spScoop) (bS : Binds K fdS ["carousel", "many"] []) (gS : mg "_law_spin" = some (.ref fS))
    (FP : Fun K "_law_pick" "_law_pick" sPick fP fdP) (GP : FnOk P w K mg base CX0 k fP fdP ["carousel", "some"] (spPick K)) (bP : Binds K fdP ["carousel", "some"] []) (gP : mg "_law_pick" = some (.ref fP))
    (T : TWeb K mg C)
    (FF : Fun K "faces_of" "faces_of" sFacesOf fF fdF) (GF : FnOk P w K mg base (L2.CX P w) k fF fdF ["web"] (spFaces K C CE)) (bF : Binds K fdF ["web"] []) (gF : mg "faces_of" = some (.ref fF))
    (FA : Fun K "face_at" "face_at" sFaceAt fA fdA) (GA : FnOk P w K mg base (L2.CX P w) k fA fdA ["web", "one", "other"] (spFaceAt K C CE CB CF)) (bA : Binds K fdA ["web", "one", "other"] []) (gA : mg "face_at" = some (.ref fA))
    (sT : PySem.W.findIn K (.ref C) "__str__" = some (some (.ref fT))) (sF : PySem.W.isFn K (.ref fT) = true) (GT : FnOk P w K mg base CX0 k fT fdT ["self"] (spWebS C)) (bT : Binds K fdT ["self"] [])
    (FH : Fun K "_law_caught" "_law_caught" sCaught fH fdH) (bH : Binds K fdH ["ask"] []) (gH : mg "_law_caught" = some (.ref fH)) (E2 : TE05 K mg CE CB CF CS)
    (mi : mg "isinstance" = none) (mstr : mg "str" = none) (mrange : mg "range" = none) :
    FnG P w K mg base (k + 3) f fd ["carousel", "web", "turns"] (spRf C T1) := by
  obtain ⟨ocH, odH, kVH, docH, pmH, anH, cdH, ctH, oslH, rfl, lkH, hcdH⟩ := FH.ex
  refine fn_gC F hcode scRf (fun {vs H Q E} h => ?_) (fun A outer s H vs Q E hgd hr h => ?_)
  · obtain ⟨t, c0, x, l, ts, n, rfl, _⟩ := h
    rfl
  · obtain ⟨t, c0, x, l, ts, n, rfl, o0, hn, hW, hL, hT, h8, q⟩ := h
    have nd := scRf.nd
    have hk := hr.mono (show k ≤ k + 2 by omega)
    have hTm : (T1, nmA) ∈ Ts T1 := List.mem_cons_self
    have hu : ∀ p ∈ Ts T1, p.1 = T1 → p.2 = nmA := fun p hp e => by
      rw [List.mem_singleton.mp hp]
    refine ⟨_, pss_cons (ps_set (i := 3) nd rfl (.inr rfl) (pe_call GP hk (by rfl) gP FP.kp bP .nil pass0 (pa_cons (pv 0) (pa_cons (pe_lst (pa_cons pe_non (pa_cons pe_int (pa_cons (pe_callTy (call_strIns GT hr sT sF bT pass0) (by rfl) mstr (by decide +kernel) (pa_cons (pv 1) pa_nil)) (pa_cons (pe_fld (pv 1) rfl) (pa_cons pe_bl pa_nil)))))) pa_nil))))
      (pss_cons (ps_asg (pe_tup (pa_cons (pe_call GP hk (by rfl) gP FP.kp bP .nil pass0 (pa_cons (pv 0) (pa_cons (pe_lst (pa_cons pe_int (pa_cons (pe_op op_add (pe_fld (pv 1) rfl) pe_int) (pa_cons pe_non (pa_cons pe_bl (pa_cons pe_str (pa_cons (pe_tup (pa_cons pe_int (pa_cons pe_int pa_nil))) pa_nil))))))) pa_nil)))
          (pa_cons (pe_call GP hk (by rfl) gP FP.kp bP .nil pass0 (pa_cons (pv 0) (pa_cons (pe_lst (pa_cons pe_int (pa_cons (pe_un un_neg pe_int) (pa_cons (pe_op op_add (pe_fld (pv 1) rfl) pe_int) (pa_cons pe_non (pa_cons (pe_lst (pa_cons pe_int pa_nil)) pa_nil)))))) pa_nil))) pa_nil)))
          (pg_tup (by rfl) (pgs_cons (pg_name (i := 4) nd rfl (Or.inr rfl)) (pgs_cons (pg_name (i := 5) nd rfl (Or.inr rfl)) pgs_nil))))
      (pss_cons (ps_set (i := 6) nd rfl (.inr rfl) (pe_op op_add pe_int (pe_call GS hk (by rfl) gS FS.kp bS .nil pass0 (pa_cons (pv 0) (pa_cons (pe_fld (pv 1) rfl) pa_nil)))))
      (pss_cons (ps_set (i := 7) nd rfl (.inr rfl) (pe_lc (own := [("other", 8)]) (g := gName 8) (tt := tTest (tOp (rIn K true) (tVar 8) (tOp (rIxL K) (tVar 2) (tOp (rI0 fun i j => .int (i - j)) (tVar 6) (tC (.int 1)))))) (te := tVar 8) rfl nd
          (pi_range2 (by rfl) mrange (pa_cons pe_int (pa_cons (pe_op op_add (pe_fld (pv 1) rfl) pe_int) pa_nil))) (blkOk_by (N := nRf) (sc := defScope sLRefused) (by decide +kernel)) (fun _ _ _ _ _ => pg_name (i := 8) nd rfl (Or.inl rfl))
          (fun _ _ _ _ _ => pts_one (pt_cmpR op_notIn_seq (pv 8) (pe_ix ix_list (pv 2) (pe_op op_sub (pv 6) pe_int) (fun _ _ => rfl)) (by with_unfolding_all rfl))) (fun _ _ _ _ _ => pv 8)))
      (pss_cons (ps_set (i := 9) nd rfl (.inl rfl) (pe_lst (pa_cons
          (pe_lamcall (k := k) (T := Ts T1) (t := fun E => tCall (spFaces K C CE) [] E (tCons (tVar 3) tNil)) (by rfl) gH FH.kp lkH hcdH bH scCaught rfl (Or.inl (by rfl)) (gives_caught mi E2) TB rfl hTm hu hr (lamS_by (sc := defScope sLRefused) (by decide +kernel)) (by rfl) (fun _ _ _ _ _ => rfl)
            (fun A outer s H E f' c' hr2 => by exact (pe_call GF hr2 (by rfl) gF FF.kp bF .nil (passAll fun σ => passAt (takes_of rfl rfl rfl rfl) σ) (pa_cons (pv 3) pa_nil)))) (pa_cons
          (pe_lamcallD (k := k) (x := "a1") (T := Ts T1) (t := fun E => tCall (spFaceAt K C CE CB CF) [] E (tCons (tVar 3) (tCons (tVar 4) (tCons (tVar 5) tNil)))) (by rfl) gH FH.kp lkH hcdH bH scCaught rfl (Or.inl (by rfl)) (gives_caught mi E2) TB rfl hTm hu hr (lamSD_by (sc := defScope sLRefused) (by decide +kernel)) ha1R rfl (fun _ _ _ _ _ _ _ => ⟨_, rfl, rfl⟩)
            (fun A outer s H E f' c' hr2 => by exact (pe_call GA hr2 (by rfl) gA FA.kp bA .nil (passAll fun σ => passAt (takes_of rfl rfl rfl rfl) σ) (pa_cons (pv 3) (pa_cons (pv 4) (pa_cons (pv 5) pa_nil)))))) (pa_cons
          (pe_lamcallD (k := k) (x := "a2") (T := Ts T1) (t := fun E => tCall (spFaceAt K C CE CB CF) [] E (tCons (tVar 1) (tCons (tVar 4) (tCons (tVar 5) tNil)))) (by rfl) gH FH.kp lkH hcdH bH scCaught rfl (Or.inl (by rfl)) (gives_caught mi E2) TB rfl hTm hu hr (lamSD_by (sc := defScope sLRefused) (by decide +kernel)) ha2R rfl (fun _ _ _ _ _ _ _ => ⟨_, rfl, rfl⟩)
            (fun A outer s H E f' c' hr2 => by exact (pe_call GA hr2 (by rfl) gA FA.kp bA .nil (passAll fun σ => passAt (takes_of rfl rfl rfl rfl) σ) (pa_cons (pv 1) (pa_cons (pv 4) (pa_cons (pv 5) pa_nil)))))) pa_nil)))))
      (pss_cons (ps_expr (pe_bm PySem.F.plainAttrs_list PySem.F.slot_list_append PySem.F.type_list_append mt_append (pv 9) (pa_cons
          (pe_lamcall (k := k) (T := Ts T1) (t := fun E => tCall (spFaceAt K C CE CB CF) [] E (tCons (tVar 1) (tCons (tVar 6) (tCons (tVar 5) tNil)))) (by rfl) gH FH.kp lkH hcdH bH scCaught rfl (Or.inl (by rfl)) (gives_caught mi E2) TB rfl hTm hu hr (lamS_by (sc := defScope sLRefused) (by decide +kernel)) (by rfl) (fun _ _ _ _ _ => rfl)
            (fun A outer s H E f' c' hr2 => by exact (pe_call GA hr2 (by rfl) gA FA.kp bA .nil (passAll fun σ => passAt (takes_of rfl rfl rfl rfl) σ) (pa_cons (pv 1) (pa_cons (pv 6) (pa_cons (pv 5) pa_nil)))))) pa_nil)))
      (pss_cons (ps_expr (pe_bm PySem.F.plainAttrs_list PySem.F.slot_list_append PySem.F.type_list_append mt_append (pv 9) (pa_cons
          (pe_lamcall (k := k) (T := Ts T1) (t := fun E => tCall (spFaceAt K C CE CB CF) [] E (tCons (tVar 1) (tCons (tVar 6) (tCons (tCall (spPick K) [] E0 (tCons (tVar 0) (tCons (tVar 7) tNil))) tNil)))) (by rfl) gH FH.kp lkH hcdH bH scCaught rfl (Or.inl (by rfl)) (gives_caught mi E2) TB rfl hTm hu hr (lamS_by (sc := defScope sLRefused) (by decide +kernel)) (by rfl) (fun _ _ _ _ _ => rfl)
            (fun A outer s H E f' c' hr2 => by exact (pe_call GA hr2 (by rfl) gA FA.kp bA .nil (passAll fun σ => passAt (takes_of rfl rfl rfl rfl) σ) (pa_cons (pv 1) (pa_cons (pv 6) (pa_cons (pe_call GP hr2 (by rfl) gP FP.kp bP .nil pass0 (pa_cons (pv 0) (pa_cons (pv 7) pa_nil))) pa_nil)))))) pa_nil)))
      (pss_one (ps_ret (pe_cmpR (op_eqD hr.units) (pv 9) (pe_lst (pa_cons (pe_tup (pa_cons pe_str (pa_cons pe_str pa_nil))) (pa_cons (pe_tup (pa_cons pe_str (pa_cons pe_str pa_nil))) (pa_cons (pe_tup (pa_cons pe_str (pa_cons pe_str pa_nil))) (pa_cons (pe_tup (pa_cons pe_str (pa_cons pe_str pa_nil))) (pa_cons (pe_tup (pa_cons pe_str (pa_cons pe_str pa_nil))) pa_nil)))))) (nomark _)))))))))), ?_⟩
    have p1 := hT.pos
    have exH : Evl.Ex (strip t H) H := strip_ex
    obtain ⟨dx, xt, xi, hx, hxt, hxi⟩ := id hW
    -- odd
    refine asg_go ⟨.ref t, rfl, cons_any (lst_go (cons_c (cons_c (cons_any (cb_go ⟨.ref x, rfl, str_go (hW.ex exH) hT fun sx H1 e1 => ?_⟩)))))⟩
    have e01 : Evl.Ex (strip t H) (strip t H1) := sx_ex e1
    refine cons_any ((ev_fld (Evl.ev_var rfl) (e1 _ _ (exH _ _ hx)) T.cl T.nT (wf_t _ _ _)) H1 (Evl.Ex.refl _) _ fun H2 e2 => cons_c ⟨by show 5 ≤ sizeLine; decide, fun l5 hl5 => ?_⟩)
    have o2 := (o0.ex e1).ex e2
    have eN := Evl.Ex.new (o := .lst [V.non, .int 5, .str sx, .ref xt, .bl true]) hl5
    refine ⟨t, c0, l5, _, n, rfl, o2.tub.ex eN, by omega, (o2.tub.ne hl5).1, .inl (.inl upd_same), by show 1 ≤ 5; decide, by show 5 ≤ 10000; decide, fun j odd H3 hj k3 T3 => ?_⟩
    have o3 := (o2.ex eN).kept k3 T3
    have e03 : Evl.Ex (strip t H) (strip t H3) := ((e01.trans (sx_ex e2)).trans (sx_ex eN)).trans (sx_kept k3)
    have tyo : ∃ nm, Ty7 K (strip t H3) odd nm := by
      obtain ⟨as, a1, _⟩ := hxt
      have hm := List.mem_of_getElem? hj
      simp only [List.mem_cons, List.not_mem_nil, or_false] at hm
      rcases hm with rfl | rfl | rfl | rfl | rfl
      · exact ⟨_, .non⟩
      · exact ⟨_, .int _⟩
      · exact ⟨_, .str _⟩
      · exact ⟨_, .tup (Evl.st_of (e03 _ _ a1))⟩
      · exact ⟨_, .bl _⟩
    clear hj k3 T3 eN o2 e2 e1 e01 hl5 hxt hxi
    have mn : ∀ {σ : L2.St} {G : Hp}, σ[1]? = some (some (.ref x)) → Evl.Ex (strip t H) G → Evl.Ev (tFld K (tVar 1) "many") σ G (.int (ts.length : Int)) := fun h e => ev_fld (Evl.ev_var h) (e _ _ hx) T.cl T.nM (wf_m _ _ _)
    have oi : ∀ {i : Int} {te : TE} {σ : L2.St} {G : Hp}, Evl.Ev te σ G (.int i) → (i < 1 ∨ (ts.length : Int) < i) → EvF te σ G (OddA K ts.length) := fun h hi => ef_c h fun _ => ⟨⟨_, .int _⟩, wi_no hi⟩
    have mo := OddA.mono (K := K) (m := ts.length)
    -- bad, worse
    refine q_asg1 (tup_go (cons_any ?_))
    refine go_pickV (R := OddA K ts.length) mo rfl o3.tub (by omega) (ef_cons mo (oi Evl.ev_c (.inl (by decide))) (ef_cons mo (oi (Evl.ev_op (mn rfl (e03.trans strip_ex)) Evl.ev_c Evl.rv_I0) (.inr (by omega))) (ef_cons mo (ef_c Evl.ev_c fun _ => ⟨⟨_, .non⟩, rfl⟩)
      (ef_cons mo (ef_c Evl.ev_c fun _ => ⟨⟨_, .bl _⟩, rfl⟩) (ef_cons mo (ef_c Evl.ev_c fun _ => ⟨⟨_, .str _⟩, rfl⟩) (ef_cons mo (ef_u (Evl.eu_tup (Evl.ea_cons Evl.ev_c (Evl.ea_cons Evl.ev_c Evl.ea_nil)) (by decide)) fun p H h => ⟨⟨_, .tup (Evl.st_of h)⟩, rfl⟩) ef_nil)))))) (by omega) (by omega) fun bad H4 k4 T4 w4 => ?_
    have o4 := o3.kept k4 T4
    have e04 := e03.trans (sx_kept k4)
    refine cons_any ?_
    refine go_pickV (R := OddA K ts.length) mo rfl T4 (by omega) (ef_cons mo (oi Evl.ev_c (.inl (by decide))) (ef_cons mo (oi (Evl.ev_un Evl.ev_c Evl.ru_neg) (.inl (by decide))) (ef_cons mo (oi (Evl.ev_op (mn rfl (e04.trans strip_ex)) Evl.ev_c Evl.rv_I0) (.inr (by omega)))
      (ef_cons mo (ef_c Evl.ev_c fun _ => ⟨⟨_, .non⟩, rfl⟩) (ef_cons mo (ef_l (Evl.el_lst (Evl.ea_cons Evl.ev_c Evl.ea_nil) (by decide)) fun p H h => ⟨⟨_, .lst (Evl.sq_of h)⟩, rfl⟩) ef_nil))))) (by omega) (by omega) fun worse H5 k5 T5 w5 => ?_
    have o5 := o4.kept k5 T5
    have e05 := e04.trans (sx_kept k5)
    refine ⟨by show 2 ≤ sizeLine; decide, fun p hp => ⟨p, _, rfl, Evl.st_of upd_same, rfl, bad, _, rfl, worse, _, rfl, rfl, ?_⟩⟩
    have eN := Evl.Ex.new (o := .tup [bad, worse]) hp
    have o6 := o5.ex eN
    have e06 := e05.trans (sx_ex (t := t) eN)
    -- one
    dsimp only [gName]
    refine asg_go (op_go ⟨.ref t, rfl, (mn rfl (e06.trans strip_ex)) _ (Evl.Ex.refl _) _ fun H7 e7 => ⟨t, c0, _, _, rfl, o6.tub.ex e7, by omega, by omega, by omega, fun r H8 r0 r1 k8 T8 => ⟨1, r, rfl, rfl, ?_⟩⟩⟩)
    have o8 := (o6.ex e7).kept k8 T8
    have e08 := (e06.trans (sx_ex e7)).trans (sx_kept k8)
    obtain ⟨m, em⟩ : ∃ m : Nat, 1 + r = (m : Int) := ⟨(1 + r).toNat, by omega⟩
    have m1 : 1 ≤ m := by omega
    have m2 : m ≤ ts.length := by omega
    dsimp only
    rw [em]
    have tyb : OddA K ts.length bad H8 := mo _ _ _ (nw_by fun a o h1 h2 => k8 _ _ (o3.tub.ne h1).1 (e7 _ _ (eN _ _ (k5 _ _ (o3.tub.ne h1).1 h2)))) w4
    have tyw : OddA K ts.length worse H8 := mo _ _ _ (nw_by fun a o h1 h2 => k8 _ _ (o4.tub.ne h1).1 (e7 _ _ (eN _ _ h2))) w5
    obtain ⟨no, tyo⟩ := tyo
    have tyo := tyo.ex (((sx_kept k4).trans (sx_kept k5)).trans ((sx_ex (t := t) eN).trans ((sx_ex e7).trans (sx_kept k8))))
    clear w4 w5 k4 k5 e03 e04 e05 e06 o3 o4 o5 o6 T4 T5 eN k8 T8 e7 oi mo
    -- loose
    have hg : m - 1 < ts.length := by omega
    obtain ⟨as, hl, ha, hrow⟩ := id hL
    obtain ⟨am, ham⟩ : ∃ a, as[m - 1]? = some a := ⟨_, List.getElem?_eq_getElem (by omega)⟩
    have hgm := List.getElem?_eq_getElem hg
    have hrm := hrow _ am _ ham hgm
    generalize ts[m - 1] = ns at hgm hrm
    have q08 : Evl.Ex (strip t H) H8 := e08.trans strip_ex
    have at1 : atI (as.map V.ref) ((m : Int) - 1) = some (.ref am) := by
      rw [show (m : Int) - 1 = ((m - 1 : Nat) : Int) by omega]
      exact atI_nat (by rw [List.getElem?_map, ham]; rfl)
    refine Evl.q_asgL (xs := Evl.given ts.length (fun i => !decide ((1 : Int) + (i : Nat) ∈ ns)) (fun i => .int (1 + (i : Nat)))) (el_lcI _ _ (ei_rng2c (i := 1) (j := (ts.length : Int) + 1) (n := ts.length) (by omega) (Evl.ea_cons Evl.ev_c (Evl.ea_cons (Evl.ev_op (mn rfl q08) Evl.ev_c Evl.rv_I0) Evl.ea_nil)) ⟨by omega, by omega⟩ ⟨by omega, by omega⟩) (aims_fn (j := 8)) (fun _ => rfl) (by omega)
      (fun i G e hi => Evl.et_is (Evl.et_test (Evl.ev_op (Evl.ev_var rfl) (Evl.ev_op (x := .ref l) (z := .ref am) (Evl.ev_var rfl) (Evl.ev_op (Evl.ev_var rfl) Evl.ev_c Evl.rv_I0) (Evl.rv_ixL (Evl.sq_of (e _ _ (q08 _ _ hl))) at1)) (Evl.rv_niL (Evl.sq_of (e _ _ (q08 _ _ hrm))) rfl (flat_ints _)))) (by rw [in_ints])) fun i G e hi _ => Evl.ev_var rfl) fun D H9 hD e9 h9 => ?_
    have hLn : ∀ v ∈ Evl.given ts.length (fun i => !decide ((1 : Int) + (i : Nat) ∈ ns)) (fun i => V.int (1 + (i : Nat))), ∃ o : Int, v = .int o ∧ 1 ≤ o ∧ o ≤ ts.length ∧ o ∉ ns := fun v hv => by
      unfold Evl.given at hv
      obtain ⟨i, hi, rfl⟩ := List.mem_map.mp hv
      obtain ⟨h1, h2⟩ := List.mem_filter.mp hi
      have h3 := List.mem_range.mp h1
      rw [Bool.not_eq_true'] at h2
      exact ⟨_, rfl, by omega, by omega, of_decide_eq_false h2⟩
    have hLl : (Evl.given ts.length (fun i => !decide ((1 : Int) + (i : Nat) ∈ ns)) (fun i => V.int (1 + (i : Nat)))).length ≤ 8 := by
      unfold Evl.given
      rw [List.length_map]
      refine Nat.le_trans (List.length_filter_le _ _) ?_
      rw [List.length_range]
      exact h8
    have hL1 : 1 ≤ (Evl.given ts.length (fun i => !decide ((1 : Int) + (i : Nat) ∈ ns)) (fun i => V.int (1 + (i : Nat)))).length := by
      unfold Evl.given
      rw [List.length_map]
      refine List.length_pos_of_mem (a := m - 1) (List.mem_filter.mpr ⟨List.mem_range.mpr hg, ?_⟩)
      have := (hT.pl _ _ hgm).2.2
      rw [Bool.not_eq_true']
      refine decide_eq_false fun z => this ?_
      rw [show ((m - 1 : Nat) : Int) + 1 = 1 + ((m - 1 : Nat) : Int) by omega]
      exact z
    generalize Evl.given ts.length (fun i => !decide ((1 : Int) + (i : Nat) ∈ ns)) (fun i => V.int (1 + (i : Nat))) = xs at h9 hLn hLl hL1
    have o9 := o8.ex e9
    have e09 := e08.trans (sx_ex e9)
    have tyo := tyo.ex (sx_ex (t := t) e9)
    obtain ⟨⟨nb, tyb⟩, wb⟩ := tyb
    obtain ⟨⟨nw', tyw⟩, ww⟩ := tyw
    have tyb := tyb.ex e9
    have tyw := tyw.ex e9
    clear o8 e08 q08 e9 hD mn at1 hrm ham
    -- B
    obtain ⟨ps, hT1, _, _⟩ := o9.tabs (T1, nmA) hTm
    have eB : Evl.Ex (strip t H9) (strip T1 H9) := fun a o h => strip_tb (t := T1) hT1 (strip_le h).2.1 (strip_le h).2.2
    have LV : Live (Ts T1) (strip T1 H9) H9 := ⟨strip_ex, strip_nt, o9.tabs⟩
    have TB := tub_strip hT1 o9.tub
    have tyo := tyo.ex eB
    have tyb := Ty7.strip hT1 tyb
    have tyw := Ty7.strip hT1 tyw
    have hD9 : strip T1 H9 D = some (.lst xs) := strip_tb (t := T1) hT1 h9 fun ps z => nomatch z
    have back := e09.trans eB
    have WB := hW.ex back
    clear e09 hT1 eB o9 h9 o0
    generalize strip T1 H9 = B at LV TB tyo tyb tyw back WB hD9
    have yes : wi (.int (m : Int)) (.int 1) (.int (ts.length : Int)) = true := wi_is m1 m2
    refine asg_go (lst_go ?_)
    refine cons_any (lam_raiseM (m := mCa.length) (fs := [(("part" : Str), .str "web")]) (vs := [.str "web", .str "web"]) LV E2.xe (fun G1 E Q' ex k => ⟨odd, rfl, odd, none, rfl, .no (tyo.ex ex), fun _ H2 d e hd => k H2 d e hd, fun ts h => nomatch h⟩)
      (fun G a d σ' D' h1 h2 h3 h4 k => rd_e E2 h1 h2 h3 h4 k) fun p1 H10 L10 h10 f10 => ?_)
    have x10 := Evl.Ex.new (H := B) (o := .tup [.str "web", .str "web"]) f10
    refine cons_any (lam_raiseM (m := mCa.length) (fs := [(("part" : Str), .str "web")]) (vs := [.str "web", .str "web"]) L10 E2.xe (fun G1 E Q' ex k => ⟨odd, rfl, bad, rfl, worse, rfl, odd, bad, worse, none, nb, nw', rfl, .no (tyo.ex (x10.trans ex)), tyb.ex (x10.trans ex), tyw.ex (x10.trans ex), fun _ H2 d e hd => k H2 d e hd, fun ts h => nomatch h⟩)
      (fun G a d σ' D' h1 h2 h3 h4 k => rd_e E2 h1 h2 h3 h4 k) fun p2 H11 L11 h11 f11 => ?_)
    have x11 := x10.trans (Evl.Ex.new (o := .tup [.str "web", .str "web"]) f11)
    refine cons_any (lam_raiseM (m := mCa.length) (fs := [(("part" : Str), .str "one")]) (vs := [.str "number", .str "one"]) L11 E2.xb (fun G1 E Q' ex k => ⟨.ref x, rfl, bad, rfl, worse, rfl, .ref x, bad, worse, some ts, nb, nw', rfl, .web (WB.ex (x11.trans ex)), tyb.ex (x11.trans ex), tyw.ex (x11.trans ex), (fun z => nomatch z), fun us eu => by
        cases eu
        exact ⟨hT, fun _ H2 d e hd => k H2 d e hd, (fun z => by rw [wb] at z; cases z), fun p o ns ev _ h1 _ _ hg => (odd_absurd wb ev h1 (by have := (List.getElem?_eq_some_iff.mp hg).1; omega)).elim⟩⟩)
      (fun G a d σ' D' h1 h2 h3 h4 k => rd_b E2 h1 h2 h3 h4 k) fun p3 H12 L12 h12 f12 => ?_)
    have x12 := x11.trans (Evl.Ex.new (o := .tup [.str "number", .str "one"]) f12)
    refine ⟨by show 3 ≤ sizeLine; decide, fun h1 n1 => ?_⟩
    have T12 := TB.ex (x12.trans L12.ex)
    have B1 := L12.fresh n1
    have z1 : ∀ {G : Hp}, Evl.Ex (upd (upd (upd B p1 (.tup [.str "web", .str "web"])) p2 (.tup [.str "web", .str "web"])) p3 (.tup [.str "number", .str "one"])) G → G p1 = some (.tup [.str "web", .str "web"]) ∧ G p2 = some (.tup [.str "web", .str "web"]) ∧ G p3 = some (.tup [.str "number", .str "one"]) := fun {G} e =>
      ⟨e _ _ ((Evl.Ex.new f12) _ _ ((Evl.Ex.new f11) _ _ upd_same)), e _ _ ((Evl.Ex.new f12) _ _ upd_same), e _ _ upd_same⟩
    have eA : Evl.Ex (strip t H) H12 := back.trans (x12.trans L12.ex)
    have n0 : strip t H h1 = none := Evl.fresh_back eA n1
    generalize upd (upd (upd B p1 (.tup [.str "web", .str "web"])) p2 (.tup [.str "web", .str "web"])) p3 (.tup [.str "number", .str "one"]) = B12 at L12 x12 B1 z1
    have L13 := (L12.go (Evl.Ex.new (o := .lst [.ref p1, .ref p2, .ref p3]) n1)).add (p := h1) (o := .lst [.ref p1, .ref p2, .ref p3]) upd_same fun ps z => nomatch z
    have x13 := x12.trans (Evl.Ex.new (o := .lst [.ref p1, .ref p2, .ref p3]) B1)
    -- the fourth
    refine ⟨.ref h1, rfl, .inl ⟨rfl, _, Evl.sq_of upd_same⟩, cons_any (lam_raiseM (m := mCa.length) (fs := [(("part" : Str), .str "other")]) (vs := [.str "number", .str "other"]) L13 E2.xb (fun G1 E Q' ex k => ⟨.ref x, rfl, .int (m : Int), rfl, worse, rfl, .ref x, .int (m : Int), worse, some ts, "int", nw', rfl, .web (WB.ex (x13.trans ex)), .int _, tyw.ex (x13.trans ex), (fun z => nomatch z), fun us eu => by
        cases eu
        exact ⟨hT, (fun z => by rw [yes] at z; cases z), (fun _ _ H2 d e hd => k H2 d e hd), fun p o ns _ ev _ o1 o2 _ => (odd_absurd (p := o.toNat) ww (by rw [ev, show ((o.toNat : Nat) : Int) = o by omega]) (by omega) (by omega)).elim⟩⟩)
      (fun G a d σ' D' h1 h2 h3 h4 k => rd_b E2 h1 h2 h3 h4 k) fun p4 H14 L14 h14 f14 => ?_)⟩
    have B4 : Evl.Ex (upd B12 h1 (.lst [.ref p1, .ref p2, .ref p3])) (upd (upd B12 h1 (.lst [.ref p1, .ref p2, .ref p3])) p4 (.tup [.str "number", .str "other"])) := Evl.Ex.new f14
    have g14 := L14.ex _ _ (B4 _ _ upd_same)
    refine ⟨h1, _, .ref p4, rfl, rfl, g14, by show 3 < sizeLine; decide, ?_⟩
    have T14 := TB.ex ((x13.trans B4).trans L14.ex)
    have y14 := z1 (((Evl.Ex.new (o := .lst [.ref p1, .ref p2, .ref p3]) B1).trans B4).trans L14.ex)
    have e14 : Evl.Ex (strip t H) H14 := back.trans ((x13.trans B4).trans L14.ex)
    have ht1 := T12.ne n1
    have T15 := tub_put (o := .lst ([V.ref p1, .ref p2, .ref p3] ++ [.ref p4])) T14 ht1.1 ht1.2
    have tabs15 := tabs_put (o := .lst ([V.ref p1, .ref p2, .ref p3] ++ [.ref p4])) L14.tabs g14
    have ne1 : ∀ {p : Addr} {ys : List V} {G : Hp} {zs : List V}, G h1 = some (.lst zs) → G p = some (.tup ys) → p ≠ h1 := fun a b e => by rw [e, a] at b; cases b
    have y15 : ∀ {p : Addr} {ys : List V}, H14 p = some (.tup ys) → upd H14 h1 (.lst ([V.ref p1, .ref p2, .ref p3] ++ [.ref p4])) p = some (.tup ys) := fun h => by rw [upd_ne (ne1 g14 h)]; exact h
    have w1 := y15 y14.1
    have w2 := y15 y14.2.1
    have w3 := y15 y14.2.2
    have w4 := y15 h14
    have e15 : Evl.Ex (strip t H) (upd H14 h1 (.lst ([V.ref p1, .ref p2, .ref p3] ++ [.ref p4]))) := e14.mut n0
    have g15 : upd H14 h1 (.lst ([V.ref p1, .ref p2, .ref p3] ++ [.ref p4])) h1 = some (.lst ([V.ref p1, .ref p2, .ref p3] ++ [.ref p4])) := upd_same
    have hD14 := L14.ex _ _ (B4 _ _ ((Evl.Ex.new (o := .lst [.ref p1, .ref p2, .ref p3]) B1) _ _ (x12 _ _ hD9)))
    have hDh : D ≠ h1 := fun z => by have := x12 _ _ hD9; rw [z, B1] at this; cases this
    have hD15 : upd H14 h1 (.lst ([V.ref p1, .ref p2, .ref p3] ++ [.ref p4])) D = some (.lst xs) := by rw [upd_ne hDh]; exact hD14
    have W15 := WB.ex (((x13.trans B4).trans L14.ex)) 
    have W15 : WebAt C (upd H14 h1 (.lst ([V.ref p1, .ref p2, .ref p3] ++ [.ref p4]))) x ts := W15.keep fun a o ha h1' h2' => by
      rw [upd_ne (fun z => by rw [z, g14] at ha; exact h1' _ (Option.some.inj ha).symm)]
      exact ha
    generalize upd H14 h1 (.lst ([V.ref p1, .ref p2, .ref p3] ++ [.ref p4])) = H15 at T15 tabs15 w1 w2 w3 w4 e15 g15 hD15 W15
    clear T14 T12 y14 y15 e14 g14 h14 hD14 L14 L13 L12 L11 L10 LV TB x10 x11 x12 x13 B4 f14 z1 tyo tyb tyw WB hD9 back eA
    have Dt : D ≠ t := fun z => by
      obtain ⟨cs, turn, rest, ht, _⟩ := T15
      rw [z, ht] at hD15
      have e2 : xs = [V.ref c0, .int turn, .int rest] := (HO.lst.inj (Option.some.inj hD15)).symm
      obtain ⟨o, eo, _⟩ := hLn (.ref c0) (by rw [e2]; exact List.mem_cons_self)
      cases eo
    have h1t : h1 ≠ t := ht1.1
    dsimp only
    -- the fifth
    refine ⟨.ref h1, rfl, .inl ⟨rfl, _, Evl.sq_of g15⟩, cons_any (lam_raiseD (m := mCa.length) (fs := [(("part" : Str), .str "other")]) (vs := [.str "misfit", .str "other"]) tabs15 T15 E2.xf (fun G1 E Q' ex TG k => ?_)
      (fun G a d σ' D' h1 h2 h3 h4 k => rd_f E2 h1 h2 h3 h4 k) fun p5 H16 e16 tabs16 T16 h16 f16 => ?_)⟩
    · have hDG := ex _ _ (strip_at (t := t) hD15 Dt fun ps z => nomatch z)
      refine ⟨.ref x, rfl, .int (m : Int), rfl, .ref t, rfl, .ref D, rfl, t, c0, D, xs, _, rfl, TG, by omega, Dt, .inl (.inl hDG), hL1, by omega, fun j v H2 hj k2 T2 => ?_⟩
      obtain ⟨o, rfl, o1, o2, ho⟩ := hLn v (List.mem_of_getElem? hj)
      have WG : WebAt C H2 x ts := ((W15.stripT T15).ex ex).keep fun a o ha h1' h2' => k2 _ _ (fun z => by
        obtain ⟨cs, turn, rest, ht, _⟩ := TG
        rw [z, ht] at ha
        exact h1' _ (Option.some.inj ha).symm) ha
      refine ⟨.ref x, .int (m : Int), .int o, some ts, "int", "int", rfl, .web WG, .int _, .int _, (fun z => nomatch z), fun us eu => ?_⟩
      cases eu
      refine ⟨hT, (fun z => by rw [yes] at z; cases z), (fun _ z => ?_), fun p o' ns' ep eo p1 o1' o2' hg' => ?_⟩
      · have : wi (.int ((o.toNat : Nat) : Int)) (.int 1) (.int (ts.length : Int)) = true := wi_is (by omega) (by omega)
        rw [show ((o.toNat : Nat) : Int) = o by omega, z] at this
        cases this
      · cases eo
        have : m = p := by
          have := V.int.inj ep
          omega
        subst this
        rw [hgm] at hg'
        cases hg'
        exact ⟨fun _ H3 d e3 hd => k H3 d (k2.trans (kept_ex e3)) (T2.ex e3) hd, fun z => absurd z ho⟩
    · have keep : ∀ {a : Addr} {u : HO}, H15 a = some u → (∀ xs, u ≠ .lst xs) → (∀ ps, u ≠ .tbl ps) → H16 a = some u := fun h h1' h2' => e16 _ _ (strip_at (t := t) h (fun z => by
        obtain ⟨cs, turn, rest, ht, _⟩ := T15
        rw [z, ht] at h
        exact h1' _ (Option.some.inj h).symm) h2')
      have g16 := e16 _ _ (strip_at (t := t) g15 h1t fun ps z => nomatch z)
      refine ⟨h1, _, .ref p5, rfl, rfl, g16, by show 4 < sizeLine; decide, ?_⟩
      have e16' : Evl.Ex (strip t H) H16 := fun a o h => e16 a o (strip_at (e15 a o h) (strip_le h).1 (strip_le h).2.2)
      have h1c : h1 ≠ c0 := ht1.2
      have T17 := tub_put (o := .lst ([V.ref p1, .ref p2, .ref p3] ++ [.ref p4] ++ [.ref p5])) T16 h1t h1c
      have tabs17 := tabs_put (o := .lst ([V.ref p1, .ref p2, .ref p3] ++ [.ref p4] ++ [.ref p5])) tabs16 g16
      have e17 : Evl.Ex (strip t H) (upd H16 h1 (.lst ([V.ref p1, .ref p2, .ref p3] ++ [.ref p4] ++ [.ref p5]))) := e16'.mut n0
      have y17 : ∀ {p : Addr} {ys : List V}, H16 p = some (.tup ys) → upd H16 h1 (.lst ([V.ref p1, .ref p2, .ref p3] ++ [.ref p4] ++ [.ref p5])) p = some (.tup ys) := fun h => by rw [upd_ne (ne1 g16 h)]; exact h
      have tt : ∀ {p : Addr} {ys : List V}, H15 p = some (.tup ys) → H16 p = some (.tup ys) := fun h => keep h (fun xs z => nomatch z) fun ps z => nomatch z
      have v1 := y17 (tt w1)
      have v2 := y17 (tt w2)
      have v3 := y17 (tt w3)
      have v4 := y17 (tt w4)
      have v5 := y17 h16
      have g17 : upd H16 h1 (.lst ([V.ref p1, .ref p2, .ref p3] ++ [.ref p4] ++ [.ref p5])) h1 = some (.lst ([V.ref p1, .ref p2, .ref p3] ++ [.ref p4] ++ [.ref p5])) := upd_same
      generalize upd H16 h1 (.lst ([V.ref p1, .ref p2, .ref p3] ++ [.ref p4] ++ [.ref p5])) = H17 at T17 tabs17 e17 v1 v2 v3 v4 v5 g17
      dsimp only
      refine ret_go ?_
      refine op_go ⟨.ref h1, rfl, lst_go ?_⟩
      refine cons_u eu_two fun d1 G1 _ g1 k1 => cons_u eu_two fun d2 G2 _ g2 k2 => cons_u eu_two fun d3 G3 _ g3 k3 => cons_u eu_two fun d4 G4 _ g4 k4 => cons_u eu_two fun d5 G5 _ g5 k5 => ⟨by show 5 ≤ sizeLine; decide, fun dl nl => ?_⟩
      have eN := Evl.Ex.new (H := G5) (o := .lst [.ref d1, .ref d2, .ref d3, .ref d4, .ref d5]) nl
      have eT := ((((g1.trans g2).trans g3).trans g4).trans g5).trans eN
      refine ⟨.list [.tuple [.str "web", .str "web"], .tuple [.str "web", .str "web"], .tuple [.str "number", .str "one"], .tuple [.str "number", .str "other"], .tuple [.str "misfit", .str "other"]], .list [.tuple [.str "web", .str "web"], .tuple [.str "web", .str "web"], .tuple [.str "number", .str "one"], .tuple [.str "number", .str "other"], .tuple [.str "misfit", .str "other"]], ?_, ?_, by decide +kernel, by decide +kernel, ?_⟩
      · have two : ∀ {p : Addr} {s1 s2 : Str}, H17 p = some (.tup [.str s1, .str s2]) → Dp K (upd G5 dl (.lst [.ref d1, .ref d2, .ref d3, .ref d4, .ref d5])) (.ref p) (.tuple [.str s1, .str s2]) := fun h => .tup (Evl.st_of (eT _ _ h)) (.cons (.str _) (.cons (.str _) .nil))
        exact .lst (Evl.sq_of (eT _ _ g17)) (.cons (two v1) (.cons (two v2) (.cons (two v3) (.cons (two v4) (.cons (two v5) .nil)))))
      · have two : ∀ {p : Addr} {s1 s2 : Str}, G5 p = some (.tup [.str s1, .str s2]) → Dp K (upd G5 dl (.lst [.ref d1, .ref d2, .ref d3, .ref d4, .ref d5])) (.ref p) (.tuple [.str s1, .str s2]) := fun h => .tup (Evl.st_of (eN _ _ h)) (.cons (.str _) (.cons (.str _) .nil))
        exact .lst (Evl.sq_of upd_same) (.cons (two (g5 _ _ (g4 _ _ (g3 _ _ (g2 _ _ k1))))) (.cons (two (g5 _ _ (g4 _ _ (g3 _ _ k2)))) (.cons (two (g5 _ _ (g4 _ _ k3))) (.cons (two (g5 _ _ k4)) (.cons (two k5) .nil)))))
      · rw [show PyData.eqv (.list [.tuple [.str "web", .str "web"], .tuple [.str "web", .str "web"], .tuple [.str "number", .str "one"], .tuple [.str "number", .str "other"], .tuple [.str "misfit", .str "other"]]) (.list [.tuple [.str "web", .str "web"], .tuple [.str "web", .str "web"], .tuple [.str "number", .str "one"], .tuple [.str "number", .str "other"], .tuple [.str "misfit", .str "other"]]) = true from by decide +kernel]
        exact q _ (sx_to e17 eT) (Od.mk (tabs17.ext eT) ((T17.ex eT).mono (by omega)))
end
end P05
end S_Ef
section S_Xt
namespace EnL
open PySem PySem.Spec PyProof.Rows L2 Tl
/-! ### sum of a list of ints -/
def rSumL (K : PySem.W.Frag) : List V → Hp → VK → Prop := fun vs H Q => ∃ (a : Addr) (ns : List Int), vs = [V.ref a] ∧ SqL K H a (ns.map V.int) ∧ Q (.int ns.sum) H
theorem preSum_list (ns : List Int) : ∀ n, n ≤ ns.length → preSum (fun i => ns.getD i 0) n = (ns.take n).sum
  | 0, _ => by simp [preSum]
  | n + 1, h => by
    have ih := preSum_list ns n (by omega)
    rw [List.take_succ_eq_append_getElem (by omega), List.sum_append]
    show preSum (fun i => ns.getD i 0) n + ns.getD n 0 = _
    rw [ih, List.getD_eq_getElem?_getD, List.getElem?_eq_getElem (by omega)]
    simp
theorem cr_sumL {X : Cx} (hc : X.calm = true) : CallR X (.builtin "sum") (rSumL X.K) := by
  intro pins s σ H vs us Q I r h
  obtain ⟨a, ns, rfl, hs, q⟩ := h
  obtain ⟨its, rv, pl, _⟩ := I.list hs
  rw [Vals.ref1 r]
  have hlen : its.length = ns.length := by rw [← rv.length, List.length_map]
  refine call_sum_walkAnyS (PySem.W.iter_listW (A := X.A.in1) (I.ok.hd hc) pl.isList fun s₂ e W st hfp hw hk => ?_)
  refine ⟨_, _, _, _, _, _, _, fun i => ns.getD i 0, rfl, W, st, hfp, fun i v hP => ?_, fun s' t' m => ?_⟩
  · have hv : its[i]? = some v := by simpa using hP
    have hi : i < its.length := (List.getElem?_eq_some_iff.mp hv).1
    obtain ⟨u, hu2, ru⟩ := rv.get (show (ns.map V.int)[i]? = some (.int (ns.getD i 0)) by rw [List.getElem?_map, List.getD_eq_getElem?_getD, List.getElem?_eq_getElem (by omega)]; rfl)
    rw [hv] at hu2
    cases hu2
    obtain ⟨t, rfl⟩ := ru
    exact ⟨t, rfl⟩
  · obtain ⟨h', tk, rfl, hk'⟩ := PySem.W.moved_old e rfl m
    refine ⟨.int ns.sum, H, I.kept (t' := tk) hk', ?_, q⟩
    rw [List.size_toArray, hlen, preSum_list ns _ (Nat.le_refl _), List.take_length]
    exact ⟨_, rfl⟩
end EnL
end S_Xt
section S_Eg
namespace P05
open PySem PySem.Spec PyProof.Rows L2 Tl Hk LamX EnL
theorem q_par2 {i j : Nat} {t1 t2 : TE} {tz : TS} {D : Ends} {σ : L2.St} {H : Hp} (h : t1 σ H fun x H1 => t2 σ H1 fun y H2 => ∃ v w, [x, y] = [v, w] ∧ tz D ((σ.set i (some v)).set j (some w)) H2) : tSeq (tPar i j (tCons t1 (tCons t2 tNil))) tz D σ H := h
/-! ### more fuel, the same walk -/
theorem walkS_more {ts : List (List Int)} {g : Nat} : ∀ {f : Nat} {seen : List Sd} {s : Sd} {r : List Sd × List Sd}, walkS ts f seen s = some r → walkS ts (f + g) seen s = some r
  | 0, _, _, _, h => nomatch h
  | f + 1, seen, s, r, h => by
    rw [show f + 1 + g = (f + g) + 1 by omega]
    unfold walkS at h ⊢
    by_cases hs : s ∈ seen
    · rw [if_pos hs] at h ⊢
      exact h
    · rw [if_neg hs] at h ⊢
      cases hn : nxs ts s with
      | none => rw [hn] at h; cases h
      | some t =>
        rw [hn] at h
        dsimp only at h ⊢
        cases hw : walkS ts f (seen ++ [s]) t with
        | none => rw [hw] at h; cases h
        | some q => rw [hw] at h; rw [walkS_more hw]; exact h
theorem stepS_more {ts : List (List Int)} {f g : Nat} {q r : RSt} {s : Sd} (h : stepS ts f (some q) s = some r) : stepS ts (f + g) (some q) s = some r := by
  unfold stepS at h ⊢
  dsimp only at h ⊢
  by_cases hs : s ∈ q.1
  · rw [if_pos hs] at h ⊢
    exact h
  · rw [if_neg hs] at h ⊢
    cases hw : walkS ts f q.1 s with
    | none => rw [hw] at h; cases h
    | some z => rw [hw] at h; rw [walkS_more hw]; exact h
theorem runS_more {ts : List (List Int)} {f g : Nat} : ∀ {l : List Sd} {q r : RSt}, l.foldl (stepS ts f) (some q) = some r → l.foldl (stepS ts (f + g)) (some q) = some r
  | [], _, _, h => h
  | s :: l, q, r, h => by
    rw [List.foldl_cons] at h ⊢
    cases hq : stepS ts f (some q) s with
    | none => rw [hq, stepS_none] at h; cases h
    | some z => rw [hq] at h; rw [stepS_more hq]; exact runS_more h
theorem faces_is {ts : List (List Int)} (hT : OkT ts) (h8 : ts.length ≤ 8) {seen : List Sd} {cs : List (List Sd)} (hr : runS ts 500 = some (seen, cs)) : facesM ts = some (facesV ts cs) := by
  unfold facesM facesV
  by_cases h1 : ts.length = 1
  · rw [if_pos h1, if_pos h1]
  · rw [if_neg h1, if_neg h1]
    have hs := sides_small hT h8
    obtain ⟨seen', cs', h4, _⟩ := run_all hT (fu := 400) (by omega)
    have h5 : runS ts (400 + 100) = some (seen', cs') := runS_more h4
    rw [hr] at h5
    cases h5
    have := faces_from hT ts 0 (q := ([], [])) (fun s hs => (side_mem hT).mpr hs) h4
    rw [show dsOf ts [] = ts.map behindOf from dsF_nil] at this
    rw [show (([] : List (List Sd)).map (List.map Prod.fst)) = [] from rfl] at this
    rw [this]
    rfl
theorem faces_sum {ts : List (List Int)} (hT : OkT ts) {seen : List Sd} {cs : List (List Sd)} (r : Rnd ts (sidesL ts) seen cs) : ((facesV ts cs).map List.length).sum = 2 * (tiesOf ts).length := by
  unfold facesV
  by_cases h1 : ts.length = 1
  · rw [if_pos h1, ← ties_count hT, sides_len]
    match ts, h1, hT with
    | [ns], _, hT =>
      obtain ⟨a, b, c⟩ := hT.pl 0 ns rfl
      cases ns with
      | nil => rfl
      | cons x q =>
        have := b x List.mem_cons_self
        have : x = 1 := by simp at this; omega
        exact absurd (by rw [this]; exact List.mem_cons_self) c
  · rw [if_neg h1, ← ties_count hT, ← rnd_len hT r, List.map_map]
    congr 1
    exact List.map_congr_left fun c _ => List.length_map ..
/-- a place of a round, and the next: the side there, the round from there and back -/
theorem face_turn {ts : List (List Int)} (hT : OkT ts) {c : List Sd} (hc : Cyc ts c) (hl : LeastAt c 0) {i : Nat} (hi : i < c.length) : ∃ (p : Nat) (o : Int) (ns : List Int) (j : Nat), (faceOf c)[i]? = some (p : Int) ∧ (faceOf c)[(i + 1) % c.length]? = some o ∧ 1 ≤ p ∧ p ≤ ts.length ∧ 1 ≤ o ∧ o ≤ ts.length ∧ ts[p - 1]? = some ns ∧ o ∈ ns ∧
    Cyc ts (c.drop i ++ c.take i) ∧ (c.drop i ++ c.take i).head? = some ((p : Int), o) ∧ LeastAt (c.drop i ++ c.take i) j ∧ faceOf ((c.drop i ++ c.take i).drop j ++ (c.drop i ++ c.take i).take j) = faceOf c := by
  obtain ⟨u, hu⟩ : ∃ u, c[i]? = some u := ⟨_, List.getElem?_eq_getElem hi⟩
  obtain ⟨v, hv, hn⟩ := cyc_at hc hu
  obtain ⟨j, hj, hb⟩ := rot_back hi hl
  obtain ⟨⟨h1, ns1, h2, h3⟩, e1, ns2, h4, h5⟩ := nxs_some hn
  obtain ⟨hs1, ms, hm1, hm2⟩ := side_swap hT ⟨h1, ns1, h2, h3⟩
  dsimp only at hs1 hm1 hm2
  have b1 := (hT.pl _ _ h2).2.1 _ h3
  have b2 := (hT.pl _ _ hm1).2.1 _ hm2
  refine ⟨u.1.toNat, u.2, ms, j, ?_, ?_, by omega, by omega, by omega, by omega, ?_, hm2, cyc_rot i hc (by omega), ?_, hj, by rw [hb]⟩
  · rw [List.getElem?_map, hu, show ((u.1.toNat : Nat) : Int) = u.1 by omega]
    rfl
  · rw [List.getElem?_map, hv, ← e1]
    rfl
  · rw [show u.1.toNat - 1 = (u.1 - 1).toNat by omega]
    exact hm1
  · rw [List.drop_eq_getElem_cons hi, (List.getElem?_eq_some_iff.mp hu).2, show ((u.1.toNat : Nat) : Int) = u.1 by omega]
    rfl
/-- a round through any side -/
theorem side_face {ts : List (List Int)} (hT : OkT ts) {p : Int} {o : Int} (hs : Side ts (p, o)) : ∃ c j, Cyc ts c ∧ c.head? = some (p, o) ∧ LeastAt c j := by
  obtain ⟨l, w1, _, w3, w4⟩ := walk_cyc hT (seen := []) (f := (sidesL ts).length + 1) (fun s h => (side_mem hT).mp h) (fun s h => (nomatch h)) (fun s t _ => ⟨(fun h => nomatch h), (fun h => nomatch h)⟩) List.nodup_nil hs (fun h => nomatch h) (Nat.le_refl _)
  obtain ⟨j, hj⟩ := least_ex w3.ne w3.nd
  exact ⟨l, j, w3, w4, hj⟩
theorem tie_side {ts : List (List Int)} (hT : OkT ts) {p : Int × Int} (h : p ∈ tiesOf ts) : ∃ (m : Nat) (ns : List Int), p.1 = (m : Int) ∧ 1 ≤ m ∧ m ≤ ts.length ∧ ts[m - 1]? = some ns ∧ p.2 ∈ ns ∧ 1 ≤ p.2 ∧ p.2 ≤ ts.length := by
  unfold tiesOf rows at h
  obtain ⟨i, hi, h⟩ := List.mem_flatMap.mp h
  unfold els at h
  obtain ⟨j, hj, rfl⟩ := List.mem_map.mp h
  have hi := List.mem_range.mp hi
  have hj := List.mem_range.mp (List.mem_filter.mp hj).1
  have hg := List.getElem?_eq_getElem hi
  have eg : ts.getD i [] = ts[i] := by rw [List.getD_eq_getElem?_getD, hg]; rfl
  have hm : (srt (ts.getD i [])).getD j 0 ∈ ts[i] := by
    rw [← eg]
    refine (srt_perm _).mem_iff.mp ?_
    dsimp only at hj
    generalize srt (ts.getD i []) = xs at hj
    rw [List.getD_eq_getElem?_getD, List.getElem?_eq_getElem hj]
    exact List.getElem_mem hj
  have hb := (hT.pl i _ hg).2.1 _ hm
  exact ⟨i + 1, ts[i], by show (i : Int) + 1 = ((i + 1 : Nat) : Int); omega, by omega, by omega, by rw [Nat.add_sub_cancel]; exact hg, hm, hb.1, hb.2⟩
/-! ### what is shown -/
theorem faces_small {ts : List (List Int)} (hT : OkT ts) (h8 : ts.length ≤ 8) {seen : List Sd} {cs : List (List Sd)} (r : Rnd ts (sidesL ts) seen cs) : (facesV ts cs).length ≤ 64 ∧ ∀ fs ∈ facesV ts cs, fs.length ≤ 64 ∧ ∀ x ∈ fs, x.natAbs ≤ 64 := by
  have hs := sides_small hT h8
  refine ⟨?_, fun fs hf => ⟨(face_fits hT h8 r hf).1, fun x hx => ?_⟩⟩
  · unfold facesV
    split
    · decide
    · rw [List.length_map]
      have h1 : cs.length ≤ (cs.map List.length).sum := by
        have hg := fun c hc => (r.good c hc).1.ne
        clear r
        induction cs with
        | nil => exact Nat.zero_le _
        | cons c q ih =>
          have h2 := ih fun d hd => hg d (List.mem_cons_of_mem _ hd)
          have h3 : 1 ≤ c.length := by
            cases c with
            | nil => exact absurd rfl (hg [] List.mem_cons_self)
            | cons a b => exact Nat.succ_le_succ (Nat.zero_le _)
          rw [List.map_cons, List.sum_cons, List.length_cons]
          omega
      rw [rnd_len hT r] at h1
      omega
  · rcases (face_fits hT h8 r hf).2 with rfl | ⟨c, hc, rfl⟩
    · cases hx
    · obtain ⟨s, hs', rfl⟩ := List.mem_map.mp hx
      obtain ⟨h1, ns, h2, h3⟩ := hc.side s hs'
      have := (hT.pl _ _ h2).2.1 _ h3
      omega
theorem sh_faces {ts : List (List Int)} (hT : OkT ts) (h8 : ts.length ≤ 8) {seen : List Sd} {cs : List (List Sd)} (r : Rnd ts (sidesL ts) seen cs) : Sh 300000 3 (dT (facesV ts cs)) := by
  obtain ⟨h1, h2⟩ := faces_small hT h8 r
  refine sh_tup (c := 4400) (m := 64) (fun d hd => ?_) (by rw [List.length_map]; exact h1) (by decide)
  obtain ⟨ns, hn, rfl⟩ := List.mem_map.mp hd
  exact sh_row (h2 ns hn).1 (h2 ns hn).2
theorem rowsT_dpa {K : PySem.W.Frag} {H : Hp} {fa : List Addr} {fs : List (List Int)} (h : RowsT H fa fs) : DpAll K H (fa.map V.ref) (fs.map fun ns => .tuple (ns.map PyData.int)) := by
  refine dpAll_of (by rw [List.length_map, List.length_map, h.1]) fun i v d hv hd => ?_
  rw [List.getElem?_map] at hv hd
  obtain ⟨a, ha, rfl⟩ := Option.map_eq_some_iff.mp hv
  obtain ⟨ns, hn, rfl⟩ := Option.map_eq_some_iff.mp hd
  exact .tup (Evl.st_of (h.2 i a ns ha hn)) (dpa_ints ns)
/-! ### webs made, and what is asked of them -/
theorem valsOf_inj : ∀ {ts us : List (List Int)}, valsOf ts = valsOf us → ts = us
  | [], [], _ => rfl
  | [], _ :: _, h => nomatch h
  | _ :: _, [], h => nomatch h
  | t :: ts, u :: us, h => by
    obtain ⟨h1, h2⟩ := List.cons.inj h
    have h3 := Option.some.inj h1
    have h4 : ∀ {a b : List Int}, a.map V.int = b.map V.int → a = b := fun {a b} h => by
      induction a generalizing b with
      | nil => cases b <;> first | rfl | cases h
      | cons x r ih =>
        cases b with
        | nil => cases h
        | cons y s =>
          obtain ⟨h5, h6⟩ := List.cons.inj h
          rw [V.int.inj h5, ih h6]
    rw [h4 h3, valsOf_inj h2]
def just1 {α : Type} : List α → List α → List α := fun _ ws => ws
/-- other, one, web: the other way round -/
def rv3 {α : Type} : List α → List α → List α := fun _ ws => match ws with
  | [a, b, c] => [c, b, a]
  | ws => ws
theorem rv3_rel : ∀ {vs zs : List V} {us ws : List Value}, Vals vs us → Vals zs ws → Vals (rv3 vs zs) (rv3 us ws)
  | _, _, _, _, _, .nil => .nil
  | _, _, _, _, _, .cons h1 .nil => .cons h1 .nil
  | _, _, _, _, _, .cons h1 (.cons h2 .nil) => .cons h1 (.cons h2 .nil)
  | _, _, _, _, _, .cons h1 (.cons h2 (.cons h3 .nil)) => .cons h3 (.cons h2 (.cons h1 .nil))
  | _, _, _, _, _, .cons h1 (.cons h2 (.cons h3 (.cons h4 h5))) => .cons h1 (.cons h2 (.cons h3 (.cons h4 h5)))
section
open Evl
variable {K : PySem.W.Frag} {C CE CB CF x : Addr} {σ : L2.St} {H : Hp} {Q : VK} {E : XK} {te : TE} {ts : List (List Int)}
theorem sp_web {v : V} {ts : List (List Int)} (hD : TurnsD K H v (some (valsOf ts))) (hT : OkT ts) (q : ∀ x H2, H x = none → Ex H H2 → WebAt C H2 x ts → Q (.ref x) H2) :
    ∀ x dx, H x = none → H dx = none → dx ≠ x → spWebG K C CE [.ref x, v] (upd (upd H dx (.own x)) x (.ins C dx [])) (fun v H2 => v = .non ∧ Q (.ref x) H2) E := fun x dx nx ndx nex => by
  have e1 : Ex H (upd (upd H dx (.own x)) x (.ins C dx [])) := ((Ex.refl H).mut ndx).mut nx
  refine ⟨x, dx, v, some (valsOf ts), H, rfl, upd_same, e1, nx, hD, fun z => ?_, fun us er _ H' ex hw => ⟨rfl, ?_⟩⟩
  · rw [are_of hT] at z
    cases z
  · have : ts = us := valsOf_inj (Option.some.inj er)
    subst this
    have e2 : Ex H H' := fun a o h => ex a o (less_of (e1 _ _ h) (ne_of_none h nx))
    exact q x H' nx e2 (hw H' e2 (fun _ _ _ h => h) rfl)
theorem mk_go {v : V} {ts : List (List Int)} (hv : Ev te σ H v) (hD : TurnsD K H v (some (valsOf ts))) (hT : OkT ts) (q : ∀ x H2, H x = none → Ex H H2 → WebAt C H2 x ts → Q (.ref x) H2) : tMake C (spWebG K C CE) [] E (tCons te tNil) σ H Q :=
  hv H (Ex.refl H) _ fun H1 e1 => sp_web (hD.ex e1) hT fun x H2 nx e2 => q x H2 (fresh_back e1 nx) (e1.trans e2)
theorem LL.rows {l : Addr} {ts : List (List Int)} (h : LL H l ts) : RowsAt H l ts := by
  obtain ⟨as, h1, h2, h3⟩ := h
  exact ⟨as.map V.ref, .inl h1, by rw [List.length_map, h2], fun i ns hn => by
    have hi := (List.getElem?_eq_some_iff.mp hn).1
    have hi2 : i < as.length := by omega
    exact ⟨as[i], by rw [List.getElem?_map, List.getElem?_eq_getElem hi2]; rfl, .inl (h3 i _ ns (List.getElem?_eq_getElem hi2) hn)⟩⟩
/-- the faces of a web -/
theorem sp_faces {fs : List (List Int)} (hw : WebAt C H x ts) (hT : OkT ts) (hf : facesM ts = some fs) (hl : fs.length ≤ 50000) (q : ∀ t H2, Ex H H2 → TT H2 t fs → Q (.ref t) H2) : spFaces K C CE [.ref x] H Q E :=
  ⟨.ref x, some ts, rfl, .web hw, (fun z => nomatch z), fun us eu => by
    cases eu
    exact ⟨hT, fs, hf, hl, fun v H2 e2 hv => by
      obtain ⟨t, rfl, h⟩ := hv H2 fun _ _ _ h => h
      exact q t H2 e2 h⟩⟩
/-- the face at a side -/
theorem sp_faceAt {p : Nat} {o : Int} {ns : List Int} {c : List Sd} {j : Nat} (hw : WebAt C H x ts) (hT : OkT ts) (p1 : 1 ≤ p) (p2 : p ≤ ts.length) (o1 : 1 ≤ o) (o2 : o ≤ ts.length) (hn : ts[p - 1]? = some ns) (ho : o ∈ ns) (hc : Cyc ts c) (hh : c.head? = some ((p : Int), o)) (hj : LeastAt c j)
    (q : ∀ v H2, Ex H H2 → IsT ((faceOf (c.drop j ++ c.take j)).map V.int) v H2 → Q v H2) : spFaceAt K C CE CB CF [.ref x, .int (p : Int), .int o] H Q E := by
  refine ⟨.ref x, .int (p : Int), .int o, some ts, "int", "int", rfl, .web hw, .int _, .int _, (fun z => nomatch z), fun us eu => ?_⟩
  cases eu
  refine ⟨hT, fun z => ?_, fun _ z => ?_, fun p' o' ns' ep eo _ _ _ hn' => ?_⟩
  · rw [wi_is p1 p2] at z
    cases z
  · have : wi (.int ((o.toNat : Nat) : Int)) (.int 1) (.int (ts.length : Int)) = true := wi_is (by omega) (by omega)
    rw [show ((o.toNat : Nat) : Int) = o by omega, z] at this
    cases this
  · cases eo
    have : p = p' := by
      have := V.int.inj ep
      omega
    subst this
    rw [hn] at hn'
    cases hn'
    exact ⟨fun z => absurd ho z, fun _ => ⟨c, j, hc, hh, hj, q⟩⟩
theorem IsT.dp {xs : List Int} {v : V} (h : IsT (xs.map V.int) v H) : Dp K H v (.tuple (xs.map PyData.int)) := by
  obtain ⟨a, rfl, h⟩ := h
  exact .tup (st_of h) (dpa_ints xs)
theorem ne_same {x y : V} {d : PyData} (hx : Dp K H x d) (hy : Dp K H y d) (hs : SeqAt.shaped d = true) (he : PyData.eqv d d = true) (q : Q (.bl false) H) : rNeD K x y H Q := by
  refine ⟨d, d, hx, hy, hs, hs, ?_⟩
  rw [he]
  exact q
theorem or_no {t u : L2.TT} {Q : Bool → Hp → Prop} (h : EvT t σ H false) (k : ∀ H1, Ex H H1 → u σ H1 Q) : tOr t u σ H Q := h H (Ex.refl H) _ fun H1 e => k H1 e
/-- sum of a list made now -/
theorem ev_sumN {ns : List Int} (h : EvL te σ H (ns.map V.int)) : Ev (tCB (rSumL K) (tCons te tNil)) σ H (.int ns.sum) := fun H1 e Q q => h H1 e _ fun p H2 hp e2 h2 => ⟨p, ns, rfl, sq_of h2, q H2 e2⟩
theorem eu_tuple {ta : TE} {l : Addr} {xs : List V} (h : Ev ta σ H (.ref l)) (hl : SqL K H l xs) : EvU (tCB (rTup K) (tCons ta tNil)) σ H xs := fun H1 e Q q =>
  h H1 e _ fun H2 e2 => ⟨l, xs, rfl, .inl ⟨ex_l (e.trans e2) hl, fun p hp => q p _ (fresh_back e2 hp) (e2.trans (Ex.new hp)) upd_same⟩⟩
/-- the first items of a tuple, however many there are -/
theorem tp_slTo0 {th : TO} {a : Addr} {xs : List V} {n : Nat} (h : Ev te σ H (.ref a)) (h2 : EvO th σ H (some (n : Int))) (hs : SqT K H a xs) : EvTp K (tSl (rSlA K) te tNoPart th) σ H (xs.take n) := fun H1 e Q q =>
  h H1 e _ fun H2 e2 => h2 H2 (e.trans e2) _ fun H4 e4 => by
    have hh := ex_t ((e.trans e2).trans e4) hs
    refine ⟨a, xs, rfl, hh, fun hw => ?_, fun _ p hp => ?_⟩
    · have e1 := hw.2
      rw [HT.sIx_nat] at e1
      refine q a H4 (e2.trans e4) ?_
      rw [List.take_of_length_le (by omega)]
      exact hh
    · rw [cutTo']
      exact q p _ ((e2.trans e4).trans (Ex.new hp)) (st_of upd_same)
end
theorem faces_mem {ts : List (List Int)} {cs : List (List Sd)} {fs : List Int} (h : fs ∈ facesV ts cs) : fs = [] ∨ ∃ c ∈ cs, fs = faceOf c := by
  unfold facesV at h
  split at h
  · exact .inl (List.mem_singleton.mp h)
  · obtain ⟨c, hc, rfl⟩ := List.mem_map.mp h
    exact .inr ⟨c, hc, rfl⟩
theorem sum_cast : ∀ l : List (List Int), (l.map fun f => (f.length : Int)).sum = (((l.map List.length).sum : Nat) : Int)
  | [] => rfl
  | f :: r => by
    rw [List.map_cons, List.map_cons, List.sum_cons, List.sum_cons, sum_cast r]
    omega
theorem Web0.ll {H0 G : Hp} {t c A : Addr} {as : List Addr} {ts : List (List Int)} {n : Nat} (w : Web0 H0 G t c A as ts n) (T0 : ∃ k, Tub H0 t c k) : LL (strip t G) A ts := by
  obtain ⟨_, T0⟩ := T0
  refine ⟨as, strip_at w.lst (T0.ne w.nA).1 (fun ps z => nomatch z), w.len, fun j b ns hb hn => ?_⟩
  obtain ⟨r1, r2, r3⟩ := w.row j b ns hb hn
  exact strip_at r3 (T0.ne r2).1 fun ps z => nomatch z
end P05
end S_Eg
section S_Eh
namespace P05
open PySem PySem.Spec PyProof.Rows L2 Tl Hk LamX EnL
abbrev nLaw : List Str := ["script", "carousel", "lap", "turns", "web", "due", "told", "face", "at", "one", "other"]
theorem scLaw : FnScope nLaw ["script"] (defScope sLaw) := ⟨rfl, rfl, rfl, by decide +kernel, rfl, by decide +kernel, by decide +kernel⟩
def spLaw (K : PySem.W.Frag) (T1 : Addr) : Sp := fun vs H Q _ => ∃ (a : Addr) (ns : List Int), vs = [.ref a] ∧ SqL K H a (ns.map V.int) ∧ ns.length ≤ 63 ∧ Tabs (Ts T1) H ∧ ∀ H', Q (.bl true) H'
section
variable {P : Program} {w : World} {K : PySem.W.Frag} {mg : Str → Option Value} {base : Heap}
set_option maxHeartbeats 8000000 in
theorem ok_law {f fJ fD fS fG fW fL fF fA fR C CE CB CF T1 : Addr} {fd fdJ fdD fdS fdG fdW fdL fdF fdA fdR : FuncData} {k : Nat} (F : Fun K "law" "law" sLaw f fd)
    (FJ : Fun K "_law_carousel" "_law_carousel" sTub fJ fdJ) (GJ : FnOk P w K mg base CX0 k fJ fdJ ["script"] (spTub K)) (bJ : Binds K fdJ ["script"] []) (gJ : mg "_law_carousel" = some (.ref fJ))
    (FD : Fun K "_law_drawn" "_law_drawn" sDrawn fD fdD) (GD : FnOk P w K mg base CX0 k fD fdD ["carousel"] spDrawn) (bD : Binds K fdD ["carousel"] []) (gD : mg "_law_drawn" = some (.ref fD))
    (FS : Fun K "_law_spin" "_law_spin" sScoop fS fdS) (GS : FnOk P w K mg base CX0 k fS fdS ["carousel", "many"] spScoop) (bS : Binds K fdS ["carousel", "many"] []) (gS : mg "_law_spin" = some (.ref fS))
    (FG : Fun K "_law_grown" "_law_grown" sLGrown fG fdG) (GG : FnOk P w K mg base CX0 k fG fdG ["carousel", "many", "ties", "handles"] spGrown) (bG : Binds K fdG ["carousel", "many", "ties", "handles"] []) (gG : mg "_law_grown" = some (.ref fG))
    (T : TWeb K mg C) (M : Mk K C fW) (GW : FnOk P w K mg base (L2.CX P w) k fW fdW ["self", "turns"] (spWebG K C CE)) (bW : Binds K fdW ["self", "turns"] [])
    (FL : Fun K "_law_faces" "_law_faces" sLFaces fL fdL) (GL : FnOk P w K mg base CX0 k fL fdL ["turns"] spLFaces) (bL : Binds K fdL ["turns"] []) (gL : mg "_law_faces" = some (.ref fL))
    (FF : Fun K "faces_of" "faces_of" sFacesOf fF fdF) (GF : FnOk P w K mg base (L2.CX P w) k fF fdF ["web"] (spFaces K C CE)) (bF : Binds K fdF ["web"] []) (kF : KBn K fdF ["web"] 0 ["web"] just1 just1) (gF : mg "faces_of" = some (.ref fF))
    (FA : Fun K "face_at" "face_at" sFaceAt fA fdA) (GA : FnOk P w K mg base (L2.CX P w) k fA fdA ["web", "one", "other"] (spFaceAt K C CE CB CF)) (bA : Binds K fdA ["web", "one", "other"] []) (kA : KBn K fdA ["web", "one", "other"] 0 ["other", "one", "web"] rv3 rv3) (gA : mg "face_at" = some (.ref fA))
    (FR : Fun K "_law_refused_right" "_law_refused_right" sLRefused fR fdR) (GR : FnG P w K mg base (k + 3) fR fdR ["carousel", "web", "turns"] (spRf C T1)) (bR : Binds K fdR ["carousel", "web", "turns"] []) (gR : mg "_law_refused_right" = some (.ref fR))
    (mint : mg "int" = none) (mlen : mg "len" = none) (mtup : mg "tuple" = none) (mrange : mg "range" = none) (mrepr : mg "repr" = none) (menum : mg "enumerate" = none) (msum : mg "sum" = none) :
    FnG P w K mg base (k + 4) f fd ["script"] (spLaw K T1) := by
  refine fn_g F scLaw (fun {vs H Q E} h => ?_) (fun cdv A outer s H vs Q E hgd hr h => ?_)
  · obtain ⟨a, ns, rfl, _⟩ := h
    rfl
  · obtain ⟨a, ns, rfl, hS, hl, hTabs, q⟩ := h
    have nd := scLaw.nd
    have hk := hr.mono (show k ≤ k + 3 by omega)
    have hk1 := hr.mono (show k + 1 ≤ k + 3 by omega)
    refine ⟨_, pss_cons (ps_set (i := 1) nd rfl (.inl rfl) (pe_call GJ hk (by rfl) gJ FJ.kp bJ .nil pass0 (pa_cons (pv 0) pa_nil)))
      (pss_cons (ps_for PassesOwn.never rfl (pi_range1 (by rfl) mrange (pa_cons pe_int pa_nil)) (pg_name (i := 2) nd rfl (Or.inl rfl))
        (pss_cons (ps_set (i := 3) nd rfl (.inl rfl) (pe_call GD hk (by rfl) gD FD.kp bD .nil pass0 (pa_cons (pv 1) pa_nil)))
        (Evl.pss_cut (ps_if (pt_cmpR op_eq (pe_call GS hk (by rfl) gS FS.kp bS .nil pass0 (pa_cons (pv 1) (pa_cons pe_int pa_nil))) pe_int (nomark _)) (pss_one (ps_set (i := 3) nd rfl (.inl rfl)
            (pe_ix ix_tup (pe_call GG hk (by rfl) gG FG.kp bG .nil pass0 (pa_cons (pv 1) (pa_cons (pe_op op_add pe_int (pe_call GS hk (by rfl) gS FS.kp bS .nil pass0 (pa_cons (pv 1) (pa_cons pe_int pa_nil)))) (pa_cons (pe_call GS hk (by rfl) gS FS.kp bS .nil pass0 (pa_cons (pv 1) (pa_cons pe_int pa_nil))) (pa_cons (pe_call GS hk (by rfl) gS FS.kp bS .nil pass0 (pa_cons (pv 1) (pa_cons pe_int pa_nil))) pa_nil))))) pe_int (fun _ _ => rfl)))) pss_nil)
        (pss_cons (ps_par (i := 4) (j := 5) (by rfl) nd rfl rfl (by decide) rfl rfl (pa_cons (pe_make M GW hk1 (by rfl) T.mgC bW .nil passF (pa_cons (pv 3) pa_nil)) (pa_cons (pe_call GL hk (by rfl) gL FL.kp bL .nil pass0 (pa_cons (pv 3) pa_nil)) pa_nil)) (by rfl))
        (pss_cons (ps_set (i := 6) nd rfl (.inl rfl) (pe_call GF hk (by rfl) gF FF.kp bF .nil passF (pa_cons (pv 4) pa_nil)))
        (pss_cons (ps_if (PW.pt (pw_or (pt_cmpR op_ne (pe_callB (call_reprX hgd hr.units) (by rfl) mrepr (by decide +kernel) (pa_cons (pv 6) pa_nil)) (pe_callB (call_reprX hgd hr.units) (by rfl) mrepr (by decide +kernel) (pa_cons (pe_callTy call_tuple_of (by rfl) mtup (by decide +kernel) (pa_cons (pv 5) pa_nil)) pa_nil)) (nomark _))
            (pw_or (pt_cmpR (op_neD hr.units) (pe_callN0 GF hk (by rfl) gF FF.kp kF passF (pk_cons (pv 4) pk_nil)) (pv 6) (nomark _))
            (pw_or1 (pt_cmpR op_ne (pe_callB (cr_sumL rfl) (by rfl) msum (by decide +kernel) (pa_cons
                (pe_lc (own := [("face", 7)]) (g := gName 7) (tt := tYes) (te := tCB (Evl.rLenS K) (tCons (tVar 7) tNil)) rfl nd (pi_tup (pv 6)) (blkOk_by (N := nLaw) (sc := defScope sLaw) (by decide +kernel)) (fun _ _ _ _ _ => pg_name (i := 7) nd rfl (Or.inl rfl)) (fun _ _ _ _ _ => pts_nil)
                  (fun _ _ _ _ _ => pe_callB call_len_seq (by rfl) mlen PySem.boot_len (pa_cons (pv 7) pa_nil))) pa_nil)) (pe_op op_mul pe_int (pe_callB call_len_seq (by rfl) mlen PySem.boot_len (pa_cons (pe_fld (pv 4) rfl) pa_nil))) (nomark _)))))) (pss_one (ps_ret pe_bl)) pss_nil)
        (pss_cons (ps_for PassesOwn.never rfl (pi_list (pv 5)) (pg_name (i := 7) nd rfl (Or.inl rfl))
          (pss_one (ps_for PassesOwn.never rfl (pi_enumT (by rfl) menum (pa_cons (pv 7) pa_nil)) (pg_tup (by rfl) (pgs_cons (pg_name (i := 8) nd rfl (Or.inl rfl)) (pgs_cons (pg_name (i := 9) nd rfl (Or.inl rfl)) pgs_nil)))
            (pss_one (ps_if (pt_cmpR (op_neD hr.units) (pe_call GA hk (by rfl) gA FA.kp bA .nil passF (pa_cons (pv 4) (pa_cons (pv 9) (pa_cons (pe_ix ix_tup (pv 7) (pe_op op_modN (pe_callTy call_int1 (by rfl) mint (by decide +kernel) (pa_cons (pe_op op_add (pv 8) pe_int) pa_nil)) (pe_callB call_len_seq (by rfl) mlen PySem.boot_len (pa_cons (pv 7) pa_nil))) (fun _ _ => rfl)) pa_nil)))) (pv 7) (nomark _)) (pss_one (ps_ret pe_bl)) pss_nil)))))
        (pss_cons (ps_for PassesOwn.never rfl (pi_tup (pe_slice sl_tupA (pe_fld (pv 4) rfl) po_none (po_some pe_int))) (pg_tup (by rfl) (pgs_cons (pg_name (i := 9) nd rfl (Or.inl rfl)) (pgs_cons (pg_name (i := 10) nd rfl (Or.inl rfl)) pgs_nil)))
          (pss_one (ps_if (pt_cmpR (op_neD hr.units) (pe_callN0 GA hk (by rfl) gA FA.kp kA passF (pk_cons (pv 10) (pk_cons (pv 9) (pk_cons (pv 4) pk_nil)))) (pe_call GA hk (by rfl) gA FA.kp bA .nil passF (pa_cons (pv 4) (pa_cons (pv 9) (pa_cons (pv 10) pa_nil)))) (nomark _)) (pss_one (ps_ret pe_bl)) pss_nil)))
        (pss_one (ps_if (pt_not (pt_val (pe_callG GR hgd hr (by rfl) gR FR.kp bR pass0 (pa_cons (pv 1) (pa_cons (pv 4) (pa_cons (pv 3) pa_nil)))))) (pss_one (ps_ret pe_bl)) pss_nil))))))))))
      (pss_one (ps_ret pe_bl))), ?_⟩
    refine ⟨.ref a, rfl, a, ns, rfl, hS, by omega, fun t c0 H1 ht hc sm T0 => ?_⟩
    have o1 : Od (Ts T1) t c0 0 H1 := ⟨hTabs.ext sm, T0⟩
    dsimp only [gName]
    refine Evl.q_forR1 (n := 3) (Evl.ea_cons Evl.ev_c Evl.ea_nil) ⟨by decide, by decide⟩ (fun i σ' H' => ∃ y2 y3 y4 y5 y6 y7 y8 y9 y10, σ' = [some (.ref a), some (.ref t), y2, y3, y4, y5, y6, y7, y8, y9, y10] ∧ Od (Ts T1) t c0 (300 * i) H')
      (fun H2 e2 => ⟨none, none, none, none, none, none, none, none, none, rfl, (o1.ex e2).mono (by omega)⟩) ?_ (fun σ' H' _ => q H')
    rintro i σ' H' hi ⟨y2, y3, y4, y5, y6, y7, y8, y9, y10, rfl, o⟩
    clear o1 T0 sm hc ht hTabs hS
    -- turns
    refine ⟨.ref t, rfl, t, c0, 300 * i, rfl, o.tub, by omega, fun A as ts G1 w1 hT h8 => ?_⟩
    have o1 := o.kept w1.kept w1.tub
    have hL1 := w1.ll ⟨_, o.tub⟩
    clear w1 o
    refine Evl.q_cut (M := fun σ' G' => ∃ A' ts', σ' = [some (.ref a), some (.ref t), some (.int (i : Int)), some (.ref A'), y4, y5, y6, y7, y8, y9, y10] ∧ Od (Ts T1) t c0 (300 * i + 264) G' ∧ LL (strip t G') A' ts' ∧ OkT ts' ∧ ts'.length ≤ 8) ?_ ?_
    · refine ifs_go (test_go (op_go ⟨.ref t, rfl, t, c0, 2, _, rfl, o1.tub, by omega, by decide, by decide, fun r G2 _ _ k2 T2 => ⟨rfl, decide (V.int r = V.int 1), rfl, if_go (fun _ => ?_) fun _ => ?_⟩⟩))
      · have o2 := o1.kept k2 T2
        refine asg_last (op_go ⟨.ref t, rfl, cons_any (op_go ⟨.ref t, rfl, t, c0, 7, _, rfl, T2, by omega, by decide, by decide, fun r3 G3 a0 a1 k3 T3 => ⟨2, r3, rfl, rfl, cons_any ⟨.ref t, rfl, t, c0, 6, _, rfl, T3, by omega, by decide, by decide, fun r4 G4 b0 b1 k4 T4 => cons_any ⟨.ref t, rfl, t, c0, 4, _, rfl, T4, by omega, by decide, by decide, fun r5 G5 d0 d1 k5 T5 => ?_⟩⟩⟩⟩)⟩)
        refine ⟨t, c0, (2 + r3).toNat, r4.toNat, r5.toNat, _, by rw [Int.toNat_of_nonneg (by omega), Int.toNat_of_nonneg b0, Int.toNat_of_nonneg d0] <;> rfl, T5, by omega, by omega, by omega, by omega, by omega, fun p D ds us cnt G6 w6 hT6 h86 hp => ?_⟩
        refine (Evl.rv_ixT (Evl.st_of hp) rfl) G6 (Evl.Ex.refl _) _ fun G7 e7 => ?_
        exact ⟨D, us, rfl, ((((((o2.kept k3 T3).kept k4 T4).kept k5 T5).kept w6.kept w6.tub).ex e7).mono (by omega)), (w6.ll ⟨_, T5⟩).ex (sx_ex e7), hT6, h86⟩
      · exact ⟨A, ts, rfl, (o1.kept k2 T2).mono (by omega), hL1.ex (sx_kept k2), hT, h8⟩
    clear o1 hL1 hT h8 A ts as
    rintro σ' G ⟨A, ts, rfl, o, hL, hT, h8⟩
    -- web, due
    have hLH := hL.ex strip_ex
    have hs := sides_small hT h8
    obtain ⟨seen, cs, hr1, hR⟩ := run_all hT (fu := 500) (by omega)
    refine q_par2 (mk_go (ts := ts) (Evl.ev_var rfl) (hLH.rows.turns hT) hT fun x G3 nx e3 wx => ?_)
    refine ⟨.ref A, rfl, A, ts, seen, cs, rfl, hLH.ex e3, hT, by omega, hr1, fun F fa G4 e4 nF hF hrow => ⟨_, _, rfl, ?_⟩⟩
    -- told
    have hfi := faces_is hT h8 hr1
    obtain ⟨fl, fsm⟩ := faces_small hT h8 hR
    refine asg_go ⟨.ref x, rfl, sp_faces (wx.ex e4) hT hfi (by omega) fun tl G5 e5 htl => ?_⟩
    have o5 := ((o.ex e3).ex e4).ex e5
    have e35 := (e3.trans e4).trans e5
    have hL5 := hL.ex (sx_ex (t := t) e35)
    have W5 := (wx.ex e4).ex e5
    have hF5 := e5 _ _ hF
    have hrow5 : RowsT G5 fa (facesV ts cs) := ⟨hrow.1, fun i a ns h1 h2 => e5 _ _ (hrow.2 i a ns h1 h2)⟩
    clear o e3 e4 e5 hL wx hF hrow nF nx hLH e35
    obtain ⟨dx, xt, xi, hx, hxt, xs, hxi, hxl, hxr⟩ := id W5
    have fsum := faces_sum hT hR
    refine Evl.q_when (b := false) (Evl.et_or (a := false) (b := false) ?_ fun _ => Evl.et_or (a := false) (b := false) ?_ fun _ => ?_) (fun z => nomatch z) fun _ H6 e6 => ?_
    · exact et_neStr (z := (dT (facesV ts cs)).shown) (ev_reprV (ed_v (Evl.ev_var rfl) htl.dp) (fun _ _ => dp_tup) (sh_faces hT h8 hR) (by decide) (by decide))
        (ev_reprV (ed_u (eu_tuple (Evl.ev_var rfl) (Evl.sq_of hF5)) (rowsT_dpa hrow5)) (fun _ _ => dp_tup) (sh_faces hT h8 hR) (by decide) (by decide))
    · exact Evl.et_test fun H1 e Q q => op_go ⟨.ref x, rfl, rfl, rfl, sp_faces (W5.ex e) hT hfi (by omega) fun t2 H2 e2 h2 => ⟨.ref tl, rfl, ne_same h2.dp (htl.ex (e.trans e2)).dp (dT_shaped _) (dT_same _) (q H2 e2)⟩⟩
    · obtain ⟨bs, htb, hbl, hbr⟩ := id htl
      refine Evl.et_is (Evl.et_test (Evl.ev_op (ev_sumN (ns := (facesV ts cs).map fun f => (f.length : Int)) ?_) (Evl.ev_op Evl.ev_c (ev_lenB (ev_fld (Evl.ev_var rfl) hx T.cl T.nI (wf_i _ _ _)) (.inr (Evl.st_of hxi))) (Evl.rv_I (.inl ⟨by decide, by decide⟩))) (Evl.rv_ne rfl))) ?_
      · have hlc := el_lcT (K := K) (σ := [some (.ref a), some (.ref t), some (.int (i : Int)), some (.ref A), some (.ref x), some (.ref F), some (.ref tl), y7, y8, y9, y10]) (j := 7) (vs := [7]) (tl := tVar 6) (t := tYes) (te := tCB (Evl.rLenS K) (tCons (tVar 7) tNil)) (fun _ => true) (fun i => V.int (((facesV ts cs).getD i []).length : Int)) (Evl.ev_var rfl) (Evl.st_of htb) (by rw [List.length_map]; omega) (fun _ => rfl) (fun _ _ _ _ _ => et_yes) fun i v H1 e hv _ => ?_
        · rw [List.length_map, hbl, given_all (facesV ts cs) [] fun f => V.int (f.length : Int)] at hlc
          rw [List.map_map]
          exact hlc
        · rw [List.getElem?_map] at hv
          obtain ⟨b, hb, rfl⟩ := Option.map_eq_some_iff.mp hv
          obtain ⟨_, f1, _, hf1⟩ := both_at hbl (List.getElem?_eq_some_iff.mp hb).1
          have hbt := hbr i b f1 hb hf1
          rw [show (facesV ts cs).getD i [] = f1 from by rw [List.getD_eq_getElem?_getD, hf1]; rfl]
          exact Evl.ev_is (ev_lenB (Evl.ev_var rfl) (.inr (Evl.st_of (e _ _ hbt)))) (by rw [List.length_map])
      · rw [sum_cast, fsum, hxl]
        simp
    have o6 := o5.ex e6
    have hL6 := hL5.ex (sx_ex (t := t) e6)
    have W6 := W5.ex e6
    have hF6 := e6 _ _ hF5
    have hrow6 : RowsT H6 fa (facesV ts cs) := ⟨hrow5.1, fun i a ns h1 h2 => e6 _ _ (hrow5.2 i a ns h1 h2)⟩
    clear o5 hL5 W5 hF5 hrow5 e6 htl hx hxt hxi hxr hxl
    -- each face by each of its sides
    refine q_forI (B := H6) (ei_list (K := K) (Evl.ev_var (i := 5) rfl) (Evl.sq_of hF6)) (aims_at (j := 7)) (Evl.Ex.refl _)
      (fun H7 m σ' H' => ∃ y7 y8 y9, σ' = [some (.ref a), some (.ref t), some (.int (i : Int)), some (.ref A), some (.ref x), some (.ref F), some (.ref tl), y7, y8, y9, y10] ∧ Evl.Ex H7 H')
      (fun H7 e7 => ⟨_, _, _, rfl, Evl.Ex.refl _⟩) (fun H7 m σ' H' e7 _ ⟨_, _, _, _, e8⟩ => ⟨e7.trans e8, fun b u _ hu => e8 _ _ hu⟩) ?_ ?_
    · rintro H7 m σ' H8 H9 e7 hm ⟨z7, z8, z9, rfl, e8⟩ e9
      rw [List.length_map] at hm
      obtain ⟨f1, g1, hf1, hg1⟩ := both_at hrow6.1 hm
      rw [refs_getD hf1]
      have e79 := (e7.trans e8).trans e9
      have hft := e79 _ _ (hrow6.2 m f1 g1 hf1 hg1)
      have W9 := W6.ex e79
      refine s_forI (B := H9) (ei_enumT (K := K) (Evl.ea_cons (Evl.ev_var (i := 7) rfl) Evl.ea_nil) (Evl.st_of hft)) aims_enum (Evl.Ex.refl _)
        (fun H10 j σ' H' => ∃ y8 y9, σ' = [some (.ref a), some (.ref t), some (.int (i : Int)), some (.ref A), some (.ref x), some (.ref F), some (.ref tl), some (.ref f1), y8, y9, y10] ∧ Evl.Ex H10 H')
        (fun H10 e10 => ⟨_, _, rfl, Evl.Ex.refl _⟩) (fun H10 j σ' H' e10 _ ⟨_, _, _, e11⟩ => ⟨e10.trans e11, fun b u _ hu => e11 _ _ hu⟩) ?_ (fun H10 σ' H' e10 ⟨w8, w9, e, e11⟩ => ⟨_, _, _, e, ((e8.trans e9).trans e10).trans e11⟩)
      rintro H10 j σ' H11 H12 e10 hj ⟨w8, w9, rfl, e11⟩ e12
      rw [List.length_map] at hj
      rcases faces_mem (List.mem_of_getElem? hg1) with rfl | ⟨c, hc, rfl⟩
      · cases hj
      have hcl : (faceOf c).length = c.length := List.length_map ..
      rw [hcl] at hj
      obtain ⟨hcy, hc0⟩ := rnd_least hR hc
      obtain ⟨p, u, ns, jj, h1, h2, p1, p2, o1, o2, hn, hu, hcy2, hh2, hl2, hback⟩ := face_turn hT hcy hc0 hj
      have hv : ((faceOf c).map V.int).getD j .non = .int (p : Int) := by rw [List.getD_eq_getElem?_getD, List.getElem?_map, h1]; rfl
      rw [hv]
      have e912 := (e10.trans e11).trans e12
      have hft2 := e912 _ _ hft
      refine ifs_go (test_go (op_go ⟨.ref x, rfl, .int (p : Int), rfl, (Evl.ev_op (x := .ref f1) (y := .int (((j + 1) % c.length : Nat) : Int)) (z := .int u) (Evl.ev_var rfl) (Evl.ev_is (Evl.ev_op (ev_int (Evl.ev_op (Evl.ev_var (v := .int (j : Int)) rfl) Evl.ev_c Evl.rv_I0)) (ev_lenB (Evl.ev_var rfl) (.inr (Evl.st_of hft2))) (Evl.rv_I (by rw [List.length_map, hcl]; omega))) ?_) (Evl.rv_ixT (Evl.st_of hft2) (atI_nat (by rw [List.getElem?_map, h2]; rfl)))) H12 (Evl.Ex.refl _) _ fun H13 e13 => ?_⟩))
      · rw [List.length_map, hcl]
        exact congrArg V.int (fmod_nat (j + 1) c.length)
      · refine sp_faceAt ((W9.ex e912).ex e13) hT p1 p2 o1 o2 hn hu hcy2 hh2 hl2 fun v H14 e14 hv14 => ⟨.ref f1, rfl, ne_same (K := K) (d := .tuple ((faceOf c).map PyData.int)) ?_ (.tup (Evl.st_of (e14 _ _ (e13 _ _ hft2))) (dpa_ints _)) (tup_shaped _) ((tup_eqv _ _).trans (decide_eq_true rfl)) ⟨false, rfl, if_go (fun z => nomatch z) fun _ => ?_⟩⟩
        · rw [hback] at hv14
          exact IsT.dp hv14
        · exact ⟨_, _, rfl, (((e11.trans e12).trans e13).trans e14)⟩
    rintro H7 σ' H8 e7 ⟨z7, z8, z9, rfl, e8⟩
    have e68 := e7.trans e8
    have o8 := o6.ex e68
    have hL8 := hL6.ex (sx_ex (t := t) e68)
    have W8 := W6.ex e68
    clear o6 hL6 W6 hF6 hrow6 e7 e8 e68
    obtain ⟨dx, xt, xi, hx, hxt, xs, hxi, hxl, hxr⟩ := id W8
    -- the first tie
    refine for_tup ((tp_slTo0 (K := K) (n := 1) (ev_fld (Evl.ev_var rfl) hx T.cl T.nI (wf_i _ _ _)) (Evl.eo_some Evl.ev_c) (Evl.st_of hxi)) H8 (Evl.Ex.refl _) _ fun sl H9 e9 hsl => ?_)
    refine q_forI (B := H9) (ei_rowsT (K := K) (n := (xs.take 1).length) (W := fun A => ∀ i v, i < (xs.take 1).length → (xs.take 1)[i]? = some v → ∃ r, v = .ref r ∧ A r = some (.tup [.int ((tiesOf ts).getD i (0, 0)).1, .int ((tiesOf ts).getD i (0, 0)).2])) Evl.ev_c hsl rfl fun G eG i v hi hv => ?_) (aims_rowT2 (c := fun i => (.int ((tiesOf ts).getD i (0, 0)).1, .int ((tiesOf ts).getD i (0, 0)).2))) (Evl.Ex.refl _)
      (fun H10 m σ' H' => ∃ y9 y10, σ' = [some (.ref a), some (.ref t), some (.int (i : Int)), some (.ref A), some (.ref x), some (.ref F), some (.ref tl), z7, z8, y9, y10] ∧ Evl.Ex H10 H')
      (fun H10 e10 => ⟨_, _, rfl, Evl.Ex.refl _⟩) (fun H10 m σ' H' e10 _ ⟨_, _, _, e11⟩ => ⟨e10.trans e11, fun b u _ hu => e11 _ _ hu⟩) ?_ ?_
    · rw [List.getElem?_take] at hv
      split at hv
      · obtain ⟨_, pr, _, hpr⟩ := both_at hxl (List.getElem?_eq_some_iff.mp hv).1
        obtain ⟨r, rfl, hr2⟩ := hxr i pr v hpr hv
        rw [show (tiesOf ts).getD i (0, 0) = pr from by rw [List.getD_eq_getElem?_getD, hpr]; rfl]
        exact ⟨r, rfl, eG _ _ (e9 _ _ hr2)⟩
      · cases hv
    · rintro H10 m σ' H11 H12 e10 hm ⟨w9, w10, rfl, e11⟩ e12
      have hm2 : m < xs.length := by rw [List.length_take] at hm; omega
      obtain ⟨_, pr, _, hpr⟩ := both_at hxl hm2
      rw [show (tiesOf ts).getD m (0, 0) = pr from by rw [List.getD_eq_getElem?_getD, hpr]; rfl]
      obtain ⟨p, ns, ep, p1, p2, hn, ho, o1, o2⟩ := tie_side hT (List.mem_of_getElem? hpr)
      rw [ep]
      obtain ⟨c, j, hcy, hh, hlj⟩ := side_face hT (p := (p : Int)) (o := pr.2) (by
        obtain ⟨ms, s1, s2⟩ := hT.sym (p - 1) ns pr.2 hn ho
        refine ⟨o1, ms, s1, ?_⟩
        rw [show ((p - 1 : Nat) : Int) + 1 = (p : Int) by omega] at s2
        exact s2)
      have W12 := W8.ex (((e9.trans e10).trans e11).trans e12)
      refine ifs_go (test_go (op_go ⟨.int pr.2, rfl, .int (p : Int), rfl, .ref x, rfl, rfl, rfl, sp_faceAt W12 hT p1 p2 o1 o2 hn ho hcy hh hlj fun v1 H13 e13 hv1 => ⟨.ref x, rfl, .int (p : Int), rfl, .int pr.2, rfl, sp_faceAt (W12.ex e13) hT p1 p2 o1 o2 hn ho hcy hh hlj fun v2 H14 e14 hv2 => ne_same (K := K) (d := .tuple ((faceOf (c.drop j ++ c.take j)).map PyData.int)) (dp_ex e14 (IsT.dp hv1)) (IsT.dp hv2) (tup_shaped _) ((tup_eqv _ _).trans (decide_eq_true rfl)) ⟨false, rfl, if_go (fun z => nomatch z) fun _ => ?_⟩⟩⟩))
      exact ⟨_, _, rfl, ((e11.trans e12).trans e13).trans e14⟩
    rintro H10 σ' H11 e10 ⟨w9, w10, rfl, e11⟩
    have e811 := (e9.trans e10).trans e11
    refine ifs_go (not_go (b_go ⟨.ref t, rfl, .ref x, rfl, .ref A, rfl, t, c0, x, A, ts, _, rfl, o8.ex e811, by omega, (W8.ex e811).stripT (o8.ex e811).tub, hL8.ex (sx_ex e811), hT, h8, fun G12 e12 o12 => ⟨true, rfl, if_go (fun z => nomatch z) fun _ => ?_⟩⟩))
    exact ⟨_, _, _, _, _, _, _, _, _, rfl, o12.mono (by omega)⟩
end
end P05
end S_Eh
section S_Ei
namespace P05
open PySem PySem.Spec PyProof.Rows L2 Tl Hk LamX
set_option maxHeartbeats 4000000 in
theorem all_mk {l : PySem.W.OpenLaw} {w : World} {K : PySem.W.Frag} {h : Heap} {mg : Str → Option Value} {qq : Program} {fa fIn fWi fLi fRo fUn fLo fWa fWw fAr fIt fTi fTt fFo fFa fSo fFl fPb fTr fFf fSp fWd fPk fLf fLc fLp fLb fLr fLg fDn fHe fRi fLa c1 T1 CS CB fBI CE fEI CF fFI WC fWI fWS fWT : Addr} (X : K.In h) (G : h.Ns mainGlobals mg) (hfa : mg "law" = some (.ref fa))
    {odIn anIn : Option Addr} {slIn : Array (Option Value)} {ocIn kVIn dcIn pmIn cdIn ctIn : Value}
    (aIn : PySem.W.nsIn K mainGlobals "is_integer" = some (some (.ref fIn)))
    (lIn : K.lookup fIn = some ⟨ocIn, odIn, .func (PySem.W.fnOf "is_integer" "is_integer" (defArgs sInteger) (defBody sInteger) (defScope sInteger) .none kVIn dcIn pmIn anIn cdIn ctIn), slIn⟩)
    (cIn : PySem.W.codeIn K cdIn "is_integer" = true)
    (kIn : PySem.W.keepIn K (.ref fIn) = true)
    {odWi anWi : Option Addr} {slWi : Array (Option Value)} {ocWi kVWi dcWi pmWi cdWi ctWi : Value}
    (aWi : PySem.W.nsIn K mainGlobals "is_within" = some (some (.ref fWi)))
    (lWi : K.lookup fWi = some ⟨ocWi, odWi, .func (PySem.W.fnOf "is_within" "is_within" (defArgs sWithin) (defBody sWithin) (defScope sWithin) .none kVWi dcWi pmWi anWi cdWi ctWi), slWi⟩)
    (cWi : PySem.W.codeIn K cdWi "is_within" = true)
    (kWi : PySem.W.keepIn K (.ref fWi) = true)
    {odLi anLi : Option Addr} {slLi : Array (Option Value)} {ocLi kVLi dcLi pmLi cdLi ctLi : Value}
    (aLi : PySem.W.nsIn K mainGlobals "is_list" = some (some (.ref fLi)))
    (lLi : K.lookup fLi = some ⟨ocLi, odLi, .func (PySem.W.fnOf "is_list" "is_list" (defArgs sList) (defBody sList) (defScope sList) .none kVLi dcLi pmLi anLi cdLi ctLi), slLi⟩)
    (cLi : PySem.W.codeIn K cdLi "is_list" = true)
    (kLi : PySem.W.keepIn K (.ref fLi) = true)
    {odRo anRo : Option Addr} {slRo : Array (Option Value)} {ocRo kVRo dcRo pmRo cdRo ctRo : Value}
    (aRo : PySem.W.nsIn K mainGlobals "is_row" = some (some (.ref fRo)))
    (lRo : K.lookup fRo = some ⟨ocRo, odRo, .func (PySem.W.fnOf "is_row" "is_row" (defArgs sRow) (defBody sRow) (defScope sRow) .none kVRo dcRo pmRo anRo cdRo ctRo), slRo⟩)
    (cRo : PySem.W.codeIn K cdRo "is_row" = true)
    (kRo : PySem.W.keepIn K (.ref fRo) = true)
    {odUn anUn : Option Addr} {slUn : Array (Option Value)} {ocUn kVUn dcUn pmUn cdUn ctUn : Value}
    (aUn : PySem.W.nsIn K mainGlobals "are_unlike" = some (some (.ref fUn)))
    (lUn : K.lookup fUn = some ⟨ocUn, odUn, .func (PySem.W.fnOf "are_unlike" "are_unlike" (defArgs sUn) (defBody sUn) (defScope sUn) .none kVUn dcUn pmUn anUn cdUn ctUn), slUn⟩)
    (cUn : PySem.W.codeIn K cdUn "are_unlike" = true)
    (kUn : PySem.W.keepIn K (.ref fUn) = true)
    {odLo anLo : Option Addr} {slLo : Array (Option Value)} {ocLo kVLo dcLo pmLo cdLo ctLo : Value}
    (aLo : PySem.W.nsIn K mainGlobals "is_lot" = some (some (.ref fLo)))
    (lLo : K.lookup fLo = some ⟨ocLo, odLo, .func (PySem.W.fnOf "is_lot" "is_lot" (defArgs sLot) (defBody sLot) (defScope sLot) .none kVLo dcLo pmLo anLo cdLo ctLo), slLo⟩)
    (cLo : PySem.W.codeIn K cdLo "is_lot" = true)
    (kLo : PySem.W.keepIn K (.ref fLo) = true)
    {odWa anWa : Option Addr} {slWa : Array (Option Value)} {ocWa kVWa dcWa pmWa cdWa ctWa : Value}
    (aWa : PySem.W.nsIn K mainGlobals "want_number" = some (some (.ref fWa)))
    (lWa : K.lookup fWa = some ⟨ocWa, odWa, .func (PySem.W.fnOf "want_number" "want_number" (defArgs sWant) (defBody sWant) (defScope sWant) .none kVWa dcWa pmWa anWa cdWa ctWa), slWa⟩)
    (cWa : PySem.W.codeIn K cdWa "want_number" = true)
    (kWa : PySem.W.keepIn K (.ref fWa) = true)
    {odWw anWw : Option Addr} {slWw : Array (Option Value)} {ocWw kVWw dcWw pmWw cdWw ctWw : Value}
    (aWw : PySem.W.nsIn K mainGlobals "want_web" = some (some (.ref fWw)))
    (lWw : K.lookup fWw = some ⟨ocWw, odWw, .func (PySem.W.fnOf "want_web" "want_web" (defArgs sWantWeb) (defBody sWantWeb) (defScope sWantWeb) .none kVWw dcWw pmWw anWw cdWw ctWw), slWw⟩)
    (cWw : PySem.W.codeIn K cdWw "want_web" = true)
    (kWw : PySem.W.keepIn K (.ref fWw) = true)
    {odAr anAr : Option Addr} {slAr : Array (Option Value)} {ocAr kVAr dcAr pmAr cdAr ctAr : Value}
    (aAr : PySem.W.nsIn K mainGlobals "_are_turns" = some (some (.ref fAr)))
    (lAr : K.lookup fAr = some ⟨ocAr, odAr, .func (PySem.W.fnOf "_are_turns" "_are_turns" (defArgs sAreTurns) (defBody sAreTurns) (defScope sAreTurns) .none kVAr dcAr pmAr anAr cdAr ctAr), slAr⟩)
    (cAr : PySem.W.codeIn K cdAr "_are_turns" = true)
    (kAr : PySem.W.keepIn K (.ref fAr) = true)
    {odIt anIt : Option Addr} {slIt : Array (Option Value)} {ocIt kVIt dcIt pmIt cdIt ctIt : Value}
    (aIt : PySem.W.nsIn K mainGlobals "_is_turn" = some (some (.ref fIt)))
    (lIt : K.lookup fIt = some ⟨ocIt, odIt, .func (PySem.W.fnOf "_is_turn" "_is_turn" (defArgs sIsTurn) (defBody sIsTurn) (defScope sIsTurn) .none kVIt dcIt pmIt anIt cdIt ctIt), slIt⟩)
    (cIt : PySem.W.codeIn K cdIt "_is_turn" = true)
    (kIt : PySem.W.keepIn K (.ref fIt) = true)
    {odTi anTi : Option Addr} {slTi : Array (Option Value)} {ocTi kVTi dcTi pmTi cdTi ctTi : Value}
    (aTi : PySem.W.nsIn K mainGlobals "_ties_of" = some (some (.ref fTi)))
    (lTi : K.lookup fTi = some ⟨ocTi, odTi, .func (PySem.W.fnOf "_ties_of" "_ties_of" (defArgs sTies) (defBody sTies) (defScope sTies) .none kVTi dcTi pmTi anTi cdTi ctTi), slTi⟩)
    (cTi : PySem.W.codeIn K cdTi "_ties_of" = true)
    (kTi : PySem.W.keepIn K (.ref fTi) = true)
    {odTt anTt : Option Addr} {slTt : Array (Option Value)} {ocTt kVTt dcTt pmTt cdTt ctTt : Value}
    (aTt : PySem.W.nsIn K mainGlobals "_turn_text" = some (some (.ref fTt)))
    (lTt : K.lookup fTt = some ⟨ocTt, odTt, .func (PySem.W.fnOf "_turn_text" "_turn_text" (defArgs sTurnText) (defBody sTurnText) (defScope sTurnText) .none kVTt dcTt pmTt anTt cdTt ctTt), slTt⟩)
    (cTt : PySem.W.codeIn K cdTt "_turn_text" = true)
    (kTt : PySem.W.keepIn K (.ref fTt) = true)
    {odFo anFo : Option Addr} {slFo : Array (Option Value)} {ocFo kVFo dcFo pmFo cdFo ctFo : Value}
    (aFo : PySem.W.nsIn K mainGlobals "faces_of" = some (some (.ref fFo)))
    (lFo : K.lookup fFo = some ⟨ocFo, odFo, .func (PySem.W.fnOf "faces_of" "faces_of" (defArgs sFacesOf) (defBody sFacesOf) (defScope sFacesOf) .none kVFo dcFo pmFo anFo cdFo ctFo), slFo⟩)
    (cFo : PySem.W.codeIn K cdFo "faces_of" = true)
    (kFo : PySem.W.keepIn K (.ref fFo) = true)
    {odFa anFa : Option Addr} {slFa : Array (Option Value)} {ocFa kVFa dcFa pmFa cdFa ctFa : Value}
    (aFa : PySem.W.nsIn K mainGlobals "face_at" = some (some (.ref fFa)))
    (lFa : K.lookup fFa = some ⟨ocFa, odFa, .func (PySem.W.fnOf "face_at" "face_at" (defArgs sFaceAt) (defBody sFaceAt) (defScope sFaceAt) .none kVFa dcFa pmFa anFa cdFa ctFa), slFa⟩)
    (cFa : PySem.W.codeIn K cdFa "face_at" = true)
    (kFa : PySem.W.keepIn K (.ref fFa) = true)
    {odSo anSo : Option Addr} {slSo : Array (Option Value)} {ocSo kVSo dcSo pmSo cdSo ctSo : Value}
    (aSo : PySem.W.nsIn K mainGlobals "sides_of" = some (some (.ref fSo)))
    (lSo : K.lookup fSo = some ⟨ocSo, odSo, .func (PySem.W.fnOf "sides_of" "sides_of" (defArgs sSidesOf) (defBody sSidesOf) (defScope sSidesOf) .none kVSo dcSo pmSo anSo cdSo ctSo), slSo⟩)
    (cSo : PySem.W.codeIn K cdSo "sides_of" = true)
    (kSo : PySem.W.keepIn K (.ref fSo) = true)
    {odFl anFl : Option Addr} {slFl : Array (Option Value)} {ocFl kVFl dcFl pmFl cdFl ctFl : Value}
    (aFl : PySem.W.nsIn K mainGlobals "from_least_side" = some (some (.ref fFl)))
    (lFl : K.lookup fFl = some ⟨ocFl, odFl, .func (PySem.W.fnOf "from_least_side" "from_least_side" (defArgs sFromLeast) (defBody sFromLeast) (defScope sFromLeast) .none kVFl dcFl pmFl anFl cdFl ctFl), slFl⟩)
    (cFl : PySem.W.codeIn K cdFl "from_least_side" = true)
    (kFl : PySem.W.keepIn K (.ref fFl) = true)
    {odPb anPb : Option Addr} {slPb : Array (Option Value)} {ocPb kVPb dcPb pmPb cdPb ctPb : Value}
    (aPb : PySem.W.nsIn K mainGlobals "places_behind" = some (some (.ref fPb)))
    (lPb : K.lookup fPb = some ⟨ocPb, odPb, .func (PySem.W.fnOf "places_behind" "places_behind" (defArgs sBehind) (defBody sBehind) (defScope sBehind) .none kVPb dcPb pmPb anPb cdPb ctPb), slPb⟩)
    (cPb : PySem.W.codeIn K cdPb "places_behind" = true)
    (kPb : PySem.W.keepIn K (.ref fPb) = true)
    {odTr anTr : Option Addr} {slTr : Array (Option Value)} {ocTr kVTr dcTr pmTr cdTr ctTr : Value}
    (aTr : PySem.W.nsIn K mainGlobals "_taken_round" = some (some (.ref fTr)))
    (lTr : K.lookup fTr = some ⟨ocTr, odTr, .func (PySem.W.fnOf "_taken_round" "_taken_round" (defArgs sTaken) (defBody sTaken) (defScope sTaken) .none kVTr dcTr pmTr anTr cdTr ctTr), slTr⟩)
    (cTr : PySem.W.codeIn K cdTr "_taken_round" = true)
    (kTr : PySem.W.keepIn K (.ref fTr) = true)
    {odFf anFf : Option Addr} {slFf : Array (Option Value)} {ocFf kVFf dcFf pmFf cdFf ctFf : Value}
    (aFf : PySem.W.nsIn K mainGlobals "_face_from" = some (some (.ref fFf)))
    (lFf : K.lookup fFf = some ⟨ocFf, odFf, .func (PySem.W.fnOf "_face_from" "_face_from" (defArgs sFaceFrom) (defBody sFaceFrom) (defScope sFaceFrom) .none kVFf dcFf pmFf anFf cdFf ctFf), slFf⟩)
    (cFf : PySem.W.codeIn K cdFf "_face_from" = true)
    (kFf : PySem.W.keepIn K (.ref fFf) = true)
    {odSp anSp : Option Addr} {slSp : Array (Option Value)} {ocSp kVSp dcSp pmSp cdSp ctSp : Value}
    (aSp : PySem.W.nsIn K mainGlobals "_law_carousel" = some (some (.ref fSp)))
    (lSp : K.lookup fSp = some ⟨ocSp, odSp, .func (PySem.W.fnOf "_law_carousel" "_law_carousel" (defArgs sTub) (defBody sTub) (defScope sTub) .none kVSp dcSp pmSp anSp cdSp ctSp), slSp⟩)
    (cSp : PySem.W.codeIn K cdSp "_law_carousel" = true)
    (kSp : PySem.W.keepIn K (.ref fSp) = true)
    {odWd anWd : Option Addr} {slWd : Array (Option Value)} {ocWd kVWd dcWd pmWd cdWd ctWd : Value}
    (aWd : PySem.W.nsIn K mainGlobals "_law_spin" = some (some (.ref fWd)))
    (lWd : K.lookup fWd = some ⟨ocWd, odWd, .func (PySem.W.fnOf "_law_spin" "_law_spin" (defArgs sScoop) (defBody sScoop) (defScope sScoop) .none kVWd dcWd pmWd anWd cdWd ctWd), slWd⟩)
    (cWd : PySem.W.codeIn K cdWd "_law_spin" = true)
    (kWd : PySem.W.keepIn K (.ref fWd) = true)
    {odPk anPk : Option Addr} {slPk : Array (Option Value)} {ocPk kVPk dcPk pmPk cdPk ctPk : Value}
    (aPk : PySem.W.nsIn K mainGlobals "_law_pick" = some (some (.ref fPk)))
    (lPk : K.lookup fPk = some ⟨ocPk, odPk, .func (PySem.W.fnOf "_law_pick" "_law_pick" (defArgs sPick) (defBody sPick) (defScope sPick) .none kVPk dcPk pmPk anPk cdPk ctPk), slPk⟩)
    (cPk : PySem.W.codeIn K cdPk "_law_pick" = true)
    (kPk : PySem.W.keepIn K (.ref fPk) = true)
    {odLf anLf : Option Addr} {slLf : Array (Option Value)} {ocLf kVLf dcLf pmLf cdLf ctLf : Value}
    (aLf : PySem.W.nsIn K mainGlobals "_law_faces" = some (some (.ref fLf)))
    (lLf : K.lookup fLf = some ⟨ocLf, odLf, .func (PySem.W.fnOf "_law_faces" "_law_faces" (defArgs sLFaces) (defBody sLFaces) (defScope sLFaces) .none kVLf dcLf pmLf anLf cdLf ctLf), slLf⟩)
    (cLf : PySem.W.codeIn K cdLf "_law_faces" = true)
    (kLf : PySem.W.keepIn K (.ref fLf) = true)
    {odLc anLc : Option Addr} {slLc : Array (Option Value)} {ocLc kVLc dcLc pmLc cdLc ctLc : Value}
    (aLc : PySem.W.nsIn K mainGlobals "_law_corners" = some (some (.ref fLc)))
    (lLc : K.lookup fLc = some ⟨ocLc, odLc, .func (PySem.W.fnOf "_law_corners" "_law_corners" (defArgs sLCorners) (defBody sLCorners) (defScope sLCorners) .none kVLc dcLc pmLc anLc cdLc ctLc), slLc⟩)
    (cLc : PySem.W.codeIn K cdLc "_law_corners" = true)
    (kLc : PySem.W.keepIn K (.ref fLc) = true)
    {odLp anLp : Option Addr} {slLp : Array (Option Value)} {ocLp kVLp dcLp pmLp cdLp ctLp : Value}
    (aLp : PySem.W.nsIn K mainGlobals "_law_put" = some (some (.ref fLp)))
    (lLp : K.lookup fLp = some ⟨ocLp, odLp, .func (PySem.W.fnOf "_law_put" "_law_put" (defArgs sLPut) (defBody sLPut) (defScope sLPut) .none kVLp dcLp pmLp anLp cdLp ctLp), slLp⟩)
    (cLp : PySem.W.codeIn K cdLp "_law_put" = true)
    (kLp : PySem.W.keepIn K (.ref fLp) = true)
    {odLb anLb : Option Addr} {slLb : Array (Option Value)} {ocLb kVLb dcLb pmLb cdLb ctLb : Value}
    (aLb : PySem.W.nsIn K mainGlobals "_law_bridged" = some (some (.ref fLb)))
    (lLb : K.lookup fLb = some ⟨ocLb, odLb, .func (PySem.W.fnOf "_law_bridged" "_law_bridged" (defArgs sLBridged) (defBody sLBridged) (defScope sLBridged) .none kVLb dcLb pmLb anLb cdLb ctLb), slLb⟩)
    (cLb : PySem.W.codeIn K cdLb "_law_bridged" = true)
    (kLb : PySem.W.keepIn K (.ref fLb) = true)
    {odLr anLr : Option Addr} {slLr : Array (Option Value)} {ocLr kVLr dcLr pmLr cdLr ctLr : Value}
    (aLr : PySem.W.nsIn K mainGlobals "_law_rolled" = some (some (.ref fLr)))
    (lLr : K.lookup fLr = some ⟨ocLr, odLr, .func (PySem.W.fnOf "_law_rolled" "_law_rolled" (defArgs sLRolled) (defBody sLRolled) (defScope sLRolled) .none kVLr dcLr pmLr anLr cdLr ctLr), slLr⟩)
    (cLr : PySem.W.codeIn K cdLr "_law_rolled" = true)
    (kLr : PySem.W.keepIn K (.ref fLr) = true)
    {odLg anLg : Option Addr} {slLg : Array (Option Value)} {ocLg kVLg dcLg pmLg cdLg ctLg : Value}
    (aLg : PySem.W.nsIn K mainGlobals "_law_grown" = some (some (.ref fLg)))
    (lLg : K.lookup fLg = some ⟨ocLg, odLg, .func (PySem.W.fnOf "_law_grown" "_law_grown" (defArgs sLGrown) (defBody sLGrown) (defScope sLGrown) .none kVLg dcLg pmLg anLg cdLg ctLg), slLg⟩)
    (cLg : PySem.W.codeIn K cdLg "_law_grown" = true)
    (kLg : PySem.W.keepIn K (.ref fLg) = true)
    {odDn anDn : Option Addr} {slDn : Array (Option Value)} {ocDn kVDn dcDn pmDn cdDn ctDn : Value}
    (aDn : PySem.W.nsIn K mainGlobals "_law_drawn" = some (some (.ref fDn)))
    (lDn : K.lookup fDn = some ⟨ocDn, odDn, .func (PySem.W.fnOf "_law_drawn" "_law_drawn" (defArgs sDrawn) (defBody sDrawn) (defScope sDrawn) .none kVDn dcDn pmDn anDn cdDn ctDn), slDn⟩)
    (cDn : PySem.W.codeIn K cdDn "_law_drawn" = true)
    (kDn : PySem.W.keepIn K (.ref fDn) = true)
    {odHe anHe : Option Addr} {slHe : Array (Option Value)} {ocHe kVHe dcHe pmHe cdHe ctHe : Value}
    (aHe : PySem.W.nsIn K mainGlobals "_law_caught" = some (some (.ref fHe)))
    (lHe : K.lookup fHe = some ⟨ocHe, odHe, .func (PySem.W.fnOf "_law_caught" "_law_caught" (defArgs sCaught) (defBody sCaught) (defScope sCaught) .none kVHe dcHe pmHe anHe cdHe ctHe), slHe⟩)
    (cHe : PySem.W.codeIn K cdHe "_law_caught" = true)
    (kHe : PySem.W.keepIn K (.ref fHe) = true)
    {odRi anRi : Option Addr} {slRi : Array (Option Value)} {ocRi kVRi dcRi pmRi cdRi ctRi : Value}
    (aRi : PySem.W.nsIn K mainGlobals "_law_refused_right" = some (some (.ref fRi)))
    (lRi : K.lookup fRi = some ⟨ocRi, odRi, .func (PySem.W.fnOf "_law_refused_right" "_law_refused_right" (defArgs sLRefused) (defBody sLRefused) (defScope sLRefused) .none kVRi dcRi pmRi anRi cdRi ctRi), slRi⟩)
    (cRi : PySem.W.codeIn K cdRi "_law_refused_right" = true)
    (kRi : PySem.W.keepIn K (.ref fRi) = true)
    {odLa anLa : Option Addr} {slLa : Array (Option Value)} {ocLa kVLa dcLa pmLa cdLa ctLa : Value}
    (aLa : PySem.W.nsIn K mainGlobals "law" = some (some (.ref fLa)))
    (lLa : K.lookup fLa = some ⟨ocLa, odLa, .func (PySem.W.fnOf "law" "law" (defArgs sLaw) (defBody sLaw) (defScope sLaw) .none kVLa dcLa pmLa anLa cdLa ctLa), slLa⟩)
    (cLa : PySem.W.codeIn K cdLa "law" = true)
    (kLa : PySem.W.keepIn K (.ref fLa) = true)
    {e1C : Value} {dd1C : Option Addr} {vs1C : Array Value} {sl1C : Array (Option Value)}
    (w1c : cdRi = .ref c1)
    (w1k : K.lookup c1 = some ⟨e1C, dd1C, .fields vs1C, sl1C⟩)
    (w1v : vs1C[11]? = some (.ref T1))
    (w1n : K.lookup T1 = none)
    (r1 : ((recsOf qq).any fun e => e.name == ("_law_refused_right" : Str)) = true)
    (aCS : PySem.W.nsIn K mainGlobals "LaneError" = some (some (.ref CS)))
    (bCS : PySem.W.subIn K (.ref CS) (.type "BaseException") = some true)
    (dCS : PySem.W.hasDictIn K CS = true)
    (tCS : PySem.W.typeIn K (.ref CS) = some (.type "type"))
    {nmCB qCB : Str} {NCB : Addr} {bsCB : List Value} {bmCB : List Value} {snCB : List Str} {subCB : List Value} {abCB : Bool} {colCB : Option Bool} {ddCB : Option Addr} {m0CB m1CB m2CB m3CB m5CB : Option Value}
    (aCB : PySem.W.nsIn K mainGlobals "BadNumber" = some (some (.ref CB)))
    (xCB : K.lookup CB = some (excClassObj nmCB qCB CB NCB bsCB bmCB true snCB subCB abCB colCB ddCB m0CB m1CB m2CB m3CB m5CB "ValueError.__new__"))
    (vCB : PySem.HandSPX.refsVE bmCB = true)
    (saCB : PySem.W.findIn K (.ref CB) "__setattr__" = some (some (.builtin "object.__setattr__")))
    (gaCB : PySem.W.findIn K (.ref CB) "__getattribute__" = some (some (.builtin "BaseException.__getattribute__")))
    (ggCB : PySem.W.findIn K (.ref CB) "__getattr__" = some none)
    (noCB : PySem.W.findIn K (.ref CB) "part" = some none)
    (keCB : PySem.W.keepIn K (.ref CB) = true)
    (exCB : PySem.W.subIn K (.ref CB) (.type "BaseException") = some true)
    (tyCB : PySem.W.typeIn K (.ref CB) = some (.type "type"))
    (hdCB : PySem.W.hasDictIn K CB = true)
    (ciCB : PySem.W.isClsIn K CB = true)
    (haCB : PySem.W.findIn K (.ref CB) "__class__" = some (some (.builtin "object.__class__")))
    (hmCB : PySem.W.mroIn K CB (.type "object") = some true)
    (suCB : PySem.W.subIn K (.ref CB) (.ref CS) = some true)
    (kiCB : PySem.W.kitOne K (.ref CB) (.ref CB) = some true)
    {odfBI anfBI : Option Addr} {slfBI : Array (Option Value)} {ocfBI dcfBI pmfBI cdfBI ctfBI : Value}
    (afBI : PySem.W.findIn K (.ref CB) "__init__" = some (some (.ref fBI)))
    (tfBI : PySem.W.typeIn K (.ref fBI) = some (.type "function"))
    (lfBI : K.lookup fBI = some ⟨ocfBI, odfBI, .func (PySem.W.fnOf "__init__" "BadNumber.__init__" (defArgs (inClass sNumC 0)) (defBody (inClass sNumC 0)) (defScope (inClass sNumC 0)) .none .none dcfBI pmfBI anfBI cdfBI ctfBI), slfBI⟩)
    (cfBI : PySem.W.codeIn K cdfBI "BadNumber.__init__" = true)
    {nmCE qCE : Str} {NCE : Addr} {bsCE : List Value} {bmCE : List Value} {snCE : List Str} {subCE : List Value} {abCE : Bool} {colCE : Option Bool} {ddCE : Option Addr} {m0CE m1CE m2CE m3CE m5CE : Option Value}
    (aCE : PySem.W.nsIn K mainGlobals "BadWeb" = some (some (.ref CE)))
    (xCE : K.lookup CE = some (excClassObj nmCE qCE CE NCE bsCE bmCE true snCE subCE abCE colCE ddCE m0CE m1CE m2CE m3CE m5CE "ValueError.__new__"))
    (vCE : PySem.HandSPX.refsVE bmCE = true)
    (saCE : PySem.W.findIn K (.ref CE) "__setattr__" = some (some (.builtin "object.__setattr__")))
    (gaCE : PySem.W.findIn K (.ref CE) "__getattribute__" = some (some (.builtin "BaseException.__getattribute__")))
    (ggCE : PySem.W.findIn K (.ref CE) "__getattr__" = some none)
    (noCE : PySem.W.findIn K (.ref CE) "part" = some none)
    (keCE : PySem.W.keepIn K (.ref CE) = true)
    (exCE : PySem.W.subIn K (.ref CE) (.type "BaseException") = some true)
    (tyCE : PySem.W.typeIn K (.ref CE) = some (.type "type"))
    (hdCE : PySem.W.hasDictIn K CE = true)
    (ciCE : PySem.W.isClsIn K CE = true)
    (haCE : PySem.W.findIn K (.ref CE) "__class__" = some (some (.builtin "object.__class__")))
    (hmCE : PySem.W.mroIn K CE (.type "object") = some true)
    (suCE : PySem.W.subIn K (.ref CE) (.ref CS) = some true)
    (kiCE : PySem.W.kitOne K (.ref CE) (.ref CE) = some true)
    {odfEI anfEI : Option Addr} {slfEI : Array (Option Value)} {ocfEI dcfEI pmfEI cdfEI ctfEI : Value}
    (afEI : PySem.W.findIn K (.ref CE) "__init__" = some (some (.ref fEI)))
    (tfEI : PySem.W.typeIn K (.ref fEI) = some (.type "function"))
    (lfEI : K.lookup fEI = some ⟨ocfEI, odfEI, .func (PySem.W.fnOf "__init__" "BadWeb.__init__" (defArgs (inClass sWebC 0)) (defBody (inClass sWebC 0)) (defScope (inClass sWebC 0)) .none .none dcfEI pmfEI anfEI cdfEI ctfEI), slfEI⟩)
    (cfEI : PySem.W.codeIn K cdfEI "BadWeb.__init__" = true)
    {nmCF qCF : Str} {NCF : Addr} {bsCF : List Value} {bmCF : List Value} {snCF : List Str} {subCF : List Value} {abCF : Bool} {colCF : Option Bool} {ddCF : Option Addr} {m0CF m1CF m2CF m3CF m5CF : Option Value}
    (aCF : PySem.W.nsIn K mainGlobals "Misfit" = some (some (.ref CF)))
    (xCF : K.lookup CF = some (excClassObj nmCF qCF CF NCF bsCF bmCF true snCF subCF abCF colCF ddCF m0CF m1CF m2CF m3CF m5CF "ValueError.__new__"))
    (vCF : PySem.HandSPX.refsVE bmCF = true)
    (saCF : PySem.W.findIn K (.ref CF) "__setattr__" = some (some (.builtin "object.__setattr__")))
    (gaCF : PySem.W.findIn K (.ref CF) "__getattribute__" = some (some (.builtin "BaseException.__getattribute__")))
    (ggCF : PySem.W.findIn K (.ref CF) "__getattr__" = some none)
    (noCF : PySem.W.findIn K (.ref CF) "part" = some none)
    (keCF : PySem.W.keepIn K (.ref CF) = true)
    (exCF : PySem.W.subIn K (.ref CF) (.type "BaseException") = some true)
    (tyCF : PySem.W.typeIn K (.ref CF) = some (.type "type"))
    (hdCF : PySem.W.hasDictIn K CF = true)
    (ciCF : PySem.W.isClsIn K CF = true)
    (haCF : PySem.W.findIn K (.ref CF) "__class__" = some (some (.builtin "object.__class__")))
    (hmCF : PySem.W.mroIn K CF (.type "object") = some true)
    (suCF : PySem.W.subIn K (.ref CF) (.ref CS) = some true)
    (kiCF : PySem.W.kitOne K (.ref CF) (.ref CF) = some true)
    {odfFI anfFI : Option Addr} {slfFI : Array (Option Value)} {ocfFI dcfFI pmfFI cdfFI ctfFI : Value}
    (afFI : PySem.W.findIn K (.ref CF) "__init__" = some (some (.ref fFI)))
    (tfFI : PySem.W.typeIn K (.ref fFI) = some (.type "function"))
    (lfFI : K.lookup fFI = some ⟨ocfFI, odfFI, .func (PySem.W.fnOf "__init__" "Misfit.__init__" (defArgs (inClass sFitC 0)) (defBody (inClass sFitC 0)) (defScope (inClass sFitC 0)) .none .none dcfFI pmfFI anfFI cdfFI ctfFI), slfFI⟩)
    (cfFI : PySem.W.codeIn K cdfFI "Misfit.__init__" = true)
    (hn : PySem.W.specialIn K (.builtin "object.__class__") "__get__" = some (some (.builtin "getset_descriptor.__get__")))
    (ht : PySem.W.takesIn K (.builtin "object.__class__") = some true)
    (aWC : PySem.W.nsIn K mainGlobals "Web" = some (some (.ref WC)))
    {odWI anWI : Option Addr} {slWI : Array (Option Value)} {ocWI kVWI dcWI pmWI cdWI ctWI : Value}
    (aWI : PySem.W.findIn K (.ref WC) "__init__" = some (some (.ref fWI)))
    (iWI : PySem.W.isFn K (.ref fWI) = true)
    (lWI : K.lookup fWI = some ⟨ocWI, odWI, .func (PySem.W.fnOf "__init__" "Web.__init__" (defArgs sWebI) (defBody sWebI) (defScope sWebI) .none kVWI dcWI pmWI anWI cdWI ctWI), slWI⟩)
    (cWI : PySem.W.codeIn K cdWI "Web.__init__" = true)
    (kWI : PySem.W.keepIn K (.ref fWI) = true)
    {odWS anWS : Option Addr} {slWS : Array (Option Value)} {ocWS kVWS dcWS pmWS cdWS ctWS : Value}
    (aWS : PySem.W.findIn K (.ref WC) "__str__" = some (some (.ref fWS)))
    (iWS : PySem.W.isFn K (.ref fWS) = true)
    (lWS : K.lookup fWS = some ⟨ocWS, odWS, .func (PySem.W.fnOf "__str__" "Web.__str__" (defArgs sWebS) (defBody sWebS) (defScope sWebS) .none kVWS dcWS pmWS anWS cdWS ctWS), slWS⟩)
    (cWS : PySem.W.codeIn K cdWS "Web.__str__" = true)
    (kWS : PySem.W.keepIn K (.ref fWS) = true)
    {odWT anWT : Option Addr} {slWT : Array (Option Value)} {ocWT kVWT dcWT pmWT cdWT ctWT : Value}
    (aWT : PySem.W.findIn K (.ref WC) "tied" = some (some (.ref fWT)))
    (iWT : PySem.W.isFn K (.ref fWT) = true)
    (lWT : K.lookup fWT = some ⟨ocWT, odWT, .func (PySem.W.fnOf "tied" "Web.tied" (defArgs sTied) (defBody sTied) (defScope sTied) .none kVWT dcWT pmWT anWT cdWT ctWT), slWT⟩)
    (cWT : PySem.W.codeIn K cdWT "Web.tied" = true)
    (kWT : PySem.W.keepIn K (.ref fWT) = true)
    (pgWC : PySem.W.plainGet K WC Str.empty = true)
    (hdWC : PySem.W.hasDictIn K WC = true)
    (poWC : PySem.W.plainOver K WC = true)
    (saWC : PySem.W.findIn K (.ref WC) "__setattr__" = some (some (.builtin "object.__setattr__")))
    (mkWC : PySem.W.makesIn K WC = true)
    (kcWC : PySem.W.keepIn K (.ref WC) = true)
    (nWC_turns : PySem.W.findIn K (.ref WC) "turns" = some none)
    (nWC_many : PySem.W.findIn K (.ref WC) "many" = some none)
    (nWC_ties : PySem.W.findIn K (.ref WC) "ties" = some none)
    (thWC : PySem.W.findIn K (.ref WC) "__class__" = some (some (.builtin "object.__class__")))
    (tmWC : PySem.W.mroIn K WC (.type "object") = some true)
    (tkWC : PySem.W.kitOne K (.ref WC) (.ref WC) = some true)
    (y0WC : PySem.W.kitOne K (.type "NoneType") (.ref WC) = some false)
    (y1WC : PySem.W.kitOne K (.type "bool") (.ref WC) = some false)
    (y2WC : PySem.W.kitOne K (.type "int") (.ref WC) = some false)
    (y3WC : PySem.W.kitOne K (.type "str") (.ref WC) = some false)
    (y4WC : PySem.W.kitOne K (.type "list") (.ref WC) = some false)
    (y5WC : PySem.W.kitOne K (.type "tuple") (.ref WC) = some false)
    (y6WC : PySem.W.kitOne K (.type "dict") (.ref WC) = some false)
    (keb : PySem.W.kitOne K (.ref CE) (.ref CB) = some false)
    (kef : PySem.W.kitOne K (.ref CE) (.ref CF) = some false)
    (kbe : PySem.W.kitOne K (.ref CB) (.ref CE) = some false)
    (kbf : PySem.W.kitOne K (.ref CB) (.ref CF) = some false)
    (kfe : PySem.W.kitOne K (.ref CF) (.ref CE) = some false)
    (kfb : PySem.W.kitOne K (.ref CF) (.ref CB) = some false)
    {tM1 : Tok}
    (zM1 : PySem.W.nsIn K mainGlobals "MOST_PLACES" = some (some (.int 1000 tM1)))
    (z_int : PySem.W.nsIn K mainGlobals "int" = some none)
    (z_bool : PySem.W.nsIn K mainGlobals "bool" = some none)
    (z_list : PySem.W.nsIn K mainGlobals "list" = some none)
    (z_tuple : PySem.W.nsIn K mainGlobals "tuple" = some none)
    (z_str : PySem.W.nsIn K mainGlobals "str" = some none)
    (z_dict : PySem.W.nsIn K mainGlobals "dict" = some none)
    (z_isinstance : PySem.W.nsIn K mainGlobals "isinstance" = some none)
    (z_all : PySem.W.nsIn K mainGlobals "all" = some none)
    (z_len : PySem.W.nsIn K mainGlobals "len" = some none)
    (z_abs : PySem.W.nsIn K mainGlobals "abs" = some none)
    (z_range : PySem.W.nsIn K mainGlobals "range" = some none)
    (z_set : PySem.W.nsIn K mainGlobals "set" = some none)
    (z_sorted : PySem.W.nsIn K mainGlobals "sorted" = some none)
    (z_enumerate : PySem.W.nsIn K mainGlobals "enumerate" = some none)
    (z_repr : PySem.W.nsIn K mainGlobals "repr" = some none)
    (z_min : PySem.W.nsIn K mainGlobals "min" = some none)
    (z_zip : PySem.W.nsIn K mainGlobals "zip" = some none)
    (z_sum : PySem.W.nsIn K mainGlobals "sum" = some none)
    : ∃ (fd : FuncData) (Ts : List (Addr × Addr)) (sp : Sp), (∀ p ∈ Ts, TabOf K mg qq p) ∧ (∀ (s : Shared) (u : Value), BindsTo s fd ⟨[u], []⟩ [("script", u)]) ∧
        (∀ (H : Hp) (a : Addr) (ns : List Int), ns.length ≤ 63 → (∀ p ∈ Ts, H p.2 = some (.tbl #[])) → SqL K H a (ns.map V.int) → sp [.ref a] H (fun v _ => v = .bl true) fun _ _ _ => False) ∧
        ∀ base : Heap, K.In base → base.Ns mainGlobals mg → (∀ p ∈ Ts, TabB base mg p.1 p.2) → FnG l.prog w K mg base 12 fa fd ["script"] sp := by
  have e := hfa.symm.trans (PySem.W.mg_of X G aLa)
  cases e
  have FIn := fun_mk (st := sInteger) lIn cIn kIn
  have bIn := FIn.binds (ps := ["value"]) fun _ _ _ _ _ _ us hl => match us, hl with | [_], _ => rfl
  have FWi := fun_mk (st := sWithin) lWi cWi kWi
  have bWi := FWi.binds (ps := ["value", "least", "most"]) fun _ _ _ _ _ _ us hl => match us, hl with | [_, _, _], _ => rfl
  have FLi := fun_mk (st := sList) lLi cLi kLi
  have bLi := FLi.binds (ps := ["value"]) fun _ _ _ _ _ _ us hl => match us, hl with | [_], _ => rfl
  have FRo := fun_mk (st := sRow) lRo cRo kRo
  have bRo := FRo.binds (ps := ["value", "least", "most"]) fun _ _ _ _ _ _ us hl => match us, hl with | [_, _, _], _ => rfl
  have FUn := fun_mk (st := sUn) lUn cUn kUn
  have bUn := FUn.binds (ps := ["value", "least"]) fun _ _ _ _ _ _ us hl => match us, hl with | [_, _], _ => rfl
  have FLo := fun_mk (st := sLot) lLo cLo kLo
  have bLo := FLo.binds (ps := ["value"]) fun _ _ _ _ _ _ us hl => match us, hl with | [_], _ => rfl
  have FWa := fun_mk (st := sWant) lWa cWa kWa
  have bWa := FWa.binds (ps := ["value", "least", "most", "part"]) fun _ _ _ _ _ _ us hl => match us, hl with | [_, _, _, _], _ => rfl
  have FWw := fun_mk (st := sWantWeb) lWw cWw kWw
  have bWw := FWw.binds (ps := ["web"]) fun _ _ _ _ _ _ us hl => match us, hl with | [_], _ => rfl
  have FAr := fun_mk (st := sAreTurns) lAr cAr kAr
  have bAr := FAr.binds (ps := ["turns"]) fun _ _ _ _ _ _ us hl => match us, hl with | [_], _ => rfl
  have FIt := fun_mk (st := sIsTurn) lIt cIt kIt
  have bIt := FIt.binds (ps := ["turn", "place", "many"]) fun _ _ _ _ _ _ us hl => match us, hl with | [_, _, _], _ => rfl
  have FTi := fun_mk (st := sTies) lTi cTi kTi
  have bTi := FTi.binds (ps := ["turns"]) fun _ _ _ _ _ _ us hl => match us, hl with | [_], _ => rfl
  have FTt := fun_mk (st := sTurnText) lTt cTt kTt
  have bTt := FTt.binds (ps := ["turn"]) fun _ _ _ _ _ _ us hl => match us, hl with | [_], _ => rfl
  have FFo := fun_mk (st := sFacesOf) lFo cFo kFo
  have bFo := FFo.binds (ps := ["web"]) fun _ _ _ _ _ _ us hl => match us, hl with | [_], _ => rfl
  have FFa := fun_mk (st := sFaceAt) lFa cFa kFa
  have bFa := FFa.binds (ps := ["web", "one", "other"]) fun _ _ _ _ _ _ us hl => match us, hl with | [_, _, _], _ => rfl
  have FSo := fun_mk (st := sSidesOf) lSo cSo kSo
  have bSo := FSo.binds (ps := ["places"]) fun _ _ _ _ _ _ us hl => match us, hl with | [_], _ => rfl
  have FFl := fun_mk (st := sFromLeast) lFl cFl kFl
  have bFl := FFl.binds (ps := ["face"]) fun _ _ _ _ _ _ us hl => match us, hl with | [_], _ => rfl
  have FPb := fun_mk (st := sBehind) lPb cPb kPb
  have bPb := FPb.binds (ps := ["web"]) fun _ _ _ _ _ _ us hl => match us, hl with | [_], _ => rfl
  have FTr := fun_mk (st := sTaken) lTr cTr kTr
  have bTr := FTr.binds (ps := ["left", "one", "other"]) fun _ _ _ _ _ _ us hl => match us, hl with | [_, _, _], _ => rfl
  have FFf := fun_mk (st := sFaceFrom) lFf cFf kFf
  have bFf := FFf.binds (ps := ["web", "one", "other"]) fun _ _ _ _ _ _ us hl => match us, hl with | [_, _, _], _ => rfl
  have FSp := fun_mk (st := sTub) lSp cSp kSp
  have bSp := FSp.binds (ps := ["script"]) fun _ _ _ _ _ _ us hl => match us, hl with | [_], _ => rfl
  have FWd := fun_mk (st := sScoop) lWd cWd kWd
  have bWd := FWd.binds (ps := ["carousel", "many"]) fun _ _ _ _ _ _ us hl => match us, hl with | [_, _], _ => rfl
  have FPk := fun_mk (st := sPick) lPk cPk kPk
  have bPk := FPk.binds (ps := ["carousel", "some"]) fun _ _ _ _ _ _ us hl => match us, hl with | [_, _], _ => rfl
  have FLf := fun_mk (st := sLFaces) lLf cLf kLf
  have bLf := FLf.binds (ps := ["turns"]) fun _ _ _ _ _ _ us hl => match us, hl with | [_], _ => rfl
  have FLc := fun_mk (st := sLCorners) lLc cLc kLc
  have bLc := FLc.binds (ps := ["turns", "face"]) fun _ _ _ _ _ _ us hl => match us, hl with | [_, _], _ => rfl
  have FLp := fun_mk (st := sLPut) lLp cLp kLp
  have bLp := FLp.binds (ps := ["turns", "corner", "place"]) fun _ _ _ _ _ _ us hl => match us, hl with | [_, _, _], _ => rfl
  have FLb := fun_mk (st := sLBridged) lLb cLb kLb
  have bLb := FLb.binds (ps := ["carousel", "turns", "ones", "others"]) fun _ _ _ _ _ _ us hl => match us, hl with | [_, _, _, _], _ => rfl
  have FLr := fun_mk (st := sLRolled) lLr cLr kLr
  have bLr := FLr.binds (ps := ["carousel", "turns"]) fun _ _ _ _ _ _ us hl => match us, hl with | [_, _], _ => rfl
  have FLg := fun_mk (st := sLGrown) lLg cLg kLg
  have bLg := FLg.binds (ps := ["carousel", "many", "ties", "handles"]) fun _ _ _ _ _ _ us hl => match us, hl with | [_, _, _, _], _ => rfl
  have FDn := fun_mk (st := sDrawn) lDn cDn kDn
  have bDn := FDn.binds (ps := ["carousel"]) fun _ _ _ _ _ _ us hl => match us, hl with | [_], _ => rfl
  have FHe := fun_mk (st := sCaught) lHe cHe kHe
  have bHe := FHe.binds (ps := ["ask"]) fun _ _ _ _ _ _ us hl => match us, hl with | [_], _ => rfl
  have FRi := fun_mk (st := sLRefused) lRi cRi kRi
  have bRi := FRi.binds (ps := ["carousel", "web", "turns"]) fun _ _ _ _ _ _ us hl => match us, hl with | [_, _, _], _ => rfl
  have FLa := fun_mk (st := sLaw) lLa cLa kLa
  have bLa := FLa.binds (ps := ["script"]) fun _ _ _ _ _ _ us hl => match us, hl with | [_], _ => rfl
  have n : ∀ {x : Str}, PySem.W.nsIn K mainGlobals x = some none → mg x = none := fun h => PySem.W.mg_none_of X G h
  have g : ∀ {x : Str} {v : Value}, PySem.W.nsIn K mainGlobals x = some (some v) → mg x = some v := fun h => PySem.W.mg_of X G h
  have ECB : ErrC K CB := ⟨gaCB, ggCB, exCB, hdCB, ciCB, haCB, hn, ht, hmCB⟩
  have PCB : PySem.PartX.PartTxt K mg "BadNumber" "BadNumber.__init__" CB fBI := { gC := g aCB, cls := ⟨_, _, _, _, _, _, _, _, _, _, _, _, _, _, _, xCB, vCB⟩, sa := saCB, ga := gaCB, gg := ggCB, noN := noCB, iC := afBI, tC := tfBI, kC := keCB, exC := exCB, tyC := tyCB, hdC := hdCB, fn := ⟨_, _, _, _, _, _, _, _, _, _, _, _, _, _, lfBI, cfBI⟩ }
  have ECE : ErrC K CE := ⟨gaCE, ggCE, exCE, hdCE, ciCE, haCE, hn, ht, hmCE⟩
  have PCE : PySem.PartX.PartTxt K mg "BadWeb" "BadWeb.__init__" CE fEI := { gC := g aCE, cls := ⟨_, _, _, _, _, _, _, _, _, _, _, _, _, _, _, xCE, vCE⟩, sa := saCE, ga := gaCE, gg := ggCE, noN := noCE, iC := afEI, tC := tfEI, kC := keCE, exC := exCE, tyC := tyCE, hdC := hdCE, fn := ⟨_, _, _, _, _, _, _, _, _, _, _, _, _, _, lfEI, cfEI⟩ }
  have ECF : ErrC K CF := ⟨gaCF, ggCF, exCF, hdCF, ciCF, haCF, hn, ht, hmCF⟩
  have PCF : PySem.PartX.PartTxt K mg "Misfit" "Misfit.__init__" CF fFI := { gC := g aCF, cls := ⟨_, _, _, _, _, _, _, _, _, _, _, _, _, _, _, xCF, vCF⟩, sa := saCF, ga := gaCF, gg := ggCF, noN := noCF, iC := afFI, tC := tfFI, kC := keCF, exC := exCF, tyC := tyCF, hdC := hdCF, fn := ⟨_, _, _, _, _, _, _, _, _, _, _, _, _, _, lfFI, cfFI⟩ }
  have FWI := fun_mk (st := sWebI) lWI cWI kWI
  have bWI := FWI.binds (ps := ["self", "turns"]) fun _ _ _ _ _ _ us hl => match us, hl with | [_, _], _ => rfl
  have FWS := fun_mk (st := sWebS) lWS cWS kWS
  have bWS := FWS.binds (ps := ["self"]) fun _ _ _ _ _ _ us hl => match us, hl with | [_], _ => rfl
  have FWT := fun_mk (st := sTied) lWT cWT kWT
  have bWT := FWT.binds (ps := ["self", "one", "other"]) fun _ _ _ _ _ _ us hl => match us, hl with | [_, _, _], _ => rfl
  have kFo2 := kbn_of FFo (ps := ["web"]) 0 ["web"] (fun us ws => just1 us ws) (fun _ r => r) fun _ _ _ _ _ _ us ws h1 h2 => match us, ws, h1, h2 with | [], [_], _, _ => rfl
  have kFa2 := kbn_of FFa (ps := ["web", "one", "other"]) 0 ["other", "one", "web"] (fun us ws => rv3 us ws) (fun a b => rv3_rel a b) fun _ _ _ _ _ _ us ws h1 h2 => match us, ws, h1, h2 with | [], [_, _, _], _, _ => rfl
  have E2 : TE05 K mg CE CB CF CS := ⟨g aCE, g aCB, g aCF, g aCS, ECE, ECB, ECF, noCE, noCB, noCF, PySem.W.exm_ref bCS dCS tCS suCE, PySem.W.exm_ref bCS dCS tCS suCB, PySem.W.exm_ref bCS dCS tCS suCF, kiCE, keb, kef, kbe, kiCB, kbf, kfe, kfb, kiCF⟩
  have TW : TWeb K mg WC := ⟨⟨pgWC, hdWC, poWC, saWC⟩, nWC_turns, nWC_many, nWC_ties, g aWC⟩
  have IW : TIns K WC := ⟨thWC, hn, ht, tmWC, tkWC⟩
  have MW : Mk K WC fWI := ⟨mkWC, aWI, iWI, kcWC⟩
  have MT : Meth K WC "tied" fWT := ⟨aWT, iWT, FWT.kp⟩
  have NW : TKit K WC := fun n hn => by
    simp only [tys, List.mem_cons, List.not_mem_nil, or_false] at hn
    rcases hn with rfl | rfl | rfl | rfl | rfl | rfl | rfl
    · exact y0WC
    · exact y1WC
    · exact y2WC
    · exact y3WC
    · exact y4WC
    · exact y5WC
    · exact y6WC
  refine ⟨PySem.W.fnOf "law" "law" (defArgs sLaw) (defBody sLaw) (defScope sLaw) .none kVLa dcLa pmLa anLa cdLa ctLa, [(c1, T1)], spLaw K T1, fun p hp => ?_, fun s v => .of_eq rfl, fun H a ns hl hT hS => ⟨a, ns, rfl, hS, hl, fun p hp => ?_, fun _ => rfl⟩, fun base _ _ TBs => ?_⟩
  · rw [List.mem_singleton.mp hp]
    exact ⟨"_law_refused_right", fRi, _, _, e1C, dd1C, vs1C, sl1C, r1, g aRi, lRi, rfl, w1c, w1k, w1v, w1n⟩
  · rw [List.mem_singleton.mp hp]
    exact TabS.nil (hT (c1, T1) List.mem_cons_self)
  have TB1 := TBs (c1, T1) List.mem_cons_self
  have GIn := ok_integer (P := l.prog) (w := w) (mg := mg) (base := base) (k := 0) FIn (n z_isinstance) (n z_int) (n z_bool)
  have GWi := ok_within (P := l.prog) (w := w) (mg := mg) (base := base) (k := 1) FWi FIn GIn bIn (g aIn)
  have GLi := ok_list (P := l.prog) (w := w) (mg := mg) (base := base) (k := 0) FLi (n z_isinstance) (n z_list) (n z_tuple)
  have GRo := ok_row (P := l.prog) (w := w) (mg := mg) (base := base) (k := 2) FRo FWi GWi bWi (g aWi) FLi (GLi.mono (by decide)) bLi (g aLi) (n z_all)
  have GUn := ok_unlike (P := l.prog) (w := w) (mg := mg) (base := base) (k := 3) FUn FRo GRo bRo (g aRo) (n z_len) (n z_set)
  have GLo := ok_lot (P := l.prog) (w := w) (mg := mg) (base := base) (k := 4) FLo FUn GUn bUn (g aUn)
  have GIt := ok_isTurnG (P := l.prog) (w := w) (mg := mg) (base := base) (k := 5) FIt FLo GLo bLo (g aLo) (n z_all)
  have GAr := ok_areG (P := l.prog) (w := w) (mg := mg) (base := base) (k := 6) FAr FWi (GWi.mono (by decide)) bWi (g aWi) FLi (GLi.mono (by decide)) bLi (g aLi) FIt GIt bIt (g aIt) (g zM1) (n z_all) (n z_len) (n z_enumerate)
  have GTi := ok_ties (P := l.prog) (w := w) (mg := mg) (base := base) (k := 6) FTi (n z_tuple) (n z_sorted) (n z_enumerate)
  have GWI := ok_webG (P := l.prog) (w := w) (mg := mg) (base := base) (k := 5) FWI TW FAr GAr bAr (g aAr) FTi GTi bTi (g aTi) PCE (n z_tuple) (n z_len)
  have GWa := ok_want (P := l.prog) (w := w) (mg := mg) (base := base) (k := 0) FWa FWi GWi bWi (g aWi) PCB
  have GWT := ok_tied (P := l.prog) (w := w) (mg := mg) (base := base) (k := 3) FWT TW FWa GWa bWa (g aWa)
  have GWw := ok_wantWeb (P := l.prog) (w := w) (mg := mg) (base := base) (k := 0) FWw TW IW NW PCE (n z_isinstance)
  have GPb := ok_behind (P := l.prog) (w := w) (mg := mg) (base := base) (k := 2) FPb TW (n z_dict) (n z_zip)
  have GTr := ok_taken (P := l.prog) (w := w) (mg := mg) (base := base) (k := 2) FTr (n z_tuple)
  have GFo := ok_faces (P := l.prog) (w := w) (mg := mg) (base := base) (k := 3) FFo TW FWw GWw bWw (g aWw) FPb GPb bPb (g aPb) FTr GTr bTr (g aTr) (n z_tuple) (n z_enumerate) (n z_sorted)
  have GFf := ok_from (P := l.prog) (w := w) (mg := mg) (base := base) (k := 3) FFf FPb GPb bPb (g aPb) FTr GTr bTr (g aTr)
  have GSo := ok_sides (P := l.prog) (w := w) (mg := mg) (base := base) (k := 2) FSo (n z_list) (n z_zip)
  have GFl := ok_least (P := l.prog) (w := w) (mg := mg) (base := base) (k := 3) FFl FSo GSo bSo (g aSo) (n z_min)
  have GFa := ok_faceAt (P := l.prog) (w := w) (mg := mg) (base := base) (k := 2) FFa TW FWw (GWw.mono (by decide)) bWw (g aWw) MT GWT bWT FFf GFf bFf (g aFf) FFl GFl bFl (g aFl) PCF
  have GTt := ok_turnText (P := l.prog) (w := w) (mg := mg) (base := base) (k := 0) FTt (n z_str)
  have GWS := ok_webS (P := l.prog) (w := w) (mg := mg) (base := base) (k := 7) FWS TW FTt (GTt.mono (by decide)) bTt (g aTt)
  have GSp := ok_tub (P := l.prog) (w := w) (mg := mg) (base := base) (k := 7) FSp (n z_int)
  have GWd := ok_scoop (P := l.prog) (w := w) (mg := mg) (base := base) (k := 0) FWd (n z_int) (n z_len) (n z_abs)
  have GPk := ok_pick (P := l.prog) (w := w) (mg := mg) (base := base) (k := 1) FPk FWd GWd bWd (g aWd) (n z_len)
  have GDn := ok_drawn (P := l.prog) (w := w) (mg := mg) (base := base) (k := 7) FDn FWd (GWd.mono (by decide)) bWd (g aWd) FPk (GPk.mono (by decide)) bPk (g aPk) (n z_len) (n z_range)
  have GLf := ok_lfaces (P := l.prog) (w := w) (mg := mg) (base := base) (k := 5) FLf (n z_len) (n z_int) (n z_tuple) (n z_enumerate) (n z_sorted)
  have GLc := ok_corners (P := l.prog) (w := w) (mg := mg) (base := base) (k := 5) FLc (n z_enumerate)
  have GLp := ok_put (P := l.prog) (w := w) (mg := mg) (base := base) (k := 5) FLp
  have GLb := ok_bridged (P := l.prog) (w := w) (mg := mg) (base := base) (k := 6) FLb FPk (GPk.mono (by decide)) bPk (g aPk) FLp GLp bLp (g aLp)
  have GLr := ok_rolled (P := l.prog) (w := w) (mg := mg) (base := base) (k := 6) FLr FWd (GWd.mono (by decide)) bWd (g aWd) (n z_len)
  have GLg := ok_grown (P := l.prog) (w := w) (mg := mg) (base := base) (k := 7) FLg FLf (GLf.mono (by decide)) bLf (g aLf) FLc (GLc.mono (by decide)) bLc (g aLc) FPk (GPk.mono (by decide)) bPk (g aPk) FLp (GLp.mono (by decide)) bLp (g aLp) FLb GLb bLb (g aLb) FWd (GWd.mono (by decide)) bWd (g aWd) FLr GLr bLr (g aLr) (n z_len) (n z_range)
  have GRi := ok_refused (P := l.prog) (w := w) (mg := mg) (base := base) (k := 8) FRi w1c TB1 FWd (GWd.mono (by decide)) bWd (g aWd) FPk (GPk.mono (by decide)) bPk (g aPk) TW FFo (GFo.mono (by decide)) bFo (g aFo) FFa (GFa.mono (by decide)) bFa (g aFa) aWS iWS GWS bWS FHe bHe (g aHe) E2 (n z_isinstance) (n z_str) (n z_range)
  exact ok_law (k := 8) FLa FSp GSp bSp (g aSp) FDn GDn bDn (g aDn) FWd (GWd.mono (by decide)) bWd (g aWd) FLg GLg bLg (g aLg) TW MW GWI bWI FLf (GLf.mono (by decide)) bLf (g aLf) FFo (GFo.mono (by decide)) bFo kFo2 (g aFo) FFa (GFa.mono (by decide)) bFa kFa2 (g aFa) FRi GRi bRi (g aRi) (n z_int) (n z_len) (n z_tuple) (n z_range) (n z_repr) (n z_enumerate) (n z_sum)
end P05
end S_Ei
open PySem PySem.W PyProof.Rows
set_option maxRecDepth 100000 in
set_option maxHeartbeats 0 in
theorem PySem.Challenge.cw_threelanes_k05_whole_faces_by_own_walks_holds : PySem.Challenge.rw_threelanes_k05_whole_faces_by_own_walks.Holds := by
  w_on; o_law; k_head; (case hw => w_witness2)
  k_fill
  refine Hk.walk_gTs (l := PySem.Challenge.rw_threelanes_k05_whole_faces_by_own_walks) (n := 63) (k := 12) (x := "script") rfl (by decide) rfl ⟨rfl, by decide, by decide⟩ (fun w h Y => PySem.W.km_in_of Y) ?F
  case F =>
    intro w mg fa h KX G hmg
    refine' P05.all_mk KX G hmg ?aIn ?lIn ?cIn ?kIn ?aWi ?lWi ?cWi ?kWi ?aLi ?lLi ?cLi ?kLi ?aRo ?lRo ?cRo ?kRo ?aUn ?lUn ?cUn ?kUn ?aLo ?lLo ?cLo ?kLo ?aWa ?lWa ?cWa ?kWa ?aWw ?lWw ?cWw ?kWw ?aAr ?lAr ?cAr ?kAr ?aIt ?lIt ?cIt ?kIt ?aTi ?lTi ?cTi ?kTi ?aTt ?lTt ?cTt ?kTt ?aFo ?lFo ?cFo ?kFo ?aFa ?lFa ?cFa ?kFa ?aSo ?lSo ?cSo ?kSo ?aFl ?lFl ?cFl ?kFl ?aPb ?lPb ?cPb ?kPb ?aTr ?lTr ?cTr ?kTr ?aFf ?lFf ?cFf ?kFf ?aSp ?lSp ?cSp ?kSp ?aWd ?lWd ?cWd ?kWd ?aPk ?lPk ?cPk ?kPk ?aLf ?lLf ?cLf ?kLf ?aLc ?lLc ?cLc ?kLc ?aLp ?lLp ?cLp ?kLp ?aLb ?lLb ?cLb ?kLb ?aLr ?lLr ?cLr ?kLr ?aLg ?lLg ?cLg ?kLg ?aDn ?lDn ?cDn ?kDn ?aHe ?lHe ?cHe ?kHe ?aRi ?lRi ?cRi ?kRi ?aLa ?lLa ?cLa ?kLa ?w1c ?w1k ?w1v ?w1n ?r1 ?aCS ?bCS ?dCS ?tCS ?aCB ?xCB ?vCB ?saCB ?gaCB ?ggCB ?noCB ?keCB ?exCB ?tyCB ?hdCB ?ciCB ?haCB ?hmCB ?suCB ?kiCB ?afBI ?tfBI ?lfBI ?cfBI ?aCE ?xCE ?vCE ?saCE ?gaCE ?ggCE ?noCE ?keCE ?exCE ?tyCE ?hdCE ?ciCE ?haCE ?hmCE ?suCE ?kiCE ?afEI ?tfEI ?lfEI ?cfEI ?aCF ?xCF ?vCF ?saCF ?gaCF ?ggCF ?noCF ?keCF ?exCF ?tyCF ?hdCF ?ciCF ?haCF ?hmCF ?suCF ?kiCF ?afFI ?tfFI ?lfFI ?cfFI ?hn ?ht ?aWC ?aWI ?iWI ?lWI ?cWI ?kWI ?aWS ?iWS ?lWS ?cWS ?kWS ?aWT ?iWT ?lWT ?cWT ?kWT ?pgWC ?hdWC ?poWC ?saWC ?mkWC ?kcWC ?nWC_turns ?nWC_many ?nWC_ties ?thWC ?tmWC ?tkWC ?y0WC ?y1WC ?y2WC ?y3WC ?y4WC ?y5WC ?y6WC ?keb ?kef ?kbe ?kbf ?kfe ?kfb ?zM1 ?z_int ?z_bool ?z_list ?z_tuple ?z_str ?z_dict ?z_isinstance ?z_all ?z_len ?z_abs ?z_range ?z_set ?z_sorted ?z_enumerate ?z_repr ?z_min ?z_zip ?z_sum
    (case aIn => k_is)
    (case lIn => k_is)
    (case cIn => k_is)
    (case kIn => k_is)
    (case aWi => k_is)
    (case lWi => k_is)
    (case cWi => k_is)
    (case kWi => k_is)
    (case aLi => k_is)
    (case lLi => k_is)
    (case cLi => k_is)
    (case kLi => k_is)
    (case aRo => k_is)
    (case lRo => k_is)
    (case cRo => k_is)
    (case kRo => k_is)
    (case aUn => k_is)
    (case lUn => k_is)
    (case cUn => k_is)
    (case kUn => k_is)
    (case aLo => k_is)
    (case lLo => k_is)
    (case cLo => k_is)
    (case kLo => k_is)
    (case aWa => k_is)
    (case lWa => k_is)
    (case cWa => k_is)
    (case kWa => k_is)
    (case aWw => k_is)
    (case lWw => k_is)
    (case cWw => k_is)
    (case kWw => k_is)
    (case aAr => k_is)
    (case lAr => k_is)
    (case cAr => k_is)
    (case kAr => k_is)
    (case aIt => k_is)
    (case lIt => k_is)
    (case cIt => k_is)
    (case kIt => k_is)
    (case aTi => k_is)
    (case lTi => k_is)
    (case cTi => k_is)
    (case kTi => k_is)
    (case aTt => k_is)
    (case lTt => k_is)
    (case cTt => k_is)
    (case kTt => k_is)
    (case aFo => k_is)
    (case lFo => k_is)
    (case cFo => k_is)
    (case kFo => k_is)
    (case aFa => k_is)
    (case lFa => k_is)
    (case cFa => k_is)
    (case kFa => k_is)
    (case aSo => k_is)
    (case lSo => k_is)
    (case cSo => k_is)
    (case kSo => k_is)
    (case aFl => k_is)
    (case lFl => k_is)
    (case cFl => k_is)
    (case kFl => k_is)
    (case aPb => k_is)
    (case lPb => k_is)
    (case cPb => k_is)
    (case kPb => k_is)
    (case aTr => k_is)
    (case lTr => k_is)
    (case cTr => k_is)
    (case kTr => k_is)
    (case aFf => k_is)
    (case lFf => k_is)
    (case cFf => k_is)
    (case kFf => k_is)
    (case aSp => k_is)
    (case lSp => k_is)
    (case cSp => k_is)
    (case kSp => k_is)
    (case aWd => k_is)
    (case lWd => k_is)
    (case cWd => k_is)
    (case kWd => k_is)
    (case aPk => k_is)
    (case lPk => k_is)
    (case cPk => k_is)
    (case kPk => k_is)
    (case aLf => k_is)
    (case lLf => k_is)
    (case cLf => k_is)
    (case kLf => k_is)
    (case aLc => k_is)
    (case lLc => k_is)
    (case cLc => k_is)
    (case kLc => k_is)
    (case aLp => k_is)
    (case lLp => k_is)
    (case cLp => k_is)
    (case kLp => k_is)
    (case aLb => k_is)
    (case lLb => k_is)
    (case cLb => k_is)
    (case kLb => k_is)
    (case aLr => k_is)
    (case lLr => k_is)
    (case cLr => k_is)
    (case kLr => k_is)
    (case aLg => k_is)
    (case lLg => k_is)
    (case cLg => k_is)
    (case kLg => k_is)
    (case aDn => k_is)
    (case lDn => k_is)
    (case cDn => k_is)
    (case kDn => k_is)
    (case aHe => k_is)
    (case lHe => k_is)
    (case cHe => k_is)
    (case kHe => k_is)
    (case aRi => k_is)
    (case lRi => k_is)
    (case cRi => k_is)
    (case kRi => k_is)
    (case aLa => k_is)
    (case lLa => k_is)
    (case cLa => k_is)
    (case kLa => k_is)
    (case w1c => rfl)
    (case w1k => k_is)
    (case w1v => rfl)
    (case w1n => first | kernel_rfl | rfl | decide +kernel)
    (case r1 => decide +kernel)
    (case aCS => k_is)
    (case bCS => k_is)
    (case dCS => k_is)
    (case tCS => k_is)
    (case aCB => k_is)
    (case xCB => k_is)
    (case vCB => first | rfl | decide +kernel)
    (case saCB => k_is)
    (case gaCB => k_is)
    (case ggCB => k_is)
    (case noCB => k_is)
    (case keCB => k_is)
    (case exCB => k_is)
    (case tyCB => k_is)
    (case hdCB => k_is)
    (case ciCB => k_is)
    (case haCB => k_is)
    (case hmCB => k_is)
    (case suCB => k_is)
    (case kiCB => kit_is)
    (case afBI => k_is)
    (case tfBI => k_is)
    (case lfBI => k_is)
    (case cfBI => k_is)
    (case aCE => k_is)
    (case xCE => k_is)
    (case vCE => first | rfl | decide +kernel)
    (case saCE => k_is)
    (case gaCE => k_is)
    (case ggCE => k_is)
    (case noCE => k_is)
    (case keCE => k_is)
    (case exCE => k_is)
    (case tyCE => k_is)
    (case hdCE => k_is)
    (case ciCE => k_is)
    (case haCE => k_is)
    (case hmCE => k_is)
    (case suCE => k_is)
    (case kiCE => kit_is)
    (case afEI => k_is)
    (case tfEI => k_is)
    (case lfEI => k_is)
    (case cfEI => k_is)
    (case aCF => k_is)
    (case xCF => k_is)
    (case vCF => first | rfl | decide +kernel)
    (case saCF => k_is)
    (case gaCF => k_is)
    (case ggCF => k_is)
    (case noCF => k_is)
    (case keCF => k_is)
    (case exCF => k_is)
    (case tyCF => k_is)
    (case hdCF => k_is)
    (case ciCF => k_is)
    (case haCF => k_is)
    (case hmCF => k_is)
    (case suCF => k_is)
    (case kiCF => kit_is)
    (case afFI => k_is)
    (case tfFI => k_is)
    (case lfFI => k_is)
    (case cfFI => k_is)
    (case hn => k_is)
    (case ht => k_is)
    (case aWC => k_is)
    (case aWI => k_is)
    (case iWI => k_is)
    (case lWI => k_is)
    (case cWI => k_is)
    (case kWI => k_is)
    (case aWS => k_is)
    (case iWS => k_is)
    (case lWS => k_is)
    (case cWS => k_is)
    (case kWS => k_is)
    (case aWT => k_is)
    (case iWT => k_is)
    (case lWT => k_is)
    (case cWT => k_is)
    (case kWT => k_is)
    (case pgWC => k_is)
    (case hdWC => k_is)
    (case poWC => k_is)
    (case saWC => k_is)
    (case mkWC => k_is)
    (case kcWC => k_is)
    (case nWC_turns => k_is)
    (case nWC_many => k_is)
    (case nWC_ties => k_is)
    (case thWC => k_is)
    (case tmWC => k_is)
    (case zM1 => k_is)
    (case z_int => k_is)
    (case z_bool => k_is)
    (case z_list => k_is)
    (case z_tuple => k_is)
    (case z_str => k_is)
    (case z_dict => k_is)
    (case z_isinstance => k_is)
    (case z_all => k_is)
    (case z_len => k_is)
    (case z_abs => k_is)
    (case z_range => k_is)
    (case z_set => k_is)
    (case z_sorted => k_is)
    (case z_enumerate => k_is)
    (case z_repr => k_is)
    (case z_min => k_is)
    (case z_zip => k_is)
    (case z_sum => k_is)
    (case tkWC => kit_is)
    (case y0WC => kit_is)
    (case y1WC => kit_is)
    (case y2WC => kit_is)
    (case y3WC => kit_is)
    (case y4WC => kit_is)
    (case y5WC => kit_is)
    (case y6WC => kit_is)
    (case keb => kit_is)
    (case kef => kit_is)
    (case kbe => kit_is)
    (case kbf => kit_is)
    (case kfe => kit_is)
    (case kfb => kit_is)
