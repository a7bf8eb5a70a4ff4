import PyProof.Rows.All
import Wide.All
import OpenK.AllK
import Wide.FinOn
import HandS.ForMost
import HandS.Evl
import HandS.IsInst
import HandS.TupLe
import HandS.Conv
import HandS.SetFor
import HandS.Zip
import HandS.Defaults
import KE.KEqSeq
import PyProof.ReprRoads
import HandS.Star
import HandS.More
import KE.KSuper
import HandS.Zip0
import KE.KDictZip
import HandS.SortInts
import HandS.TupAny
import HandS.Iter
import KE.GoesEnum
import HandS.Walk
import HandS.DictComp
import HandS.Exc
import HandS.Lambda
import HandS.TryOnly
import HandS.Call
import KE.KExcIs
import HandS.ForSpec
import HandS.ExcOwn
import HandS.EndTab
import HandS.SortKw
import KE.KMinKey
import KE.DatumOrd
import HandS.Strs
import HandS.Text
import HandS.StrMore
import HandS.OwnEq
import PyProof.InstNe
import PyProof.DefStmt
import PyProof.StrOps2
import PyProof.FitsStr
import PyProof.SliceStr2
import HandS.Style
import HandS.TupMul
import KE.KDictPairs
import HandS.Dict
import KE.SortData
import KE.DataMinMax
import PyProof.Rows.SortShellAny
import HandS.Comp
import HandS.MethStar
import HandS.ExcInit
import KE.KTypeName
import OpenK.KWalk
import HandS.Records
import PyProof.NeKinds
import KE.GoesEnumKw
import KE.KItemsList
import HandS.ListItems
import KE.KCallOwn
import KE.OsSort
import HandS.Small
import HandS.ClsMeth
import HandS.ExcIs
import PySem.Challenge.RW_threelanes_k38_near_seats
set_option Elab.async false
set_option linter.all false
set_option maxRecDepth 100000
section S_Ru
namespace Tl
open PySem PySem.Spec PyProof.Rows L2
/-! ### len(set(x)) of a list or a tuple of ints, unlike or not -/
theorem met_len (ns : List Int) : ∀ i, i ≤ ns.length → ((firstMet (fun i => ns.getD i 0) i).length = i ↔ (ns.take i).Nodup) ∧ ∀ k, k ∈ firstMet (fun i => ns.getD i 0) i ↔ k ∈ ns.take i
  | 0, _ => by
    rw [firstMet_zero]
    simp
  | i + 1, h => by
    have hi : i < ns.length := h
    obtain ⟨a1, a2⟩ := met_len ns i (Nat.le_of_lt hi)
    have ex : ns.getD i 0 = ns[i] := by simp [List.getD_eq_getElem?_getD, hi]
    have et : ns.take (i + 1) = ns.take i ++ [ns[i]] := by rw [List.take_add_one, List.getElem?_eq_getElem hi] <;> rfl
    have eb : (firstMet (fun i => ns.getD i 0) i).any (· == ns[i]) = true ↔ ns[i] ∈ ns.take i := by
      rw [List.any_eq_true]
      constructor
      · intro ⟨x, hx, he⟩
        rw [← beq_iff_eq.mp he]
        exact (a2 x).mp hx
      · intro hx
        exact ⟨_, (a2 _).mpr hx, beq_self_eq_true _⟩
    have le := firstMet_length_le (fun i => ns.getD i 0) i
    rw [firstMet_succ, et]
    show ((step_dedup _ (ns.getD i 0)).length = i + 1 ↔ _) ∧ _
    rw [ex]
    unfold step_dedup
    have nd : (ns.take i ++ [ns[i]]).Nodup ↔ (ns.take i).Nodup ∧ ns[i] ∉ ns.take i := by
      rw [List.nodup_append]
      simp
      exact fun _ => ⟨fun y z => y _ z rfl, fun y a ha e => y (e ▸ ha)⟩
    by_cases hm : ns[i] ∈ ns.take i
    · rw [if_pos (eb.mpr hm)]
      refine ⟨⟨fun e => by omega, fun e => absurd hm (nd.mp e).2⟩, fun k => ?_⟩
      rw [a2 k, List.mem_append, List.mem_singleton]
      exact ⟨.inl, fun z => z.elim id fun e => e ▸ hm⟩
    · rw [if_neg (fun z => hm (eb.mp z))]
      refine ⟨?_, fun k => ?_⟩
      · rw [List.length_append, List.length_singleton, nd]
        exact ⟨fun e => ⟨a1.mp (by omega), hm⟩, fun e => by rw [a1.mpr e.1]⟩
      · rw [List.mem_append, List.mem_append, a2 k]
def tLenSetN (K : PySem.W.Frag) (ta : TE) : TE := fun σ H Q => ta σ H fun x H1 => ∃ (l : Addr) (ns : List Int), x = .ref l ∧ SqL K H1 l (ns.map V.int) ∧ ns.length ≤ 4000 ∧ ∀ c : Nat, (c = ns.length ↔ ns.Nodup) → Q (.int (c : Int)) H1
theorem pe_lenSetN {X : Cx} {a : Expr} {ta : TE} {p p2 q pos : Pos} (hg : Gl X "len") (hm : X.mg "len" = none) (hg2 : Gl X "set") (hm2 : X.mg "set" = none) (ha : PE X a ta) (hc : X.calm = true := by rfl)
    (na : starEach [a] X.env = (false, eval a X.env) :: starEach [] X.env := by rfl) : PE X (.Call (.Name "len" p) [.Call (.Name "set" p2) [a] [] q] [] pos) (tLenSetN X.K ta) := by
  constructor
  intro pins s σ H Q I h
  refine Call_ (ld_blt I hg hm boot_len (callWith_builtin1 (args_cons (Call_ (ld_blt I hg2 hm2 boot_set (callWith_type1 (args_cons (thn (ha.run pins s σ H _ I h) fun v s1 hv => args_nil ?_) na) na rfl))) rfl) rfl rfl))
  obtain ⟨x, H1, I1, r1, l, ns, rfl, hq, hl, q1⟩ := hv
  cases r1
  obtain ⟨its, r, pl, hz⟩ := I1.list hq
  have hn : its.toArray.size = ns.length := by rw [List.size_toArray, ← r.length, List.length_map]
  refine call_set_list (I1.ok.hd hc) pl.isList (by simpa using RZ.intsAre_vals r) (by rw [hn]; unfold scanBound; omega) fun h' tk hS hk => args_nil ?_
  obtain ⟨o, es, ep, t, ho, hex, hd, _, _, hb, hf, hsz⟩ := hS
  have I2 : Inv X pins σ H1 { s1 with heap := h', toks := tk } := I1.kept fun b o e => hk b o (Heap.lt_size e) e
  refine call_len_set ho hex hd hf (by unfold scanBound at hb; omega) ⟨.int es.size, H1, I2.tok _, ⟨_, rfl⟩, q1 es.size ?_⟩
  rw [hsz, hn]
  have e := (met_len ns ns.length (Nat.le_refl _)).1
  rwa [List.take_length] at e
/-- the same of a tuple -/
def tLenSetU (K : PySem.W.Frag) (ta : TE) : TE := fun σ H Q => ta σ H fun x H1 => ∃ (l : Addr) (ns : List Int), x = .ref l ∧ SqT K H1 l (ns.map V.int) ∧ ns.length ≤ 4000 ∧ ∀ c : Nat, (c = ns.length ↔ ns.Nodup) → Q (.int (c : Int)) H1
theorem nodup_same {as bs : List Int} (ha : as.Nodup) (hm : ∀ k, k ∈ bs ↔ k ∈ as) : as.length = bs.length ↔ bs.Nodup := by
  have sub : ∀ (as bs : List Int), as.Nodup → (∀ k, k ∈ as → k ∈ bs) → as.length ≤ bs.length := by
    intro as
    induction as with
    | nil => intro bs _ _; exact Nat.zero_le _
    | cons a r ih =>
      intro bs hn hs
      rw [List.nodup_cons] at hn
      have h1 : a ∈ bs := hs a List.mem_cons_self
      have h2 := ih (bs.erase a) hn.2 fun k hk => by
        have hne : k ≠ a := fun e => hn.1 (e ▸ hk)
        exact (List.mem_erase_of_ne hne).mpr (hs k (List.mem_cons_of_mem _ hk))
      rw [List.length_erase_of_mem h1] at h2
      have h3 : 0 < bs.length := List.length_pos_of_mem h1
      rw [List.length_cons]
      omega
  have strict : ∀ (bs as : List Int), as.Nodup → (∀ k, k ∈ as → k ∈ bs) → ¬ bs.Nodup → as.length < bs.length := by
    intro bs
    induction bs with
    | nil => intro as _ _ h; exact absurd List.nodup_nil h
    | cons b r ih =>
      intro as hn hs hb
      rw [List.length_cons]
      by_cases hbr : b ∈ r
      · have := sub as r hn fun k hk => by
          rcases List.mem_cons.mp (hs k hk) with e | e
          · rw [e]; exact hbr
          · exact e
        omega
      · have hr : ¬ r.Nodup := fun z => hb (List.nodup_cons.mpr ⟨hbr, z⟩)
        have h1 := ih (as.erase b) (hn.erase b) (fun k hk => by
          have h2 := hn.mem_erase_iff.mp hk
          rcases List.mem_cons.mp (hs k h2.2) with e | e
          · exact absurd e h2.1
          · exact e) hr
        by_cases ha : b ∈ as
        · rw [List.length_erase_of_mem ha] at h1
          omega
        · rw [List.erase_of_not_mem ha] at h1
          omega
  constructor
  · intro e
    apply Classical.byContradiction
    intro h
    have := strict bs as ha (fun k hk => (hm k).mpr hk) h
    omega
  · intro hb
    have h1 := sub as bs ha fun k hk => (hm k).mpr hk
    have h2 := sub bs as hb fun k hk => (hm k).mp hk
    omega
theorem pe_lenSetU {X : Cx} {a : Expr} {ta : TE} {p p2 q pos : Pos} (hg : Gl X "len") (hm : X.mg "len" = none) (hg2 : Gl X "set") (hm2 : X.mg "set" = none) (ha : PE X a ta) (hc : X.calm = true := by rfl)
    (na : starEach [a] X.env = (false, eval a X.env) :: starEach [] X.env := by rfl) : PE X (.Call (.Name "len" p) [.Call (.Name "set" p2) [a] [] q] [] pos) (tLenSetU X.K ta) := by
  constructor
  intro pins s σ H Q I h
  refine Call_ (ld_blt I hg hm boot_len (callWith_builtin1 (args_cons (Call_ (ld_blt I hg2 hm2 boot_set (callWith_type1 (args_cons (thn (ha.run pins s σ H _ I h) fun v s1 hv => args_nil ?_) na) na rfl))) rfl) rfl rfl))
  obtain ⟨x, H1, I1, r1, l, ns, rfl, hq, hl, q1⟩ := hv
  cases r1
  obtain ⟨its, r, pl, hz⟩ := I1.tuple hq
  refine call_set_tupI ns (I1.ok.hd hc) pl (by simpa using RZ.intsAre_vals r) (by unfold scanBound; omega) fun h' tk c hS hcl hk => args_nil ?_
  obtain ⟨o, es, ep, t, ho, hex, hd, _, hnd, hS2, hb, hf, hsz, _⟩ := hS
  have I2 : Inv X pins σ H1 { s1 with heap := h', toks := tk } := I1.kept hk
  refine call_len_set ho hex hd hf (by unfold scanBound at hb; omega) ⟨.int es.size, H1, I2.tok _, ⟨_, rfl⟩, q1 es.size ?_⟩
  have e := nodup_same (bs := ns) hnd fun k => by
    rw [← hS2 k]
    simp
  rwa [List.length_map, Array.length_toList] at e
/-! ### repr of data, where no repr is under way -/
def rRepr (K : PySem.W.Frag) : List V → Hp → VK → Prop := fun xs H Q => ∃ (a : Addr) (d : PyData), xs = [.ref a] ∧ Dp K H (.ref a) d ∧ d.showable = true ∧ d.hasDict = false ∧ d.depth ≤ 20 ∧ d.shown.length ≤ sizeLine ∧ Q (.str d.shown) H
theorem call_reprD {X : Cx} (hg : X.A.guards = some []) (hu : X.A.units + 64 < cLine) : CallR X (.builtin "repr") (rRepr X.K) := by
  intro pins s σ H xs us Q I r h
  obtain ⟨a, d, rfl, hd, hs, hn, hp, hz, q⟩ := h
  obtain ⟨u, rfl, ru⟩ := vals1 r
  cases ru
  obtain ⟨as, rd⟩ := Dp.reads I d _ _ hd rfl
  exact repr_of_reads' rd hs (PyData.noDict_hsm hn) hg (by omega) (fun _ _ e => e) (fun h' u tk hk => ⟨.str d.shown, H, I.kept hk, ⟨_, rfl⟩, q⟩) hz
/-! ### a call by keywords alone -/
theorem kbn_of {K : PySem.W.Frag} {x qual : Str} {st : Stmt} {f : Addr} {fd : FuncData} {ps : List Str} (F : Fun K x qual st f fd) (n : Nat) (ks : List Str) (g : {α : Type} → List α → List α → List α)
    (rel : ∀ {vs zs : List V} {us ws : List Value}, Vals vs us → Vals zs ws → Vals (g vs zs) (g us ws))
    (h : ∀ (kV doc pm : Value) (an : Option Addr) (cdv ct : Value) (us ws : List Value), us.length = n → ws.length = ks.length → bindArgs (PySem.W.fnOf x qual (defArgs st) (defBody st) (defScope st) .none kV doc pm an cdv ct) ⟨us, ks.zip ws⟩ = pure (ps.zip (g us ws))) :
    KBn K fd ps n ks (fun us ws => g us ws) (fun vs zs => g vs zs) := by
  obtain ⟨_, _, kV, doc, pm, an, cdv, ct, _, rfl, _, _⟩ := F.ex
  exact ⟨fun s us ws _ l1 l2 => .of_eq (h kV doc pm an cdv ct us ws l1 l2), rel⟩
theorem pe_callN0 {X : Cx} {CX : CXT} {k : Nat} {f : Addr} {fd : FuncData} {ps ks : List Str} {sp : Sp} {E : XK} {x : Str} {p pos : Pos} {kws : List Keyword} {tk : TA} {g : List Value → List Value → List Value} {gV : List V → List V → List V}
    (F : FnOk X.prog X.w X.K X.mg X.base CX k f fd ps sp) (hr : Room k X.A) (hg : Gl X x) (hm : X.mg x = some (.ref f)) (hk : PySem.W.keepIn X.K (.ref f) = true) (hb : KBn X.K fd ps 0 ks g gV) (hx : Passes CX X E)
    (hkw : PK X kws tk) (hall : (backToKw pos (keywordEach kws X.env)).all (·.1.isSome) = true := by rfl) (hks : (backToKw pos (keywordEach kws X.env)).filterMap (·.1) = ks := by rfl) (hdb : (x == ("__debug__" : Str)) = false := by decide)
    (hpl : ((backTo pos (starEach [] X.env)).any (·.1) || (backToKw pos (keywordEach kws X.env)).any (·.1.isNone)) = false := by rfl) :
    PE X (.Call (.Name x p) [] kws pos) (tCallN 0 ks.length sp gV E tNil tk) := by
  constructor
  intro pins s σ H Q I h
  refine wpAny_Call_Name_kw (ld_glob I hg hm (PySem.W.callWith_KW0 (h₀ := X.base) I.ok.mod.kin hk hall (thn (hkw.run pos pins s σ H _ I h) fun ws s2 hv => ?_) hpl) hdb)
  obtain ⟨zs, H2, I2, rz, l1, l2, q2⟩ := hv
  refine ⟨I2.kIn, ?_⟩
  rw [hks]
  exact run_fnN (us := []) (vs := []) F hr hb hx I2 .nil rz rfl l2 q2
/-! ### defs that are called where no repr is under way -/
structure FnG (P : Program) (w : World) (K : PySem.W.Frag) (mg : Str → Option Value) (base : Heap) (k : Nat) (f : Addr) (fd : FuncData) (ps : List Str) (sp : Sp) : Prop where
  len : ∀ {vs H Q E}, sp vs H Q E → vs.length = ps.length
  go : ∀ {A : Around} {outer : List Env} {s : Shared} {H : Hp} {args : Args} {us : List Value} {vs : List V} {Q : VK} {E : XK}, A.guards = some [] → Room k A → Env0 P w K mg base A outer s H → BindsTo s fd args (ps.zip us) → Vals vs us →
    sp vs H Q E → codeAny (model P w) A (.call (.ref f) args) (CR CX0 outer P w H s Q E) s
theorem fn_g {P : Program} {w : World} {K : PySem.W.Frag} {mg : Str → Option Value} {base : Heap} {x qual : Str} {st : Stmt} {f : Addr} {fd : FuncData} {N ps : List Str} {k : Nat} {sp : Sp} (F : Fun K x qual st f fd) (S : FnScope N ps (defScope st))
    (len : ∀ {vs H Q E}, sp vs H Q E → vs.length = ps.length)
    (hbody : ∀ (cdv : Value) (A : Around) (outer : List Env) (s : Shared) (H : Hp) (vs : List V) (Q : VK) (E : XK), A.guards = some [] → Room k (A.deeper (envOfC qual (defScope st) s.heap.objs.size f cdv)) → sp vs H Q E →
      ∃ t, PSs (cxOf CX0 P w K mg base N qual (defScope st) f cdv A outer s H E).nox (defBody st) t ∧ t { nx := fun _ H' => Q .non H', rt := Q } (start N vs) H) : FnG P w K mg base (k + 1) f fd ps sp := by
  obtain ⟨oc, od, kV, doc, pm, an, cdv, ct, osl, rfl, lk, hcd⟩ := F.ex
  refine ⟨len, fun {A outer s H args us vs Q E} hgd hr e0 hb r hsp => ?_⟩
  have kin : K.In s.heap := e0.mod.kin.keeps fun b o e => (e0.bs b o e).1
  have nl : s.heap.NoLimit := e0.mod.nolimit.keeps fun b o e => (e0.bs b o e).1
  refine codeAny_call_function hr.depth (kin _ _ lk) rfl S.co S.gen rfl (PySem.W.codeRec_of kin hcd) (hb _ _ _ _ (wpAny_newFunctionEnv_cells S.kind ?_ fun env he s1 x => ?_))
  · intro y hy
    have hp : y.1 ∈ ps := (List.of_mem_zip (a := y.1) (b := y.2) hy).1
    exact (S.par y.1 hp).imp id fun q => ⟨q, PySem.W.cellsFrom_some _ _ _ (.inl q)⟩
  · cases he
    obtain ⟨t, ht, hq⟩ := hbody cdv A outer s H vs Q E hgd (hr.deeper _) hsp
    have I := inv_start (CX := CX0) (P := P) (w := w) (base := base) (E := E) (qual := qual) (f := f) (cd := cdv) S hr.hd e0 (len hsp) r x
    refine ⟨nl.keeps x.toInCall.keep, codeAny_func (wpAny_mono (ht.nox.run [] s1 (start N vs) H _ I hq) (fun fl s' hs => ?_) fun _ _ hs => hs)⟩
    cases fl with
    | ret u =>
      obtain ⟨v, σ', H', J, rv, q⟩ := hs
      exact ⟨v, H', J.os, J.bare, J.base, J.hok, rv, q⟩
    | next =>
      obtain ⟨σ', H', J, q⟩ := hs
      exact ⟨.non, H', J.os, J.bare, J.base, J.hok, rfl, q⟩
    | brk => exact hs.elim fun _ h => h.elim fun _ h => h.2.elim
    | cont => exact hs.elim fun _ h => h.elim fun _ h => h.2.elim
/-- the call of the law itself: at its own room no repr is under way -/
theorem law_g {P : Program} {w : World} {K : PySem.W.Frag} {mg mb : Str → Option Value} {k : Nat} {fa a : Addr} {fd : FuncData} {x : Str} {sp : Sp} {s₁ : Shared} {vs : List Value} {ns : List Int}
    (kin : K.In s₁.heap) (hns : s₁.heap.Ns mainGlobals mg) (hb : s₁.heap.Ns builtinsNs mb) (hbb : ∀ x : Str, x ≠ "__name__" → mb x = bootBuiltins x) (hlim : s₁.heap.NoLimit) (hg : s₁.gens = #[])
    (ha : s₁.heap.get? a = some { cls := .type "list", data := .seq vs.toArray }) (hi : IntsAre vs ns) (hl : ns.length ≤ sizeLine) (hr : Room k callerA)
    (F : ∀ base : Heap, K.In base → base.Ns mainGlobals mg → FnG P w K mg base k fa fd [x] sp) (hbind : ∀ (s : Shared) (u : Value), BindsTo s fd ⟨[u], []⟩ [(x, u)])
    (hsp : ∀ H : Hp, Only H → SqL K H a (ns.map V.int) → sp [.ref a] H (fun v _ => v = .bl true) fun _ _ _ => False) :
    codeAny (model P w) callerA (.call (.ref fa) ⟨[.ref a], []⟩) (fun r s' => r = .ok (.ret (.bool true)) ∧ OldK s₁.heap s'.heap ∧ s'.os = s₁.os ∧ AllBare s'.gens) s₁ := by
  have rv := vals_ints hi
  have run : ∀ H : Hp, Only H → SqL K H a (ns.map V.int) → HOk P w H s₁.heap → (∀ b u, H b = some u → b = a ∧ K.lookup a = none) →
      codeAny (model P w) callerA (.call (.ref fa) ⟨[.ref a], []⟩) (fun r s' => r = .ok (.ret (.bool true)) ∧ OldK s₁.heap s'.heap ∧ s'.os = s₁.os ∧ AllBare s'.gens) s₁ := by
    intro H hO hS hok hA
    have none_of : ∀ b : Addr, (b = a → K.lookup a ≠ none) → H b = none := fun b hb => by
      cases q : H b with
      | none => rfl
      | some u =>
        obtain ⟨e1, e2⟩ := hA b u q
        exact absurd e2 (hb e1)
    have ns_of : ∀ {b : Addr} {m : Str → Option Value}, s₁.heap.Ns b m → (hidT s₁.heap H).Ns b m := fun {b m} hm => by
      obtain ⟨o, es, ep, e, d, r⟩ := hm
      refine ⟨o, es, ep, hidT_get e ?_, d, r⟩
      cases q : H b with
      | none => rfl
      | some u =>
        obtain ⟨e1, _⟩ := hA b u q
        rw [e1, ha] at e
        cases e
        exact absurd d (by intro z; cases z)
    have kb : K.In (hidT s₁.heap H) := fun b o e => hidT_get (kin b o e) (none_of b fun e1 z => by
      rw [e1, z] at e
      cases e)
    have hM : Mod K mg (hidT s₁.heap H) := ⟨kb, ns_of hns, ⟨mb, ns_of hb, hbb⟩, hlim.elim fun mc h => ⟨mc, ns_of h.1, h.2⟩⟩
    have e0 : Env0 P w K mg (hidT s₁.heap H) callerA [] s₁ H := ⟨rfl, hM, fun _ _ e => of_hidT e, by rw [hidT_size] <;> exact Nat.le_refl _, trivial, fun _ hb => (nomatch hb), hok, .of_eq hg⟩
    refine codeAny_mono ((F _ kb (ns_of hns)).go rfl hr e0 (us := [.ref a]) (hbind s₁ (.ref a)) (vs := [.ref a]) (.cons rfl .nil) (hsp H hO hS)) fun r s' h => ?_
    match r, h with
    | .ok (.ret u), h =>
      obtain ⟨v, H', os, bare, un, hok', r', q⟩ := h
      cases (show v = .bl true from q)
      cases (show u = Value.bool true from r')
      refine ⟨rfl, OldK.of_keep fun b o e => ?_, os, bare⟩
      rcases hO b with z | ⟨ob, xs, z⟩
      · exact un.keep b o e z (fun y => (nomatch y)) (fun y => (nomatch y))
      · obtain ⟨e1, _⟩ := hok b _ z
        obtain ⟨e2, _⟩ := hok' b _ (un.frzs b ob _ z)
        rw [e] at e1
        cases e1
        exact e2
    | .error e, h => exact False.elim h
    | .ok .next, h => exact False.elim h
    | .ok .brk, h => exact False.elim h
    | .ok .cont, h => exact False.elim h
  cases hk : K.lookup a with
  | some o =>
    have e := kin a o hk
    rw [ha] at e
    cases e
    refine run (fun _ => none) (fun _ => .inl rfl) (.inr ⟨_, vs.toArray, _, hk, rfl, rfl, rfl, ?_, by simpa using rv⟩) (fun b u z => (nomatch z)) (fun b u z => (nomatch z))
    rw [List.size_toArray, hi.length]
    exact hl
  | none =>
    have at_a : ∀ b u, (if b = a then some (HO.frz { cls := .type "list", data := .seq vs.toArray } (.lst (ns.map V.int))) else none) = some u → b = a ∧ u = HO.frz { cls := .type "list", data := .seq vs.toArray } (.lst (ns.map V.int)) := fun b u z => by
      by_cases hb : b = a
      · rw [if_pos hb] at z
        exact ⟨hb, (Option.some.inj z).symm⟩
      · rw [if_neg hb] at z
        cases z
    refine run (fun b => if b = a then some (.frz { cls := .type "list", data := .seq vs.toArray } (.lst (ns.map V.int))) else none) (fun b => ?_) (.inl (.inr ⟨_, if_pos rfl⟩)) (fun b u z => ?_) fun b u z => ⟨(at_a b u z).1, hk⟩
    · by_cases hb : b = a
      · exact .inr ⟨_, _, if_pos hb⟩
      · exact .inl (if_neg hb)
    · obtain ⟨e1, e2⟩ := at_a b u z
      subst e1
      subst e2
      exact ⟨ha, by rw [List.length_map]; exact hl, vs, _, rv, ha⟩
theorem walk_g {l : PySem.W.OpenLaw} {n k : Nat} {q : Program} {loose : List Str} {XP : (Str → Option Value) → Heap → Prop} {YP : World → Heap → Prop} {d : DefRec} {K : Params → PySem.W.Frag} {sp : World → Sp} {x : Str}
    (hn : l.most = some n) (hn2 : n ≤ sizeLine) (hdf : d.params.defaults = []) (hr : Room k callerA) (hY : ∀ (w : World) (h : Heap), YP w h → (K w.params).In h)
    (F : ∀ (w : World) (mg : Str → Option Value) (fa : Addr) (h : Heap), (K w.params).In h → h.Ns mainGlobals mg → mg d.name = some (.ref fa) →
      ∃ fd : FuncData, (∀ (s : Shared) (u : Value), BindsTo s fd ⟨[u], []⟩ [(x, u)]) ∧ ∀ base : Heap, (K w.params).In base → base.Ns mainGlobals mg → FnG l.prog w (K w.params) mg base k fa fd [x] (sp w))
    (hsp : ∀ (w : World) (H : Hp) (a : Addr) (ns : List Int), ns.length ≤ n → Only H → SqL (K w.params) H a (ns.map V.int) → sp w [.ref a] H (fun v _ => v = .bl true) fun _ _ _ => False) :
    PySem.W.WalkO q loose XP YP l.row.toRowW d [] (fun f vs => PySem.call f vs) := by
  refine Att.attach_call hn hdf fun w s₀ s₁ mg mb fa o pm cd doc a vs ns G Y ho hd hcd hmg hobj hints hlen hg => ?_
  obtain ⟨fd, h1, h2⟩ := F w mg fa _ (hY w _ Y) G.T.g hmg
  exact law_g (hY w _ Y) G.T.g G.T.b G.T.builtins G.T.nolimit hg hobj hints (Nat.le_trans hlen hn2) hr h2 h1 fun H hO hS => hsp w H a ns hlen hO hS
end Tl
end S_Ru
section S_Su
namespace Tl
open PySem PySem.Spec PyProof.Rows L2
/-! ### a method of a class that begins with super().__init__(..) -/
/-- names of such a def: locals first, no cell, the class's own cell free -/
structure SuScope (N P : List Str) (sc : Scope) : Prop where
  kind : sc.kind = .function
  co : sc.isCoroutine = false
  gen : sc.isGenerator = false
  nd : N.Nodup
  pre : N.take P.length = P
  par : ∀ x ∈ P, sc.names.lookup x = some .local
  nocell : ∀ y ∈ sc.names, y.2 ≠ .cell
  free : ∀ y ∈ sc.names, y.2 = .free → y.1 = "__class__"
  cls : sc.names.lookup ("__class__" : Str) = some .free
  sup : sc.names.lookup ("super" : Str) = some .globalImplicit
/-- the context of such a def's body -/
def suCx (P : Program) (w : World) (K : PySem.W.Frag) (mg : Str → Option Value) (base : Heap) (N : List Str) (qual : Str) (scope : Scope) (f : Addr) (cd : Value) (cc : Addr) (A : Around) (outer : List Env) (s : Shared) (H : Hp) (E : XK) : Cx where
  prog := P
  w := w
  K := K
  mg := mg
  base := base
  A := A.deeper (PySem.W.ksEnv qual scope s.heap.objs.size f cd cc)
  N := N
  s_0 := s
  H_0 := H
  env := PySem.W.ksEnv qual scope s.heap.objs.size f cd cc
  outer := outer
  stack := PySem.W.ksEnv qual scope s.heap.objs.size f cd cc :: outer
  ex := []
  calm := true
  fn := fun _ => false
  pn := []
  xe := fun _ _ => False
theorem lookup_rev {ps : List Str} {us : List Value} (nd : ps.Nodup) {i : Nat} {y : Str} {u : Value} (h1 : ps[i]? = some y) (h2 : us[i]? = some u) : (ps.zip us).reverse.lookup y = some u := by
  have hm : (y, u) ∈ (ps.zip us).reverse := by
    rw [List.mem_reverse]
    refine List.mem_of_getElem? (i := i) ?_
    rw [List.getElem?_zip_eq_some]
    exact ⟨h1, h2⟩
  have key : ∀ (l : List (Str × Value)), (l.map (·.1)).Nodup → (y, u) ∈ l → l.lookup y = some u := by
    intro l
    induction l with
    | nil => intro _ h; cases h
    | cons p r ih =>
      intro hn h
      rw [List.map_cons, List.nodup_cons] at hn
      rcases List.mem_cons.mp h with e | e
      · rw [← e, List.lookup_cons, beq_self_eq_true]
      · have hne : y ≠ p.1 := fun z => hn.1 (z ▸ List.mem_map_of_mem (f := (·.1)) e)
        rw [List.lookup_cons, beq_eq_false_iff_ne.mpr hne]
        exact ih hn.2 e
  refine key _ ?_ hm
  rw [List.map_reverse]
  refine List.pairwise_reverse.mpr (List.Pairwise.imp (fun h => Ne.symm h) ?_)
  refine (nd.sublist ?_)
  clear hm key h1 h2 nd
  induction ps generalizing us with
  | nil => exact List.Sublist.refl _
  | cons p r ih =>
    cases us with
    | nil => exact List.nil_sublist _
    | cons v t => exact (ih (us := t)).cons₂ p
theorem su_start {P : Program} {w : World} {K : PySem.W.Frag} {mg : Str → Option Value} {base : Heap} {N ps : List Str} {qual : Str} {scope : Scope} {f cc D : Addr} {cd cl : Value} {cld : Option Addr} {csl : Array (Option Value)} {A : Around} {outer : List Env} {s : Shared} {h₁ : Heap} {tk : Nat} {H : Hp} {E : XK} {us : List Value} {vs : List V}
    (S : SuScope N ps scope) (hcell : K.lookup cc = some ⟨cl, cld, .cell (some (.ref D)), csl⟩) (hd : A.handled = none) (e0 : Env0 P w K mg base A outer s H) (hl : vs.length = ps.length) (r : Vals vs us)
    (hns : h₁.Ns s.heap.objs.size fun x => (ps.zip us).reverse.lookup x) (kp : ∀ b o, s.heap.get? b = some o → h₁.get? b = some o) :
    Inv (suCx P w K mg base N qual scope f cd cc A outer s H E) [] (L2.start N vs) H { s with heap := h₁, toks := tk } := by
  have hpl : ps.length ≤ N.length := by
    have := congrArg List.length S.pre
    rw [List.length_take] at this
    omega
  have hcc : base.get? cc = some ⟨cl, cld, .cell (some (.ref D)), csl⟩ := e0.mod.kin _ _ hcell
  have one : ∀ {y : Str} {c : Addr}, ([("__class__", cc)] : List (Str × Addr)).lookup y = some c → y = "__class__" ∧ c = cc := fun {y c} h => by
    rw [List.lookup_cons] at h
    split at h
    · rename_i e
      exact ⟨beq_iff_eq.mp e, (Option.some.inj h).symm⟩
    · cases h
  have noA : ∀ b : Addr, b ∉ (suCx P w K mg base N qual scope f cd cc A outer s H E).ex := fun b z => (nomatch (show b ∈ ([] : List Addr) from z))
  refine ⟨⟨e0.mod, S.kind, rfl, rfl, Nat.le_refl _, fun y z c h1 h2 => ?_, fun y hy => ?_, fun y c h => ?_, fun _ => hd, Around.frames_deeper e0.frames, .inr ⟨rfl, rfl⟩, fun b z => absurd z (noA b), e0.bs, e0.bsz, fun b _ _ => noA b, fun b z => absurd z (noA b), e0.funs, e0.frf⟩,
    rfl, e0.bare, Un.kept kp, ⟨_, hns, fun i y v h1 h2 h3 => ?_⟩, fun y c h => ?_, e0.hok.fresh (Nat.le_refl _), fun y c h => ?_, fun p hp => (nomatch (show p ∈ ([] : List (Addr × Obj)) from hp)), e0.hok.kept kp, ?_⟩
  · exact (one h1).1.trans (one h2).1.symm
  · have hy : scope.names.lookup y = some .cell ∨ scope.names.lookup y = some .free := hy
    rcases hy with hy | hy
    · exact absurd rfl (S.nocell _ (PySem.mem_of_lookup hy))
    · have e := S.free _ (PySem.mem_of_lookup hy) rfl
      have e : y = "__class__" := e
      subst e
      exact ⟨cc, rfl⟩
  · cases (show false = true from h)
  · have hi : i < vs.length := by
      apply Classical.byContradiction
      intro hi
      unfold L2.start at h2
      rw [List.getElem?_append_right (by simpa using hi), List.getElem?_replicate] at h2
      split at h2 <;> cases h2
    have ha : vs[i]? = some v := by
      unfold L2.start at h2
      rw [List.getElem?_append_left (by simpa using hi), List.getElem?_map] at h2
      cases e : vs[i]? with
      | none => rw [e] at h2; cases h2
      | some a => rw [e] at h2; cases h2; rfl
    obtain ⟨u, hu, rv⟩ := r.get ha
    have hp : ps[i]? = some y := by
      rw [← S.pre, List.getElem?_take_of_lt (by omega)]
      exact h1
    have ndP : ps.Nodup := by
      rw [← S.pre]
      exact S.nd.sublist (List.take_sublist _ _)
    exact ⟨u, rv, .inl ⟨S.par y (List.mem_of_getElem? hp), lookup_rev ndP hp hu⟩⟩
  · obtain ⟨_, e2⟩ := one h
    subst e2
    exact ⟨_, _, kp _ _ (e0.bs _ _ hcc).1, rfl⟩
  · obtain ⟨_, e2⟩ := one h
    subst e2
    exact (e0.bs _ _ hcc).2
  · unfold L2.start
    show _ = N.length
    rw [List.length_append, List.length_map, List.length_replicate]
    omega
/-- what is told of the class D's def: its own cell, its code's file, the class and the next def above it -/
structure SuFacts (P : Program) (K : PySem.W.Frag) (f f2 D C cc cda : Addr) (fd : FuncData) (self : Str) : Prop where
  look : ∃ (oc : Value) (od : Option Addr) (osl : Array (Option Value)), K.lookup f = some ⟨oc, od, .func fd, osl⟩
  head : ∃ ar, (fd.params.posonlyargs ++ fd.params.args).head? = some ar ∧ ar.arg = self
  code : ∃ (ccl : Value) (cdd : Option Addr) (vs : Array Value) (ccs : Array (Option Value)) (file : Str) (tf : Tok), K.lookup cda = some ⟨ccl, cdd, .fields vs, ccs⟩ ∧ vs[2]? = some (.str file tf) ∧ ((P.main.file : Str) == file) = true
  cell : ∃ (cl : Value) (cld : Option Addr) (csl : Array (Option Value)), K.lookup cc = some ⟨cl, cld, .cell (some (.ref D)), csl⟩
  clsD : ∃ cd, PySem.W.clsIn K D = some cd
  sub : PySem.W.mroIn K C (.ref D) = some true
  opq : PySem.W.nsIn K cStatics "thirdparty.any" = some none
  above : PySem.W.ks_superIn K C D "__init__" = some (some (.ref f2))
  ty : PySem.W.typeIn K (.ref f2) = some (.type "function")
  fi : PySem.W.fnIn K f2 = true
  top : (P.main.scope.names.lookup ("super" : Str)).isSome = false
  notC : PySem.W.clsIn K C ≠ none
section
variable {P : Program} {w : World} {K : PySem.W.Frag} {mg : Str → Option Value} {base : Heap}
/-- its promise: first what stands in the arguments, then the def above, then the rest of the body -/
theorem fn_super {f f2 D C cc cda : Addr} {name qual : Str} {params : Arguments} {scope : Scope} {dV kV doc pm ct : Value} {an : Option Addr} {N ps : List Str} {self : Str} {k : Nat} {sp sp2 : Sp} {e1 : Expr} {es : List Expr} {rest : List Stmt} {p0 p1 apos pos spos : Pos}
    (B : SuFacts P K f f2 D C cc cda (PySem.W.ksFn name qual params (.Expr (.Call (.Attribute (.Call (.Name "super" p0) [] [] p1) "__init__" apos) (e1 :: es) [] pos) spos :: rest) scope dV kV doc pm an (.ref cda) ct cc) self)
    (hcd : PySem.W.codeIn K (.ref cda) qual = true) (S : SuScope N ps scope) (h0 : ps[0]? = some self) (ms : mg "super" = none)
    (F2 : FnR P w K mg base CX0 k f2 sp2) (len : ∀ {vs H Q E}, sp vs H Q E → vs.length = ps.length)
    (hbody : ∀ (A : Around) (outer : List Env) (s : Shared) (H : Hp) (vs : List V) (Q : VK) (E : XK), Room k (A.deeper (PySem.W.ksEnv qual scope s.heap.objs.size f (.ref cda) cc)) → sp vs H Q E →
      ∃ ta t x dx fs, PA (suCx P w K mg base N qual scope f (.ref cda) cc A outer s H E) (e1 :: es) ta ∧ PSs (suCx P w K mg base N qual scope f (.ref cda) cc A outer s H E) rest t ∧ vs[0]? = some (.ref x) ∧ H x = some (.ins C dx fs) ∧
        ∀ q, H q = none → ta (L2.start N vs) (upd H q (.met f2 x)) fun us H1 => H1 q = some (.met f2 x) ∧ sp2 (.ref x :: us) H1 (fun _ H2 => t { nx := fun _ H' => Q .non H', rt := Q } (L2.start N vs) H2) E0)
    {pl : Sem Bool} (hev : ∀ env : Env, eval (.Call (.Attribute (.Call (.Name "super" p0) [] [] p1) "__init__" apos) (e1 :: es) [] pos) env = (do
      let ov ← attributeBase (.Call (.Name "super" p0) [] [] p1) "__init__" env (eval (.Call (.Name "super" p0) [] [] p1) env)
      standAt apos.atName
      let (f, first) ← holding [ov] (getMethod ov "__init__" pl)
      callWith pos f first (backTo pos (starEach (e1 :: es) env)) []))
    (hsw : ∀ env : Env, swapsWith (.Call (.Attribute (.Call (.Name "super" p0) [] [] p1) "__init__" apos) (e1 :: es) [] pos) none spos.line env = pure false)
    (hst : ∀ env : Env, starEach (e1 :: es) env = (false, eval e1 env) :: starEach es env) (hpl : ∀ env : Env, ((backTo pos (starEach (e1 :: es) env)).any (·.1) || (backToKw pos (keywordEach [] env)).any (·.1.isNone)) = false) :
    FnOk P w K mg base CX0 (k + 1) f (PySem.W.ksFn name qual params (.Expr (.Call (.Attribute (.Call (.Name "super" p0) [] [] p1) "__init__" apos) (e1 :: es) [] pos) spos :: rest) scope dV kV doc pm an (.ref cda) ct cc) ps sp := by
  obtain ⟨⟨oc, od, osl, lk⟩, ⟨ar, har, hself⟩, ⟨ccl, cdd, cvs, ccs, file, tf, lkc, hvs, hfile⟩, ⟨cl, cld, csl, lkcell⟩, ⟨cdD, hclsD⟩, hsub, hopq, habove, hty, hfi, htop, hnotC⟩ := B
  refine ⟨fun _ _ _ _ h => len h, fun A outer s H args us vs Q E hr e0 hb r hsp => ?_⟩
  have kin : K.In s.heap := e0.mod.kin.keeps fun b o e => (e0.bs b o e).1
  have nl : s.heap.NoLimit := e0.mod.nolimit.keeps fun b o e => (e0.bs b o e).1
  have hl := len hsp
  refine ks_codeAny_call_defAt (fd := PySem.W.ksFn name qual params _ scope dV kV doc pm an (.ref cda) ct cc) (binds := ps.zip us) hr.depth (kin _ _ lk) rfl nl (PySem.W.codeRec_of kin hcd) rfl hb (fun y hy => S.nocell y hy) (fun y hy => S.par y.1 (List.of_mem_zip (a := y.1) (b := y.2) hy).1) (fun h₁ hns kp => ?_) S.co S.gen S.kind
  obtain ⟨ta, t, x, dx, fs, ha, ht, hx0, hx, hq⟩ := hbody A outer s H vs Q E (hr.deeper _) hsp
  have I : Inv (suCx P w K mg base N qual scope f (.ref cda) cc A outer s H E) [] (L2.start N vs) H { s with heap := h₁, toks := s.toks + (ps.zip us).length } := su_start S lkcell hr.hd e0 hl r hns kp
  have kin1 : K.In h₁ := I.kIn
  obtain ⟨oD, hD1, hD2⟩ : ∃ oD, h₁.get? D = some oD ∧ oD.data = .cls cdD := by
    unfold PySem.W.clsIn at hclsD
    split at hclsD
    · rename_i ho
      cases hclsD
      exact ⟨_, kin1 _ _ ho, rfl⟩
    · cases hclsD
  obtain ⟨mA, O, _⟩ := ins_get I.hok hx
  obtain ⟨u0, hu0, ru0⟩ := r.get hx0
  cases (show u0 = Value.ref x from ru0)
  have hsv : (ps.zip us).reverse.lookup ar.arg = some (.ref x) := by
    rw [hself]
    refine lookup_rev ?_ h0 hu0
    rw [← S.pre]
    exact S.nd.sublist (List.take_sublist _ _)
  have hsl : scope.names.lookup ar.arg = some .local := by
    rw [hself]
    exact S.par _ (List.mem_of_getElem? h0)
  have hxC : x ≠ C := by
    intro e
    cases hcl : PySem.W.clsIn K C with
    | none => exact hnotC hcl
    | some cdC =>
      unfold PySem.W.clsIn at hcl
      split at hcl
      · rename_i ho
        have e2 := kin1 _ _ ho
        rw [← e, O.obj] at e2
        cases e2
      · cases hcl
  obtain ⟨mb, hnb, hbb⟩ := I.ok.mod.blt
  refine ks_wpAt_execs_cons (ks_wpAt_Expr_any (ks_wpAt_MethodCall (pl := pl) (ks_wpAt_super_base (env := PySem.W.ksEnv qual scope s.heap.objs.size f (.ref cda) cc) S.sup S.cls (by decide) rfl (kin1 _ _ lk) rfl har rfl (kin1 _ _ lkc) rfl hvs hfile htop ?_) (hev _)) I.quiet (hsw _))
  refine PySem.W.ks_loadName_global S.kind S.sup (PySem.Calls.loadGlobal_builtin (env := PySem.W.ksEnv qual scope s.heap.objs.size f (.ref cda) cc) (I.ok.mod.glob.keeps I.bk) ms (hnb.keeps I.bk) ((hbb _ (by decide +kernel)).trans (by decide +kernel)) ⟨rfl, ?_⟩)
  refine wpAny_loadName_free S.kind S.cls rfl ⟨_, kin1 _ _ lkcell, rfl⟩ ?_
  refine wpAny_loadName_local S.kind hsl hns hsv ?_
  refine ks_wpAny_isType_cls hD1 hD2 ⟨rfl, ?_⟩
  refine ks_wpAny_call_super hD1 hD2 O.obj rfl (fun c e => by cases e) (PySem.W.looks_mroIn kin1 hsub) (fun h2 e2 k2 => ?_)
  have I2 := I.kept (t' := s.toks + (ps.zip us).length) k2
  have kin2 : K.In h2 := I2.kIn
  obtain ⟨of, hof, hofc⟩ : ∃ of, h2.get? f2 = some of ∧ of.cls = .type "function" := by
    have ht' : (K.lookup f2).map (·.cls) = some (.type "function") := hty
    cases z : K.lookup f2 with
    | none => rw [z] at ht'; cases ht'
    | some of => rw [z] at ht'; exact ⟨of, kin2 _ _ z, Option.some.inj ht'⟩
  cases hcl : PySem.W.clsIn K C with
  | none => exact absurd hcl hnotC
  | some cdC =>
    unfold PySem.W.ks_superIn at habove
    rw [hcl] at habove
    refine ks_wpAny_getMethod_super e2 (PySem.W.looks_opaque kin2 hopq) (l₀ := cdC.mro) (fun A Q E s k q => wpAny_bind ((PySem.W.looks_clsIn kin2 hcl) A _ E s k (wpAny_pure q))) rfl kin2 habove hof hofc hxC (by decide) ?_
    have hfree : H h2.objs.size = none := I2.hok.fresh (Nat.le_refl _)
    have I3 := I2.laid (a := h2.objs.size) (o := .met f2 x) (h' := h2.push { cls := .type "method", data := .fields #[.ref f2, .ref x] }) (t' := s.toks + (ps.zip us).length + 1) (fun b u e => Heap.get?_push_of_some _ e) (Nat.le_refl _) (Heap.get?_push_size _ rfl)
    have hx3 := hq _ hfree
    refine callwith_met (X := suCx P w K mg base N qual scope f (.ref cda) cc A outer s H E) (a := x) (hpl _) hfi ?_
    rw [hst]
    refine Calls.evalArgs_plain ?_
    have hrun := ha.run pos [] _ (L2.start N vs) _ _ I3 hx3
    rw [hst] at hrun
    refine wpAny_mono hrun (fun us4 s4 h4 => ?_) fun _ _ z => z.elim
    obtain ⟨vs4, H4, I4, rv4, hm4, hsp4⟩ := h4
    have hr4 : Room k (suCx P w K mg base N qual scope f (.ref cda) cc A outer s H E).A := hr.deeper _
    refine ⟨met_P I4 hm4, wpAny_call (PySem.W.method_call (met_P I4 hm4).1 (codeAny_mono (run_fnR (X := suCx P w K mg base N qual scope f (.ref cda) cc A outer s H E) (vs := V.ref x :: vs4) (us := Value.ref x :: us4) F2 hr4 pass0 I4 (.cons rfl rv4) hsp4) fun r5 s5 h5 => ?_))⟩
    match r5, h5 with
    | .ok (.ret u), h5 =>
      obtain ⟨v5, H5, I5, _, q5⟩ := h5
      refine wpAt_of_wpAny (wpAny_mono (ht.run [] s5 _ H5 _ I5 q5) (fun fl s' hs => ?_) fun _ _ z => z.elim)
      cases fl with
      | ret u =>
        obtain ⟨v, σ', H', J, rv, q⟩ := hs
        exact ⟨v, H', J.os, J.bare, J.base, J.hok, rv, q⟩
      | next =>
        obtain ⟨σ', H', J, q⟩ := hs
        exact ⟨.non, H', J.os, J.bare, J.base, J.hok, rfl, q⟩
      | brk => exact hs.elim fun _ h => h.elim fun _ h => h.2.elim
      | cont => exact hs.elim fun _ h => h.elim fun _ h => h.2.elim
    | .error e, h5 => exact False.elim h5
    | .ok .next, h5 => exact False.elim h5
    | .ok .brk, h5 => exact False.elim h5
    | .ok .cont, h5 => exact False.elim h5
end
end Tl
end S_Su
section S_Bo
namespace Tl
open PySem PySem.Spec PyProof.Rows L2
theorem plain_bool_new : plainId "bool.__new__" = true := by decide +kernel
section
variable {P : Program} {w : World} {A : Around} {E : Value → Shared → Prop} {s : Shared}
theorem code_bool_new {v : Value} {Q₁ : Value → Shared → Prop} (h : wpAny (model P w) A.in1 (truthy v) (fun b s' => Q₁ (.bool b) s') E s) :
    codeAny (model P w) A (.call (.builtin "bool.__new__") ⟨[.type "bool", v], []⟩) (wants Q₁ E) s := by
  refine codeAny_of_tree ?_
  show wpAny _ A.in1 (do checkBuiltinCall "bool.__new__" ⟨[.type "bool", v], []⟩; again (.builtin "bool.__new__" ⟨[.type "bool", v], []⟩)) _ _ s
  refine wpAny_bind (wpAny_of_eq (F.newCall_bool_1 v) (wpAny_pure ⟨plainId_quiet plain_bool_new _, codeAny_builtin F.entry_bool_new ?_⟩))
  rw [Around.under_plainId plain_bool_new _]
  unfold Builtin.«bool.__new__»
  have f1 := F.conv_sub_bool
  obtain ⟨hp, g, d, tk, os⟩ := s
  wp_walk
  show wpAny (model P w) A.in1 (truthy v) _ _ _
  exact wpAny_mono h (fun b s' hb => wpAny_pure hb) fun _ _ e => e
/-- bool(v), by what truth gives -/
theorem call_bool_by {v : Value} {Q : Value → Shared → Prop} (h : wpAny (model P w) A.in1.in1 (truthy v) (fun b s' => Q (.bool b) s') E s) : wpAny (model P w) A (call (.type "bool") [v]) Q E s := by
  refine callType_codes (Q₁ := fun obj s₁ => (∃ b, obj = .bool b) ∧ Q obj s₁) F.called_bool (F.typeCall_bool_1 v) F.entry_object_init (code_bool_new (wpAny_mono h (fun b s' hb => ⟨⟨b, rfl⟩, hb⟩) fun _ _ e => e)) fun obj s₁ hq => ?_
  obtain ⟨⟨b, rfl⟩, hq⟩ := hq
  exact ⟨PySem.typeIs_bool _ _, F.args_object_init_2 _ v, object_init_meets F.called_bool.init.lookup F.called_bool.made F.newNe_bool P w A.in1 _ s₁ ⟨PySem.typeIs_bool _ _, rfl, hq⟩⟩
end
/-- bool(o) of an instance whose class has its own __bool__ at f -/
theorem call_boolO {X : Cx} {CX : CXT} {k : Nat} {C f : Addr} {fd : FuncData} {ps : List Str} {sp : Sp} {E : XK} (F : FnOk X.prog X.w X.K X.mg X.base CX k f fd ps sp) (hr : Room (k + 2) X.A) (hb : Binds X.K fd ps []) (hx : Passes CX X E)
    (hs : PySem.W.findIn X.K (.ref C) "__bool__" = some (some (.ref f))) (hf : PySem.W.isFn X.K (.ref f) = true) :
    CallR X (.type "bool") (fun xs H Q => ∃ a dx fs, xs = [.ref a] ∧ H a = some (.ins C dx fs) ∧ sp [.ref a] H (fun v H1 => ∃ b, v = .bl b ∧ Q (.bl b) H1) E) := by
  intro pins s σ H xs us Q I r h
  obtain ⟨a, dx, fs, rfl, ha, hsp⟩ := h
  obtain rfl := Vals.ref1 r
  obtain ⟨mA, O, _⟩ := ins_get I.hok ha
  obtain ⟨od, J, _⟩ := O.look
  obtain ⟨m, hF⟩ := I.fr
  refine call_bool_by (PySem.W.truthy_K hF I.ok.mod.kin J hs hf ?_)
  have hl := F.len _ _ _ _ hsp
  have r2 : Vals [V.ref a] [Value.ref a] := .cons rfl .nil
  refine wpAny_call (codeAny_mono (F.run X.A.in1.in1 X.stack s H ⟨[.ref a], []⟩ [.ref a] [.ref a] _ E hr.in1.in1 I.env0.in1.in1 (by
    have := hb s [.ref a] I.kIn (by simpa using hl)
    simpa using this) r2 hsp) fun r s' hq => ?_)
  match r, hq with
  | .error e, hq => exact hx pins σ H s e s' I hq
  | .ok (.ret u), hq =>
    obtain ⟨z, H', I', rz, b, ez, q⟩ := I.after hq
    subst ez
    cases rz
    exact ⟨.bl b, H', I', rfl, q⟩
  | .ok .next, hq => exact False.elim hq
  | .ok .brk, hq => exact False.elim hq
  | .ok .cont, hq => exact False.elim hq
end Tl
end S_Bo
section S_Zp
namespace Tl
open PySem PySem.Spec PyProof.Rows L2
/-! ### dict(zip(t, u)) of two tuples -/
/-- what one asks of an iterator at i: it gives v, from S to S'; it ends in S -/
abbrev Gives1 (P : Program) (w : World) (i : Addr) (v : Value) (S S' : Heap → Prop) : Prop := ∀ (A : Around) (E : Value → Shared → Prop) (s : Shared) (Q : Value → Shared → Prop), S s.heap →
  (∀ h', S' h' → Heap.SameBut i s.heap h' → Q v { s with heap := h' }) → wpAny (model P w) A (Builtin.SmallTypes.nextOf (.ref i)) Q E s
abbrev Ends1 (P : Program) (w : World) (i : Addr) (S : Heap → Prop) : Prop := ∀ (A : Around) (E : Value → Shared → Prop) (s : Shared) (Q : Value → Shared → Prop), A.handled = none → S s.heap →
  (∀ h' e, Heap.ExtBut i s.heap h' → (∃ o, h'.get? e = some o ∧ o.cls = .type "StopIteration") → E (.ref e) { s with heap := h' }) → wpAny (model P w) A (Builtin.SmallTypes.nextOf (.ref i)) Q E s
/-- it stays where one object alone changes -/
abbrev Off (b : Addr) (S : Heap → Prop) : Prop := ∀ h h', Heap.SameBut b h h' → S h → S h'
section
variable {P : Program} {w : World} {A : Around} {E : Value → Shared → Prop} {s : Shared}
theorem held_item {z TI TO T i1 i2 : Addr} {f : Bool} {oT : Obj} {x y : Value} {S1 S1' S2 S2' : Heap → Prop} {Q : Value → Shared → Prop} (hz : IsZipHeld s.heap z TI TO T f) (hT : s.heap.get? T = some oT) (hTI : IsPair s.heap TI (.ref i1) (.ref i2)) (z1 : i1 ≠ z) (z2 : i2 ≠ z)
    (n1 : Gives1 P w i1 x S1 S1') (n2 : Gives1 P w i2 y S2 S2') (s1 : S1 s.heap) (s2 : S2 s.heap) (o1 : Off z S1) (o2 : Off z S2) (o21 : Off i1 S2) (o12 : Off i2 S1')
    (hQ : ∀ h', IsZipHeld h' z TI TO T true → S1' h' → S2' h' → h'.objs.size = s.heap.objs.size → (∀ c o, c ≠ z → c ≠ i1 → c ≠ i2 → s.heap.get? c = some o → h'.get? c = some o) →
      Q (.ref h'.objs.size) { s with heap := h'.push { cls := .type "tuple", data := .seq #[x, y] } }) :
    wpAny (model P w) A (Builtin.«zip.__next__» ⟨[.ref z], []⟩) (fun fin s' => ∃ v, fin = .done (.ret v) ∧ Q v s') E s := by
  show wpAny _ _ (field (.ref z) 2 >>= _) _ _ _
  refine wpAny_bind (wpAny_field hz rfl (x := .bool false) rfl (show wpAny _ _ (field (.ref z) 3 >>= _) _ _ _ from wpAny_bind (wpAny_field hz rfl (x := .ref TI) rfl (wpAny_bind (wpAny_seqItems hTI rfl ?_)))))
  show wpAny _ _ (Builtin.SmallTypes.ownedTupleIsFree (.ref z) >>= _) _ _ _
  refine wpAny_bind (wpAny_tupleHeld_zip hz hT fun ha hza sa => ?_)
  simp only [Bool.false_eq_true, if_false]
  refine wpAny_bind ?_
  rw [← Array.forIn_toList]
  simp only [List.forIn_cons, List.forIn_nil]
  refine wpAny_bind (wpAny_bind (wpAny_holding (show wpAny _ _ (Builtin.SmallTypes.nextOf (.ref i1) >>= _) _ _ _ from wpAny_bind (n1 _ _ { s with heap := ha } _ (o1 _ _ sa s1) fun hb sb1 sb => wpAny_pure (wpAny_pure ?_)))))
  refine wpAny_bind (wpAny_bind (wpAny_holding (show wpAny _ _ (Builtin.SmallTypes.nextOf (.ref i2) >>= _) _ _ _ from wpAny_bind (n2 _ _ { s with heap := hb } _ (o21 _ _ sb (o2 _ _ sa s2)) fun hc sc2 sc => wpAny_pure (wpAny_pure (wpAny_pure ?_))))))
  refine (show wpAny _ _ (newTuple [x, y] >>= _) _ _ _ from wpAny_bind (wpAny_newTuple (wpAny_pure ⟨_, rfl, ?_⟩)))
  exact hQ hc (sc.extBut _ _ z2.symm (sb.extBut _ _ z1.symm hza)) (o12 _ _ sc sb1) sc2 (by rw [sc.1, sb.1, sa.1]) fun c o c1 c2 c3 e => sc.extBut _ _ c3 (sb.extBut _ _ c2 (sa.extBut _ _ c1 e))
/-- the first one ends -/
theorem held_end {z TI TO T i1 i2 : Addr} {f : Bool} {oT : Obj} {S1 : Heap → Prop} {Q : Fin → Shared → Prop} (hh : A.handled = none) (hz : IsZipHeld s.heap z TI TO T f) (hT : s.heap.get? T = some oT) (hTI : IsPair s.heap TI (.ref i1) (.ref i2))
    (n1 : Ends1 P w i1 S1) (s1 : S1 s.heap) (o1 : Off z S1) (hE : ∀ h' e, (∀ c o, c ≠ z → c ≠ i1 → s.heap.get? c = some o → h'.get? c = some o) → (∃ o, h'.get? e = some o ∧ o.cls = .type "StopIteration") → E (.ref e) { s with heap := h' }) :
    wpAny (model P w) A (Builtin.«zip.__next__» ⟨[.ref z], []⟩) Q E s := by
  show wpAny _ _ (field (.ref z) 2 >>= _) _ _ _
  refine wpAny_bind (wpAny_field hz rfl (x := .bool false) rfl (show wpAny _ _ (field (.ref z) 3 >>= _) _ _ _ from wpAny_bind (wpAny_field hz rfl (x := .ref TI) rfl (wpAny_bind (wpAny_seqItems hTI rfl ?_)))))
  show wpAny _ _ (Builtin.SmallTypes.ownedTupleIsFree (.ref z) >>= _) _ _ _
  refine wpAny_bind (wpAny_tupleHeld_zip hz hT fun ha hza sa => ?_)
  simp only [Bool.false_eq_true, if_false]
  refine wpAny_bind ?_
  rw [← Array.forIn_toList]
  simp only [List.forIn_cons, List.forIn_nil]
  refine wpAny_bind (wpAny_bind (wpAny_holding (show wpAny _ _ (Builtin.SmallTypes.nextOf (.ref i1) >>= _) _ _ _ from wpAny_bind (n1 _ _ { s with heap := ha } _ hh (o1 _ _ sa s1) fun hb e sb he => ?_))))
  exact hE hb e (fun c o c1 c2 q => sb _ _ c2 (sa.extBut _ _ c1 q)) he
theorem next_by {z : Addr} {Q : Option Value → Shared → Prop} (hTy : s.TypeIs (.ref z) "zip") (h : wpAny (model P w) A.in1 (Builtin.«zip.__next__» ⟨[.ref z], []⟩) (fun fin s' => ∃ v, fin = .done (.ret v) ∧ Q (some v) s') (fun e s' => (∃ a o, e = .ref a ∧ s'.heap.get? a = some o ∧ o.cls = .type "StopIteration") ∧ Q none s') s) :
    wpAny (model P w) A (pyNext (.ref z)) Q E s := by
  unfold pyNext
  refine wpAny_bind (wpAny_attempt (wpAny_callSpecial?_slot (name := Str.ofString "__next__") hTy F.slot_zip_next (wpAny_call_entry F.slot_zip_next hTy F.entry_zip_next (wpAny_mono h (fun fin s' hf => ?_) fun e s' he => ?_) (F.args_zip_next_1 _))))
  · obtain ⟨v, rfl, hq⟩ := hf
    exact ⟨v, rfl, wpAny_pure hq⟩
  · obtain ⟨⟨a, o, rfl, ho, hc⟩, hq⟩ := he
    exact wpAny_bind (wpAny_isInstance (T := "StopIteration") (b := true) ⟨o, ho, hc⟩ isSubtype_stop (wpAny_pure hq))
end
/-- such an iterator of a tuple -/
abbrev TI1 (i l : Addr) (xs : Array Value) (k : Nat) (h : Heap) : Prop := h.IsTupleIter i l k ∧ h.IsTuple l xs
theorem ti_gives {P : Program} {w : World} {i l : Addr} {xs : Array Value} {k : Nat} {v : Value} (hne : l ≠ i) (hv : xs[k]? = some v) : Gives1 P w i v (TI1 i l xs k) (TI1 i l xs (k + 1)) := fun A E s Q hs hq =>
  RZ.nextOf_tuple_item hs.1 hs.2 hv fun h' a b => hq h' ⟨a, hs.2.extBut b.extBut hne⟩ b
theorem ti_ends {P : Program} {w : World} {i l : Addr} {xs : Array Value} {k : Nat} (hv : xs[k]? = none) : Ends1 P w i (TI1 i l xs k) := fun A E s Q hh hs hq => RZ.nextOf_tuple_end hh hs.1 hs.2 hv hq
theorem ti_off {b i l : Addr} {xs : Array Value} {k : Nat} (h1 : i ≠ b) (h2 : l ≠ b) : Off b (TI1 i l xs k) := fun h h' sb hs => ⟨hs.1.extBut sb.extBut h1, hs.2.extBut sb.extBut h2⟩
theorem ti_at {i l : Addr} {xs : Array Value} {k : Nat} {h h' : Heap} (hs : TI1 i l xs k h) (h1 : ∀ o, h.get? i = some o → h'.get? i = some o) (h2 : ∀ o, h.get? l = some o → h'.get? l = some o) : TI1 i l xs k h' := ⟨hs.1.at h1, hs.2.at h2⟩
/-- what stands where the zip of two tuples was made -/
def ZOk (z TI TO i1 i2 l1 l2 : Addr) (xs ys : Array Value) (h : Heap) : Prop := IsZip h z TI TO .none ∧ IsPair h TI (.ref i1) (.ref i2) ∧ (∃ a b, IsPair h TO a b) ∧ TI1 i1 l1 xs 0 h ∧ TI1 i2 l2 ys 0 h
/-- what stands at turn k, while a dict is filled at d -/
def ZSt (z TI TO i1 i2 l1 l2 : Addr) (xs ys : Array Value) (d : Addr) (k : Nat) (h : Heap) : Prop := IsPair h TI (.ref i1) (.ref i2) ∧ TI1 i1 l1 xs k h ∧ TI1 i2 l2 ys k h ∧
  ((IsZip h z TI TO .none ∧ ∃ a b, IsPair h TO a b) ∨ ∃ T f oT, IsZipHeld h z TI TO T f ∧ h.get? T = some oT ∧ T ≠ z ∧ T ≠ i1 ∧ T ≠ i2 ∧ T ≠ d)
theorem pair_arg_zip {P : Program} {w : World} {z TI TO i1 i2 l1 l2 : Addr} (D : ZipApart z TI TO i1 i2 l1 l2) {xs ys : Array Value} (hsz : ys.size = xs.size) :
    PairArg P w "zip" z [z, TI, TO, i1, i2, l1, l2] [z, TO, i1, i2] xs.size (fun i k v => xs[i]? = some k ∧ ys[i]? = some v) (ZOk z TI TO i1 i2 l1 l2 xs ys) := by
  refine { type := fun s ok => ⟨_, ok.1, rfl⟩, notDict := by decide, keep := fun h h' ok hk => ?_, there := fun h ok b hb => ?_, sub := fun b hb => ?_, noKeys := fun A s Q E hA ok h => getAttrOr_miss_zip ok.1 rfl rfl rfl zip_no_keys (by decide +kernel) hA h, iter := fun A s d Q E hA ok hd hdf h => ?_ }
  · obtain ⟨a1, a2, ⟨x, y, a3⟩, a4, a5⟩ := ok
    exact ⟨hk _ _ a1, hk _ _ a2, ⟨x, y, hk _ _ a3⟩, ti_at a4 (fun o => hk _ o) (fun o => hk _ o), ti_at a5 (fun o => hk _ o) fun o => hk _ o⟩
  · obtain ⟨a1, a2, ⟨x, y, a3⟩, ⟨⟨o1, b1, _⟩, ⟨o2, b2, _⟩⟩, ⟨⟨o3, b3, _⟩, ⟨o4, b4, _⟩⟩⟩ := ok
    simp only [List.mem_cons, List.not_mem_nil, or_false] at hb
    rcases hb with e | e | e | e | e | e | e <;> subst e <;> first | exact ⟨_, a1⟩ | exact ⟨_, a2⟩ | exact ⟨_, a3⟩ | exact ⟨_, b1⟩ | exact ⟨_, b2⟩ | exact ⟨_, b3⟩ | exact ⟨_, b4⟩
  · simp only [List.mem_cons, List.not_mem_nil, or_false] at hb ⊢
    rcases hb with e | e | e | e <;> simp [e]
  · obtain ⟨a1, a2, a3, a4, a5⟩ := ok
    simp only [List.mem_cons, List.not_mem_nil, or_false, not_or] at hdf
    obtain ⟨dz, dTI, dTO, di1, di2, dl1, dl2⟩ := hdf
    refine wpAny_pyIter_zip a1 (h z [z, TO, i1, i2] (ZSt z TI TO i1 i2 l1 l2 xs ys d) s.heap s.toks ?_ ⟨a2, a4, a5, .inl ⟨a1, a3⟩⟩ (fun _ _ e => e) fun b hb => .inl hb)
    refine { off := fun hm => ?_, frame := fun i g g' st hk => ?_, item := fun i s1 Q1 E1 hi st hds hQ => ?_, done := fun s1 Q1 E1 st hQ => ?_ }
    · simp only [List.mem_cons, List.not_mem_nil, or_false] at hm
      rcases hm with e | e | e | e
      · exact dz e
      · exact dTO e
      · exact di1 e
      · exact di2 e
    · obtain ⟨b1, b2, b3, b4⟩ := st
      refine ⟨hk _ _ (Ne.symm dTI) b1, ti_at b2 (fun o => hk _ o (Ne.symm di1)) (fun o => hk _ o (Ne.symm dl1)), ti_at b3 (fun o => hk _ o (Ne.symm di2)) (fun o => hk _ o (Ne.symm dl2)), ?_⟩
      rcases b4 with ⟨c1, x, y, c2⟩ | ⟨T, f, oT, c1, c2, c3, c4, c5, c6⟩
      · exact .inl ⟨hk _ _ (Ne.symm dz) c1, x, y, hk _ _ (Ne.symm dTO) c2⟩
      · exact .inr ⟨T, f, oT, hk _ _ (Ne.symm dz) c1, hk _ _ c6 c2, c3, c4, c5, c6⟩
    · obtain ⟨b1, b2, b3, b4⟩ := st
      have ex := Array.getElem?_eq_getElem (xs := xs) hi
      have ey := Array.getElem?_eq_getElem (xs := ys) (i := i) (by omega)
      have lt : ∀ {c : Addr} {o : Obj}, s1.heap.get? c = some o → s1.heap.objs.size ≠ c := fun e => Nat.ne_of_gt (Heap.lt_size e)
      have m1 : s1.heap.objs.size ≠ i1 := b2.1.elim fun _ e => lt e.1
      have m2 : s1.heap.objs.size ≠ i2 := b3.1.elim fun _ e => lt e.1
      rcases b4 with ⟨c1, x, y, c2⟩ | ⟨T, f, oT, c1, c2, c3, c4, c5, c6⟩
      · refine RZ.pyNext_zipT_item D c1 b1 c2 b2.1 b3.1 b2.2 b3.2 ex ey fun g' e1 e2 e3 e4 e5 _ hk => ?_
        refine hQ s1.heap.objs.size _ _ g' s1.toks ⟨ex, ey⟩ (.inl ⟨_, e5, rfl, _, rfl⟩) ⟨hk _ _ D.TIz D.TITO D.TIi1 D.TIi2 b1, ⟨e3, b2.2.at fun o => hk _ o D.l1z D.l1TO D.l1i1 D.l1i2⟩, ⟨e4, b3.2.at fun o => hk _ o D.l2z D.l2TO D.l2i1 D.l2i2⟩, .inr ⟨s1.heap.objs.size, false, _, e1, e5, lt c1, m1, m2, Nat.ne_of_gt hds⟩⟩ fun c o hc e => ?_
        simp only [List.mem_cons, List.not_mem_nil, or_false, not_or] at hc
        exact hk c o hc.1 hc.2.1 hc.2.2.1 hc.2.2.2 e
      · refine next_by ⟨_, c1, rfl⟩ (wpAny_mono (held_item c1 c2 b1 D.i1z D.i2z (ti_gives D.l1i1 ex) (ti_gives D.l2i2 ey) b2 b3 (ti_off D.i1z D.l1z) (ti_off D.i2z D.l2z) (ti_off D.i12.symm D.l2i1) (ti_off D.i12 D.l1i2) fun g' e1 e2 e3 e4 hk => ?_) (fun _ _ q => q) fun _ _ q => q)
        have up : ∀ (c : Addr) (o : Obj), g'.get? c = some o → (g'.push { cls := .type "tuple", data := .seq #[xs[i], ys[i]] }).get? c = some o := fun c o e => Heap.get?_push_of_some _ e
        refine hQ g'.objs.size _ _ _ s1.toks ⟨ex, ey⟩ (.inl ⟨_, Heap.get?_push_size _ rfl, rfl, _, rfl⟩) ⟨up _ _ (hk _ _ D.TIz D.TIi1 D.TIi2 b1), ti_at e2 (up _) (up _), ti_at e3 (up _) (up _), .inr ⟨T, true, oT, up _ _ e1, up _ _ (hk _ _ c3 c4 c5 c2), c3, c4, c5, c6⟩⟩ fun c o hc e => ?_
        simp only [List.mem_cons, List.not_mem_nil, or_false, not_or] at hc
        exact up _ _ (hk c o hc.1 hc.2.2.1 hc.2.2.2 e)
    · obtain ⟨b1, b2, b3, b4⟩ := st
      have ex : xs[xs.size]? = none := Array.getElem?_eq_none (Nat.le_refl _)
      rcases b4 with ⟨c1, x, y, c2⟩ | ⟨T, f, oT, c1, c2, c3, c4, c5, c6⟩
      · refine RZ.pyNext_zipT_end hA D c1 b1 c2 b2.1 b3.1 b2.2 b3.2 (.inl ex) fun g' hk => hQ g' s1.toks fun c o hc e => ?_
        simp only [List.mem_cons, List.not_mem_nil, or_false, not_or] at hc
        exact hk c o hc.1 hc.2.1 hc.2.2.1 hc.2.2.2 e
      · refine next_by ⟨_, c1, rfl⟩ (wpAny_mono (held_end (S1 := TI1 i1 l1 xs xs.size) (Q := fun _ _ => False) hA c1 c2 b1 (ti_ends ex) b2 (ti_off D.i1z D.l1z) fun g' e hk he => ?_) (fun _ _ q => q.elim) fun _ _ q => q)
        obtain ⟨o, ho, hc⟩ := he
        refine ⟨⟨e, o, rfl, ho, hc⟩, hQ g' s1.toks fun c o hc e => ?_⟩
        simp only [List.mem_cons, List.not_mem_nil, or_false, not_or] at hc
        exact hk c o hc.1 hc.2.2.1 e
end Tl
end S_Zp
section S_Ya
namespace Tl
open PySem PySem.Spec PyProof.Rows L2
/-! ### sorted(t) of a tuple of ints -/
section
variable {prog : Program} {w : World} {A : Around} {E : Value → Shared → Prop} {s : Shared}
abbrev heapL (h : Heap) (zs : List Value) : Heap := (h.push (seqObj "list" #[] 0)).update h.objs.size (Obj.mapSeq (· ++ zs.toArray))
theorem collect_tup {l : Addr} {zs : List Value} {Q : List Value → Shared → Prop} (hl : s.heap.IsTuple l zs.toArray) (hz : zs.length ≤ sizeLine)
    (h : Q zs { s with heap := heapL s.heap zs }) : wpAny (model prog w) A (collect (.ref l)) Q E s := by
  obtain ⟨ob, hob, hcl, m, hdt⟩ := id hl
  unfold collect
  refine wpAny_bind (wpAny_runValue (codeAny_builtin entry_proto_collect' ?_))
  show wpAny _ _ (do again (.builtin "list.__iadd__" ⟨[← newList [], .ref l], []⟩)) _ _ s
  refine wpAny_bind (wpAny_newList (wpAny_pure ⟨Code.quiet_builtin _ (by decide +kernel), codeAny_builtin entry_list_iadd' ?_⟩))
  show wpAny _ _ (Builtin.List.listExtendWith (.ref s.heap.objs.size) (.ref l) (.ref s.heap.objs.size)) _ _ { s with heap := s.heap.push (seqObj "list" #[] 0) }
  unfold Builtin.List.listExtendWith
  have hob' : (s.heap.push (seqObj "list" #[] 0)).get? l = some ob := Heap.get?_push_of_some _ hob
  refine wpAny_bind (wpAny_typeOf (T := "tuple") ⟨ob, hob', hcl⟩ ?_)
  have h1 : (Value.type "tuple" == Value.type "list") = false := by rfl
  have h2 : (Value.type "tuple" == Value.type "tuple") = true := by rfl
  rw [if_pos (by rw [h1, h2]; simp)]
  refine wpAny_bind (listItems_at hob' hdt ?_)
  refine wpAny_bind (listItems_at (xs := #[]) (n := 0) (Heap.get?_push_size _ rfl) rfl ?_)
  rw [if_neg (by simp)]
  refine wpAny_bind (listUpdate_at (xs := #[]) (n := 0) (Heap.get?_push_size _ rfl) rfl ?_ (Nat.zero_le _) (by
    show (#[] ++ zs.toArray).size ≤ sizeLine + 1
    simp only [Array.size_append, List.size_toArray, List.length_nil]
    omega))
  refine wpAny_pure ?_
  refine (show wpAny (model prog w) A (load s.heap.objs.size >>= _) Q E { s with heap := heapL s.heap zs } from wpAny_bind (wpAny_load (get?_update_seq (Heap.get?_push_size _ rfl) _) ?_))
  show wpAny _ _ (pure ((#[] : Array Value) ++ zs.toArray).toList) Q E _
  have e : ((#[] : Array Value) ++ zs.toArray).toList = zs := by simp
  rw [e]
  exact wpAny_pure h
theorem sorted_tup {l : Addr} {zs : List Value} {lt : Value → Value → Bool} {Q : Value → Shared → Prop} (O : SrtO.Swo lt) (hl : s.heap.IsTuple l zs.toArray) (hz : zs.length ≤ sizeLine)
    (hS : 2 ≤ zs.length → ∀ (g : Heap) (a : Addr), g.get? a = some (seqObj "list" zs.toArray 0) → (∀ b o, s.heap.get? b = some o → b ≠ a ∧ g.get? b = some o) → SrtO.SortableO prog w A.in1.in1 { s with heap := g } a zs lt)
    (h : ∀ out : List Value, SrtO.Srtd lt out → SrtO.Stb lt out zs → Q (.ref (s.heap.objs.size + 1)) { s with heap := sortedAll s.heap zs out.toArray }) :
    wpAny (model prog w) A (call (.builtin "sorted") [.ref l]) Q E s := by
  refine Calls.call_function_entry kind_sorted plain_sorted entry_sorted (args_sorted1 _) ?_
  unfold Builtin.«sorted»
  refine wpAny_bind (m := checkCount "sorted" 1 1 _) (wpAny_pure (wpAny_bind (collect_tup hl hz (wpAny_bind (wpAny_newList ?_ hz)))))
  have sz : (heapL s.heap zs).objs.size = s.heap.objs.size + 1 := by
    show ((s.heap.push (seqObj "list" #[] 0)).update s.heap.objs.size (Obj.mapSeq (· ++ zs.toArray))).objs.size = _
    rw [Heap.size_update, size_push']
  have at1 : ((heapL s.heap zs).push (seqObj "list" zs.toArray 0)).get? (s.heap.objs.size + 1) = some (seqObj "list" zs.toArray 0) := by
    rw [← sz]
    exact Heap.get?_push_size _ rfl
  have up : ∀ b o, s.heap.get? b = some o → b ≠ s.heap.objs.size + 1 ∧ ((heapL s.heap zs).push (seqObj "list" zs.toArray 0)).get? b = some o := fun b o q => by
    have lt : b < s.heap.objs.size := Heap.lt_size q
    refine ⟨Nat.ne_of_lt (Nat.lt_succ_of_lt lt), Heap.get?_push_of_some _ ?_⟩
    show ((s.heap.push (seqObj "list" #[] 0)).update s.heap.objs.size (Obj.mapSeq (· ++ zs.toArray))).get? b = some o
    rw [Heap.get?_update_ne _ _ _ _ (Nat.ne_of_lt lt)]
    exact Heap.get?_push_of_some _ q
  show wpAny _ _ _ _ _ { s with heap := (heapL s.heap zs).push (seqObj "list" zs.toArray 0) }
  rw [sz]
  refine wpAny_bind (wpAny_holding (wpAny_call_entry slot_list_sort ⟨_, at1, rfl⟩ entry_list_sort (SrtO.list_sort_ord O at1 hz (fun h2 => hS h2 _ _ at1 up) fun out a b => ⟨_, rfl, ?_⟩) (args_list_sort _)))
  exact wpAny_pure ⟨_, rfl, h out a b⟩
end
def rSortedU (K : PySem.W.Frag) : List V → Hp → VK → Prop := fun vs H Q => ∃ (a : Addr) (ns : List Int), vs = [V.ref a] ∧ (SqL K H a (ns.map V.int) ∨ SqT K H a (ns.map V.int)) ∧
  ∀ (ms : List Int) (p : Addr), ms.Perm ns → ms.Pairwise (· ≤ ·) → H p = none → Q (.ref p) (upd H p (.lst (ms.map V.int)))
/-- sorted(xs) of a list or a tuple of ints -/
theorem cr_sortedU {X : Cx} : CallR X (.builtin "sorted") (rSortedU X.K) := by
  intro pins s σ H vs us Q I r h
  obtain ⟨a, ns, rfl, hs | hs, q⟩ := h
  · exact cr_sortedI pins s σ H _ us Q I r ⟨a, ns, rfl, hs, q⟩
  · obtain ⟨its, rv, hl, hz⟩ := I.tuple hs
    rw [Vals.ref1 r]
    have hi := rv.ints
    refine sorted_tup SrtO.swo_int hl (by rw [← rv.length]; exact hz) (fun h2 g b _ _ => SrtO.ints_sortable hi h2) fun out h1 h2 => ?_
    obtain ⟨k1, k2, k3⟩ := SrtO.ints_out hi h1 h2
    obtain ⟨ep, hep⟩ := PyProof.Rows.sortedAll_at s.heap its out.toArray
    have hn : ((out.map SrtO.iv).map V.int).length ≤ sizeLine := by
      rw [List.length_map] at hz ⊢
      rw [k2.length_eq]
      exact hz
    exact ⟨.ref _, upd H (s.heap.objs.size + 1) (.lst ((out.map SrtO.iv).map V.int)), I.laid (t' := s.toks) (fun _ _ => PyProof.Rows.sortedAll_old) (Nat.le_succ _) ⟨hn, out, ep, vals_of_ints k1, hep⟩, rfl, q _ _ k2 k3 (I.hok.fresh (Nat.le_succ _))⟩
/-! ### enumerate(t) of a tuple -/
set_option maxHeartbeats 1000000 in
theorem enum_new1 {v : Value} {o : Obj} {G : Heap → Prop} (B : Begins v o G) :
    Meets (Builtin.«enumerate.__new__» ⟨[.type "enumerate", v], []⟩) (fun _ R z => G z.heap ∧
      R (.ok (.ret (.ref (z.heap.push o).objs.size))) { z with heap := (z.heap.push o).push { cls := .type "enumerate", data := .fields #[.none, .bool false, .ref z.heap.objs.size, rawInt 0, .none, .none] } }) :=
  .of_wp fun pr wo Ar R z h => by
    obtain ⟨hh, ge, dd, tt, oo⟩ := z
    obtain ⟨g1, h⟩ := h
    have sb := sub_enumerate
    have it1 : ∀ {A' : Around} {E : Value → Shared → Prop} {Q : Value → Shared → Prop}, Q (.ref hh.objs.size) ⟨hh.push o, ge, dd, tt, oo⟩ → wpAny (model pr wo) A' (pyIter v) Q E ⟨hh, ge, dd, tt, oo⟩ :=
      fun q => B.iter pr wo _ _ ⟨hh, ge, dd, tt, oo⟩ _ g1 q
    wp_walk using it1
    refine wpAny_stack_any fun st => wpAny_pure ?_
    split
    · rename_i c _ _ _ _ _
      cases (c == Value.type "enumerate") <;> (wp_walk using it1; exact ⟨_, rfl, h⟩)
    · wp_walk using it1
      exact ⟨_, rfl, h⟩
section
variable {prog : Program} {w : World} {A : Around} {E : Value → Shared → Prop} {s : Shared}
theorem enum_of {v : Value} {o : Obj} {G : Heap → Prop} {Q : Value → Shared → Prop} (B : Begins v o G) (g1 : G s.heap)
    (h : ∀ g, IsEnum g (s.heap.objs.size + 1) s.heap.objs.size 0 .none → g.get? s.heap.objs.size = some o → g.objs.size = s.heap.objs.size + 2 →
      (∀ b u, s.heap.get? b = some u → g.get? b = some u) → Q (.ref (s.heap.objs.size + 1)) { s with heap := g }) :
    wpAny (model prog w) A (call (.type "enumerate") [v]) Q E s := by
  refine callType_new F.called_enumerate (by decide) (F.typeCall_enumerate_1 _) (F.newCall_enumerate_1 _) (fun obj => F.args_object_init_2 obj _) F.entry_enumerate_new (enum_new1 B) ⟨g1, ?_⟩
  have z1 : (s.heap.push o).objs.size = s.heap.objs.size + 1 := Heap.size_push ..
  show _ ∧ _
  rw [z1]
  have he : IsEnum ((s.heap.push o).push { cls := .type "enumerate", data := .fields #[.none, .bool false, .ref s.heap.objs.size, rawInt 0, .none, .none] }) (s.heap.objs.size + 1) s.heap.objs.size 0 .none := z1 ▸ Heap.get?_push_size _ rfl
  exact ⟨⟨_, he, rfl⟩, h _ he (Heap.get?_push_of_some _ (Heap.get?_push_size _ B.free)) (by rw [Heap.size_push, z1]) fun b u x => Heap.get?_push_of_some _ (Heap.get?_push_of_some _ x)⟩
end
/-- the tuple at a as it stands at each turn, each item in a new pair -/
def IteT (K : PySem.W.Frag) (a : Addr) : It :=
  ⟨fun i H => ∃ (xs : List V) (x : V), SqT K H a xs ∧ xs[i]? = some x, fun i H v H' => ∃ T x, v = .ref T ∧ H T = none ∧ H' = upd H T (.tup [.int (i : Nat), x]) ∧ ∀ xs, SqT K H a xs → xs[i]? = some x, fun i H => ∃ xs : List V, SqT K H a xs ∧ xs.length ≤ i⟩
theorem tup_ne {h : Heap} {a b l : Addr} {k : Nat} {xs : Array Value} (p : h.IsTuple a xs) (q : h.IsTupleIter b l k) : a ≠ b := fun z => by
  obtain ⟨o, ho, hc, _⟩ := p
  obtain ⟨u, hu, hd, _⟩ := q
  rw [z, hu] at ho
  cases ho
  rw [hd] at hc
  exact absurd (Value.type.inj hc) (by decide)
theorem tup_ne2 {h : Heap} {a e it : Addr} {i : Int} {old : Value} {xs : Array Value} (p : h.IsTuple a xs) (q : IsEnum h e it i old) : a ≠ e := fun z => by
  obtain ⟨o, ho, hc, _⟩ := p
  rw [z, q] at ho
  cases ho
  exact absurd (Value.type.inj hc) (by decide)
abbrev EnT (a e it : Addr) (i : Nat) (h : Heap) : Prop := (∃ old, IsEnum h e it ((i : Nat) : Int) old) ∧ h.IsTupleIter it a i ∧ e ≠ it
theorem turn_enumT {P : Program} {w : World} {K : PySem.W.Frag} {elts : List Expr} {kk : Nat} {tpos : Pos} (a e it : Addr) : Turn P w K (.Tuple elts kk tpos) (IteT K a) [e, it] e (EnT a e it) where
  mem := List.mem_cons_self
  obj := fun i h st b hb => by
    obtain ⟨⟨old, he⟩, ⟨o, ho, hc, hd⟩, _⟩ := st
    rcases List.mem_cons.mp hb with z | z
    · rw [z]; exact ⟨_, he, fun v q => nomatch q⟩
    · rw [List.mem_singleton.mp z]; exact ⟨o, ho, fun v q => by rw [hd] at q; cases q⟩
  keep := fun i h h' st k => ⟨st.1.imp fun old he => k e (by simp) _ he, st.2.1.at fun o q => k it (by simp) o q, st.2.2⟩
  item := by
    intro X hP hw hK hc i pins s σ H E I hf st hg
    subst hP hw hK
    obtain ⟨⟨old, he⟩, hit, hne⟩ := st
    obtain ⟨xs, x, hq, hx⟩ := hg
    obtain ⟨its, rv, p, hz⟩ := I.tuple hq
    obtain ⟨u, hu, ru⟩ := rv.get hx
    have hai : a ≠ it := tup_ne p hit
    have hae : a ≠ e := tup_ne2 p he
    have le : e < s.heap.objs.size := Heap.lt_size he
    have li : it < s.heap.objs.size := by obtain ⟨_, q, _⟩ := hit; exact Heap.lt_size q
    have isz : i < its.toArray.size := by simpa using (List.getElem?_eq_some_iff.mp hu).1
    refine wpAny_pyNext_enum_itemC (Draws.tuple (show X.A.in1.handled = none from I.ok.hd hc) it a hai its.toArray) he ⟨hit, p⟩ isz hne (by simp [hne, Ne.symm hae]) fun y g tk hy ho hst hT hsz hk => ?_
    have ey : y = u := by
      rw [show its.toArray[i]? = its[i]? by simp, hu] at hy
      exact (Option.some.inj hy).symm
    subst ey
    refine ⟨_, rfl, wpAny_letOwnedTupleGo_enum (s := { s with heap := g, toks := tk + 1 }) ho fun g2 he' sb => ?_⟩
    have at2 : g2.get? s.heap.objs.size = some { cls := .type "tuple", data := .seq #[.int i tk, y] } := (sb.2 _ (Nat.ne_of_gt le)).trans hT
    have new : ObjOk X.prog X.w (upd H s.heap.objs.size (.tup [.int (i : Nat), x])) g2 s.heap.objs.size (.tup [.int (i : Nat), x]) :=
      ⟨by show 2 ≤ sizeLine; decide, [.int i tk, y], .cons ⟨_, rfl⟩ (.cons ru .nil), ⟨_, at2, rfl, _, rfl⟩⟩
    have old2 : ∀ b ob, b ∉ [e, it] → s.heap.get? b = some ob → g2.get? b = some ob := fun b ob hb q =>
      (sb.2 b fun z => hb (by simp [z])).trans (hk b ob (fun z => hb (by simp [z])) (fun z => hb (by simp [z])) q)
    have I1 : Inv X pins σ (upd H s.heap.objs.size (.tup [.int (i : Nat), x])) { s with heap := g2, toks := tk + 1 } := I.turnedNew (ch := [e, it]) old2 hf (Nat.le_refl _) new
    refine ⟨.ref s.heap.objs.size, _, I1, rfl, ⟨_, x, rfl, I.hok.fresh (Nat.le_refl _), rfl, fun ys hy => by rw [I.tuple_inj hy hq]; exact hx⟩, ⟨⟨y, ?_⟩, hst.1.at fun o q => (sb.2 it (Ne.symm hne)).trans q, hne⟩, fun b hb => ?_⟩
    · show IsEnum g2 e it ((i + 1 : Nat) : Int) y
      rw [show ((i + 1 : Nat) : Int) = (i : Int) + 1 by omega]
      exact he'
    · have lb : b < s.heap.objs.size := by
        rcases List.mem_cons.mp hb with z | z
        · rw [z]; exact le
        · rw [List.mem_singleton.mp z]; exact li
      rw [upd_ne (Nat.ne_of_lt lb)]
      exact (hf b hb).1
  done := by
    intro X hP hw hK hc i pins s σ H E I hf st hg
    subst hP hw hK
    obtain ⟨⟨old, he⟩, hit, hne⟩ := st
    obtain ⟨xs, hq, hx⟩ := hg
    obtain ⟨its, rv, p, hz⟩ := I.tuple hq
    obtain ⟨f0, f1, f2, f3, f4, f5⟩ := hf it (by simp)
    have hn := rv.length
    have hai : a ≠ it := tup_ne p hit
    have D : Draws X.prog X.w X.A.in1 it [it, a] i (fun _ _ => False) (fun j h => h.IsTupleIter it a j ∧ h.IsTuple a its.toArray ∧ j = i) :=
      { live := fun _ _ st => let ⟨o, ho, _⟩ := st.1; ⟨o, ho⟩
        frame := fun _ _ _ st hk => ⟨st.1.at fun o e => hk it (by simp) o e, st.2.1.at fun o e => hk a (by simp) o e, st.2.2⟩
        item := fun j s Q E hj st _ => absurd st.2.2 (Nat.ne_of_lt hj)
        done := fun s Q E st hE => RZ.nextOf_tuple_end (show X.A.in1.handled = none from I.ok.hd hc) st.1 st.2.1 (by simp; omega) hE }
    exact wpAny_pyNext_enum_endD D he ⟨hit, p, rfl⟩ fun g eb => ⟨rfl, I.turned (t' := s.toks) (fun b o hb q => eb b o hb q) f0 f1 f3 f4 f5⟩
  self := fun A i s Q E st h => let ⟨⟨_, he⟩, _⟩ := st; wpAny_pyIter_enum he h
def iEnumT (K : PySem.W.Frag) (ta : TA) : TI := fun σ H R => ta σ H fun vs H1 => ∃ a xs, vs = [.ref a] ∧ SqT K H1 a xs ∧ R (IteT K a) H1
theorem pi_enumT {X : Cx} {e : Expr} {ta : TA} {p pos tpos : Pos} {elts : List Expr} {kk : Nat} (hg : Gl X "enumerate") (hm : X.mg "enumerate" = none) (ha : PA X [e] ta) (hs : starEach [e] X.env = [(false, eval e X.env)] := by rfl) :
    PI X (.Tuple elts kk tpos) (.Call (.Name "enumerate" p) [e] [] pos) (iEnumT X.K ta) := by
  refine ⟨fun pins s σ H R I h => ?_⟩
  refine Call_ (ld_blt I hg hm boot_enumerate (PyProof.Rows.callWith_type1 (thn (ha.run pos pins s σ H _ I h) fun us s1 hv => ?_) hs rfl))
  obtain ⟨vs, H1, I1, r1, a, xs, rfl, hq, q⟩ := hv
  obtain rfl := Vals.ref1 r1
  obtain ⟨its, rv, p', hz⟩ := I1.tuple hq
  refine enum_of (begins_tuple a its.toArray) p' fun g he hit hsz hk => wpAny_pyIter_enum he ?_
  refine ⟨s1.heap.objs.size + 1, [s1.heap.objs.size + 1, s1.heap.objs.size], _, _, H1, rfl, I1.kept (t' := s1.toks) hk, turn_enumT a (s1.heap.objs.size + 1) s1.heap.objs.size, ⟨⟨.none, he⟩, ⟨_, hit, rfl, rfl⟩, Nat.succ_ne_self _⟩, fun b hb => ?_, q⟩
  have le : s1.heap.objs.size ≤ b := by
    rcases List.mem_cons.mp hb with z | z
    · rw [z]; exact Nat.le_add_right _ _
    · rw [List.mem_singleton.mp z]; exact Nat.le_refl _
  exact I1.fpOk le (I1.hok.fresh le)
end Tl
end S_Ya
section S_Yw
namespace Tl
open PySem PySem.Spec PyProof.Rows L2
open Evl
/-! ### walks that only lay new objects -/
/-- C holds what came between A and B -/
abbrev Since (A B C : Hp) : Prop := ∀ a o, A a = none → B a = some o → C a = some o
/-- what a for walks: n turns, told by Y, as long as what stood at H stays, and what is new -/
def EvI (wi : TI) (σ : L2.St) (H : Hp) (n : Nat) (Y : Nat → Hp → V → Hp → Prop) : Prop := ∀ H1, Ex H H1 → ∀ R : It → Hp → Prop,
  (∀ (J : It) (G : Hp → Prop) H2, Ex H1 H2 → Walk J n G Y → (∀ A, Ex H A → Since H1 H2 A → G A) → R J H2) → wi σ H1 R
/-- a value of which R holds, in each heap that has what stood at H and what is new -/
def EvN (te : TE) (σ : L2.St) (H : Hp) (R : V → Hp → Prop) : Prop := ∀ H1, Ex H H1 → ∀ Q : VK, (∀ v H2, Ex H1 H2 → (∀ H3, Ex H H3 → Since H1 H2 H3 → R v H3) → Q v H2) → te σ H1 Q
/-- a new list: what it holds is told by L -/
def EvNL (te : TE) (σ : L2.St) (H : Hp) (L : List V → Hp → Prop) : Prop := ∀ H1, Ex H H1 → ∀ Q : VK,
  (∀ p xs H2, H1 p = none → Ex H1 H2 → H2 p = some (.lst xs) → (∀ H3, Ex H H3 → (∀ a o, a ≠ p → H1 a = none → H2 a = some o → H3 a = some o) → L xs H3) → Q (.ref p) H2) → te σ H1 Q
/-- the target's stores -/
def Aims (g : TG) (n : Nat) (Y : Nat → Hp → V → Hp → Prop) (s : Nat → L2.St → L2.St) : Prop := ∀ i σ H x H', i < n → Y i H x H' → Ex H H' ∧ ∀ Q : L2.St → Hp → Prop, Q (s i σ) H' → g x σ H' Q
theorem aims_at {xs : List V} {j : Nat} : Aims (gName j) xs.length (YAt xs) (fun i σ => σ.set j (some (xs.getD i .non))) := fun i σ H x H' hi y => by
  obtain ⟨rfl, hx⟩ := y
  obtain rfl : xs.getD i .non = x := by rw [List.getD_eq_getElem?_getD, hx]; rfl
  exact ⟨Ex.refl _, fun Q q => q⟩
theorem aims_fn {f : Nat → V} {n j : Nat} : Aims (gName j) n (YFn f) (fun i σ => σ.set j (some (f i))) := fun i σ H x H' hi y => by
  obtain ⟨rfl, rfl⟩ := y
  exact ⟨Ex.refl _, fun Q q => q⟩
/-- a pair of the turn's number and the item -/
theorem aims_enum {K : PySem.W.Frag} {xs : List V} {j1 j2 : Nat} : Aims (gTup K 2 (gCons (gName j1) (gCons (gName j2) gNil))) xs.length (YPair (fun i => some (.int (i : Nat))) (fun i => xs[i]?))
    (fun i σ => (σ.set j1 (some (.int (i : Nat)))).set j2 (some (xs.getD i .non))) := fun i σ H v H' hi y => by
  obtain ⟨T, x, y, rfl, hT, rfl, h1, h2⟩ := y
  cases h1
  have h3 : xs[i]? = some y := h2
  obtain rfl : xs.getD i .non = y := by rw [List.getD_eq_getElem?_getD, h3]; rfl
  exact ⟨Ex.new hT, fun Q q => ⟨T, _, rfl, st_of upd_same, rfl, _, _, rfl, _, _, rfl, rfl, q⟩⟩
section
variable {K : PySem.W.Frag} {σ : L2.St} {H : Hp}
theorem ei_list {a : Addr} {xs : List V} {tl : TE} (h : Ev tl σ H (.ref a)) (hx : SqL K H a xs) : EvI (iList K tl) σ H xs.length (YAt xs) := fun H1 e R k =>
  h H1 e _ fun H2 e2 => ⟨a, rfl, ⟨xs, ex_l (e.trans e2) hx⟩, k _ _ H2 e2 walk_list fun A ab _ => ex_l ab hx⟩
theorem ei_listN {xs : List V} {tl : TE} (h : EvL tl σ H xs) : EvI (iList K tl) σ H xs.length (YAt xs) := fun H1 e R k =>
  h H1 e _ fun a H2 ha e2 hx => ⟨a, rfl, ⟨xs, sq_of hx⟩, k _ _ H2 e2 walk_list fun A _ ab => sq_of (ab _ _ ha hx)⟩
theorem ei_tup {a : Addr} {xs : List V} {tl : TE} (h : Ev tl σ H (.ref a)) (hx : SqT K H a xs) : EvI (iTup K tl) σ H xs.length (YAt xs) := fun H1 e R k =>
  h H1 e _ fun H2 e2 => ⟨a, rfl, ⟨xs, ex_t (e.trans e2) hx⟩, k _ _ H2 e2 walk_tup fun A ab _ => ex_t ab hx⟩
theorem walk_enumT {a : Addr} {xs : List V} : Walk (IteT K a) xs.length (fun H => SqT K H a xs) (YPair (fun i => some (.int (i : Nat))) (fun i => xs[i]?)) := by
  refine ⟨fun i _ hi q => ⟨xs, xs[i], q, by simp [hi]⟩, fun _ q => ⟨xs, q, Nat.le_refl _⟩, fun i H v H' _ q y => ?_⟩
  obtain ⟨T, x, h1, h2, h3, h4⟩ := y
  exact ⟨T, .int (i : Nat), x, h1, h2, h3, rfl, h4 xs q⟩
theorem ei_enum {a : Addr} {xs : List V} {ta : TA} (h : EvA ta σ H [.ref a]) (hx : SqL K H a xs) : EvI (iEnum K ta) σ H xs.length (YPair (fun i => some (.int (i : Nat))) (fun i => xs[i]?)) := fun H1 e R k =>
  h H1 e _ fun H2 e2 => ⟨a, xs, rfl, ex_l (e.trans e2) hx, k _ _ H2 e2 walk_enum fun A ab _ => ex_l ab hx⟩
theorem ei_enumT {a : Addr} {xs : List V} {ta : TA} (h : EvA ta σ H [.ref a]) (hx : SqT K H a xs) : EvI (iEnumT K ta) σ H xs.length (YPair (fun i => some (.int (i : Nat))) (fun i => xs[i]?)) := fun H1 e R k =>
  h H1 e _ fun H2 e2 => ⟨a, xs, rfl, ex_t (e.trans e2) hx, k _ _ H2 e2 walk_enumT fun A ab _ => ex_t ab hx⟩
theorem ei_rng1 {ta : TA} {j : Int} (h : EvA ta σ H [.int j]) (h0 : 0 ≤ j) (h1 : j ≤ 100000) : EvI (iRng1 ta) σ H j.toNat (YFn fun i => .int (0 + i)) := fun H1 e R k =>
  h H1 e _ fun H2 e2 => ⟨j, rfl, by omega, by omega, k _ _ H2 e2 walk_range fun _ _ _ => trivial⟩
theorem ei_rng2 {ta : TA} {i j : Int} (h : EvA ta σ H [.int i, .int j]) (h0 : -100000 ≤ i ∧ i ≤ 100000) (h1 : -100000 ≤ j ∧ j ≤ 100000) : EvI (iRng2 ta) σ H (j - i).toNat (YFn fun k => .int (i + k)) := fun H1 e R k =>
  h H1 e _ fun H2 e2 => ⟨i, j, rfl, ⟨by omega, by omega, by omega, by omega⟩, k _ _ H2 e2 walk_range fun _ _ _ => trivial⟩
theorem en_v {te : TE} {v : V} (h : Ev te σ H v) : EvN te σ H (fun u _ => u = v) := fun H1 e Q q => h H1 e Q fun H2 e2 => q v H2 e2 fun _ _ _ => rfl
theorem en_l {te : TE} {xs : List V} (h : EvL te σ H xs) : EvN te σ H (fun u H' => ∃ a, u = .ref a ∧ H' a = some (.lst xs)) := fun H1 e Q q => h H1 e Q fun p H2 hp e2 h2 => q _ H2 e2 fun H3 _ s => ⟨p, rfl, s _ _ hp h2⟩
theorem en_u {te : TE} {xs : List V} (h : ∀ H1, Ex H H1 → ∀ Q : VK, (∀ p H2, H1 p = none → Ex H1 H2 → H2 p = some (.tup xs) → Q (.ref p) H2) → te σ H1 Q) : EvN te σ H (fun u H' => ∃ a, u = .ref a ∧ H' a = some (.tup xs)) := fun H1 e Q q => h H1 e Q fun p H2 hp e2 h2 => q _ H2 e2 fun H3 _ s => ⟨p, rfl, s _ _ hp h2⟩
theorem en_nl {te : TE} {L : List V → Hp → Prop} (h : EvNL te σ H L) : EvN te σ H (fun u H' => ∃ a xs, u = .ref a ∧ H' a = some (.lst xs) ∧ L xs H') := fun H1 e Q q => h H1 e Q fun p xs H2 hp e2 h2 hL => q _ H2 e2 fun H3 e3 s => ⟨p, xs, rfl, s _ _ hp h2, hL H3 e3 fun a o _ ha hb => s a o ha hb⟩
/-- what the comprehension's list holds: what R tells, turn by turn -/
def Holds (R : Nat → V → Hp → Prop) (n : Nat) (xs : List V) (H : Hp) : Prop := xs.length = n ∧ ∀ i v, xs[i]? = some v → R i v H
theorem snoc_at {xs : List V} {v u : V} {i : Nat} (h : (xs ++ [v])[i]? = some u) : (i < xs.length ∧ xs[i]? = some u) ∨ (i = xs.length ∧ v = u) := by
  rcases Nat.lt_or_ge i xs.length with hi | hi
  · rw [List.getElem?_append_left hi] at h
    exact .inl ⟨hi, h⟩
  · rw [List.getElem?_append_right hi] at h
    have e : i - xs.length = 0 := by
      have := (List.getElem?_eq_some_iff.mp h).1
      simp at this
      omega
    rw [e] at h
    cases h
    exact .inr ⟨by omega, rfl⟩
theorem en_lc {wi : TI} {g : TG} {te : TE} {vs : List Nat} {n : Nat} {Y : Nat → Hp → V → Hp → Prop} {s : Nat → L2.St → L2.St} (hw : EvI wi σ H n Y) (aim : Aims g n Y s) (hs : ∀ i, wipe (s i (wipe σ vs)) vs = wipe σ vs) (hn : n ≤ 90000)
    (R : Nat → V → Hp → Prop) (he : ∀ i, i < n → EvN te (s i (wipe σ vs)) H (R i)) : EvNL (tLc wi g tYes te vs) σ H (Holds R n) := fun H1 e Q q =>
  hw H1 e _ fun J G H2 e2 w sG D hD => lc_it w (fun i H' => Ex H2 H' ∧ ∃ acc, H' D = some (.lst acc) ∧ acc.length = i ∧ ∀ k v, acc[k]? = some v → ∀ H3, Ex H H3 → (∀ a o, a ≠ D → H1 a = none → H' a = some o → H3 a = some o) → R k v H3)
    ⟨Ex.new hD, [], upd_same, rfl, fun i v h => by simp at h⟩ (fun i H' _ p => sG H' ((e.trans e2).trans p.1) fun a o _ ha => p.1 _ _ ha)
    (fun i x A B hi p y => by
      obtain ⟨p1, acc, p3, p4, p5⟩ := p
      obtain ⟨ab, k⟩ := aim i (wipe σ vs) A x B hi y
      refine k _ ⟨hs i, ?_⟩
      show te (s i (wipe σ vs)) B _
      have hHB : Ex H B := ((e.trans e2).trans p1).trans ab
      refine he i hi B hHB _ fun v C eC hv => ⟨acc, eC _ _ (ab _ _ p3), sz_lt (by omega), ?_, acc ++ [v], upd_same, by rw [List.length_append, p4] <;> rfl, fun k u hk H3 h3 keep => ?_⟩
      · exact ((p1.trans ab).trans eC).mut hD
      · have at4 : ∀ a o, a ≠ D → H1 a = none → C a = some o → H3 a = some o := fun a o hne hn hc => keep a o hne hn (by rw [upd_ne hne]; exact hc)
        rcases snoc_at hk with ⟨hlt, hk⟩ | ⟨rfl, rfl⟩
        · exact p5 k u hk H3 h3 fun a o hne hn ha => at4 a o hne hn (eC _ _ (ab _ _ ha))
        · rw [p4]
          refine hv H3 h3 fun a o hb hc => at4 a o (fun z => ?_) (fresh_back ((e2.trans p1).trans ab) hb) hc
          rw [z, ab _ _ p3] at hb
          cases hb)
    (fun H' p => by
      obtain ⟨p1, acc, p3, p4, p5⟩ := p
      exact q D acc H' (fresh_back e2 hD) (e2.trans p1) p3 fun H3 h3 keep => ⟨p4, fun i v hv => p5 i v hv H3 h3 keep⟩)
/-- two walks, one in another: what the list holds is told by the row of b's -/
def Row2 {β : Type} (Rb : β → V → Hp → Prop) (bs : List β) (xs : List V) (H : Hp) : Prop := xs.length = bs.length ∧ ∀ (k : Nat) (b : β) (v : V), bs[k]? = some b → xs[k]? = some v → Rb b v H
def els {β : Type} (m : Nat → Nat) (f : Nat → Nat → Bool) (b : Nat → Nat → β) (i : Nat) : List β := ((List.range (m i)).filter (f i)).map (b i)
def rows {β : Type} (m : Nat → Nat) (f : Nat → Nat → Bool) (b : Nat → Nat → β) (n : Nat) : List β := (List.range n).flatMap (els m f b)
theorem rows_succ {β : Type} {m : Nat → Nat} {f : Nat → Nat → Bool} {b : Nat → Nat → β} {n : Nat} : rows m f b (n + 1) = rows m f b n ++ els m f b n := by
  unfold rows
  rw [List.range_succ, List.flatMap_append]
  simp
def part {β : Type} (f : Nat → Bool) (b : Nat → β) (j : Nat) : List β := ((List.range j).filter f).map b
theorem part_succ {β : Type} {f : Nat → Bool} {b : Nat → β} {j : Nat} : part f b (j + 1) = part f b j ++ (if f j = true then [b j] else []) := by
  unfold part
  rw [List.range_succ, List.filter_append, List.map_append]
  congr 1
  cases h : f j <;> simp [h]
theorem part_le {β : Type} {f : Nat → Bool} {b : Nat → β} {j k : Nat} (h : j ≤ k) : (part f b j).length ≤ (part f b k).length := by
  induction k with
  | zero => rw [Nat.le_zero.mp h] <;> exact Nat.le_refl _
  | succ k ih =>
    rcases Nat.lt_or_ge k j with h2 | h2
    · rw [show j = k + 1 by omega] <;> exact Nat.le_refl _
    · rw [part_succ, List.length_append]
      exact Nat.le_trans (ih h2) (Nat.le_add_right _ _)
theorem rows_le {β : Type} {m : Nat → Nat} {f : Nat → Nat → Bool} {b : Nat → Nat → β} {j k : Nat} (h : j ≤ k) : (rows m f b j).length ≤ (rows m f b k).length := by
  induction k with
  | zero => rw [Nat.le_zero.mp h] <;> exact Nat.le_refl _
  | succ k ih =>
    rcases Nat.lt_or_ge k j with h2 | h2
    · rw [show j = k + 1 by omega] <;> exact Nat.le_refl _
    · rw [rows_succ, List.length_append]
      exact Nat.le_trans (ih h2) (Nat.le_add_right _ _)
theorem en_lc2 {β : Type} {wi wi1 : TI} {g g1 : TG} {tt1 : TT} {te : TE} {vs vs1 : List Nat} {n : Nat} {m : Nat → Nat} {Y : Nat → Hp → V → Hp → Prop} {Y1 : Nat → Nat → Hp → V → Hp → Prop} {s : Nat → L2.St → L2.St} {s1 : Nat → Nat → L2.St → L2.St}
    (hw : EvI wi σ H n Y) (aim : Aims g n Y s) (hs : ∀ i, wipe (s i (wipe σ vs)) vs = wipe σ vs)
    (hw1 : ∀ i, i < n → EvI wi1 (s i (wipe σ vs)) H (m i) (Y1 i)) (aim1 : ∀ i, Aims g1 (m i) (Y1 i) (s1 i)) (hs1 : ∀ i j, wipe (s1 i j (wipe (s i (wipe σ vs)) vs1)) vs1 = wipe (s i (wipe σ vs)) vs1)
    (f : Nat → Nat → Bool) (b : Nat → Nat → β) (Rb : β → V → Hp → Prop) (ht : ∀ i j, i < n → j < m i → EvT tt1 (s1 i j (wipe (s i (wipe σ vs)) vs1)) H (f i j))
    (he : ∀ i j, i < n → j < m i → f i j = true → EvN te (s1 i j (wipe (s i (wipe σ vs)) vs1)) H (Rb (b i j))) (hz : (rows m f b n).length ≤ 90000) :
    EvNL (tLc2 wi g tYes wi1 g1 tt1 te vs vs1) σ H (Row2 Rb (rows m f b n)) := fun H1 e Q q => by
  refine hw H1 e _ fun J G H2 e2 w sG D hD => ?_
  -- what stands while ds are made
  let St : List β → Hp → Prop := fun ds H' => Ex H2 H' ∧ ∃ acc, H' D = some (.lst acc) ∧ acc.length = ds.length ∧ ∀ (k : Nat) (d : β) (v : V), ds[k]? = some d → acc[k]? = some v → ∀ H3, Ex H H3 → (∀ a o, a ≠ D → H1 a = none → H' a = some o → H3 a = some o) → Rb d v H3
  have grow : ∀ {ds : List β} {A B : Hp}, St ds A → Ex A B → St ds B := fun {ds A B} p ab => by
    obtain ⟨p1, acc, p3, p4, p5⟩ := p
    exact ⟨p1.trans ab, acc, ab _ _ p3, p4, fun k d v h1 h2 H3 h3 keep => p5 k d v h1 h2 H3 h3 fun a o hne hn ha => keep a o hne hn (ab _ _ ha)⟩
  refine ⟨fun i k H' => k = n - i ∧ i ≤ n ∧ St (rows m f b i) H', ⟨n, by simp, Nat.zero_le _, Ex.new hD, [], upd_same, rfl, fun k d v h => by simp [rows] at h⟩, ?_⟩
  rintro i k A ⟨rfl, hin, p⟩
  have gA : G A := sG A ((e.trans e2).trans p.1) fun a o _ ha => p.1 _ _ ha
  by_cases hi : i < n
  · refine .inr ⟨w.goes i A hi gA, St (rows m f b (i + 1)), fun H' p' => ⟨n - (i + 1), by omega, rfl, hi, p'⟩, fun x B yl => ?_⟩
    have y := w.yields i A x B hi gA yl
    obtain ⟨ab, k⟩ := aim i (wipe σ vs) A x B hi y
    refine k _ ⟨hs i, ?_⟩
    have pB := grow p ab
    refine hw1 i hi B (((e.trans e2).trans p.1).trans ab) _ fun J1 G1 C bC w1 sG1 => ?_
    refine ⟨fun j k H' => k = m i - j ∧ j ≤ m i ∧ St (rows m f b i ++ part (f i) (b i) j) H' ∧ Since B C H', ⟨m i, by simp, Nat.zero_le _, ?_, fun _ _ _ h => h⟩, ?_⟩
    · simpa [part] using grow pB bC
    · rintro j k H' ⟨rfl, hj, pj, sj⟩
      have gj : G1 H' := sG1 H' ((e.trans e2).trans pj.1) sj
      by_cases hlt : j < m i
      · refine .inr ⟨w1.goes j H' hlt gj, fun H4 => St (rows m f b i ++ part (f i) (b i) (j + 1)) H4 ∧ Since B C H4, fun H4 p4 => ⟨m i - (j + 1), by omega, rfl, hlt, p4⟩, fun x1 B1 y1 => ?_⟩
        obtain ⟨ab1, k1⟩ := aim1 i j (wipe (s i (wipe σ vs)) vs1) H' x1 B1 hlt (w1.yields j H' x1 B1 hlt gj y1)
        refine k1 _ ⟨hs1 i j, ?_⟩
        have pB1 := grow pj ab1
        refine ht i j hi hlt B1 ((e.trans e2).trans pB1.1) _ fun H6 e6 => ?_
        have p6 := grow pB1 e6
        have s6 : Since B C H6 := fun a o ha hc => e6 _ _ (ab1 _ _ (sj a o ha hc))
        rw [part_succ]
        cases hf : f i j with
        | false =>
          show St _ H6 ∧ Since B C H6
          rw [if_neg (by decide), List.append_nil]
          exact ⟨p6, s6⟩
        | true =>
          refine he i j hi hlt hf H6 ((e.trans e2).trans p6.1) _ fun v C6 eC hv => ?_
          obtain ⟨q1, acc, q3, q4, q5⟩ := p6
          have small : acc.length < 90000 := by
            rw [q4, List.length_append]
            have a1 : (rows m f b (i + 1)).length ≤ 90000 := Nat.le_trans (rows_le hi) hz
            rw [rows_succ, List.length_append] at a1
            have a2 : (part (f i) (b i) (j + 1)).length ≤ (els m f b i).length := part_le (f := f i) (b := b i) (show j + 1 ≤ m i from hlt)
            rw [part_succ, hf, List.length_append] at a2
            simp at a2
            omega
          refine ⟨acc, eC _ _ q3, sz_lt (by omega), ⟨(q1.trans eC).mut hD, acc ++ [v], upd_same, ?_, ?_⟩, ?_⟩
          · rw [if_pos rfl, ← List.append_assoc, List.length_append, List.length_append, q4, List.length_append]
            rfl
          · intro k d u hd hu H3 h3 keep
            have at4 : ∀ a o, a ≠ D → H1 a = none → C6 a = some o → H3 a = some o := fun a o hne hn hc => keep a o hne hn (by rw [upd_ne hne]; exact hc)
            rw [if_pos rfl, ← List.append_assoc] at hd
            rcases snoc_at hu with ⟨hlt2, hu2⟩ | ⟨rfl, rfl⟩
            · rw [q4] at hlt2
              rw [List.getElem?_append_left hlt2] at hd
              exact q5 k d u hd hu2 H3 h3 fun a o hne hn ha => at4 a o hne hn (eC _ _ ha)
            · rw [q4, List.getElem?_append_right (Nat.le_refl _), Nat.sub_self] at hd
              cases hd
              refine hv H3 h3 fun a o hb hc => at4 a o (fun z => ?_) (fresh_back (e2.trans q1) hb) hc
              rw [z, q3] at hb
              cases hb
          · intro a o ha hc
            rw [upd_ne (fun z => ?_)]
            · exact eC _ _ (s6 a o ha hc)
            · obtain ⟨acc0, r3, _⟩ := pB.2
              rw [z, r3] at ha
              cases ha
      · have ej : j = m i := by omega
        subst ej
        refine .inl ⟨w1.stops H' gj, ?_⟩
        show St (rows m f b (i + 1)) H'
        rw [rows_succ]
        exact pj
  · have ei : i = n := by omega
    subst ei
    refine .inl ⟨w.stops A gA, ?_⟩
    obtain ⟨p1, acc, p3, p4, p5⟩ := p
    exact q D acc A (fresh_back e2 hD) (e2.trans p1) p3 fun H3 h3 keep => ⟨p4, fun k d v h1 h2 => p5 k d v h1 h2 H3 h3 keep⟩
/-- the dict of the first keys, each with True -/
def dOf (kf : Nat → Int) : Nat → List (L2.Key × V)
  | 0 => []
  | i + 1 => putK (dOf kf i) (.inl (kf i)) (.bl true)
theorem dOf_len (kf : Nat → Int) : ∀ n, (dOf kf n).length ≤ n
  | 0 => Nat.le_refl _
  | n + 1 => Nat.le_trans (length_putK _ _ _) (Nat.succ_le_succ (dOf_len kf n))
theorem dOf_at (kf : Nat → Int) (x : Int) : ∀ n, (valV (dOf kf n) (.inl x)).isSome = true ↔ ∃ i, i < n ∧ kf i = x
  | 0 => ⟨fun h => (by cases h), fun ⟨i, h, _⟩ => absurd h (Nat.not_lt_zero i)⟩
  | n + 1 => by
    show (valV (putK (dOf kf n) (.inl (kf n)) (.bl true)) (.inl x)).isSome = true ↔ _
    rw [valV_put]
    by_cases e : (Sum.inl x : L2.Key) = .inl (kf n)
    · rw [if_pos e]
      exact ⟨fun _ => ⟨n, Nat.lt_succ_self n, (Sum.inl.inj e).symm⟩, fun _ => rfl⟩
    · rw [if_neg e, dOf_at kf x n]
      constructor
      · rintro ⟨i, h1, h2⟩
        exact ⟨i, Nat.lt_succ_of_lt h1, h2⟩
      · rintro ⟨i, h1, h2⟩
        refine ⟨i, Nat.lt_of_le_of_ne (Nat.le_of_lt_succ h1) fun z => ?_, h2⟩
        rw [z] at h2
        exact e (by rw [h2])
theorem en_dc {wi : TI} {g : TG} {tk tv : TE} {vs : List Nat} {n : Nat} {Y : Nat → Hp → V → Hp → Prop} {s : Nat → L2.St → L2.St} {kf : Nat → Int} (hw : EvI wi σ H n Y) (aim : Aims g n Y s) (hs : ∀ i, wipe (s i (wipe σ vs)) vs = wipe σ vs) (hn : n ≤ 90000)
    (hk : ∀ i, i < n → Ev tk (s i (wipe σ vs)) H (.int (kf i))) (hv : ∀ i, i < n → Ev tv (s i (wipe σ vs)) H (.bl true)) : EvN (tDc wi g tYes tk tv vs) σ H (fun u H' => ∃ d, u = .ref d ∧ H' d = some (.dK (dOf kf n))) := fun H1 e Q q =>
  hw H1 e _ fun J G H2 e2 w sG D hD => by
    refine ⟨fun i m H' => m = n - i ∧ i ≤ n ∧ Ex H2 H' ∧ H' D = some (.dK (dOf kf i)), ⟨n, by simp, Nat.zero_le _, Ex.new hD, upd_same⟩, ?_⟩
    rintro i m A ⟨rfl, hin, p1, p2⟩
    have gA : G A := sG A ((e.trans e2).trans p1) fun a o _ ha => p1 _ _ ha
    by_cases hi : i < n
    · refine .inr ⟨w.goes i A hi gA, fun H' => Ex H2 H' ∧ H' D = some (.dK (dOf kf (i + 1))), fun H' p' => ⟨n - (i + 1), by omega, rfl, hi, p'⟩, fun x B yl => ?_⟩
      obtain ⟨ab, k⟩ := aim i (wipe σ vs) A x B hi (w.yields i A x B hi gA yl)
      refine k _ ⟨hs i, ?_⟩
      refine hk i hi B (((e.trans e2).trans p1).trans ab) _ fun C eC => ?_
      refine hv i hi C ((((e.trans e2).trans p1).trans ab).trans eC) _ fun C2 eC2 => ?_
      have := dOf_len kf i
      exact ⟨dOf kf i, .inl (kf i), rfl, eC2 _ _ (eC _ _ (ab _ _ p2)), sz_lt (by omega), (((p1.trans ab).trans eC).trans eC2).mut hD, upd_same⟩
    · have ei : i = n := by omega
      subst ei
      refine .inl ⟨w.stops A gA, q _ A (e2.trans p1) fun H3 h3 keep => ⟨D, rfl, keep _ _ (fresh_back e2 hD) p2⟩⟩
theorem ev_din {ty td : TE} {d : Addr} {kvs : List (L2.Key × V)} {x : Int} (h1 : Ev ty σ H (.int x)) (h2 : Ev td σ H (.ref d)) (hd : H d = some (.dK kvs)) : Ev (tDIn ty td) σ H (.bl (valV kvs (.inl x)).isSome) := fun H1 e Q q =>
  h1 H1 e _ fun H2 e2 => h2 H2 (e.trans e2) _ fun H3 e3 => ⟨d, _, rfl, DGet.k (k := Sum.inl x) (((e.trans e2).trans e3) _ _ hd), q H3 (e2.trans e3)⟩
end
end Tl
end S_Yw
section S_Wa
namespace Hk
open PySem PySem.Spec PyProof.Rows L2
/-! ### a caught error that is kept behind its try -/
/-- at a stands an error of the class cls, whose own dict is d -/
def ErrAt (cls : Value) (d : Option Addr) (a : Addr) : HO := .ext fun h => ∃ (oe : Obj) (vs : Array Value), h.get? a = some oe ∧ Zc cls d oe ∧ oe.data = .fields vs
section
variable {X : Cx} {pins : List (Addr × Obj)} {σ : L2.St} {H : Hp} {s : Shared}
/-- what stands at a, new since the entry, is told of from now on -/
theorem told_at {a : Addr} {oe : Obj} {vs : Array Value} {cls : Value} {d : Option Addr} (I : Inv X pins σ H s) (at_ : s.heap.get? a = some oe) (z : Zc cls d oe) (hd : oe.data = .fields vs) (na : H a = none) (n0 : X.s_0.heap.get? a = none) (nL : a ≠ X.env.locals)
    (np : ∀ p ∈ X.pn ++ pins, p.1 ≠ a) : Inv X pins σ (upd H a (ErrAt cls d a)) s where
  ok := I.ok
  os := I.os
  bare := I.bare
  base :=
    { keep := I.base.keep, slot := I.base.slot, there := I.base.there
      free := fun b o e n x => by
        have hb : b ≠ a := fun q => by rw [q, n0] at e; cases e
        rw [upd_ne hb]; exact I.base.free b o e n x
      tups := fun b xs e => by
        have q := I.base.tups b xs e
        rw [upd_ne (ne_of_none q na)]; exact q
      frzs := fun b o xs e => by
        have q := I.base.frzs b o xs e
        rw [upd_ne (ne_of_none q na)]; exact q
      tbls := fun b ps e => by
        obtain ⟨m, q⟩ := I.base.tbls b ps e
        exact ⟨m, by rw [upd_ne (ne_of_none q na)]; exact q⟩ }
  loc := I.loc
  cell := I.cell
  free := by rw [upd_ne (Ne.symm nL)]; exact I.free
  freeC := fun x c e => by
    have hb : c ≠ a := fun q => by
      obtain ⟨v, o, ho, hc⟩ := I.cell x c e
      rw [q, at_] at ho
      cases ho
      rw [hd] at hc
      cases hc
    rw [upd_ne hb]; exact I.freeC x c e
  pin := fun p hp => by
    obtain ⟨h1, h2, h3⟩ := I.pin p hp
    exact ⟨h1, by rw [upd_ne (np p hp)]; exact h2, h3⟩
  hok := fun b u e => by
    by_cases hb : b = a
    · subst hb
      rw [upd_same] at e
      cases e
      exact ⟨⟨oe, vs, at_, z, hd⟩, ⟨oe, at_⟩, fun _ _ ⟨o, v, q, r⟩ k => ⟨o, v, k o q, r⟩⟩
    · rw [upd_ne hb] at e
      exact (I.hok b u e).stay (fun _ _ _ q => q) (fun c q => by rw [upd_ne (ne_of_none q na)]; exact q) fun c xs q => by rw [upd_ne (ne_of_none q na)]; exact q
  len := I.len
/-- the wish of the body of such a try: the clause takes every error of the body; the slot i is the clause's name's -/
def wKeep (K : PySem.W.Frag) (c : Value) (i : Nat) (ts : Addr → Value → Option Addr → TS) (D : Ends) : WX := fun cls d σ H =>
  PySem.W.exmOne K cls c = some true ∧ ∀ a, H a = none → ts a cls d { nx := fun σ' H' => H' a = none → D.nx (σ'.set i none) (upd H' a (ErrAt cls d a)), rt := fun _ _ => False, bk := fun _ _ => False, ct := fun _ _ => False } (σ.set i (some (.ref a))) H
theorem ps_keep {x n : Str} {c : Value} {i : Nat} {body suite : List Stmt} {b₀ : Stmt} {np pos pos' : Pos} {tb : WX → TS} {ts : Addr → Value → Option Addr → TS}
    (hst : X.stack = X.env :: X.outer) (hf : X.env.frame = some X.env.locals) (hex : X.ex = []) (nd : X.N.Nodup) (hi : X.N[i]? = some n) (kn : X.env.kindOf n = some .local) (hc : Names X x c)
    (hb : ∀ (W : WX) (pn : List (Addr × Obj)) (xe : Value → Shared → Prop), Takes (X.tr pn xe) W → PassesOwn (model X.prog X.w) X.A X.env xe → PSs (X.tr pn xe) body (tb W))
    (hsu : ∀ (a : Addr) (oe : Obj) (cls : Value) (d : Option Addr) (pn : List (Addr × Obj)), Zc cls d oe → (∃ vs, oe.data = .fields vs) → PSs (X.suite a ((a, oe) :: pn)) (b₀ :: suite) (ts a cls d)) :
    PS X (.Try body [.ExceptHandler (some (.Name x np)) (some n) (b₀ :: suite) pos'] [] [] pos) (fun D σ H => tb (wKeep X.K c i ts D) D σ H) := by
  constructor
  intro pins s σ H D I h
  have frs_ : X.A.frames = some (X.env :: X.outer) := by rw [I.ok.frames, hst]
  have ok := I.ok
  refine wpAny_Try_except (wpAny_mono ((hb (wKeep X.K c i ts D) (X.pn ++ pins) (fun e s₁ => wpAny (model X.prog X.w) X.A (noteFrame e X.env) (fun _ s₂ => wpAny (model X.prog X.w) X.A (setFlight e none) (fun _ s₃ =>
    wpAny (model X.prog X.w) X.A (handleBy e X.env [.ExceptHandler (some (.Name x np)) (some n) (b₀ :: suite) pos']) (SP X pins D) X.xe s₃) X.xe s₂) X.xe s₁) (fun u s' air => ?_) PassesOwn.looking).run [] s σ H D (I.toTry _) h) (fun f s1 hsp => ?_) fun _ _ z => z)
  · obtain ⟨a, B, sI, pins', σ', H', cls, d, rfl, J0, nb, up, sky, na, os, ag, hexm, hts⟩ := air
    have J : Inv X pins σ' H' sI := J0.ofTry ok
    have Ba : B.get? a = none := by
      rcases sky with q | q | q
      · exact q.2.1
      · exact q.2.1
      · exact q.2.1
    rw [hst] at sky
    show wpAny (model X.prog X.w) X.A (noteFrame (.ref a) X.env) _ _ _
    refine Sky.land Zc.steady frs_ hf sky fun h3 fl3 up3 => ?_
    have J3 : Inv X pins σ' H' { s' with heap := h3 } := J.landed nb fl3.1 (up.trans up3) os ag
    obtain ⟨o3, v3, at3, z3, d3⟩ := fl3.there
    have off : ∀ {hh : Heap} {o : Obj} {vs : Array Value}, hh.FunFrames B (X.env :: X.outer) → hh.get? a = some o → o.data = .fields vs → a ∉ frs (X.env :: X.outer) := by
      intro hh o vs ff e dd hm
      obtain ⟨_, o', e', q⟩ := ff.mem hm
      rw [e] at e'
      cases e'
      exact q _ dd
    have offa := off fl3.2.2.1 at3 d3
    have nL : a ≠ X.env.locals := fun q => offa (List.mem_filterMap.mpr ⟨X.env, List.mem_cons_self, by rw [hf, q]⟩)
    have nF : a ∉ X.fs := fun hm => by
      obtain ⟨e, he, q⟩ := List.mem_filterMap.mp hm
      exact offa (List.mem_filterMap.mpr ⟨e, List.mem_cons_of_mem _ he, q⟩)
    -- a is new: nothing of the state without it stands there
    have nI : sI.heap.get? a = none := by
      cases q : sI.heap.get? a with
      | none => rfl
      | some o =>
        have z := nb a o q (by rw [hst]; exact offa)
        rw [Ba] at z
        cases z
    have n0 : a ∉ X.ex → X.s_0.heap.get? a = none := fun nx => by
      cases q : X.s_0.heap.get? a with
      | none => rfl
      | some o =>
        obtain ⟨o', z⟩ := J.base.there a o q nx
        rw [nI] at z
        cases z
    have npin : ∀ p ∈ X.pn ++ pins, p.1 ≠ a := fun p hp q => by
      have z := (J.pin p hp).1
      rw [q, nI] at z
      cases z
    have S3 := J3.suite at3 d3 na nL nF
    refine wpAny_handleBy_cons (codeAny_handlers_test ?_) (fun q => nomatch q)
    have LT : PySem.W.Looks (model X.prog X.w) h3 (typeOf (.ref a)) cls := fun A Q E s k q => wpAny_typeOf_ref (k _ _ at3) (by rw [z3.1]; exact q)
    have LM := PySem.W.exm_one (M := model X.prog X.w) (J3.kIn) LT hexm
    have look : ∀ {Q : Value → Shared → Prop} {E : Value → Shared → Prop}, Q c { s' with heap := h3 } → wpAny (model X.prog X.w) (X.A.mark (some (.ref a))) (eval (.Name x np) X.env) Q E { s' with heap := h3 } := by
      intro Q E q
      rcases hc with ⟨hg, hdb, hm | ⟨hm, hv, hnn⟩⟩
      · exact ld_glob (X := X.suite a ((a, o3) :: (X.pn ++ pins))) S3 hg hm q hdb
      · exact ld_blt (X := X.suite a ((a, o3) :: (X.pn ++ pins))) S3 hg hm hv q hnn hdb
    refine look (LM.here (codeAny_handlers_suite_as (HandSPX.lands_againZ fl3 fun h4 fl4 up4 => ?_)))
    have J4 : Inv X pins σ' H' { s' with heap := h4 } := J.landed nb fl4.1 ((up.trans up3).trans up4) os ag
    obtain ⟨o4, v4, at4, z4, d4⟩ := fl4.there
    refine store_ok (X := X.suite a ((a, o4) :: (X.pn ++ pins))) (v := .ref a) (J4.suite at4 d4 na nL nF) nd hi (.inl kn) rfl (fun s5 S5 => ?_) (.inr kn)
    refine wpAny_mono ((hsu a o4 cls d (X.pn ++ pins) z4 ⟨_, d4⟩).run [] s5 _ H' _ S5 (hts a na)) (fun f s6 hsp => ?_) (fun _ _ z => False.elim z)
    cases f with
    | next =>
      obtain ⟨σ6, H6, S6, q6⟩ := hsp
      obtain ⟨at6, na6, _⟩ := S6.pin (a, o4) (List.mem_append_left _ List.mem_cons_self)
      have T6 := told_at (S6.unsuite ok) at6 z4 d4 na6 (n0 (by rw [hex]; exact fun z => nomatch z)) nL npin
      exact gone_ok T6 nd hi kn fun s7 J7 => ⟨_, _, J7, q6 na6⟩
    | brk => exact hsp.elim fun _ q => q.elim fun _ q => q.2.elim
    | cont => exact hsp.elim fun _ q => q.elim fun _ q => q.2.elim
    | ret u =>
      obtain ⟨_, _, _, _, _, q⟩ := hsp
      exact q.elim
  · cases f with
    | next =>
      obtain ⟨σ', H', J', q⟩ := hsp
      exact wpAny_execs_nil ⟨σ', H', J'.ofTry ok, q⟩
    | ret u =>
      obtain ⟨v, σ', H', J', r, q⟩ := hsp
      exact ⟨v, σ', H', J'.ofTry ok, r, q⟩
    | brk =>
      obtain ⟨σ', H', J', q⟩ := hsp
      exact ⟨σ', H', J'.ofTry ok, q⟩
    | cont =>
      obtain ⟨σ', H', J', q⟩ := hsp
      exact ⟨σ', H', J'.ofTry ok, q⟩
end
end Hk
end S_Wa
section S_Wb
namespace Hk
open PySem PySem.Spec PyProof.Rows L2
/-- what the written part must say of an own error's class at D, whose errors are asked about -/
structure ErrC (K : PySem.W.Frag) (D : Addr) : Prop where
  ga : PySem.W.findIn K (.ref D) "__getattribute__" = some (some (.builtin "BaseException.__getattribute__"))
  gg : PySem.W.findIn K (.ref D) "__getattr__" = some none
  ex : PySem.W.subIn K (.ref D) (.type "BaseException") = some true
  hd : PySem.W.hasDictIn K D = true
  ci : PySem.W.isClsIn K D = true
  ha : PySem.W.findIn K (.ref D) "__class__" = some (some (.builtin "object.__class__"))
  hn : PySem.W.specialIn K (.builtin "object.__class__") "__get__" = some (some (.builtin "getset_descriptor.__get__"))
  ht : PySem.W.takesIn K (.builtin "object.__class__") = some true
  hm : PySem.W.mroIn K D (.type "object") = some true
/-- the error's own dict, if it has one, is told of -/
def DictAt (H : Hp) (d : Option Addr) (fs : List (Str × V)) : Prop := ∃ dd, d = some dd ∧ H dd = some (.xd fs)
/-- isinstance(e, c) of a kept error -/
def rIsK (K : PySem.W.Frag) : List V → Hp → VK → Prop := fun xs H Q => ∃ (a D : Addr) (d : Option Addr) (fs : List (Str × V)) (c : V) (u : Value) (b : Bool), xs = [.ref a, c] ∧ H a = some (ErrAt (.ref D) d a) ∧ DictAt H d fs ∧ ErrC K D ∧ ClsV c u ∧ PySem.W.kitOne K (.ref D) u = some b ∧ Q (.bl b) H
section
variable {X : Cx} {pins : List (Addr × Obj)} {σ : L2.St} {H : Hp} {s : Shared}
theorem at_inst {a D : Addr} {d : Option Addr} {fs : List (Str × V)} (I : Inv X pins σ H s) (ha : H a = some (ErrAt (.ref D) d a)) (hd : DictAt H d fs) :
    ∃ (oe od : Obj) (mA : Str → Option Value), PySem.W.InstAt s.heap a oe D (some od) ∧ (∀ name, PySem.W.lookIn name od = some (mA name)) ∧ ∀ f, RelO (fs.lookup f) (mA f) := by
  obtain ⟨⟨oe, vs, he, hz, hv⟩, _, _⟩ := (show ObjOk X.prog X.w H s.heap a (ErrAt (.ref D) d a) from I.hok a _ ha)
  obtain ⟨dd, rfl, hdd⟩ := hd
  obtain ⟨mA, hns, hr⟩ := (show ObjOk X.prog X.w H s.heap dd (.xd fs) from I.hok dd _ hdd)
  obtain ⟨od, ho, hl⟩ := lookIn_ns hns
  exact ⟨oe, od, mA, ⟨he, hz.1, by unfold PySem.W.notCls; rw [hv] <;> rfl, by rw [hz.2]; exact ho⟩, hl, hr⟩
theorem call_isKept : CallR X (.builtin "isinstance") (rIsK X.K) := by
  intro pins s σ H xs us Q I r h
  obtain ⟨a, D, d, fs, c, u, b, rfl, ha, hd, C, hc, e, q⟩ := h
  cases r with
  | cons rx rr =>
    cases rr with
    | cons rt rr =>
      cases rr
      cases rx
      have ec := hc.eq rt
      subst ec
      obtain ⟨oe, od, mA, J, _, _⟩ := at_inst I ha hd
      exact PySem.W.kia_one (PySem.W.kitx_exc C.ci C.ga C.gg C.ex C.ha C.hn C.ht C.hm) I.kIn J e (fun z => nomatch z) fun tk => ⟨.bl b, H, I.kept (t' := tk) fun _ _ z => z, rfl, q⟩
/-- of either -/
theorem call_isAny : CallR X (.builtin "isinstance") (fun xs H Q => rIsi X.K xs H Q ∨ rIsK X.K xs H Q) := by
  intro pins s σ H xs us Q I r h
  rcases h with h | h
  · exact call_isi _ _ _ _ _ _ _ I r h
  · exact call_isKept _ _ _ _ _ _ _ I r h
/-- e.f, e a kept error -/
def tKeptF (K : PySem.W.Frag) (f : Str) (te : TE) : TE := fun σ H Q => te σ H fun x H1 => ∃ (a D : Addr) (d : Option Addr) (fs : List (Str × V)) (v : V), x = .ref a ∧ H1 a = some (ErrAt (.ref D) d a) ∧ DictAt H1 d fs ∧ ErrC K D ∧ PySem.W.findIn K (.ref D) f = some none ∧ fs.lookup f = some v ∧ Q v H1
theorem pe_keptF {e : Expr} {te : TE} {pos : Pos} {f : Str} (he : PE X e te) (hb : attributeBase e f X.env (eval e X.env) = eval e X.env := by rfl) : PE X (.Attribute e f pos) (tKeptF X.K f te) := by
  refine ⟨fun pins s σ H Q I h => attr_of hb (thn (he.run pins s σ H _ I h) fun u s1 hh => ?_)⟩
  obtain ⟨x, H1, I1, rx, a, D, d, fs, v, rfl, ha, hd, C, hno, hl, q⟩ := hh
  obtain rfl : u = Value.ref a := rx
  obtain ⟨oe, od, mA, J, look, rel⟩ := at_inst I1 ha hd
  obtain ⟨w, hw, rw_⟩ := RelO.some_of (v := v) (o := mA f) (by rw [← hl]; exact rel f)
  exact HandSPX.exc_get I1.kIn J C.ga C.gg C.ex (PySem.W.findObj_own C.hd hno rfl (by rw [look, hw])) (handed_of rw_) ⟨v, H1, I1.tok _, rw_, q⟩
end
end Hk
end S_Wb
section S_Wc
set_option maxHeartbeats 2000000
namespace PySem
namespace PartX
open PySem.W PySem.Calls PyProof.Rows PySem.HandSPX
/-! ### the text of __init__ -/
def iA (p1 p2 : Pos) : Arguments := { posonlyargs := [], args := [{ arg := "self", annotation := none, pos := p1 }, { arg := "part", annotation := none, pos := p2 }], vararg := none, kwonlyargs := [], kw_defaults := [], kwarg := none, defaults := [] }
def iB (q1 q2 q3 q4 : Pos) : List Stmt := [.Assign [.Attribute (.Name "self" q1) "part" q2] (.Name "part" q3) q4]
def iS : Scope := { kind := .function, names := [(PySem.Str.ofString "self", .local), (PySem.Str.ofString "part", .local)], isGenerator := false, isCoroutine := false, more := [] }
/-- what the written part says of Low, at C, and of its __init__, at fI -/
structure PartTxt (K : Frag) (mg : Str → Option Value) (nmE qI : Str) (C fI : Addr) : Prop where
  gC : mg nmE = some (.ref C)
  cls : ∃ nm q N bs bm sn sub ab col dd k0 k1 k2 k3 k5, K.lookup C = some (excClassObj nm q C N bs bm true sn sub ab col dd k0 k1 k2 k3 k5 "ValueError.__new__") ∧ refsVE bm = true
  sa : findIn K (.ref C) "__setattr__" = some (some (.builtin "object.__setattr__"))
  ga : findIn K (.ref C) "__getattribute__" = some (some (.builtin "BaseException.__getattribute__"))
  gg : findIn K (.ref C) "__getattr__" = some none
  noN : findIn K (.ref C) "part" = some none
  iC : findIn K (.ref C) "__init__" = some (some (.ref fI))
  tC : typeIn K (.ref fI) = some (.type "function")
  kC : keepIn K (.ref C) = true
  exC : subIn K (.ref C) (.type "BaseException") = some true
  tyC : typeIn K (.ref C) = some (.type "type")
  hdC : hasDictIn K C = true
  fn : ∃ (oc : Value) (od : Option Addr) (doc pm : Value) (an : Option Addr) (cdv ct : Value) (osl : Array (Option Value)) (p1 p2 q1 q2 q3 q4 : Pos),
    K.lookup fI = some ⟨oc, od, .func (fnOf "__init__" qI (iA p1 p2) (iB q1 q2 q3 q4) iS .none .none doc pm an cdv ct), osl⟩ ∧ codeIn K cdv qI = true
theorem one_size (v : Value) : [v].length ≤ sizeLine := by
  rw [sizeLine_eq]
  exact (by decide : 1 ≤ 16777216)
theorem kept_but {K : Frag} {h h' : Heap} {x : Addr} (X : K.In h) (hx : K.lookup x = none) (k : ∀ b o, b ≠ x → h.get? b = some o → h'.get? b = some o) : K.In h' := fun a o e =>
  k a o (fun z => by rw [z, hx] at e; cases e) (X a o e)
theorem ldC {M : Model} {s : Shared} {name : Str} {scope : Scope} {L a : Addr} {cd : Value} {m : Str → Option Value} {x : Str} {pos : Pos} {v : Value} {Q : Value → Shared → Prop} {A : Around} {E : Value → Shared → Prop} (hn : s.heap.Ns L m) (hv : m x = some v) (h : Q v s)
    (hk : scope.kind = .function := by rfl) (hl : (envOfC name scope L a cd).kindOf x = some .local := by rfl) (hd : (x == ("__debug__" : Str)) = false := by decide) :
    wpAny M A (eval (.Name x pos) (envOfC name scope L a cd)) Q E s := wpAny_Name (wpAny_loadName_local hk hl hn hv h) hd
/-- what __init__ leaves of a fresh exception at x -/
structure InitEnd (h h' : Heap) (x C dx t1 : Addr) (v : Value) : Prop where
  keep : ∀ b o, b ≠ x → h.get? b = some o → h'.get? b = some o
  obj : h'.get? x = some { cls := .ref C, dict := some dx, data := .fields #[.ref t1, .none, .none, .none, .bool false, .none] }
  dbig : h.objs.size ≤ dx
  dne : dx ≠ x
  ns : h'.Ns1 dx (fun y => if y = "part" then some v else none)
/-- a made Low -/
structure OwnMade (h h' : Heap) (e C d : Addr) (v : Value) : Prop where
  keep : ∀ b o, h.get? b = some o → h'.get? b = some o
  new : h.objs.size ≤ e
  obj : ∃ oe vs, h'.get? e = some oe ∧ oe.cls = .ref C ∧ oe.dict = some d ∧ oe.data = .fields vs ∧ vs[1]? = some .none
  dbig : h.objs.size ≤ d
  dne : d ≠ e
  ns : h'.Ns1 d (fun y => if y = "part" then some v else none)
section
variable {prog : Program} {w : World} {A : Around} {E : Value → Shared → Prop} {R : Result → Shared → Prop} {s : Shared} {K : Frag} {mg : Str → Option Value} {nmE qI : Str} {C fI : Addr}
theorem part_init (T : PartTxt K mg nmE qI C fI) {x t0 : Addr} {v : Value} (X : K.In s.heap) (hlim : s.heap.NoLimit) (hx : s.heap.get? x = some (excO C t0)) (hnx : K.lookup x = none) (hroom : A.depth < recursionLimit)
    (hq : ∀ h' tk dx, InitEnd s.heap h' x C dx t0 v → R (.ok (.ret .none)) { s with heap := h', toks := tk }) :
    codeAny (model prog w) A (.call (.ref fI) ⟨[.ref x, v], []⟩) R s := by
  obtain ⟨oc, od, doc, pm, an, cdv, ct, osl, p1, p2, q1, q2, q3, q4, ho, hcd⟩ := T.fn
  obtain ⟨nm, q, N, bs, bm, sn, sub, ab, col, dd, k0, k1, k2, k3, k5, hC, hbm⟩ := T.cls
  have hcl : clsIn K C = some { name := nm, bases := bs, mro := .ref C :: bm, ns := N, qualname := q, hasDict := true, slotNames := sn, subclasses := sub, abstract := ab, collection := col, hasDel := false } := by unfold clsIn; rw [hC] <;> rfl
  refine Att.call_fn (binds := [("self", .ref x), ("part", v)]) X hlim ho hcd hroom (BindsTo.of_eq (by first | rfl | with_unfolding_all rfl)) (by first | rfl | decide | with_unfolding_all rfl) (fun s₁ IC => ?_) rfl rfl rfl
  obtain ⟨h₁, tk₁, rfl⟩ := IC.toInCall.same
  have k : ∀ b o, s.heap.get? b = some o → h₁.get? b = some o := IC.toInCall.keep
  have hn := IC.toInCall.ns
  have hxL : s.heap.objs.size ≠ x := Nat.ne_of_gt (Heap.lt_size hx)
  have X₁ : K.In h₁ := X.keeps k
  have hx₁ := k _ _ hx
  -- self.by = by
  show wpAny _ _ (execs _ _) _ _ _
  refine wpAny_execs_cons (plainObj_wpAny_Assign_Attribute ?_)
  refine ldC (v := v) hn (by first | rfl | with_unfolding_all rfl | kernel_rfl) (ldC (v := .ref x) hn (by first | rfl | with_unfolding_all rfl | kernel_rfl) ?_)
  refine set_plain X₁ (ox := excO C t0) (od := none) ⟨hx₁, rfl, rfl, trivial⟩ T.sa ?_
  refine exc_osa X₁ hx₁ hcl (show refsVE (.ref C :: bm) = true from hbm) rfl T.noN (fun h₃ tk₃ dx k₃ dn dne hx₃ hn₃ => ?_)
  show wpAny _ _ (execs _ _) _ _ _
  have z : s.heap.objs.size < h₁.objs.size := hn.lt
  exact wpAny_execs_nil (hq h₃ tk₃ dx ⟨fun b o hb e => k₃ b o hb (k b o e), hx₃, Nat.le_of_lt (Nat.lt_of_lt_of_le z dn), dne, hn₃⟩)
theorem part_made (T : PartTxt K mg nmE qI C fI) {v : Value} (X : K.In s.heap) (hlim : s.heap.NoLimit) (hroom : A.depth + 1 < recursionLimit)
    (hq : ∀ h' tk e d, OwnMade s.heap h' e C d v → R (.ok (.ret (.ref e))) { s with heap := h', toks := tk }) :
    codeAny (model prog w) A (.call (.ref C) ⟨[v], []⟩) R s := by
  obtain ⟨nm, q, N, bs, bm, sn, sub, ab, col, dd, k0, k1, k2, k3, k5, hC, hbm⟩ := T.cls
  obtain ⟨hp, g, dr, tk, os⟩ := s
  have k : ∀ b o, hp.get? b = some o → ((hp.push (kdv_tup [v])).push (excO C hp.objs.size)).get? b = some o := fun b o e => Heap.get?_push_of_some _ (Heap.get?_push_of_some _ e)
  have hget : ((hp.push (kdv_tup [v])).push (excO C hp.objs.size)).get? (hp.objs.size + 1) = some (excO C hp.objs.size) := by heap_get
  have hnx : K.lookup (hp.objs.size + 1) = none := by
    cases e : K.lookup (hp.objs.size + 1) with
    | none => rfl
    | some o =>
      have z : hp.get? (hp.objs.size + 1) = some o := X _ _ e
      exact absurd (Nat.lt_of_succ_lt (Heap.lt_size z)) (Nat.lt_irrefl _)
  refine call_own F.excBase_ValueError (fun X => refsVE_contains X bm hbm) (X _ _ hC) (looks_findIn X T.iC) (fun self => bind_fn X self T.tC) (one_size v) ?_
  refine part_init (s := ⟨(hp.push (kdv_tup [v])).push (excO C hp.objs.size), g, dr, tk, os⟩) T (X.keeps k) (hlim.keeps k) hget hnx ?_ fun h' tk' dx ⟨k', hx, dn, dne, hns⟩ => ?_
  · show A.depth + 1 < recursionLimit
    exact hroom
  · have old : ∀ b o, hp.get? b = some o → h'.get? b = some o := fun b o e => k' b o (Nat.ne_of_lt (Nat.lt_succ_of_lt (Heap.lt_size e))) (k b o e)
    have z : hp.objs.size + 1 + 1 ≤ dx := by
      first
        | (simpa only [Heap.size_push] using dn)
        | exact dn
        | (have q := dn; rw [Heap.size_push, Heap.size_push] at q; exact q)
    exact ⟨rfl, hq h' tk' (hp.objs.size + 1) dx ⟨old, Nat.le_succ _, ⟨_, _, hx, rfl, rfl, rfl, rfl⟩, Nat.le_trans (Nat.le_trans (Nat.le_succ _) (Nat.le_succ _)) z, dne, hns⟩⟩
end
end PartX
end PySem
namespace L2
open PySem PySem.Spec PyProof.Rows
theorem relO_part {v : V} {v' : Value} (r : RelV v v') (f : Str) : RelO (List.lookup f [(("part" : Str), v)]) (if f = "part" then some v' else none) := by
  by_cases hw : f = "part"
  · subst hw
    rw [if_pos rfl]
    have q : List.lookup ("part" : Str) [(("part" : Str), v)] = some v := by simp [List.lookup]
    rw [q]
    exact r
  · rw [if_neg hw]
    have qw : (f == ("part" : Str)) = false := by simpa using hw
    have q2 : List.lookup f [(("part" : Str), v)] = none := by simp [List.lookup, qw]
    rw [q2]
    trivial
section
variable {X : Cx} {nmE qI : Str} {C fI : Addr}
/-- Low(e) -/
def tMkPart (C : Addr) (ta : TA) : St → Hp → XK → Prop := fun σ H Q => ta σ H fun vs H1 => ∃ v, vs = [v] ∧ ∀ d, H1 d = none → Q (.ref C) (some d) (upd H1 d (.xd [(("part" : Str), v)]))
theorem pmk_part {a : Expr} {ta : TA} {p pos : Pos} {k : Nat} (T : PySem.PartX.PartTxt X.K X.mg nmE qI C fI) (hr : Room k X.A) (ha : PA X [a] ta) (hg : Gl X nmE) (hdb : (nmE == ("__debug__" : Str)) = false := by decide)
    (he : starEach (a :: []) X.env = (false, eval a X.env) :: starEach [] X.env := by rfl) (hpl : (backTo pos (starEach [] X.env)).any (·.1) = false := by rfl) :
    PMk X (.Call (.Name nmE p) [a] [] pos) (tMkPart C ta) := by
  intro pins s σ H Q I h
  refine wpAny_Call_Name_kw (ld_glob I hg T.gC ?_ hdb)
  refine PySem.W.callWith_K (h₀ := X.base) I.ok.mod.kin T.kC (thn (ha.run pos pins s σ H _ I h) fun us s1 hh => ?_) he hpl
  obtain ⟨vs, H1, I1, r1, v, ev, q1⟩ := hh
  subst ev
  refine ⟨I1.kIn, ?_⟩
  cases r1 with
  | cons rv rn =>
    rename_i v' us'
    cases rn
    show wpAny _ _ (call (.ref C) [v']) _ _ _
    have hlim := I1.nolimit
    obtain ⟨hp, g, dr, tk, os⟩ := s1
    refine wpAny_call (PySem.PartX.part_made T I1.kIn hlim (by have := hr.dp; omega) fun h' tk' e d M => ?_)
    show MkP X pins σ Q (.ref e) ⟨h', g, dr, tk', os⟩
    obtain ⟨oe, fv, hoe, hc, hd, hdat, h1⟩ := M.obj
    have hns := M.ns
    obtain ⟨G', g1, g2⟩ := restrict h' fun b => decide (b ≠ e)
    have gk : ∀ b, b ≠ e → G'.get? b = h'.get? b := fun b hb => g1 b (decide_eq_true hb)
    have ge : G'.get? e = none := g2 e (by simp)
    have old : ∀ b o, hp.get? b = some o → G'.get? b = some o := fun b o q => (gk b (Nat.ne_of_lt (Nat.lt_of_lt_of_le (Heap.lt_size q) M.new))).trans (M.keep b o q)
    have ob : ObjOk X.prog X.w (upd H1 d (.xd [(("part" : Str), v)])) G' d (.xd [(("part" : Str), v)]) :=
      ⟨_, hns.at (fun o q => (gk d M.dne).trans q), fun f => relO_part rv f⟩
    have J : Inv X pins σ (upd H1 d (.xd [(("part" : Str), v)])) ⟨G', g, dr, tk', os⟩ := I1.laid (t' := tk') old M.dbig ob
    refine ⟨e, oe, fv, ⟨G', g, dr, tk', os⟩, _, .ref C, some d, rfl, J, fun b o q => ?_, ge, hoe, ⟨hc, hd⟩, hdat, h1, ?_, rfl, I1.bare, raises_own T.exC T.tyC, q1 d (I1.hok.fresh M.dbig)⟩
    · by_cases hb : b = e
      · have q' : G'.get? b = some o := q
        rw [hb, ge] at q'; cases q'
      · exact (gk b hb).symm.trans q
    · rw [upd_ne (Ne.symm M.dne)]
      exact I1.hok.fresh M.new
/-- raise Low(e) -/
def tRaisePart (C : Addr) (W : WX) (ta : TA) : TS := fun _ σ H => tMkPart C ta σ H fun cls d H' => W cls d σ H'
theorem ps_raisePart {a : Expr} {ta : TA} {W : WX} {p pos pos2 : Pos} {k : Nat} (hc : X.calm = true) (T : PySem.PartX.PartTxt X.K X.mg nmE qI C fI) (hr : Room k X.A) (tk : Takes X W) (ha : PA X [a] ta) (hg : Gl X nmE) (hdb : (nmE == ("__debug__" : Str)) = false := by decide)
    (he : starEach (a :: []) X.env = (false, eval a X.env) :: starEach [] X.env := by rfl) (hpl : (backTo pos (starEach [] X.env)).any (·.1) = false := by rfl) :
    PS X (.Raise (some (.Call (.Name nmE p) [a] [] pos)) none pos2) (tRaisePart C W ta) := ps_raise hc tk (pmk_part T hr ha hg hdb he hpl)

end
end L2
end S_Wc
section S_Wd
namespace Hk
open PySem PySem.Spec PyProof.Rows L2 LamX
theorem takes_len {X : Cx} {W : WX} (tk : L2.Takes X W) : L2.Takes X (fun cls d σ H => σ.length = X.N.length → W cls d σ H) := fun u s' ⟨a, B, sI, pins, σ, H, cls, d, e, I, nb, up, sky, na, os, ag, w⟩ =>
  tk u s' ⟨a, B, sI, pins, σ, H, cls, d, e, I, nb, up, sky, na, os, ag, w I.len⟩
abbrev nAsk : List Str := ["ask", "caught", "error"]
/-- caught = None / try: ask() / except E as error: caught = error / return ret -/
def THeard (K : PySem.W.Frag) (CS : Addr) (tr : TE) : (XK → Hp → VK → Prop) → Hp → VK → Prop := fun tl H Q => ∀ f : Addr,
  tl (fun cls d H' => PySem.W.exmOne K cls (.ref CS) = some true ∧ ∀ a, H' a = none → ∀ σ' : L2.St, σ'.length = 3 → σ'[1]? = some (some (.ref a)) → tr σ' (upd H' a (ErrAt cls d a)) Q) H
    fun _ H' => tr [some (.ref f), some .non, none] H' Q
abbrev cxA (X : Cx) (x : Str) (sg : Scope) (g : Addr) (cdg : Value) (A : Around) (s : Shared) (H : Hp) : Cx := (cxOf C8.CX0 X.prog X.w X.K X.mg X.base nAsk x sg g cdg A X.stack s H C8.E0).nox
theorem heard_gives {X : Cx} {x e q : Str} {sg : Scope} {g CS : Addr} {cdg : Value} {j : Nat} {rt : Expr} {tr : TE} {p1 p2 p3 p4 p5 p6 p7 p8 p9 r1 r2 r3 r4 : Pos} (Sg : FnScope nAsk ["ask"] sg) (k1 : sg.names.lookup ("caught" : Str) = some NameKind.local) (k2 : sg.names.lookup ("error" : Str) = some NameKind.local)
    (hge : sg.names.lookup e = some .globalImplicit) (hme : X.mg e = some (.ref CS)) (hde : (e == ("__debug__" : Str)) = false)
    (hrt : ∀ (A : Around) (s : Shared) (H : Hp), PE (cxA X x sg g cdg A s H) rt tr) :
    GivesTo X nAsk x sg g cdg [.Assign [.Name "caught" p1] (.Constant .none j p2) p3, .Try [.Expr (.Call (.Name "ask" r1) [] [] r2) r3] [.ExceptHandler (some (.Name e p4)) (some "error") [.Assign [.Name "caught" p5] (.Name "error" p6) p7] p8] [] [] p9, .Return (some rt) r4] "ask" q (THeard X.K CS tr) := by
  intro f c' s H Q tl act hc h
  have gE : Gl (cxA X x sg g cdg X.A s H) e := hge
  have l1 : ∀ {Y : Cx}, Y.env.scope = sg → (Y.fn "caught" = true ∨ Y.env.scope.names.lookup ("caught" : Str) = some NameKind.local) := fun e => .inr (by rw [e]; exact k1)
  refine ⟨_, pss_cons (ps_set (X := cxA X x sg g cdg X.A s H) (i := 1) Sg.nd rfl (Or.inl k1) pe_non rfl (l1 rfl)) (pss_cons (ps_keep (X := cxA X x sg g cdg X.A s H) (i := 2) (c := .ref CS) (ts := fun _ _ _ => tAsg (tVar 2) (gName 1))
      (tb := fun W D σ H => ∃ Ech : XK, (∀ cls d σ' H', Ech cls d H' → σ'.length = 3 → W cls d σ' H') ∧ σ[0]? = some (some (.ref f)) ∧ H c' = some (CodeO c' q) ∧ tl Ech H (fun _ H' => D.nx σ H'))
      rfl rfl rfl Sg.nd rfl k2 ⟨gE, hde, Or.inl hme⟩ (fun W pn xe tk _ => ?_) (fun a oe cls d pn _ _ => pss_one (ps_set (i := 1) Sg.nd rfl (Or.inl k1) (pe_var (i := 2) rfl (Or.inl k2)) rfl (l1 rfl)))) (pss_one (ps_ret (hrt X.A s H)))), ?_⟩
  · refine ⟨fun pins s' σ H' D I h' => ?_⟩
    obtain ⟨Ech, hW, h1, h2, h3⟩ := h'
    have hp := act (fun cls d σ H => σ.length = nAsk.length → W cls d σ H) pn xe Ech r1 r2 (takes_len tk) hW
    exact (pss_one (ps_expr (pos := r3) hp)).run pins s' σ H' D I ⟨h1, h2, h3⟩
  · have h' : tl (fun cls d H' => PySem.W.exmOne X.K cls (.ref CS) = some true ∧ ∀ a, H' a = none → ∀ σ' : L2.St, σ'.length = 3 → σ'[1]? = some (some (.ref a)) → tr σ' (upd H' a (ErrAt cls d a)) Q) H (fun _ H' => tr [some (V.ref f), some .non, none] H' Q) := h f
    refine ⟨fun cls d H' => PySem.W.exmOne X.K cls (.ref CS) = some true ∧ ∀ a, H' a = none → ∀ σ' : L2.St, σ'.length = 3 → σ'[1]? = some (some (.ref a)) → tr σ' (upd H' a (ErrAt cls d a)) Q, ?_, rfl, hc, h'⟩
    intro cls d σ' H' hh hl
    obtain ⟨he, hk⟩ := hh
    refine ⟨he, fun a na => ?_⟩
    exact ⟨.ref a, by rw [List.getElem?_set_self (by omega)] <;> rfl, fun na' => hk a na' _ (by simp [hl]) (by rw [List.getElem?_set_ne (by decide), List.getElem?_set_self (by simp [hl])] <;> rfl)⟩
end Hk
end S_Wd
section S_We
namespace Hk
open PySem PySem.Spec PyProof.Rows L2 LamX Tl
/-- the law's own call where no repr is under way, its code object's table tracked -/
theorem law_gT {P : Program} {w : World} {K : PySem.W.Frag} {mg mb : Str → Option Value} {k : Nat} {fa a c T : Addr} {fd : FuncData} {x : Str} {sp : Sp} {s₁ : Shared} {vs : List Value} {ns : List Int}
    (kin : K.In s₁.heap) (hns : s₁.heap.Ns mainGlobals mg) (hb : s₁.heap.Ns builtinsNs mb) (hbb : ∀ x : Str, x ≠ "__name__" → mb x = bootBuiltins x) (hlim : s₁.heap.NoLimit) (hg : s₁.gens = #[])
    (hT : s₁.heap.get? T = some { cls := .none, data := .fields #[] }) (nT : K.lookup T = none) (hC : PySem.W.CodeHd s₁.heap c T)
    (hbm : ∃ (bm : Addr) (ob : Obj), mg "__builtins__" = some (.ref bm) ∧ bm ≠ builtinsNs ∧ s₁.heap.get? bm = some ob ∧ ob.cls = .type "module" ∧ ob.dict = some builtinsNs ∧ ob.data = .plain)
    (ha : s₁.heap.get? a = some { cls := .type "list", data := .seq vs.toArray }) (hi : IntsAre vs ns) (hl : ns.length ≤ sizeLine) (hr : Room k callerA)
    (F : ∀ base : Heap, K.In base → base.Ns mainGlobals mg → TabB base mg c T → FnG P w K mg base k fa fd [x] sp) (hbind : ∀ (s : Shared) (u : Value), BindsTo s fd ⟨[u], []⟩ [(x, u)])
    (hsp : ∀ H : Hp, H T = some (.tbl #[]) → SqL K H a (ns.map V.int) → sp [.ref a] H (fun v _ => v = .bl true) fun _ _ _ => False) :
    codeAny (model P w) callerA (.call (.ref fa) ⟨[.ref a], []⟩) (fun r s' => r = .ok (.ret (.bool true)) ∧ OldK s₁.heap s'.heap ∧ s'.os = s₁.os ∧ AllBare s'.gens) s₁ := by
  have rv := vals_ints hi
  have aT : a ≠ T := fun z => by
    rw [z, hT] at ha
    have z' : Data.fields #[] = Data.seq vs.toArray _ := congrArg Obj.data (Option.some.inj ha)
    cases z'
  have run : ∀ H : Hp, H T = some (.tbl #[]) → SqL K H a (ns.map V.int) → HOk P w H s₁.heap → (∀ b u, H b = some u → b = T ∨ (b = a ∧ K.lookup a = none ∧ ∃ o xs, u = .frz o (.lst xs))) →
      codeAny (model P w) callerA (.call (.ref fa) ⟨[.ref a], []⟩) (fun r s' => r = .ok (.ret (.bool true)) ∧ OldK s₁.heap s'.heap ∧ s'.os = s₁.os ∧ AllBare s'.gens) s₁ := by
    intro H hHT hS hok hA
    have keepB : ∀ {b : Addr} {o : Obj}, s₁.heap.get? b = some o → (∀ vs n, o.data ≠ .seq vs n) → o.data ≠ .fields #[] → (hidT s₁.heap H).get? b = some o := fun {b o} e h1 h2 => by
      refine hidT_get e ?_
      cases q : H b with
      | none => rfl
      | some u =>
        rcases hA b u q with e1 | ⟨e1, _⟩
        · rw [e1, hT] at e
          cases e
          exact absurd rfl h2
        · rw [e1, ha] at e
          cases e
          exact absurd rfl (h1 _ _)
    have ns_of : ∀ {b : Addr} {m : Str → Option Value}, s₁.heap.Ns b m → (hidT s₁.heap H).Ns b m := fun {b m} hm => by
      obtain ⟨o, es, ep, e, d, r⟩ := hm
      exact ⟨o, es, ep, keepB e (fun vs n z => by rw [d] at z; cases z) (fun z => by rw [d] at z; cases z), d, r⟩
    have kb : K.In (hidT s₁.heap H) := fun b o e => hidT_get (kin b o e) (by
      cases q : H b with
      | none => rfl
      | some u =>
        rcases hA b u q with e1 | ⟨e1, e2, _⟩
        · rw [e1, nT] at e
          cases e
        · rw [e1, e2] at e
          cases e)
    have hM : Mod K mg (hidT s₁.heap H) := ⟨kb, ns_of hns, ⟨mb, ns_of hb, hbb⟩, hlim.elim fun mc h => ⟨mc, ns_of h.1, h.2⟩⟩
    have e0 : Env0 P w K mg (hidT s₁.heap H) callerA [] s₁ H := ⟨rfl, hM, fun _ _ e => of_hidT e, by rw [hidT_size] <;> exact Nat.le_refl _, trivial, fun _ hb => (nomatch hb), hok, .of_eq hg⟩
    have TB : TabB (hidT s₁.heap H) mg c T := by
      refine ⟨?_, ?_, fun z => ?_⟩
      · obtain ⟨o, us, file, tf, flags, tg, inF, text, tt, e1, r1, r2, r3, r4⟩ := hC
        exact ⟨o, us, file, tf, flags, tg, inF, text, tt, keepB e1 (fun vs n z => by rw [r2] at z; cases z) (fun z => by rw [r2] at z; cases z; simp at r3), r1, r2, r3, r4⟩
      · obtain ⟨bm, ob, b1, b2, b3, b4, b5, b6⟩ := hbm
        refine ⟨bm, ob, b1, b2, fun q => ?_, fun q => ?_, keepB b3 (fun vs n z => by rw [b6] at z; cases z) (fun z => by rw [b6] at z; cases z), b4, b5, b6⟩
        · obtain ⟨o, es, ep, e, hd, _⟩ := hns
          rw [q, e] at b3
          cases b3
          rw [hd] at b6
          cases b6
        · rw [q, hT] at b3
          cases b3
          cases b6
      · obtain ⟨o, es, ep, e, hd, _⟩ := hns
        rw [z, hT] at e
        cases e
        cases hd
    refine codeAny_mono ((F _ kb (ns_of hns) TB).go rfl hr e0 (us := [.ref a]) (hbind s₁ (.ref a)) (vs := [.ref a]) (.cons rfl .nil) (hsp H hHT hS)) fun r s' h => ?_
    match r, h with
    | .ok (.ret u), h =>
      obtain ⟨v, H', os, bare, un, hok', r', q⟩ := h
      cases (show v = .bl true from q)
      cases (show u = Value.bool true from r')
      obtain ⟨more, zT⟩ := un.tbls T #[] hHT
      have grown : s'.heap.get? T = some { cls := .none, data := .fields more } := by
        have q := hok' T _ zT
        rw [Array.empty_append] at q
        exact q
      have others : ∀ b o, b ≠ T → s₁.heap.get? b = some o → s'.heap.get? b = some o := fun b o nb e => by
        cases q : H b with
        | none => exact un.keep b o e q (fun y => (nomatch y)) (fun y => (nomatch y))
        | some u =>
          rcases hA b u q with z | ⟨_, _, ob, xs, rfl⟩
          · exact absurd z nb
          · obtain ⟨e1, _⟩ := hok b _ q
            obtain ⟨e2, _⟩ := hok' b _ (un.frzs b ob _ q)
            rw [e] at e1
            cases e1
            exact e2
      refine ⟨rfl, ⟨fun b o e => ?_, fun b o e => ?_⟩, os, bare⟩
      · by_cases hb : b = T
        · subst hb
          rw [hT] at e
          cases e
          exact .inr (.inl ⟨(hC.tab hT).isCodeTable, rfl, #[], more, rfl, by rw [Array.empty_append]; exact grown⟩)
        · exact .inl (others b o hb e)
      · by_cases hb : b = T
        · subst hb
          exact ⟨_, grown⟩
        · exact ⟨o, others b o hb e⟩
    | .error e, h => exact False.elim h
    | .ok .next, h => exact False.elim h
    | .ok .brk, h => exact False.elim h
    | .ok .cont, h => exact False.elim h
  have tT : (if T = T then some (HO.tbl #[]) else none) = some (HO.tbl #[]) := if_pos rfl
  cases hk : K.lookup a with
  | some o =>
    have e := kin a o hk
    rw [ha] at e
    cases e
    refine run (fun b => if b = T then some (.tbl #[]) else none) tT (.inr ⟨_, vs.toArray, _, hk, rfl, rfl, rfl, ?_, by simpa using rv⟩) (fun b u z => ?_) (fun b u z => ?_)
    · rw [List.size_toArray, hi.length]
      exact hl
    · dsimp only at z
      by_cases hb : b = T
      · rw [if_pos hb] at z
        cases z
        rw [hb]
        exact hT
      · rw [if_neg hb] at z
        cases z
    · skip
      by_cases hb : b = T
      · exact .inl hb
      · rw [if_neg hb] at z
        cases z
  | none =>
    refine run (fun b => if b = T then some (.tbl #[]) else if b = a then some (.frz { cls := .type "list", data := .seq vs.toArray } (.lst (ns.map V.int))) else none) (if_pos rfl) (.inl (.inr ⟨_, by dsimp only; rw [if_neg aT, if_pos rfl]⟩)) (fun b u z => ?_) fun b u z => ?_
    · dsimp only at z
      by_cases hb : b = T
      · rw [if_pos hb] at z
        cases z
        rw [hb]
        exact hT
      · rw [if_neg hb] at z
        by_cases hb2 : b = a
        · rw [if_pos hb2] at z
          cases z
          subst hb2
          exact ⟨ha, by rw [List.length_map]; exact hl, vs, _, rv, ha⟩
        · rw [if_neg hb2] at z
          cases z
    · skip
      by_cases hb : b = T
      · exact .inl hb
      · rw [if_neg hb] at z
        by_cases hb2 : b = a
        · rw [if_pos hb2] at z
          cases z
          exact .inr ⟨hb2, hk, _, _, rfl⟩
        · rw [if_neg hb2] at z
          cases z
theorem walk_gT {l : PySem.W.OpenLaw} {n k : Nat} {q : Program} {loose : List Str} {XP : (Str → Option Value) → Heap → Prop} {YP : World → Heap → Prop} {d : DefRec} {K : Params → PySem.W.Frag} {x : Str}
    (hn : l.most = some n) (hn2 : n ≤ sizeLine) (hdf : d.params.defaults = []) (hr : Room k callerA) (hrec : ((recsOf q).any fun e => e.name == d.name) = true) (hY : ∀ (w : World) (h : Heap), YP w h → (K w.params).In h)
    (F : ∀ (w : World) (mg : Str → Option Value) (fa : Addr) (h : Heap), (K w.params).In h → h.Ns mainGlobals mg → mg d.name = some (.ref fa) →
      ∃ (fd : FuncData) (T c : Addr) (o : Obj) (sp : Sp) (e : Value) (dd : Option Addr) (vs : Array Value) (sl : Array (Option Value)), (K w.params).lookup fa = some o ∧ o.data = .func fd ∧ fd.code = .ref c ∧ (K w.params).lookup c = some ⟨e, dd, .fields vs, sl⟩ ∧ vs[11]? = some (.ref T) ∧ (K w.params).lookup T = none ∧ (∀ (s : Shared) (u : Value), BindsTo s fd ⟨[u], []⟩ [(x, u)]) ∧
        (∀ (H : Hp) (a : Addr) (ns : List Int), ns.length ≤ n → H T = some (.tbl #[]) → SqL (K w.params) H a (ns.map V.int) → sp [.ref a] H (fun v _ => v = .bl true) fun _ _ _ => False) ∧
        ∀ base : Heap, (K w.params).In base → base.Ns mainGlobals mg → TabB base mg c T → FnG l.prog w (K w.params) mg base k fa fd [x] sp) :
    PySem.W.WalkO q loose XP YP l.row.toRowW d [] (fun f vs => PySem.call f vs) := by
  refine Att.attach_call hn hdf fun w s₀ s₁ mg mb fa o pm cd doc a vs ns G Y ho hd hcd hmg hobj hints hlen hg => ?_
  have kin := hY w _ Y
  obtain ⟨fd, T, c, o1, sp, e, dd, us, sl, k1, k2, k3, k4, k5, nT, h1, hs, h2⟩ := F w mg fa _ kin G.T.g hmg
  obtain ⟨dL, hm, hn1⟩ := List.any_eq_true.mp hrec
  have hn2' : dL.name = d.name := beq_iff_eq.mp hn1
  obtain ⟨a', o', fd', c', P', g1, g2, g3, g4, g5, g6⟩ := G.T.tab dL hm
  rw [hn2', hmg] at g1
  cases g1
  have q1 := kin _ _ k1
  rw [q1] at g2
  cases g2
  rw [k2] at g3
  cases g3
  rw [k3] at g4
  cases g4
  have hC := PySem.W.CodeHd.of g5 g6
  obtain ⟨⟨oc, vc, e1, _, e3, e4⟩, hP⟩ := g6
  have q2 := kin _ _ k4
  rw [q2] at e1
  cases e1
  cases e3
  rw [k5] at e4
  cases e4
  exact law_gT kin G.T.g G.T.b G.T.builtins G.T.nolimit hg hP nT hC G.T.bmain hobj hints (Nat.le_trans hlen hn2) hr h2 h1 fun H hHT hS => hs H a ns hlen hHT hS
end Hk
end S_We
section S_Naa
namespace P38
open PySem PySem.Spec PyProof.Rows L2 Tl Hk
def topS (i : Nat) : Stmt := PySem.Challenge.pw_threelanes_k38_near_seats.main.body.getD i (.Pass ⟨0, 0, 0, 0⟩)
abbrev sInteger : Stmt := topS 1
abbrev sWithin : Stmt := topS 2
abbrev sList : Stmt := topS 3
abbrev sRow : Stmt := topS 4
abbrev sSeatsE : Stmt := topS 7
abbrev sPaperE : Stmt := topS 8
abbrev sFixed : Stmt := topS 10
abbrev sAreEq : Stmt := topS 11
abbrev sPaperC : Stmt := topS 12
abbrev sAreBags : Stmt := topS 15
abbrev sTells : Stmt := topS 16
abbrev sHang : Stmt := topS 17
abbrev sNarrow : Stmt := topS 18
abbrev sFromTop : Stmt := topS 19
abbrev sFresh : Stmt := topS 20
abbrev sPairsIn : Stmt := topS 21
abbrev sIsBag : Stmt := topS 22
abbrev sSeatsC : Stmt := topS 25
abbrev sAreNear : Stmt := topS 26
abbrev sIsSeat : Stmt := topS 27
abbrev sWantSeat : Stmt := topS 28
abbrev sMayTie : Stmt := topS 29
abbrev sTub : Stmt := topS 31
abbrev sScoop : Stmt := topS 32
abbrev sPick : Stmt := topS 33
abbrev sBagsRight : Stmt := topS 35
abbrev sLNear : Stmt := topS 37
abbrev sLTree : Stmt := topS 38
abbrev sLHeard : Stmt := topS 39
abbrev sLaw : Stmt := topS 40
/-- a plain value and the name of its type -/
inductive Ty7 (K : PySem.W.Frag) (H : Hp) : V → String → Prop where
  | non : Ty7 K H .non "NoneType"
  | bl (b : Bool) : Ty7 K H (.bl b) "bool"
  | int (i : Int) : Ty7 K H (.int i) "int"
  | str (s : Str) : Ty7 K H (.str s) "str"
  | lst {a : Addr} {xs : List V} (h : SqL K H a xs) : Ty7 K H (.ref a) "list"
  | tup {a : Addr} {xs : List V} (h : SqT K H a xs) : Ty7 K H (.ref a) "tuple"
  | dK {a : Addr} {kvs : List (L2.Key × V)} (h : H a = some (.dK kvs)) : Ty7 K H (.ref a) "dict"
section
variable {K : PySem.W.Frag} {H H' : Hp} {x : V} {n : String}
theorem Ty7.tyx (h : Ty7 K H x n) : TyX K H x (.type n) := by
  cases h with
  | non => exact .base .non
  | bl b => exact .base (.bl b)
  | int i => exact .base (.int i)
  | str s => exact .base (.str s)
  | lst h =>
    rcases h with (h | ⟨o, h⟩) | ⟨o, its, m, h1, h2, _⟩
    · exact .base (.lst h)
    · exact .base (.frz h)
    · exact .kList h1 h2
  | tup h =>
    rcases h with (h | ⟨o, h⟩) | ⟨o, its, m, h1, h2, _⟩
    · exact .base (.tup h)
    · exact .fTuple h
    · exact .kTuple h1 h2
  | dK h => exact .base (.dK h)
theorem Ty7.ex (h : Ty7 K H x n) (e : Evl.Ex H H') : Ty7 K H' x n := by
  cases h with
  | non => exact .non
  | bl b => exact .bl b
  | int i => exact .int i
  | str s => exact .str s
  | lst h => exact .lst (Evl.ex_l e h)
  | tup h => exact .tup (Evl.ex_t e h)
  | dK h => exact .dK (e _ _ h)
/-- isinstance of one built-in class -/
def is7 (n c : String) : Bool := (L2.kitB n c).getD false
theorem Ty7.kit (h : Ty7 K H x n) {c : String} (hc : c = "int" ∨ c = "bool" ∨ c = "list" ∨ c = "tuple") : PySem.W.kitOne K (.type n) (.type c) = some (is7 n c) := by
  refine kit_ty ?_
  rcases hc with rfl | rfl | rfl | rfl <;> cases h <;> decide +kernel
theorem Ty7.isInt (h : Ty7 K H x n) : (is7 n "int" && !is7 n "bool") = decide (n = "int") := by
  cases h <;> decide +kernel
theorem Ty7.isSeq (h : Ty7 K H x n) : (is7 n "list" || is7 n "tuple") = (decide (n = "list") || decide (n = "tuple")) := by
  cases h <;> decide +kernel
theorem rc_isi (h : Ty7 K H x n) {c : String} (hc : c = "int" ∨ c = "bool" ∨ c = "list" ∨ c = "tuple") : Evl.RC (rIsi K) [x, .ty c] H (.bl (is7 n c)) :=
  fun H1 e _ q => ⟨x, .ty c, .type n, .type c, is7 n c, rfl, .ty c, (h.ex e).tyx, (h.ex e).kit hc, q H1 (Evl.Ex.refl H1)⟩
theorem rv_isN : Evl.RV (fun x y H Q => y = .non ∧ Q (.bl (decide (x = .non))) H) x .non H (.bl (decide (x = .non))) := fun H1 _ _ q => ⟨rfl, q H1 (Evl.Ex.refl H1)⟩
end
/-- None, or an integer -/
def Bnd : V → Prop
  | .non => True
  | .int _ => True
  | _ => False
def okLo : V → Int → Bool
  | .int j, i => decide (j ≤ i)
  | _, _ => true
def okHi : V → Int → Bool
  | .int j, i => decide (i ≤ j)
  | _, _ => true
/-- whether it is an integer within the bounds -/
def wi : V → V → V → Bool
  | .int i, lo, hi => okLo lo i && okHi hi i
  | _, _, _ => false
def spInteger (K : PySem.W.Frag) : Sp := fun vs H Q _ => ∃ (x : V) (n : String), vs = [x] ∧ Ty7 K H x n ∧ ∀ H1, Evl.Ex H H1 → Q (.bl (decide (n = "int"))) H1
theorem spv_integer {K : PySem.W.Frag} {H : Hp} {x : V} {n : String} (h : Ty7 K H x n) : Evl.SpV (spInteger K) [x] H (.bl (decide (n = "int"))) := fun H1 e Q q E => ⟨x, n, rfl, h.ex e, q⟩
def spWithin (K : PySem.W.Frag) : Sp := fun vs H Q _ => ∃ (x lo hi : V) (n : String), vs = [x, lo, hi] ∧ Ty7 K H x n ∧ Bnd lo ∧ Bnd hi ∧ ∀ H1, Evl.Ex H H1 → Q (.bl (wi x lo hi)) H1
theorem spv_within {K : PySem.W.Frag} {H : Hp} {x lo hi : V} {n : String} (h : Ty7 K H x n) (h1 : Bnd lo) (h2 : Bnd hi) : Evl.SpV (spWithin K) [x, lo, hi] H (.bl (wi x lo hi)) := fun H1 e Q q E => ⟨x, lo, hi, n, rfl, h.ex e, h1, h2, q⟩
def spList (K : PySem.W.Frag) : Sp := fun vs H Q _ => ∃ (x : V) (n : String), vs = [x] ∧ Ty7 K H x n ∧ ∀ H1, Evl.Ex H H1 → Q (.bl (decide (n = "list") || decide (n = "tuple"))) H1
theorem spv_list {K : PySem.W.Frag} {H : Hp} {x : V} {n : String} (h : Ty7 K H x n) : Evl.SpV (spList K) [x] H (.bl (decide (n = "list") || decide (n = "tuple"))) := fun H1 e Q q E => ⟨x, n, rfl, h.ex e, q⟩
theorem scInteger : FnScope ["value"] ["value"] (defScope sInteger) := ⟨rfl, rfl, rfl, by decide +kernel, rfl, by decide +kernel, by decide +kernel⟩
theorem scWithin : FnScope ["value", "least", "most"] ["value", "least", "most"] (defScope sWithin) := ⟨rfl, rfl, rfl, by decide +kernel, rfl, by decide +kernel, by decide +kernel⟩
theorem scList : FnScope ["value"] ["value"] (defScope sList) := ⟨rfl, rfl, rfl, by decide +kernel, rfl, by decide +kernel, by decide +kernel⟩
section
variable {P : Program} {w : World} {K : PySem.W.Frag} {mg : Str → Option Value} {base : Heap}
theorem ok_integer {f : Addr} {fd : FuncData} {k : Nat} (F : Fun K "is_integer" "is_integer" sInteger f fd) (mi : mg "isinstance" = none) (mint : mg "int" = none) (mbool : mg "bool" = none) : FnOk P w K mg base CX0 (k + 1) f fd ["value"] (spInteger K) := by
  refine F.ok scInteger (fun vs H Q E h => ?_) (fun cdv A outer s H vs Q E hr h => ?_)
  · obtain ⟨x, n, rfl, _⟩ := h
    rfl
  · obtain ⟨x, n, rfl, h, q⟩ := h
    refine ⟨_, pss_one (ps_ret (pe_and (pe_callB call_isi (by rfl) mi (by decide +kernel) (pa_cons (pv 0) (pa_cons (pe_bltn (v := .ty "int") (by rfl) mint (by decide +kernel) rfl) pa_nil)))
      (pe_one (pe_not (pe_callB call_isi (by rfl) mi (by decide +kernel) (pa_cons (pv 0) (pa_cons (pe_bltn (v := .ty "bool") (by rfl) mbool (by decide +kernel) rfl) pa_nil))))))), ?_⟩
    refine Evl.s_ret (v := .bl (is7 n "int" && !is7 n "bool")) (Evl.ev_andV (Evl.ev_cb (Evl.ea_cons (Evl.ev_var rfl) (Evl.ea_cons Evl.ev_c Evl.ea_nil)) (rc_isi h (.inl rfl))) fun _ =>
      Evl.ev_notV (Evl.ev_cb (Evl.ea_cons (Evl.ev_var rfl) (Evl.ea_cons Evl.ev_c Evl.ea_nil)) (rc_isi h (.inr (.inl rfl))))) fun H1 e1 => ?_
    rw [h.isInt]
    exact q H1 e1
theorem ok_list {f : Addr} {fd : FuncData} {k : Nat} (F : Fun K "is_list" "is_list" sList f fd) (mi : mg "isinstance" = none) (ml : mg "list" = none) (mt : mg "tuple" = none) : FnOk P w K mg base CX0 (k + 1) f fd ["value"] (spList K) := by
  refine F.ok scList (fun vs H Q E h => ?_) (fun cdv A outer s H vs Q E hr h => ?_)
  · obtain ⟨x, n, rfl, _⟩ := h
    rfl
  · obtain ⟨x, n, rfl, h, q⟩ := h
    refine ⟨_, pss_one (ps_ret (pe_callB call_isiT (by rfl) mi (by decide +kernel) (pa_cons (pv 0) (pa_cons (pe_tup (pa_cons (pe_bltn (v := .ty "list") (by rfl) ml (by decide +kernel) rfl) (pa_cons (pe_bltn (v := .ty "tuple") (by rfl) mt (by decide +kernel) rfl) pa_nil))) pa_nil)))), ?_⟩
    refine ⟨x, rfl, (by show 2 ≤ sizeLine; decide), fun T hT => ⟨x, T, [.ty "list", .ty "tuple"], .type n, [.type "list", .type "tuple"], is7 n "list" || is7 n "tuple", rfl, upd_same, .cons (.ty _) (.cons (.ty _) .nil), (h.ex (Evl.Ex.new hT)).tyx, ?_, ?_⟩⟩
    · refine kitAny_cons (h.kit (.inr (.inr (.inl rfl)))) (fun hb => kitAny_cons (h.kit (.inr (.inr (.inr rfl)))) (fun hb2 => ?_) fun hb2 => ?_) fun hb => ?_
      · rw [hb, hb2]; exact kitAny_nil
      · rw [hb2, Bool.or_true]
      · rw [hb, Bool.true_or]
    · show Q _ _
      rw [h.isSeq]
      exact q _ (Evl.Ex.new hT)
theorem ok_within {f fI : Addr} {fd fdI : FuncData} {k : Nat} (F : Fun K "is_within" "is_within" sWithin f fd) (FI : Fun K "is_integer" "is_integer" sInteger fI fdI) (GI : FnOk P w K mg base CX0 k fI fdI ["value"] (spInteger K)) (bI : Binds K fdI ["value"] []) (gI : mg "is_integer" = some (.ref fI)) :
    FnOk P w K mg base CX0 (k + 1) f fd ["value", "least", "most"] (spWithin K) := by
  refine F.ok scWithin (fun vs H Q E h => ?_) (fun cdv A outer s H vs Q E hr h => ?_)
  · obtain ⟨x, lo, hi, n, rfl, _⟩ := h
    rfl
  · obtain ⟨x, lo, hi, n, rfl, h, hlo, hhi, q⟩ := h
    refine ⟨_, pss_cons (ps_if (pt_not (pt_val (pe_call GI hr (by rfl) gI FI.kp bI .nil pass0 (pa_cons (pv 0) pa_nil)))) (pss_one (ps_ret pe_bl)) pss_nil)
      (pss_one (ps_ret (pe_and (pe_or (pe_cmpR op_isN (pv 1) pe_non (nomark _)) (pe_one (pe_cmpR op_ge (pv 0) (pv 1) (nomark _)))) (pe_one (pe_or (pe_cmpR op_isN (pv 2) pe_non (nomark _)) (pe_one (pe_cmpR op_le (pv 0) (pv 2) (nomark _)))))))), ?_⟩
    refine Evl.q_when (Evl.et_not (Evl.et_B (Evl.ev_call (Evl.ea_cons (Evl.ev_var rfl) Evl.ea_nil) (spv_integer h)))) (fun hb H1 e1 => ?_) (fun hb H1 e1 => ?_)
    · refine Evl.s_ret Evl.ev_c fun H2 e2 => ?_
      have hw : wi x lo hi = false := by
        cases h with
        | int i => exact absurd hb (by decide)
        | _ => rfl
      rw [← hw]
      exact q H2 (e1.trans e2)
    · cases h with
      | int i =>
        have hA : Evl.Ev (tOrV (tOp (fun x y H Q => y = .non ∧ Q (.bl (decide (x = .non))) H) (tVar 1) (tC .non)) (tOp (rI0 fun i j => V.bl (decide (j ≤ i))) (tVar 0) (tVar 1))) (start ["value", "least", "most"] [.int i, lo, hi]) H1 (.bl (okLo lo i)) := by
          cases lo with
          | non => exact Evl.ev_is (Evl.ev_orV (b := true) (Evl.ev_op (Evl.ev_var rfl) Evl.ev_c rv_isN) fun z => absurd z (by decide)) rfl
          | int j => exact Evl.ev_is (Evl.ev_orV (Evl.ev_op (Evl.ev_var rfl) Evl.ev_c rv_isN) fun _ => Evl.ev_op (Evl.ev_var rfl) (Evl.ev_var rfl) Evl.rv_I0) (by rw [show decide (V.int j = V.non) = false from rfl] <;> rfl)
          | _ => exact hlo.elim
        have hB : Evl.Ev (tOrV (tOp (fun x y H Q => y = .non ∧ Q (.bl (decide (x = .non))) H) (tVar 2) (tC .non)) (tOp (rI0 fun i j => V.bl (decide (i ≤ j))) (tVar 0) (tVar 2))) (start ["value", "least", "most"] [.int i, lo, hi]) H1 (.bl (okHi hi i)) := by
          cases hi with
          | non => exact Evl.ev_is (Evl.ev_orV (b := true) (Evl.ev_op (Evl.ev_var rfl) Evl.ev_c rv_isN) fun z => absurd z (by decide)) rfl
          | int j => exact Evl.ev_is (Evl.ev_orV (Evl.ev_op (Evl.ev_var rfl) Evl.ev_c rv_isN) fun _ => Evl.ev_op (Evl.ev_var rfl) (Evl.ev_var rfl) Evl.rv_I0) (by rw [show decide (V.int j = V.non) = false from rfl] <;> rfl)
          | _ => exact hhi.elim
        exact Evl.s_ret (Evl.ev_andV hA fun _ => hB) fun H2 e2 => q H2 (e1.trans e2)
      | _ => exact absurd hb (by decide)
end

theorem ev_allN {K : PySem.W.Frag} {ta : TE} {σ : L2.St} {H : Hp} {bs : List Bool} (h : Evl.EvL ta σ H (bs.map V.bl)) : Evl.Ev (tCB (rAll K) (tCons ta tNil)) σ H (.bl (bs.all id)) := fun H1 e Q q =>
  h H1 e _ fun p H2 _ e2 h2 => ⟨p, bs, rfl, Evl.sq_of h2, q H2 e2⟩
/-- a comprehension over a tuple that stands -/
theorem el_lcT {K : PySem.W.Frag} {a : Addr} {xs : List V} {tl te : TE} {t : TT} {σ : L2.St} {H : Hp} {j : Nat} {vs : List Nat} (f : Nat → Bool) (v : Nat → V) (h : Evl.Ev tl σ H (.ref a)) (hx : SqT K H a xs) (hz : xs.length ≤ 40000)
    (hw : ∀ x, wipe ((wipe σ vs).set j (some x)) vs = wipe σ vs) (ht : ∀ (i : Nat) (x : V) H1, Evl.Ex H H1 → xs[i]? = some x → Evl.EvT t ((wipe σ vs).set j (some x)) H1 (f i))
    (he : ∀ (i : Nat) (x : V) H1, Evl.Ex H H1 → xs[i]? = some x → f i = true → Evl.Ev te ((wipe σ vs).set j (some x)) H1 (v i)) : Evl.EvL (tLc (iTup K tl) (gName j) t te vs) σ H (Evl.given xs.length f v) := by
  intro H0 e Q q
  refine h H0 e _ fun H1 e1 => ⟨a, rfl, ⟨xs, Evl.ex_t (e.trans e1) hx⟩, fun Dl hD => lc_tup (xs := xs) (Evl.Cw H1 f v Dl) ⟨hD, Evl.Ex.new hD, upd_same⟩ (fun i H' _ p => Evl.ex_t ((e.trans e1).trans p.2.1) hx) (fun i x H' hi p => ⟨hw x, ?_⟩) fun H' p => q Dl H' (Evl.fresh_back e1 p.1) (e1.trans p.2.1) p.2.2⟩
  have hlt := (List.getElem?_eq_some_iff.mp hi).1
  exact Evl.cw_turn p (by omega) (ht i x H1 (e.trans e1) hi) fun hf => he i x H1 (e.trans e1) hi hf

end P38
end S_Naa
section S_Nab
namespace P38
open PySem PySem.Spec PyProof.Rows L2 Tl Hk
theorem scScoop : FnScope ["tub", "many", "rest", "turn", "cell", "mixed"] ["tub", "many"] (defScope sScoop) := ⟨rfl, rfl, rfl, by decide +kernel, rfl, by decide +kernel, by decide +kernel⟩

/-- all but the object at t is as it was -/
def Kept (t : Addr) (H H' : Hp) : Prop := ∀ a o, a ≠ t → H a = some o → H' a = some o
theorem Kept.refl (t : Addr) (H : Hp) : Kept t H H := fun _ _ _ h => h
theorem Kept.trans {t : Addr} {H H1 H2 : Hp} (a : Kept t H H1) (b : Kept t H1 H2) : Kept t H H2 := fun x o n h => b x o n (a x o n h)
theorem Kept.of {t : Addr} {H H' : Hp} (e : Same H H') : Kept t H H' := fun x o _ h => e x o h
theorem Kept.upd (t : Addr) (H : Hp) (o : HO) : Kept t H (upd H t o) := fun a u n e => by
  rw [upd_ne n]
  exact e
theorem Kept.seq {K : PySem.W.Frag} {t : Addr} {H H' : Hp} {c : Addr} {xs : List V} (k : Kept t H H') (n : c ≠ t) (h : SqL K H c xs) : SqL K H' c xs := by
  rcases h with (h | ⟨o, h⟩) | h
  · exact .inl (.inl (k _ _ n h))
  · exact .inl (.inr ⟨o, k _ _ n h⟩)
  · exact .inr h
/-- the drawer of numbers at t: its cells at c, its turn of n at most, its rest -/
def Tub (H : Hp) (t c : Addr) (n : Nat) : Prop := ∃ (cs : List Int) (turn rest : Int),
  H t = some (.lst [.ref c, .int turn, .int rest]) ∧ H c = some (.lst (cs.map V.int)) ∧ c ≠ t ∧ cs.length ≤ 60 ∧ 0 ≤ turn ∧ turn ≤ n ∧ 0 ≤ rest
theorem Tub.mono {H : Hp} {t c : Addr} {n m : Nat} (T : Tub H t c n) (h : n ≤ m) : Tub H t c m := by
  obtain ⟨cs, turn, rest, h1, h2, h3, h4, h5, h6, h7⟩ := T
  exact ⟨cs, turn, rest, h1, h2, h3, h4, h5, by omega, h7⟩
theorem Tub.same {H H' : Hp} {t c : Addr} {n : Nat} (T : Tub H t c n) (e : Same H H') : Tub H' t c n := by
  obtain ⟨cs, turn, rest, h1, h2, h3, h4, h5, h6, h7⟩ := T
  exact ⟨cs, turn, rest, e _ _ h1, e _ _ h2, h3, h4, h5, h6, h7⟩
theorem Tub.ne {H : Hp} {t c p : Addr} {n : Nat} (T : Tub H t c n) (h : H p = none) : p ≠ t ∧ p ≠ c := by
  obtain ⟨cs, turn, rest, h1, h2, _⟩ := T
  exact ⟨(ne_of_none h1 h).symm, (ne_of_none h2 h).symm⟩
/-- an object that is neither of the drawer's two may change -/
theorem Tub.upd {H : Hp} {t c p : Addr} {n : Nat} {o : HO} (T : Tub H t c n) (h1 : p ≠ t) (h2 : p ≠ c) : Tub (upd H p o) t c n := by
  obtain ⟨cs, turn, rest, a1, a2, h⟩ := T
  refine ⟨cs, turn, rest, ?_, ?_, h⟩
  · rw [upd_ne h1.symm]
    exact a1
  · rw [upd_ne h2.symm]
    exact a2
theorem same_new {H : Hp} {p : Addr} {o : HO} (h : H p = none) : Same H (upd H p o) := fun b x e => by
  rw [upd_ne (ne_of_none e h)]
  exact e

open Evl in
theorem kept_ex {t : Addr} {H H' : Hp} (e : Evl.Ex H H') : Kept t H H' := fun x o _ h => e x o h
theorem Tub.ex {H H' : Hp} {t c : Addr} {n : Nat} (T : Tub H t c n) (e : Evl.Ex H H') : Tub H' t c n := T.same e
section
open Evl
variable {K : PySem.W.Frag} {σ : L2.St} {H H' : Hp} {ta tb te : TE} {x y z v : V}
theorem ev_int {i : Int} (h : Ev ta σ H (.int i)) : Ev (tCB (fun xs H Q => (∃ i, xs = [V.int i] ∧ Q (V.int i) H) ∨ ∃ k, xs = [V.bl k] ∧ Q (V.int (if k = true then 1 else 0)) H) (tCons ta tNil)) σ H (.int i) :=
  ev_cb (ea_cons h ea_nil) fun H1 _ _ q => .inl ⟨i, rfl, q H1 (Ex.refl H1)⟩
theorem ev_intB {b : Bool} (h : Ev ta σ H (.bl b)) : Ev (tCB (fun xs H Q => (∃ i, xs = [V.int i] ∧ Q (V.int i) H) ∨ ∃ k, xs = [V.bl k] ∧ Q (V.int (if k = true then 1 else 0)) H) (tCons ta tNil)) σ H (.int (if b = true then 1 else 0)) :=
  ev_cb (ea_cons h ea_nil) fun H1 _ _ q => .inr ⟨b, rfl, q H1 (Ex.refl H1)⟩
theorem ev_abs {i : Int} (h : Ev ta σ H (.int i)) : Ev (tCB (fun xs H Q => ∃ i, xs = [V.int i] ∧ Q (V.int (if i < 0 then -i else i)) H) (tCons ta tNil)) σ H (.int (if i < 0 then -i else i)) :=
  ev_cb (ea_cons h ea_nil) fun H1 _ _ q => ⟨i, rfl, q H1 (Ex.refl H1)⟩
theorem dp_ints {c : Addr} : ∀ (cs : List Int), DpAll K H (cs.map V.int) (cs.map PyData.int)
  | [] => .nil
  | i :: r => .cons (.int i) (dp_ints (c := c) r)
/-- a list of ints is not the empty one -/
theorem ev_neNil {c : Addr} {cs : List Int} (h : Ev ta σ H (.ref c)) (hc : SqL K H c (cs.map V.int)) : Ev (tOp (rNeD K) ta (tLst tNil)) σ H (.bl (!cs.isEmpty)) :=
  ev_opL (xs := []) h (el_lst ea_nil (Nat.zero_le _)) fun p H1 hp e => fun H2 e2 Q q => by
    refine ⟨.list (cs.map PyData.int), .list [], .lst (ex_l (e.trans e2) hc) (dp_ints (c := c) cs), .lst (sq_of (e2 _ _ hp)) .nil, PySem.W.ke_shaped_ints cs, by decide +kernel, ?_⟩
    have e3 : PyData.eqv (.list (cs.map PyData.int)) (.list []) = cs.isEmpty := by cases cs <;> rfl
    rw [e3]
    exact q H2 (Ex.refl H2)
theorem fmod_pos {a b : Int} (hb : 1 ≤ b) : 0 ≤ a.fmod b ∧ a.fmod b < b := by
  rw [Int.fmod_eq_emod_of_nonneg a (by omega)]
  exact ⟨Int.emod_nonneg _ (by omega), Int.emod_lt_of_pos _ (by omega)⟩
theorem fdiv_pos {a b : Int} (ha : 0 ≤ a) (hb : 1 ≤ b) : 0 ≤ a.fdiv b := by
  rw [Int.fdiv_eq_ediv_of_nonneg a (by omega)]
  exact Int.ediv_nonneg ha (by omega)
theorem mix_a {x turn : Int} (hx0 : 0 ≤ x) (hx : x < 2147483648) (h0 : 0 ≤ turn) (h1 : turn ≤ 1000000) : (x + 32218 * turn + 6927).natAbs < 2 ^ 64 := by omega
theorem mix_b {m turn : Int} (hm0 : 0 ≤ m) (hm : m < 2147483648) (h0 : 0 ≤ turn) (h1 : turn ≤ 1000000) : (m * (2 * turn + 4099) + 71486 * turn * turn + 32218).natAbs < 2 ^ 64 := by
  have a1 : m * (2 * turn + 4099) ≤ 2147483648 * 2004099 := Int.mul_le_mul (by omega) (by omega) (by omega) (by omega)
  have a2 : 0 ≤ m * (2 * turn + 4099) := Int.mul_nonneg hm0 (by omega)
  have b1 : 71486 * turn * turn ≤ 71486000000 * 1000000 := Int.mul_le_mul (by omega) (by omega) (by omega) (by omega)
  have b2 : 0 ≤ 71486 * turn * turn := Int.mul_nonneg (by omega) (by omega)
  generalize m * (2 * turn + 4099) = p at *
  generalize 71486 * turn * turn = r at *
  omega
theorem cell_at (cs : List Int) (turn d : Int) (h0 : 0 ≤ turn) : ∃ z, (cs.isEmpty = false → atI (cs.map V.int) (turn.fmod ((cs.map V.int).length : Int)) = some (.int z)) ∧ (cs.isEmpty = true → z = d) := by
  cases cs with
  | nil => exact ⟨d, fun h => (nomatch h), fun _ => rfl⟩
  | cons x r =>
    have hb := fmod_pos (a := turn) (b := (((x :: r).map V.int).length : Int)) (by rw [List.length_map, List.length_cons]; omega)
    obtain ⟨j, hj⟩ : ∃ j : Nat, turn.fmod (((x :: r).map V.int).length : Int) = (j : Int) := ⟨(turn.fmod (((x :: r).map V.int).length : Int)).toNat, by omega⟩
    rw [hj] at hb ⊢
    have hl : j < (x :: r).length := by
      rw [List.length_map] at hb
      omega
    refine ⟨(x :: r)[j], fun _ => atI_nat ?_, fun h => (nomatch h)⟩
    rw [List.getElem?_map, List.getElem?_eq_getElem hl]
    rfl
end

def spScoop : Sp := fun vs H Q _ => ∃ (t c : Addr) (many : Int) (n : Nat), vs = [.ref t, .int many] ∧ Tub H t c n ∧ n ≤ 1000000 ∧ 1 ≤ many ∧ many ≤ 100000 ∧
  ∀ r H', 0 ≤ r → r < many → Kept t H H' → Tub H' t c (n + 1) → Q (.int r) H'
section
variable {P : Program} {w : World} {K : PySem.W.Frag} {mg : Str → Option Value} {base : Heap}
theorem ok_scoop {f : Addr} {fd : FuncData} {k : Nat} (F : Fun K "_law_scoop" "_law_scoop" sScoop f fd) (mint : mg "int" = none) (mlen : mg "len" = none) (mabs : mg "abs" = none) : FnOk P w K mg base CX0 (k + 1) f fd ["tub", "many"] spScoop := by
  refine F.ok scScoop (fun vs H Q E h => ?_) (fun cdv A outer s H vs Q E hr h => ?_)
  · obtain ⟨t, c, m, n, rfl, _⟩ := h
    rfl
  · obtain ⟨t, c, many, n, rfl, hT, hn, hm1, hm2, q⟩ := h
    have nd := scScoop.nd
    refine ⟨_, pss_cons (ps_if (pt_cmpR op_gt (pe_ix ix_list (pv 0) pe_int (fun _ _ => rfl)) pe_int (nomark _))
        (pss_cons (ps_set (i := 2) nd rfl (.inl rfl) (pe_callTy call_int1 (by rfl) mint (by decide +kernel) (pa_cons (pe_ix ix_list (pv 0) pe_int (fun _ _ => rfl)) pa_nil)))
        (pss_cons (ps_asg (pe_op op_fdivN (pv 2) (pv 1)) (pg_sub (pv 0) pe_int set_list))
        (pss_one (ps_ret (pe_op op_modN (pe_callTy call_int1 (by rfl) mint (by decide +kernel) (pa_cons (pv 2) pa_nil)) (pv 1)))))) pss_nil)
      (pss_cons (ps_set (i := 3) nd rfl (.inl rfl) (pe_ix ix_list (pv 0) pe_int (fun _ _ => rfl)))
      (pss_cons (ps_asg (pe_op op_add (pv 3) pe_int) (pg_sub (pv 0) pe_int set_list))
      (pss_cons (ps_set (i := 4) nd rfl (.inl rfl) (pe_op op_add (pe_op op_mul pe_int (pv 3)) pe_int))
      (pss_cons (ps_if (pt_cmpR (op_neD hr.units) (pe_ix ix_list (pv 0) pe_int (fun _ _ => rfl)) (pe_lst pa_nil) (nomark _))
        (pss_one (ps_set (i := 4) nd rfl (.inl rfl) (pe_ix ix_list (pe_ix ix_list (pv 0) pe_int (fun _ _ => rfl)) (pe_op op_modN (pe_callTy call_int1 (by rfl) mint (by decide +kernel) (pa_cons (pv 3) pa_nil)) (pe_callB call_len_seq (by rfl) mlen PySem.boot_len (pa_cons (pe_ix ix_list (pv 0) pe_int (fun _ _ => rfl)) pa_nil))) (fun _ _ => rfl)))) pss_nil)
      (pss_cons (ps_if (PW.pt (pw_and (pt_cmpR op_lt (pv 3) (pe_callB call_len_seq (by rfl) mlen PySem.boot_len (pa_cons (pe_ix ix_list (pv 0) pe_int (fun _ _ => rfl)) pa_nil)) (nomark _)) (pw_and1 (pt_cmpR op_ge (pe_callB call_abs (by rfl) mabs (by decide +kernel) (pa_cons (pv 4) pa_nil)) (pe_op op_pow pe_int pe_int) (nomark _)))))
        (pss_cons (ps_set (i := 2) nd rfl (.inl rfl) (pe_op op_add (pe_op op_mul pe_int (pe_op op_sub (pe_callB call_abs (by rfl) mabs (by decide +kernel) (pa_cons (pv 4) pa_nil)) (pe_op op_pow pe_int pe_int))) (pe_callTy call_int1 (by rfl) mint (by decide +kernel) (pa_cons (pe_cmpR op_lt (pv 4) pe_int (nomark _)) pa_nil))))
        (pss_cons (ps_asg (pe_op op_fdivN (pv 2) (pv 1)) (pg_sub (pv 0) pe_int set_list))
        (pss_one (ps_ret (pe_op op_modN (pe_callTy call_int1 (by rfl) mint (by decide +kernel) (pa_cons (pv 2) pa_nil)) (pv 1)))))) pss_nil)
      (pss_cons (ps_set (i := 5) nd rfl (.inl rfl) (pe_op op_modN (pe_callTy call_int1 (by rfl) mint (by decide +kernel) (pa_cons (pe_op op_pow (pe_op op_add (pe_op op_add (pe_op op_modN (pe_callTy call_int1 (by rfl) mint (by decide +kernel) (pa_cons (pv 4) pa_nil)) pe_int) (pe_op op_mul pe_int (pv 3))) pe_int) pe_int) pa_nil)) pe_int))
      (pss_cons (ps_set (i := 5) nd rfl (.inl rfl) (pe_op op_modN (pe_callTy call_int1 (by rfl) mint (by decide +kernel) (pa_cons (pe_op op_pow (pe_op op_add (pe_op op_add (pe_op op_mul (pv 5) (pe_op op_add (pe_op op_mul pe_int (pv 3)) pe_int)) (pe_op op_mul (pe_op op_mul pe_int (pv 3)) (pv 3))) pe_int) pe_int) pa_nil)) pe_int))
      (pss_one (ps_ret (pe_op op_modN (pe_callTy call_int1 (by rfl) mint (by decide +kernel) (pa_cons (pe_op op_fdivN (pv 5) pe_int) pa_nil)) (pv 1))))))))))), ?_⟩
    obtain ⟨cs, turn, rest, ht, hc, hct, hcl, hu0, hun, hr0⟩ := hT
    have tubAt : ∀ {σ : L2.St} {H' : Hp} {j : Nat} {v : V} {xs : List V}, σ[0]? = some (some (.ref t)) → H' t = some (.lst xs) → xs[j]? = some v → Evl.Ev (tOp (rIxL K) (tVar 0) (tC (.int (j : Int)))) σ H' v :=
      fun hs h hv => Evl.ev_op (Evl.ev_var hs) Evl.ev_c (Evl.rv_ixL (Evl.sq_of h) (atI_nat hv))
    have turnS : turn ≤ 1000000 := by omega
    refine Evl.q_when (b := decide (0 < rest)) (Evl.et_test (Evl.ev_op (tubAt (j := 2) rfl ht rfl) Evl.ev_c Evl.rv_I0)) (fun hb H1 e1 => ?_) (fun hb H1 e1 => ?_)
    · refine Evl.q_asg (ev_int (tubAt (j := 2) rfl (e1 _ _ ht) rfl)) fun H2 e2 => ?_
      refine Evl.q_setL (l := t) (j := 2) (e2 _ _ (e1 _ _ ht)) (Evl.ev_op (Evl.ev_var rfl) (Evl.ev_var rfl) (Evl.rv_I ⟨by omega, by omega⟩)) (Evl.ev_var rfl) Evl.ev_c (by show 2 < 3; omega) fun H3 e3 => ?_
      refine Evl.s_ret (Evl.ev_op (ev_int (Evl.ev_var rfl)) (Evl.ev_var rfl) (Evl.rv_I (by omega))) fun H4 e4 => ?_
      have e13 := (e1.trans e2).trans e3
      refine q _ _ (fmod_pos hm1).1 (fmod_pos hm1).2 (((kept_ex e13).trans (Kept.upd t H3 _)).trans (kept_ex e4)) (Tub.ex ?_ e4)
      exact ⟨cs, turn, rest.fdiv many, upd_same, Kept.upd t H3 _ _ _ hct (e13 _ _ hc), hct, hcl, hu0, by omega, fdiv_pos hr0 hm1⟩
    · refine Evl.q_asg (tubAt (j := 1) rfl (e1 _ _ ht) rfl) fun H2 e2 => ?_
      refine Evl.q_setL (l := t) (j := 1) (e2 _ _ (e1 _ _ ht)) (Evl.ev_op (Evl.ev_var rfl) Evl.ev_c Evl.rv_I0) (Evl.ev_var rfl) Evl.ev_c (by show 1 < 3; omega) fun H3 e3 => ?_
      have e13 := (e1.trans e2).trans e3
      have k3 : Kept t H (upd H3 t (.lst [.ref c, .int (turn + 1), .int rest])) := (kept_ex e13).trans (Kept.upd t H3 _)
      have h3 : (upd H3 t (.lst [.ref c, .int (turn + 1), .int rest])) t = some (.lst [.ref c, .int (turn + 1), .int rest]) := upd_same
      show tSeq _ _ _ _ (upd H3 t (.lst [.ref c, .int (turn + 1), .int rest]))
      generalize upd H3 t (.lst [.ref c, .int (turn + 1), .int rest]) = H3' at k3 h3 ⊢
      have hc3 : H3' c = some (.lst (cs.map V.int)) := k3 _ _ hct hc
      obtain ⟨cell, z1, z2⟩ := cell_at cs turn (71486 * turn + 6927) hu0
      refine Evl.q_asg (Evl.ev_op (Evl.ev_op Evl.ev_c (Evl.ev_var rfl) (Evl.rv_I (.inl ⟨by omega, by omega⟩))) Evl.ev_c Evl.rv_I0) fun H4 e4 => ?_
      refine Evl.q_ifAsg (b := !cs.isEmpty) (v := .int cell) (Evl.et_test (ev_neNil (tubAt (j := 0) rfl (e4 _ _ h3) rfl) (Evl.sq_of (e4 _ _ hc3))))
        (fun hb => ?_) (fun hb => ?_) fun H5 e5 => ?_
      · have hce : cs.isEmpty = false := by
          cases hq : cs.isEmpty with
          | true => rw [hq] at hb; cases hb
          | false => rfl
        have hne : ((cs.map V.int).length : Int) ≠ 0 := by
          rw [List.length_map]
          cases cs with
          | nil => cases hce
          | cons x r => rw [List.length_cons]; omega
        exact Evl.ev_op (tubAt (j := 0) rfl (e4 _ _ h3) rfl) (Evl.ev_op (ev_int (Evl.ev_var rfl)) (Evl.ev_len (tubAt (j := 0) rfl (e4 _ _ h3) rfl) (Evl.sq_of (e4 _ _ hc3))) (Evl.rv_I hne)) (Evl.rv_ixL (Evl.sq_of (e4 _ _ hc3)) (z1 hce))
      · have hce : cs.isEmpty = true := by
          cases hq : cs.isEmpty with
          | true => rfl
          | false => rw [hq] at hb; cases hb
        rw [z2 hce]
        rfl
      have e35 := e4.trans e5
      have k5 : Kept t H H5 := k3.trans (kept_ex e35)
      have h5 := e35 _ _ h3
      have hc5 := e35 _ _ hc3
      clear e4 e5 e35 h3 hc3 k3 e1 e2 e3 e13
      refine Evl.q_when (Evl.et_and (Evl.et_test (Evl.ev_op (Evl.ev_var rfl) (Evl.ev_len (tubAt (j := 0) rfl h5 rfl) (Evl.sq_of hc5)) Evl.rv_I0)) fun _ => Evl.et_test (Evl.ev_op (ev_abs (Evl.ev_var rfl)) (Evl.ev_op Evl.ev_c Evl.ev_c (Evl.rv_I ⟨by decide, by decide, by decide⟩)) Evl.rv_I0)) (fun hb H6 e6 => ?_) (fun hb H6 e6 => ?_)
      · have hb2 := (Bool.and_eq_true_iff.mp hb).2
        have hbig : (10 : Int) ^ 18 ≤ (if cell < 0 then -cell else cell) := of_decide_eq_true hb2
        refine Evl.q_asg (Evl.ev_op (Evl.ev_op Evl.ev_c (Evl.ev_op (ev_abs (Evl.ev_var rfl)) (Evl.ev_op Evl.ev_c Evl.ev_c (Evl.rv_I ⟨by decide, by decide, by decide⟩)) Evl.rv_I0) (Evl.rv_I (.inl ⟨by decide, by decide⟩))) (ev_intB (Evl.ev_op (Evl.ev_var rfl) Evl.ev_c Evl.rv_I0)) Evl.rv_I0) fun H7 e7 => ?_
        have hr2 : (0 : Int) ≤ 2 * ((if cell < 0 then -cell else cell) - 10 ^ (18 : Int).toNat) + (if decide (cell < 0) = true then 1 else 0) := by
          have e18 : (18 : Int).toNat = 18 := rfl
          rw [e18]
          split <;> omega
        generalize (2 * ((if cell < 0 then -cell else cell) - 10 ^ (18 : Int).toNat) + (if decide (cell < 0) = true then 1 else 0) : Int) = rest2 at hr2 ⊢
        refine Evl.q_setL (l := t) (j := 2) (e7 _ _ (e6 _ _ h5)) (Evl.ev_op (Evl.ev_var rfl) (Evl.ev_var rfl) (Evl.rv_I ⟨by omega, by omega⟩)) (Evl.ev_var rfl) Evl.ev_c (by show 2 < 3; omega) fun H8 e8 => ?_
        refine Evl.s_ret (Evl.ev_op (ev_int (Evl.ev_var rfl)) (Evl.ev_var rfl) (Evl.rv_I (by omega))) fun H9 e9 => ?_
        have e68 := (e6.trans e7).trans e8
        refine q _ _ (fmod_pos hm1).1 (fmod_pos hm1).2 (((k5.trans (kept_ex e68)).trans (Kept.upd t H8 _)).trans (kept_ex e9)) (Tub.ex ?_ e9)
        exact ⟨cs, turn + 1, rest2.fdiv many, upd_same, Kept.upd t H8 _ _ _ hct (e68 _ _ hc5), hct, hcl, by omega, by omega, fdiv_pos hr2 hm1⟩
      · have c1 := fmod_pos (a := cell) (b := 2085743323) (by decide)
        refine Evl.q_asg (Evl.ev_op (ev_int (Evl.ev_op (Evl.ev_op (Evl.ev_op (Evl.ev_op (ev_int (Evl.ev_var rfl)) Evl.ev_c (Evl.rv_I (by decide))) (Evl.ev_op Evl.ev_c (Evl.ev_var rfl) (Evl.rv_I (.inl ⟨by decide, by decide⟩))) Evl.rv_I0) Evl.ev_c Evl.rv_I0) Evl.ev_c (Evl.rv_I ⟨by decide, by decide, mix_a c1.1 (by omega) hu0 turnS⟩))) Evl.ev_c (Evl.rv_I (by decide))) fun H7 e7 => ?_
        have m1 := fmod_pos (a := (cell.fmod 2085743323 + 32218 * turn + 6927) ^ (5 : Int).toNat) (b := 2078132557) (by decide)
        generalize ((cell.fmod 2085743323 + 32218 * turn + 6927) ^ (5 : Int).toNat).fmod 2078132557 = mx at m1 ⊢
        refine Evl.q_asg (Evl.ev_op (ev_int (Evl.ev_op (Evl.ev_op (Evl.ev_op (Evl.ev_op (Evl.ev_var rfl) (Evl.ev_op (Evl.ev_op Evl.ev_c (Evl.ev_var rfl) (Evl.rv_I (.inl ⟨by decide, by decide⟩))) Evl.ev_c Evl.rv_I0) (Evl.rv_I (.inl ⟨by omega, by omega⟩))) (Evl.ev_op (Evl.ev_op Evl.ev_c (Evl.ev_var rfl) (Evl.rv_I (.inl ⟨by decide, by decide⟩))) (Evl.ev_var rfl) (Evl.rv_I (.inl ⟨by omega, by omega⟩))) Evl.rv_I0) Evl.ev_c Evl.rv_I0) Evl.ev_c (Evl.rv_I ⟨by decide, by decide, mix_b m1.1 (by omega) hu0 turnS⟩))) Evl.ev_c (Evl.rv_I (by decide))) fun H8 e8 => ?_
        refine Evl.s_ret (Evl.ev_op (ev_int (Evl.ev_op (Evl.ev_var rfl) Evl.ev_c (Evl.rv_I ⟨by decide, by decide⟩))) (Evl.ev_var rfl) (Evl.rv_I (by omega))) fun H9 e9 => ?_
        have e69 := ((e6.trans e7).trans e8).trans e9
        exact q _ _ (fmod_pos hm1).1 (fmod_pos hm1).2 (k5.trans (kept_ex e69)) ⟨cs, turn + 1, rest, e69 _ _ h5, e69 _ _ hc5, hct, hcl, by omega, by omega, hr0⟩
end

theorem scPick : FnScope ["tub", "some"] ["tub", "some"] (defScope sPick) := ⟨rfl, rfl, rfl, by decide +kernel, rfl, by decide +kernel, by decide +kernel⟩
theorem scTub : FnScope ["script", "cell"] ["script"] (defScope sTub) := ⟨rfl, rfl, rfl, by decide +kernel, rfl, by decide +kernel, by decide +kernel⟩
/-- an item at a drawn place -/
theorem at_drawn {xs : List V} {r : Int} (h0 : 0 ≤ r) (h1 : r < (xs.length : Int)) : ∃ (j : Nat) (v : V), xs[j]? = some v ∧ atI xs r = some v := by
  obtain ⟨j, rfl⟩ : ∃ j : Nat, r = (j : Int) := ⟨r.toNat, by omega⟩
  have hj : j < xs.length := by omega
  exact ⟨j, xs[j], List.getElem?_eq_getElem hj, atI_nat (List.getElem?_eq_getElem hj)⟩
def spPick (K : PySem.W.Frag) : Sp := fun vs H Q _ => ∃ (t c l : Addr) (xs : List V) (n : Nat), vs = [.ref t, .ref l] ∧ Tub H t c n ∧ n < 1000000 ∧ l ≠ t ∧ SqL K H l xs ∧ 1 ≤ xs.length ∧ xs.length ≤ 10000 ∧
  ∀ (j : Nat) (v : V) (H' : Hp), xs[j]? = some v → Kept t H H' → Tub H' t c (n + 1) → Q v H'
/-- the drawer as it is made: new -/
def spTub (K : PySem.W.Frag) : Sp := fun vs H Q _ => ∃ (a : Addr) (ns : List Int), vs = [.ref a] ∧ SqL K H a (ns.map V.int) ∧ ns.length ≤ 1000 ∧ ∀ t c H', H t = none → H c = none → Same H H' → Tub H' t c 0 → Q (.ref t) H'
theorem given_all {α : Type} (ns : List α) (d : α) (f : α → V) : Evl.given ns.length (fun _ => true) (fun i => f (ns.getD i d)) = ns.map f := by
  unfold Evl.given
  rw [List.filter_eq_self.mpr (fun _ _ => rfl)]
  refine List.ext_getElem (by simp) fun i h1 h2 => ?_
  have h3 : i < ns.length := by simpa using h2
  simp [List.getD_eq_getElem?_getD, h3]
theorem erase_map : ∀ (l : List Int) (j : Nat), (l.map V.int).eraseIdx j = (l.eraseIdx j).map V.int
  | [], j => by simp
  | _ :: _, 0 => rfl
  | a :: r, j + 1 => by
    have ih := erase_map r j
    simp [ih]
/-! ### going on behind an argument, a list made, a call -/
theorem ret_lst {t : TA} {D : Ends} {σ : L2.St} {H : Hp} (h : t σ H fun xs H1 => xs.length ≤ sizeLine ∧ ∀ p, H1 p = none → D.rt (.ref p) (upd H1 p (.lst xs))) : tRet (tLst t) D σ H := h
theorem go_l {te : TE} {σ : L2.St} {H : Hp} {Q : VK} {xs : List V} (h : Evl.EvL te σ H xs) (k : ∀ p H1, H p = none → Evl.Ex H H1 → H1 p = some (.lst xs) → Q (.ref p) H1) : te σ H Q := h H (Evl.Ex.refl H) Q k
theorem go_v {te : TE} {σ : L2.St} {H : Hp} {Q : VK} {v : V} (h : Evl.Ev te σ H v) (k : ∀ H1, Evl.Ex H H1 → Q v H1) : te σ H Q := h H (Evl.Ex.refl H) Q k
theorem cons_l {ta : TE} {tr : TA} {σ : L2.St} {H : Hp} {Q : List V → Hp → Prop} {xs : List V} (h : Evl.EvL ta σ H xs) (k : ∀ p H1, H p = none → Evl.Ex H H1 → H1 p = some (.lst xs) → tr σ H1 fun vs H2 => Q (.ref p :: vs) H2) : tCons ta tr σ H Q := h H (Evl.Ex.refl H) _ k
theorem cons_v {ta : TE} {tr : TA} {σ : L2.St} {H : Hp} {Q : List V → Hp → Prop} {v : V} (h : Evl.Ev ta σ H v) (k : ∀ H1, Evl.Ex H H1 → tr σ H1 fun vs H2 => Q (v :: vs) H2) : tCons ta tr σ H Q := h H (Evl.Ex.refl H) _ k
theorem et_yes {σ : L2.St} {H : Hp} : Evl.EvT tYes σ H true := fun H1 _ _ q => q H1 (Evl.Ex.refl H1)
theorem cut60 (xs : List V) : cutV xs none (some 60) = xs.take 60 := by
  unfold cutV
  rw [HT.sIx_none, show HT.sIx xs.length xs.length (some 60) = min 60 xs.length from HT.sIx_nat _ _ 60, List.drop_zero, Nat.sub_zero]
  by_cases h : 60 ≤ xs.length
  · rw [Nat.min_eq_left h]
  · rw [Nat.min_eq_right (by omega), List.take_length, List.take_of_length_le (by omega)]
section
variable {P : Program} {w : World} {K : PySem.W.Frag} {mg : Str → Option Value} {base : Heap}
theorem ok_pick {f fS : Addr} {fd fdS : FuncData} {k : Nat} (F : Fun K "_law_pick" "_law_pick" sPick f fd) (FS : Fun K "_law_scoop" "_law_scoop" sScoop fS fdS) (GS : FnOk P w K mg base CX0 k fS fdS ["tub", "many"] spScoop) (bS : Binds K fdS ["tub", "many"] [])
    (gS : mg "_law_scoop" = some (.ref fS)) (mlen : mg "len" = none) : FnOk P w K mg base CX0 (k + 1) f fd ["tub", "some"] (spPick K) := by
  refine F.ok scPick (fun vs H Q E h => ?_) (fun cdv A outer s H vs Q E hr h => ?_)
  · obtain ⟨t, c, l, xs, n, rfl, _⟩ := h
    rfl
  · obtain ⟨t, c, l, xs, n, rfl, hT, hn, hlt, hS, h1, h2, q⟩ := h
    refine ⟨_, pss_one (ps_ret (pe_ix ix_list (pv 1) (pe_call GS hr (by rfl) gS FS.kp bS .nil pass0 (pa_cons (pv 0) (pa_cons (pe_callB call_len_seq (by rfl) mlen PySem.boot_len (pa_cons (pv 1) pa_nil)) pa_nil))) (fun _ _ => rfl))), ?_⟩
    refine ⟨.ref l, rfl, .ref t, rfl, .ref l, rfl, l, xs, rfl, .inl hS, t, c, (xs.length : Int), n, rfl, hT, by omega, by omega, by omega, fun r H' r0 r1 hk hT' => ?_⟩
    obtain ⟨j, v, hj, ha⟩ := at_drawn r0 r1
    exact ⟨l, xs, r, v, rfl, rfl, hk.seq hlt hS, ha, q j v H' hj hk hT'⟩
theorem ok_tub {f : Addr} {fd : FuncData} {k : Nat} (F : Fun K "_law_tub" "_law_tub" sTub f fd) (mint : mg "int" = none) : FnOk P w K mg base CX0 (k + 1) f fd ["script"] (spTub K) := by
  refine F.ok scTub (fun vs H Q E h => ?_) (fun cdv A outer s H vs Q E hr h => ?_)
  · obtain ⟨a, ns, rfl, _⟩ := h
    rfl
  · obtain ⟨a, ns, rfl, hS, hl, q⟩ := h
    have nd := scTub.nd
    refine ⟨_, pss_one (ps_ret (pe_lst (pa_cons (pe_lc (own := [("cell", 1)]) (g := gName 1) (tt := tYes) rfl nd (pi_list (pe_slice sl_list (pv 0) po_none (po_some pe_int))) (blkOk_by (N := ["script", "cell"]) (sc := defScope sTub) (by decide +kernel)) (fun _ _ _ _ _ => pg_name (i := 1) nd rfl (Or.inl rfl)) (fun _ _ _ _ _ => pts_nil) (fun _ _ _ _ _ => pe_callTy call_int1 (by rfl) mint (by decide +kernel) (pa_cons (pv 1) pa_nil))) (pa_cons pe_int (pa_cons pe_int pa_nil))))), ?_⟩
    have e0 : cutV (ns.map V.int) none (some 60) = (ns.take 60).map V.int := by rw [cut60, List.map_take]
    refine ret_lst (cons_l (Evl.el_lcNL (K := K) (H := H) (j := 1) (xs := (ns.take 60).map V.int) (fun _ => true) (fun i => V.int ((ns.take 60).getD i 0)) ?_ ?_ ?_ ?_ ?_) (fun p H1 hp e1 h1 => ?_))
    · rw [← e0]
      exact Evl.el_sl (Evl.ev_var rfl) Evl.eo_none (Evl.eo_some Evl.ev_c) hS
    · rw [List.length_map, List.length_take]
      omega
    · exact fun x => rfl
    · exact fun i x H1 _ _ => et_yes
    · intro i x H1 _ hx _
      have hx2 : x = V.int ((ns.take 60).getD i 0) := by
        rw [List.getElem?_map] at hx
        cases hz : (ns.take 60)[i]? with
        | none => rw [hz] at hx; cases hx
        | some z =>
          rw [hz] at hx
          rw [List.getD_eq_getElem?_getD, hz]
          exact (Option.some.inj hx).symm
      subst hx2
      exact ev_int (Evl.ev_var rfl)
    · rw [List.length_map, given_all (ns.take 60) 0 V.int] at h1
      refine ⟨by show 3 ≤ sizeLine; decide, fun t ht => ?_⟩
      refine q t p _ (Evl.fresh_back e1 ht) hp (fun b o hb => ?_) ⟨ns.take 60, 0, 0, upd_same, ?_, ne_of_none h1 ht, by rw [List.length_take]; omega, Int.le_refl _, Int.le_refl _, Int.le_refl _⟩
      · rw [upd_ne (ne_of_none (e1 _ _ hb) ht)]
        exact e1 _ _ hb
      · rw [upd_ne (ne_of_none h1 ht)]
        exact h1
end

end P38
end S_Nab
section S_Wf
namespace Hk
open PySem PySem.Spec PyProof.Rows L2
theorem args_minD (a v : Value) : argsOk "min" ⟨[a], [(Str.ofString "default", v)]⟩ := by unfold argsOk; kernel_rfl
section
variable {prog : Program} {w : World} {A : Around} {E : Value → Shared → Prop} {s : Shared}
/-- min of an empty list, with what is told for none -/
theorem min_none {l : Addr} {d : Value} {Q : Value → Shared → Prop} (hh : A.handled = none) (hl : s.heap.IsList l #[]) (k : ∀ h' tk, (∀ b o, s.heap.get? b = some o → h'.get? b = some o) → Q d { s with heap := h', toks := tk }) :
    wpAny (model prog w) A (call (.builtin "min") [.ref l] [(Str.ofString "default", d)]) Q E s := by
  refine PyProof.Rows.kmk_tree PySem.F.kind_min PySem.F.plain_min PySem.F.entry_min (args_minD _ _) ?_
  show wpAny _ A.in1 (Builtin.Builtins.bindParams "min" ["key", "default"] 0 ⟨[], [(Str.ofString "default", d)]⟩ >>= _) _ _ s
  refine wpAny_bind (wpAny_of_eq (show Builtin.Builtins.bindParams "min" ["key", "default"] 0 ⟨[], [(Str.ofString "default", d)]⟩ = pure [none, some d] from rfl) (wpAny_bind (wpAny_pure (wpAny_bind (wpAny_pyIter_list hl (wpAny_bind (wpAny_newList ?_ (Nat.zero_le _))))))))
  rw [show (toString "min" ++ toString ".loop" : String) = "min.loop" by decide]
  have ll : l < s.heap.objs.size := by
    obtain ⟨o, ho, _⟩ := hl
    exact Heap.lt_size ho
  refine wpAny_pure ⟨plainId_quiet PySem.F.plain_min_loop _, ?_⟩
  have up : ∀ b o, s.heap.get? b = some o → ((s.heap.push { cls := .type "list_iterator", data := .fields #[.ref l, .int 0 0] }).push (seqObj "list" #[] 0)).get? b = some o := fun b o e => Heap.get?_push_of_some _ (Heap.get?_push_of_some _ e)
  have gI : ((s.heap.push { cls := .type "list_iterator", data := .fields #[.ref l, .int 0 0] }).push (seqObj "list" #[] 0)).get? s.heap.objs.size = some { cls := .type "list_iterator", data := .fields #[.ref l, .int 0 0] } := Heap.get?_push_of_some _ (Heap.get?_push_size _ rfl)
  have gS : ((s.heap.push { cls := .type "list_iterator", data := .fields #[.ref l, .int 0 0] }).push (seqObj "list" #[] 0)).get? (s.heap.push { cls := .type "list_iterator", data := .fields #[.ref l, .int 0 0] }).objs.size = some (seqObj "list" #[] 0) := Heap.get?_push_size _ rfl
  refine codeAny_builtin PySem.F.entry_min_loop ?_
  rw [Around.under_plainId PySem.F.plain_min_loop _]
  refine wpAny_bind (wpAny_seqItems gS rfl (wpAny_bind (wpAny_tryCatch (wpAny_pyNext_list_end (i := 0) (items := #[]) hh ⟨_, gI, rfl, rfl⟩ (let ⟨o, ho, r⟩ := hl; ⟨o, up _ _ ho, r⟩) rfl fun h' ext => ?_))))
  show wpAny _ _ (do rule (toString "min" ++ toString ".default"); (ret d : Sem Fin)) _ _ _
  exact wpAny_bind (wpAny_rule (wpAny_pure (k _ _ fun b o e => ext b o (Nat.ne_of_lt (Heap.lt_size e)) (up b o e))))
end
def rMinN (K : PySem.W.Frag) : List V → List V → Hp → VK → Prop := fun xs zs H Q => ∃ (l : Addr) (z : V), xs = [.ref l] ∧ zs = [z] ∧ SqL K H l [] ∧ Q z H
theorem call_minN {X : Cx} (hc : X.calm = true) : CallRK X (.builtin "min") ["default"] (rMinN X.K) := by
  intro pins s σ H xs zs us ws Q I r r2 h
  obtain ⟨l, z, rfl, rfl, hS, q⟩ := h
  cases r with
  | cons rx rr =>
    cases rr
    cases rx
    cases r2 with
    | cons rz rr =>
      cases rr
      obtain ⟨its, rv, pl, hz⟩ := I.list hS
      have e : its = [] := by cases rv; rfl
      subst e
      exact min_none (I.ok.hd hc) pl.isList fun h' tk kp => ⟨z, H, I.kept (t' := tk) kp, rz, q⟩
end Hk
end S_Wf
section S_Wg
namespace Hk
open PySem PySem.Spec PyProof.Rows L2 Tl
section
open Evl
variable {K : PySem.W.Frag} {σ : L2.St} {H H' B : Hp} {ta tb te : TE} {x y z v : V}
theorem s_retN {te : TE} {D : Ends} {R : V → Hp → Prop} (h : EvN te σ H R) (k : ∀ v H1, Ex H H1 → (∀ H3, Ex H H3 → Since H H1 H3 → R v H3) → D.rt v H1) : tRet te D σ H := h H (Ex.refl H) D.rt k
theorem s_retB {te : TE} {D : Ends} {R : V → Hp → Prop} {B : Hp} (hB : Ex B H) (h : EvN te σ B R) (k : ∀ v H1, Ex H H1 → (∀ H3, Ex B H3 → Since H H1 H3 → R v H3) → D.rt v H1) : tRet te D σ H := h H hB D.rt k
theorem q_asgN {te : TE} {tz : TS} {i : Nat} {D : Ends} {R : V → Hp → Prop} {B : Hp} (hB : Ex B H) (h : EvN te σ B R) (k : ∀ v H1, Ex H H1 → (∀ H3, Ex B H3 → Since H H1 H3 → R v H3) → tz D (σ.set i (some v)) H1) : tSeq (tAsg te (gName i)) tz D σ H := h H hB _ k
def SpN (sp : Sp) (vs : List V) (H : Hp) (R : V → Hp → Prop) : Prop := ∀ H1, Ex H H1 → ∀ Q : VK, (∀ v H2, Ex H1 H2 → (∀ H3, Ex H H3 → Since H1 H2 H3 → R v H3) → Q v H2) → ∀ E : XK, sp vs H1 Q E
theorem en_call {sp : Sp} {dvs vs : List V} {E : XK} {ta : TA} {R : V → Hp → Prop} (h : EvA ta σ H vs) (hs : SpN sp (vs ++ dvs) H R) : EvN (tCall sp dvs E ta) σ H R := fun H1 e Q q =>
  h H1 e _ fun H2 e2 => hs H2 (e.trans e2) Q (fun v H3 e3 hv => q v H3 (e2.trans e3) fun H4 h4 s4 => hv H4 h4 fun a o ha hc => s4 a o (fresh_back e2 ha) hc) E
theorem en_tup {ta : TE} {a : Addr} {xs : List V} (h : Ev ta σ H (.ref a)) (hs : SqL K H a xs) : EvN (tCB (fun xs H Q => ∃ p ys, xs = [V.ref p] ∧ ((SqL K H p ys ∧ ∀ l, H l = none → Q (V.ref l) (upd H l (HO.tup ys))) ∨ (SqT K H p ys ∧ Q (V.ref p) H))) (tCons ta tNil)) σ H
    (fun u H' => ∃ t, u = .ref t ∧ H' t = some (.tup xs)) := fun H1 e Q q =>
  h H1 e _ fun H2 e2 => ⟨a, xs, rfl, .inl ⟨ex_l (e.trans e2) hs, fun t ht => q _ _ (e2.trans (Ex.new ht)) fun H3 _ s3 => ⟨t, rfl, s3 _ _ (fresh_back e2 ht) upd_same⟩⟩⟩
theorem ei_rng2c {σ : L2.St} {H : Hp} {ta : TA} {i j : Int} {n : Nat} (hn : (j - i).toNat = n) (h : Evl.EvA ta σ H [.int i, .int j]) (h0 : -100000 ≤ i ∧ i ≤ 100000) (h1 : -100000 ≤ j ∧ j ≤ 100000) : EvI (iRng2 ta) σ H n (YFn fun k => .int (i + k)) := by
  subst hn
  exact ei_rng2 h h0 h1
theorem ei_rng1c {σ : L2.St} {H : Hp} {ta : TA} {j : Int} {n : Nat} (hn : j.toNat = n) (h : Evl.EvA ta σ H [.int j]) (h0 : 0 ≤ j) (h1 : j ≤ 100000) : EvI (iRng1 ta) σ H n (YFn fun k => .int (0 + k)) := by
  subst hn
  exact ei_rng1 h h0 h1
end
end Hk
end S_Wg
section S_Nac
namespace P38
open PySem PySem.Spec PyProof.Rows L2 Tl Hk
/-- a value, and whether it is a list of integers within bounds -/
inductive RowR (K : PySem.W.Frag) (H : Hp) (lo hi : V) : V → Bool → Prop where
  | no {x : V} {n : String} (h : Ty7 K H x n) (h1 : n ≠ "list") (h2 : n ≠ "tuple") : RowR K H lo hi x false
  | lst {a : Addr} {xs : List V} (h : SqL K H a xs) (hl : xs.length ≤ 4000) (hi_ : ∀ v ∈ xs, ∃ n, Ty7 K H v n) : RowR K H lo hi (.ref a) (xs.all fun v => wi v lo hi)
  | tup {a : Addr} {xs : List V} (h : SqT K H a xs) (hl : xs.length ≤ 4000) (hi_ : ∀ v ∈ xs, ∃ n, Ty7 K H v n) : RowR K H lo hi (.ref a) (xs.all fun v => wi v lo hi)
theorem RowR.ex {K : PySem.W.Frag} {H H' : Hp} {lo hi x : V} {r : Bool} (h : RowR K H lo hi x r) (e : Evl.Ex H H') : RowR K H' lo hi x r := by
  cases h with
  | no h h1 h2 => exact .no (h.ex e) h1 h2
  | lst h hl hi => exact .lst (Evl.ex_l e h) hl fun v hv => (hi v hv).imp fun n hn => hn.ex e
  | tup h hl hi => exact .tup (Evl.ex_t e h) hl fun v hv => (hi v hv).imp fun n hn => hn.ex e
def spRow (K : PySem.W.Frag) : Sp := fun vs H Q _ => ∃ (x lo hi : V) (r : Bool), vs = [x, lo, hi] ∧ RowR K H lo hi x r ∧ Bnd lo ∧ Bnd hi ∧ ∀ H1, Evl.Ex H H1 → Q (.bl r) H1
theorem scRow : FnScope ["value", "least", "most", "item"] ["value", "least", "most"] (defScope sRow) := ⟨rfl, rfl, rfl, by decide +kernel, rfl, by decide +kernel, by decide +kernel⟩
section
variable {P : Program} {w : World} {K : PySem.W.Frag} {mg : Str → Option Value} {base : Heap}
theorem ok_row {f fW fL : Addr} {fd fdW fdL : FuncData} {k : Nat} (F : Fun K "is_row" "is_row" sRow f fd)
    (FW : Fun K "is_within" "is_within" sWithin fW fdW) (GW : FnOk P w K mg base CX0 k fW fdW ["value", "least", "most"] (spWithin K)) (bW : Binds K fdW ["value", "least", "most"] []) (gW : mg "is_within" = some (.ref fW))
    (FL : Fun K "is_list" "is_list" sList fL fdL) (GL : FnOk P w K mg base CX0 k fL fdL ["value"] (spList K)) (bL : Binds K fdL ["value"] []) (gL : mg "is_list" = some (.ref fL)) (mall : mg "all" = none) :
    FnOk P w K mg base CX0 (k + 1) f fd ["value", "least", "most"] (spRow K) := by
  refine F.ok scRow (fun vs H Q E h => ?_) (fun cdv A outer s H vs Q E hr h => ?_)
  · obtain ⟨x, lo, hi, r, rfl, _⟩ := h
    rfl
  · obtain ⟨x, lo, hi, r, rfl, h, hlo, hhi, q⟩ := h
    have nd := scRow.nd
    have isl : ∀ {n : String}, Ty7 K H x n → Evl.Ev (tCall (spList K) [] E0 (tCons (tVar 0) tNil)) (start ["value", "least", "most", "item"] [x, lo, hi]) H (.bl (decide (n = "list") || decide (n = "tuple"))) :=
      fun h7 => Evl.ev_call (Evl.ea_cons (Evl.ev_var rfl) Evl.ea_nil) (spv_list h7)
    have items : ∀ {H1 : Hp} {xs : List V} {i : Nat} {v : V}, Evl.Ex H H1 → (∀ v ∈ xs, ∃ n, Ty7 K H v n) → xs[i]? = some v → Evl.Ev (tCall (spWithin K) [] E0 (tCons (tVar 3) (tCons (tVar 1) (tCons (tVar 2) tNil)))) [none, some lo, some hi, some v] H1 (.bl (wi (xs.getD i .non) lo hi)) :=
      fun {H1 xs i v} e hi' hv => by
        obtain ⟨n, hn⟩ := hi' v (List.mem_of_getElem? hv)
        have ev : xs.getD i .non = v := by rw [List.getD_eq_getElem?_getD, hv]; rfl
        rw [ev]
        exact Evl.ev_call (Evl.ea_cons (Evl.ev_var rfl) (Evl.ea_cons (Evl.ev_var rfl) (Evl.ea_cons (Evl.ev_var rfl) Evl.ea_nil))) (spv_within (hn.ex e) hlo hhi)
    have ebs : ∀ xs : List V, Evl.given xs.length (fun _ => true) (fun i => V.bl (wi (xs.getD i .non) lo hi)) = (xs.map fun v => wi v lo hi).map V.bl := fun xs => by
      rw [given_all xs .non fun v => V.bl (wi v lo hi), List.map_map]
      rfl
    have eall : ∀ xs : List V, (true && (xs.map fun v => wi v lo hi).all id) = xs.all fun v => wi v lo hi := fun xs => by
      rw [Bool.true_and, List.all_map]
      rfl
    cases h with
    | @no x n h7 h1 h2 =>
      refine ⟨_, pss_one (ps_ret (pe_and (pe_call GL hr (by rfl) gL FL.kp bL .nil pass0 (pa_cons (pv 0) pa_nil)) (pe_one (pe_callB (cr_all rfl) (by rfl) mall (by decide +kernel) (pa_cons
          (pe_lc (own := [("item", 3)]) (g := gName 3) (tt := tYes) rfl nd (pi_list (pv 0)) (blkOk_by (N := ["value", "least", "most", "item"]) (sc := defScope sRow) (by decide +kernel)) (fun _ _ _ _ _ => pg_name (i := 3) nd rfl (Or.inl rfl)) (fun _ _ _ _ _ => pts_nil)
            (fun _ _ _ _ _ => pe_call GW (hr) (by rfl) gW FW.kp bW .nil pass0 (pa_cons (pv 3) (pa_cons (pv 1) (pa_cons (pv 2) pa_nil))))) pa_nil))))), ?_⟩
      have eb : (decide (n = "list") || decide (n = "tuple")) = false := by simp [h1, h2]
      exact Evl.s_ret (Evl.ev_is (Evl.ev_andV (b := false) (isl h7) fun z => by rw [eb] at z; cases z) (by rw [eb] <;> rfl)) q
    | @lst a xs hS hl hi0 =>
      refine ⟨_, pss_one (ps_ret (pe_and (pe_call GL hr (by rfl) gL FL.kp bL .nil pass0 (pa_cons (pv 0) pa_nil)) (pe_one (pe_callB (cr_all rfl) (by rfl) mall (by decide +kernel) (pa_cons
          (pe_lc (own := [("item", 3)]) (g := gName 3) (tt := tYes) rfl nd (pi_list (pv 0)) (blkOk_by (N := ["value", "least", "most", "item"]) (sc := defScope sRow) (by decide +kernel)) (fun _ _ _ _ _ => pg_name (i := 3) nd rfl (Or.inl rfl)) (fun _ _ _ _ _ => pts_nil)
            (fun _ _ _ _ _ => pe_call GW (hr) (by rfl) gW FW.kp bW .nil pass0 (pa_cons (pv 3) (pa_cons (pv 1) (pa_cons (pv 2) pa_nil))))) pa_nil))))), ?_⟩
      refine Evl.s_ret (Evl.ev_is (Evl.ev_andV (isl (.lst hS)) fun _ => ev_allN (bs := xs.map fun v => wi v lo hi) ?_) (congrArg V.bl (eall xs))) q
      rw [← ebs]
      exact Evl.el_lcL (fun _ => true) _ (Evl.ev_var rfl) hS (by omega) (fun _ => rfl) (fun _ _ _ _ _ => et_yes) fun i v H1 e1 hv _ => items e1 hi0 hv
    | @tup a xs hS hl hi0 =>
      refine ⟨_, pss_one (ps_ret (pe_and (pe_call GL hr (by rfl) gL FL.kp bL .nil pass0 (pa_cons (pv 0) pa_nil)) (pe_one (pe_callB (cr_all rfl) (by rfl) mall (by decide +kernel) (pa_cons
          (pe_lc (own := [("item", 3)]) (g := gName 3) (tt := tYes) rfl nd (pi_tup (pv 0)) (blkOk_by (N := ["value", "least", "most", "item"]) (sc := defScope sRow) (by decide +kernel)) (fun _ _ _ _ _ => pg_name (i := 3) nd rfl (Or.inl rfl)) (fun _ _ _ _ _ => pts_nil)
            (fun _ _ _ _ _ => pe_call GW (hr) (by rfl) gW FW.kp bW .nil pass0 (pa_cons (pv 3) (pa_cons (pv 1) (pa_cons (pv 2) pa_nil))))) pa_nil))))), ?_⟩
      refine Evl.s_ret (Evl.ev_is (Evl.ev_andV (isl (.tup hS)) fun _ => ev_allN (bs := xs.map fun v => wi v lo hi) ?_) (congrArg V.bl (eall xs))) q
      rw [← ebs]
      exact el_lcT (fun _ => true) _ (Evl.ev_var rfl) hS (by omega) (fun _ => rfl) (fun _ _ _ _ _ => et_yes) fun i v H1 e1 hv _ => items e1 hi0 hv
end
end P38
end S_Nac
section S_Wh
namespace Hk
open PySem PySem.Spec PyProof.Rows L2 LamX Tl
/-- a def called where no repr is under way, its code object known -/
theorem fn_gC {P : Program} {w : World} {K : PySem.W.Frag} {mg : Str → Option Value} {base : Heap} {x qual : Str} {st : Stmt} {f c : Addr} {fd : FuncData} {N ps : List Str} {k : Nat} {sp : Sp} (F : Fun K x qual st f fd) (hcode : fd.code = .ref c) (S : FnScope N ps (defScope st))
    (len : ∀ {vs H Q E}, sp vs H Q E → vs.length = ps.length)
    (hbody : ∀ (A : Around) (outer : List Env) (s : Shared) (H : Hp) (vs : List V) (Q : VK) (E : XK), A.guards = some [] → Room k (A.deeper (envOfC qual (defScope st) s.heap.objs.size f (.ref c))) → sp vs H Q E →
      ∃ t, PSs (cxOf CX0 P w K mg base N qual (defScope st) f (.ref c) A outer s H E).nox (defBody st) t ∧ t { nx := fun _ H' => Q .non H', rt := Q } (start N vs) H) : FnG P w K mg base (k + 1) f fd ps sp := by
  obtain ⟨oc, od, kV, doc, pm, an, cdv, ct, osl, rfl, lk, hcd⟩ := F.ex
  obtain rfl : cdv = .ref c := hcode
  refine ⟨len, fun {A outer s H args us vs Q E} hgd hr e0 hb r hsp => ?_⟩
  have kin : K.In s.heap := e0.mod.kin.keeps fun b o e => (e0.bs b o e).1
  have nl : s.heap.NoLimit := e0.mod.nolimit.keeps fun b o e => (e0.bs b o e).1
  refine codeAny_call_function hr.depth (kin _ _ lk) rfl S.co S.gen rfl (PySem.W.codeRec_of kin hcd) (hb _ _ _ _ (wpAny_newFunctionEnv_cells S.kind ?_ fun env he s1 x => ?_))
  · intro y hy
    have hp : y.1 ∈ ps := (List.of_mem_zip (a := y.1) (b := y.2) hy).1
    exact (S.par y.1 hp).imp id fun q => ⟨q, PySem.W.cellsFrom_some _ _ _ (.inl q)⟩
  · cases he
    obtain ⟨t, ht, hq⟩ := hbody A outer s H vs Q E hgd (hr.deeper _) hsp
    have I := inv_start (CX := CX0) (P := P) (w := w) (base := base) (E := E) (qual := qual) (f := f) (cd := .ref c) S hr.hd e0 (len hsp) r x
    refine ⟨nl.keeps x.toInCall.keep, codeAny_func (wpAny_mono (ht.nox.run [] s1 (start N vs) H _ I hq) (fun fl s' hs => ?_) fun _ _ hs => hs)⟩
    cases fl with
    | ret u =>
      obtain ⟨v, σ', H', J, rv, q⟩ := hs
      exact ⟨v, H', J.os, J.bare, J.base, J.hok, rv, q⟩
    | next =>
      obtain ⟨σ', H', J, q⟩ := hs
      exact ⟨.non, H', J.os, J.bare, J.base, J.hok, rfl, q⟩
    | brk => exact hs.elim fun _ h => h.elim fun _ h => h.2.elim
    | cont => exact hs.elim fun _ h => h.elim fun _ h => h.2.elim
theorem passF {X : Cx} {P : Program} {w : World} : Passes (L2.CX P w) X E0 := fun _ _ _ _ _ _ _ c => by
  obtain ⟨_, _, _, _, _, _, _, _, _, _, _, _, h⟩ := c
  exact h.elim
section
open Evl
variable {K : PySem.W.Frag} {σ : L2.St} {H H' : Hp} {ta tb te : TE}
theorem el_listT {p : Addr} {xs : List V} (ha : Ev ta σ H (.ref p)) (h : SqT K H p xs) : EvL (tCB (rListS K) (tCons ta tNil)) σ H xs := fun H1 e Q q =>
  ha H1 e _ fun H2 e2 => ⟨p, xs, rfl, .inr (ex_t (e.trans e2) h), fun l hl => q l _ (fresh_back e2 hl) (e2.trans (Ex.new hl)) upd_same⟩
theorem el_listU {xs : List V} (ha : EvU ta σ H xs) : EvL (tCB (rListS K) (tCons ta tNil)) σ H xs := fun H1 e Q q =>
  ha H1 e _ fun p H2 hp e2 h2 => ⟨p, xs, rfl, .inr (st_of h2), fun l hl => q l _ (fresh_back e2 hl) (e2.trans (Ex.new hl)) upd_same⟩
theorem ev_lenU {xs : List V} (ha : EvU ta σ H xs) : Ev (tCB (rLenS K) (tCons ta tNil)) σ H (.int (xs.length : Int)) := fun H1 e Q q =>
  ha H1 e _ fun p H2 _ e2 h2 => ⟨p, xs, rfl, .inr (st_of h2), q H2 e2⟩
/-- a tuple with these items, new or not -/
def EvTp (K : PySem.W.Frag) (te : TE) (σ : L2.St) (H : Hp) (xs : List V) : Prop := ∀ H1, Ex H H1 → ∀ Q : VK, (∀ p H2, Ex H1 H2 → SqT K H2 p xs → Q (.ref p) H2) → te σ H1 Q
theorem tp_u {xs : List V} (h : EvU te σ H xs) : EvTp K te σ H xs := fun H1 e Q q => h H1 e Q fun p H2 _ e2 h2 => q p H2 e2 (st_of h2)
theorem tp_slTo {th : TO} {a : Addr} {xs : List V} {n : Nat} (h : Ev te σ H (.ref a)) (h2 : EvO th σ H (some (n : Int))) (hs : SqT K H a xs) (hn : n ≤ xs.length) : EvTp K (tSl (rSlA K) te tNoPart th) σ H (xs.take n) := fun H1 e Q q =>
  h H1 e _ fun H2 e2 => h2 H2 (e.trans e2) _ fun H4 e4 => by
    have hh := ex_t ((e.trans e2).trans e4) hs
    have ec : cutV xs none (some (n : Int)) = xs.take n := by
      unfold cutV
      rw [HT.sIx_none, HT.sIx_nat, List.drop_zero, Nat.sub_zero, Nat.min_eq_left hn]
    refine ⟨a, xs, rfl, hh, fun hw => ?_, fun _ p hp => ?_⟩
    · have e1 := hw.2
      rw [HT.sIx_nat, Nat.min_eq_left hn] at e1
      refine q a H4 (e2.trans e4) ?_
      rw [e1, List.take_length]
      exact hh
    · rw [ec]
      exact q p _ ((e2.trans e4).trans (Ex.new hp)) (st_of upd_same)
/-- ints, as data -/
def dz (ns : List Int) : List PyData := ns.map PyData.int
theorem dp_z : ∀ (ns : List Int), DpAll K H (ns.map V.int) (dz ns)
  | [] => .nil
  | i :: r => .cons (.int i) (dp_z r)
theorem z_shT (ns : List Int) : SeqAt.shaped (.tuple (dz ns)) = true := by
  unfold dz
  simp [SeqAt.shaped, PyData.canLay0, PyData.depth, PySem.W.ke_canLayAll0, PySem.W.ke_depthAll]
theorem z_shL (ns : List Int) : SeqAt.shaped (.list (dz ns)) = true := PySem.W.ke_shaped_ints ns
theorem et_neTp {ns : List Int} (ha : EvTp K ta σ H (ns.map V.int)) (hb : EvTp K tb σ H (ns.map V.int)) : EvT (tTest (tOp (rNeD K) ta tb)) σ H false := fun H1 e Q q =>
  ha H1 e _ fun p H2 e2 h2 => hb H2 (e.trans e2) _ fun p3 H3 e3 h3 => by
    refine ⟨.tuple (dz ns), .tuple (dz ns), .tup (ex_t e3 h2) (dp_z ns), .tup h3 (dp_z ns), z_shT ns, z_shT ns, ?_⟩
    rw [SeqAt.eqv_refl _ (SeqAt.canLay_of_shaped (z_shT ns))]
    exact ⟨false, rfl, q H3 (e2.trans e3)⟩
theorem et_neLL {ns : List Int} (ha : EvL ta σ H (ns.map V.int)) (hb : EvL tb σ H (ns.map V.int)) : EvT (tTest (tOp (rNeD K) ta tb)) σ H false := fun H1 e Q q =>
  ha H1 e _ fun p H2 _ e2 h2 => hb H2 (e.trans e2) _ fun p3 H3 _ e3 h3 => by
    refine ⟨.list (dz ns), .list (dz ns), .lst (sq_of (e3 _ _ h2)) (dp_z ns), .lst (sq_of h3) (dp_z ns), z_shL ns, z_shL ns, ?_⟩
    rw [SeqAt.eqv_refl _ (SeqAt.canLay_of_shaped (z_shL ns))]
    exact ⟨false, rfl, q H3 (e2.trans e3)⟩
theorem piled_le : ∀ {ts : List Str} {c : Nat}, (∀ t ∈ ts, t.length ≤ c) → piled ts ≤ ts.length * (c + 2)
  | [], c, _ => Nat.zero_le _
  | t :: r, c, h => by
    have h1 := h t List.mem_cons_self
    have h2 := piled_le (ts := r) (c := c) fun u hu => h u (List.mem_cons_of_mem _ hu)
    rw [List.length_cons, Nat.succ_mul]
    show t.length + 2 + piled r ≤ _
    omega
theorem listText_le {ts : List Str} {c : Nat} (h : ∀ t ∈ ts, t.length ≤ c) : (listText ts).length ≤ ts.length * (c + 2) + 3 := by
  have hp := piled_le h
  unfold listText
  rw [strLen_append, show (("]" : String) : Str).length = 1 from rfl]
  cases ts with
  | nil =>
    show ((("[" : String) : Str)).length + 1 ≤ _
    rw [show (("[" : String) : Str).length = 1 from rfl]
    omega
  | cons t r =>
    show (textFrom (0 + 1) _ r).length + 1 ≤ _
    rw [textFrom_length_pos r (0 + 1) _ (by decide), strLen_append, strLen_append, show (("[" : String) : Str).length = 1 from rfl]
    have e2 : (((if 0 > 0 then ", " else "" : String)) : Str).length = 0 := rfl
    rw [e2]
    have e3 : piled (t :: r) = t.length + 2 + piled r := piled_cons t r
    omega
theorem shownAll_eq : ∀ ds : List PyData, PyData.shownAll ds = ds.map PyData.shown
  | [] => rfl
  | d :: r => by rw [PyData.shownAll, shownAll_eq r] <;> rfl
theorem z_len {ns : List Int} {b : Nat} (h1 : ns.length ≤ 10000) (h2 : ∀ x ∈ ns, x.natAbs ≤ 64) : (PyData.list (dz ns)).shown.length ≤ sizeLine := by
  show (listText (PyData.shownAll (dz ns))).length ≤ _
  rw [shownAll_eq]
  have := listText_le (ts := (dz ns).map PyData.shown) (c := 66) fun u hu => by
    unfold dz at hu
    rw [List.map_map] at hu
    obtain ⟨x, hx, rfl⟩ := List.mem_map.mp hu
    have b1 := len_str_of_int x
    have b2 := h2 x hx
    show (Str.ofString (toString x)).length ≤ 66
    omega
  rw [List.length_map] at this
  unfold dz at this
  rw [List.length_map] at this
  have h3 : ns.length * (66 + 2) ≤ 10000 * 68 := Nat.mul_le_mul h1 (Nat.le_refl _)
  rw [sizeLine_eq]
  unfold dz
  omega
theorem z_show : ∀ {ns : List Int}, (∀ x ∈ ns, x.natAbs ≤ 64) → PyData.showableAll (dz ns) = true
  | [], _ => rfl
  | x :: r, h => by
    show (decide (x.natAbs.log2 < 1920) && PyData.showableAll (dz r)) = true
    rw [z_show fun y hy => h y (List.mem_cons_of_mem _ hy), Bool.and_true]
    have h1 := h x List.mem_cons_self
    exact decide_eq_true (Nat.lt_of_le_of_lt (Nat.log2_le_self _) (by omega))
theorem z_nd : ∀ ns : List Int, PyData.hasDictAll (dz ns) = false
  | [] => rfl
  | x :: r => by show (false || PyData.hasDictAll (dz r)) = false; rw [z_nd r] <;> rfl
theorem z_deep (ns : List Int) : (PyData.list (dz ns)).depth ≤ 20 := by
  unfold dz
  simp [PyData.depth, PySem.W.ke_depthAll]
/-- repr of a new list of small ints -/
theorem ev_reprZ {ns : List Int} (h : EvL te σ H (ns.map V.int)) (h1 : ns.length ≤ 10000) (h2 : ∀ x ∈ ns, x.natAbs ≤ 64) : Ev (tCB (rRepr K) (tCons te tNil)) σ H (.str (PyData.list (dz ns)).shown) := fun H1 e Q q =>
  h H1 e _ fun p H2 _ e2 h2' => ⟨p, _, rfl, .lst (sq_of h2') (dp_z ns), z_show h2, z_nd ns, z_deep ns, z_len (b := 0) h1 h2, q H2 e2⟩
theorem et_neStr {z : Str} (h1 : Ev ta σ H (.str z)) (h2 : Ev tb σ H (.str z)) : EvT (tTest (tOp rNe ta tb)) σ H false :=
  et_is (et_test (ev_op h1 h2 (rv_ne rfl))) (by rw [decide_eq_true rfl] <;> rfl)
end
end Hk
end S_Wh
section S_Wj
namespace Hk
open PySem PySem.Spec PyProof.Rows L2 Tl RZ
theorem walk_zipT {K : PySem.W.Frag} {a b : Addr} {xs ys : List V} {n : Nat} (hn : n = min xs.length ys.length) : Walk (ItzT K a b) n (fun H => SqT K H a xs ∧ SqT K H b ys) (YPair (fun i => xs[i]?) (fun i => ys[i]?)) := by
  subst hn
  refine ⟨fun i _ hi ⟨q1, q2⟩ => ?_, fun _ ⟨q1, q2⟩ => ⟨xs, ys, q1, q2, by omega⟩, fun i H v H' _ ⟨q1, q2⟩ ⟨T, x, z, z1, z2, z3, z4, z5⟩ => ⟨T, x, z, z1, z2, z3, z4 xs q1, z5 ys q2⟩⟩
  have l1 : i < xs.length := by omega
  have l2 : i < ys.length := by omega
  exact ⟨xs, ys, xs[i], ys[i], q1, q2, by simp [l1], by simp [l2]⟩
theorem aims_pair {K : PySem.W.Frag} {xs ys : List V} {n j1 j2 : Nat} : Aims (gTup K 2 (gCons (gName j1) (gCons (gName j2) gNil))) n (YPair (fun i => xs[i]?) (fun i => ys[i]?))
    (fun i σ => (σ.set j1 (some (xs.getD i .non))).set j2 (some (ys.getD i .non))) := fun i σ H v H' hi y => by
  obtain ⟨T, x, y, rfl, hT, rfl, h1, h2⟩ := y
  have h1 : xs[i]? = some x := h1
  have h2 : ys[i]? = some y := h2
  obtain rfl : xs.getD i .non = x := by rw [List.getD_eq_getElem?_getD, h1]; rfl
  obtain rfl : ys.getD i .non = y := by rw [List.getD_eq_getElem?_getD, h2]; rfl
  exact ⟨Evl.Ex.new hT, fun Q q => ⟨T, _, rfl, Evl.st_of upd_same, rfl, _, _, rfl, _, _, rfl, rfl, q⟩⟩
section
open Evl
variable {K : PySem.W.Frag} {σ : L2.St} {H : Hp} {ta tb te : TE}
theorem ei_zipL {a : Addr} {xs ys : List V} {n : Nat} (hn : n = min xs.length ys.length) (h : Ev ta σ H (.ref a)) (hx : SqL K H a xs) (h2 : EvL tb σ H ys) : EvI (iZipA K (tCons ta (tCons tb tNil))) σ H n (YPair (fun i => xs[i]?) (fun i => ys[i]?)) := fun H1 e R k =>
  h H1 e _ fun H2 e2 => h2 H2 (e.trans e2) _ fun p H3 hp e3 h3 => ⟨a, p, xs, ys, rfl, .inl ⟨ex_l ((e.trans e2).trans e3) hx, sq_of h3, k _ _ H3 (e2.trans e3) (walk_zip hn) fun A ab s => ⟨ex_l ab hx, sq_of (s p _ (fresh_back e2 hp) h3)⟩⟩⟩
theorem ei_zipT {a : Addr} {xs ys : List V} {n : Nat} (hn : n = min xs.length ys.length) (h : Ev ta σ H (.ref a)) (hx : SqT K H a xs) (h2 : EvU tb σ H ys) : EvI (iZipA K (tCons ta (tCons tb tNil))) σ H n (YPair (fun i => xs[i]?) (fun i => ys[i]?)) := fun H1 e R k =>
  h H1 e _ fun H2 e2 => h2 H2 (e.trans e2) _ fun p H3 hp e3 h3 => ⟨a, p, xs, ys, rfl, .inr ⟨ex_t ((e.trans e2).trans e3) hx, st_of h3, k _ _ H3 (e2.trans e3) (walk_zipT hn) fun A ab s => ⟨ex_t ab hx, st_of (s p _ (fresh_back e2 hp) h3)⟩⟩⟩
/-- a tuple's items from the second on: a new tuple -/
theorem eu_slFrom1 {tl : TO} {a : Addr} {xs : List V} (h : Ev te σ H (.ref a)) (h2 : EvO tl σ H (some (1 : Int))) (hs : SqT K H a xs) (hn : 1 ≤ xs.length) : EvU (tSl (rSlA K) te tl tNoPart) σ H (xs.drop 1) := fun H1 e Q q =>
  h H1 e _ fun H2 e2 => h2 H2 (e.trans e2) _ fun H4 e4 => by
    have ec : cutV xs (some ((1 : Nat) : Int)) none = xs.drop 1 := by
      unfold cutV
      rw [HT.sIx_nat, HT.sIx_none, Nat.min_eq_left hn, List.take_of_length_le (by rw [List.length_drop]; omega)]
    refine ⟨a, xs, rfl, ex_t ((e.trans e2).trans e4) hs, fun hw => ?_, fun _ p hp => ?_⟩
    · have e1 := hw.1
      rw [show (1 : Int) = ((1 : Nat) : Int) from rfl, HT.sIx_nat, Nat.min_eq_left hn] at e1
      exact absurd e1 (by decide)
    · rw [show (1 : Int) = ((1 : Nat) : Int) from rfl, ec]
      exact q p _ (fresh_back (e2.trans e4) hp) ((e2.trans e4).trans (Ex.new hp)) upd_same
end
section
variable {t : TT} {tu tw : TS} {D : Ends} {σ : L2.St} {H : Hp}
/-- a for over a range that may be empty, its bound below 0 -/
theorem s_forR1n {ta : TA} {j : Nat} {n : Int} (h : Evl.EvA ta σ H [.int n]) (hn : -100000 ≤ n ∧ n ≤ 100000) (Pv : Nat → L2.St → Hp → Prop) (h0 : ∀ H1, Evl.Ex H H1 → Pv 0 σ H1)
    (hs : ∀ (i : Nat) σ' H', (i : Int) < n → Pv i σ' H' → tu { D with nx := Pv (i + 1), ct := Pv (i + 1), bk := D.nx } (σ'.set j (some (.int (i : Int)))) H') (hd : ∀ σ' H', Pv n.toNat σ' H' → D.nx σ' H') : tFor (iRng1 ta) (gName j) tu D σ H :=
  h H (Evl.Ex.refl H) _ fun G e => ⟨n, rfl, by omega, by omega, for_range (lo := 0) (n := n.toNat) Pv (h0 G e) (fun i σ1 G1 hi p => by
    have z : (0 : Int) + (i : Int) = (i : Int) := Int.zero_add _
    show tu { D with nx := Pv (i + 1), ct := Pv (i + 1), bk := D.nx } (σ1.set j (some (.int ((0 : Int) + (i : Int))))) G1
    rw [z]
    exact hs i σ1 G1 (by omega) p) hd⟩
theorem q_forR1n {tz : TS} {ta : TA} {j : Nat} {n : Int} (h : Evl.EvA ta σ H [.int n]) (hn : -100000 ≤ n ∧ n ≤ 100000) (Pv : Nat → L2.St → Hp → Prop) (h0 : ∀ H1, Evl.Ex H H1 → Pv 0 σ H1)
    (hs : ∀ (i : Nat) σ' H', (i : Int) < n → Pv i σ' H' → tu { D with nx := Pv (i + 1), ct := Pv (i + 1), bk := tz D } (σ'.set j (some (.int (i : Int)))) H') (hd : ∀ σ' H', Pv n.toNat σ' H' → tz D σ' H') : tSeq (tFor (iRng1 ta) (gName j) tu) tz D σ H :=
  s_forR1n (D := { D with nx := tz D }) h hn Pv h0 hs hd
end
end Hk
end S_Wj
section S_Wl
namespace Hk
open PySem PySem.Spec PyProof.Rows L2 Tl
theorem cutAt (xs : List V) {b h : Nat} (hl : b + h ≤ xs.length) : cutV xs (some (b : Int)) (some ((b + h : Nat) : Int)) = (xs.drop b).take h := by
  unfold cutV
  rw [HT.sIx_nat, HT.sIx_nat, Nat.min_eq_left hl, Nat.min_eq_left (by omega), show b + h - b = h by omega]
section
open Evl
variable {K : PySem.W.Frag} {σ : L2.St} {H : Hp} {ta tb : TE}
def zD (ns : List Int) : List PyData := ns.map PyData.int
theorem dp_zD : ∀ (ns : List Int), DpAll K H (ns.map V.int) (zD ns)
  | [] => .nil
  | i :: r => .cons (.int i) (dp_zD r)
theorem eqv_zD (ns ms : List Int) : PyData.eqv (.list (zD ns)) (.list (zD ms)) = decide (ns = ms) := PySem.W.Datum.eqv (α := List Int) ns ms
/-- two new lists of ints, alike or not -/
theorem ev_eqLL {ns ms : List Int} (ha : EvL ta σ H (ns.map V.int)) (hb : EvL tb σ H (ms.map V.int)) : Ev (tOp (rEqD K) ta tb) σ H (.bl (decide (ns = ms))) :=
  ev_opLL ha hb fun p q H1 h1 h2 _ => fun H2 e2 Q k => by
    refine ⟨.list (zD ns), .list (zD ms), .lst (sq_of (e2 _ _ h1)) (dp_zD ns), .lst (sq_of (e2 _ _ h2)) (dp_zD ms), PySem.W.ke_shaped_ints ns, PySem.W.ke_shaped_ints ms, ?_⟩
    rw [eqv_zD]
    exact k H2 (Ex.refl H2)
end
end Hk
namespace Hk
open PySem PySem.Spec PyProof.Rows L2 Tl
section
open Evl
variable {K : PySem.W.Frag} {σ : L2.St} {H : Hp} {ta tb te : TE} {t : TT}
/-- a comprehension over anything that is walked, with a test: the turns that give, and what -/
theorem el_lcI {wi : TI} {g : TG} {vs : List Nat} {n : Nat} {Y : Nat → Hp → V → Hp → Prop} {s : Nat → L2.St → L2.St} (f : Nat → Bool) (v : Nat → V) (hw : EvI wi σ H n Y) (aim : Aims g n Y s) (hs : ∀ i, wipe (s i (wipe σ vs)) vs = wipe σ vs) (hn : n ≤ 40000)
    (ht : ∀ i H1, Ex H H1 → i < n → EvT t (s i (wipe σ vs)) H1 (f i)) (he : ∀ i H1, Ex H H1 → i < n → f i = true → Ev te (s i (wipe σ vs)) H1 (v i)) : EvL (tLc wi g t te vs) σ H (given n f v) := fun H1 e Q q =>
  hw H1 e _ fun J G H2 e2 w sG D hD => lc_it w (Cw H2 f v D) ⟨hD, Ex.new hD, upd_same⟩ (fun i H' _ p => sG H' ((e.trans e2).trans p.2.1) fun a o _ ha => p.2.1 _ _ ha)
    (fun i x A B hi p y => by
      obtain ⟨ab, k⟩ := aim i (wipe σ vs) A x B hi y
      exact k _ ⟨hs i, cw_turn ⟨p.1, p.2.1.trans ab, ab _ _ p.2.2⟩ (by omega) (ht i H2 (e.trans e2) hi) fun hf => he i H2 (e.trans e2) hi hf⟩)
    (fun H' p => q D H' (fresh_back e2 p.1) (e2.trans p.2.1) p.2.2)
theorem el_catN {xs ys : List V} (ha : EvL ta σ H xs) (hb : EvL tb σ H ys) (hz : xs.length + ys.length ≤ 100000) : EvL (tOp rCat ta tb) σ H (xs ++ ys) := fun H1 e Q q =>
  ha H1 e _ fun a H2 ha' e2 h2 => hb H2 (e.trans e2) _ fun p H3 _ e3 h3 => ⟨a, p, xs, ys, rfl, rfl, e3 _ _ h2, h3, sz_of hz, fun r hr => q r _ (fresh_back (e2.trans e3) hr) ((e2.trans e3).trans (Ex.new hr)) upd_same⟩
end
theorem yes_at {σ : L2.St} {H : Hp} {P R : Hp → Prop} (h : P H) : tYes σ H fun b H3 => if b = true then P H3 else R H3 := by
  show (if true = true then P H else R H)
  rw [if_pos rfl]
  exact h
theorem if_go {b : Bool} {P R : Prop} (h1 : b = true → P) (h2 : b = false → R) : if b = true then P else R := by
  cases b with
  | true => rw [if_pos rfl]; exact h1 rfl
  | false => rw [if_neg (by decide)]; exact h2 rfl
theorem cutTo' (xs : List V) (n : Nat) : cutV xs none (some (n : Int)) = xs.take n := by
  unfold cutV
  rw [HT.sIx_none, HT.sIx_nat, List.drop_zero, Nat.sub_zero]
  by_cases h : n ≤ xs.length
  · rw [Nat.min_eq_left h]
  · rw [Nat.min_eq_right (by omega), List.take_length, List.take_of_length_le (by omega)]
theorem cutFrom (xs : List V) (n : Nat) : cutV xs (some (n : Int)) none = xs.drop n := by
  unfold cutV
  rw [HT.sIx_nat, HT.sIx_none]
  by_cases h : n ≤ xs.length
  · rw [Nat.min_eq_left h, List.take_of_length_le (by rw [List.length_drop]; omega)]
  · rw [Nat.min_eq_right (by omega), Nat.sub_self, List.take_zero, List.drop_of_length_le (by omega)]
end Hk
namespace Hk
open PySem PySem.Spec PyProof.Rows L2 Tl
section
open Evl
variable {K : PySem.W.Frag} {σ : L2.St} {H : Hp} {ta tb te : TE} {t : TT}
theorem el_catNV {m : Addr} {xs ys : List V} (ha : EvL ta σ H xs) (hb : Ev tb σ H (.ref m)) (hm : H m = some (.lst ys)) (hz : xs.length + ys.length ≤ 100000) : EvL (tOp rCat ta tb) σ H (xs ++ ys) := fun H1 e Q q =>
  ha H1 e _ fun a H2 ha' e2 h2 => hb H2 (e.trans e2) _ fun H3 e3 => ⟨a, m, xs, ys, rfl, rfl, e3 _ _ h2, e3 _ _ (e2 _ _ (e _ _ hm)), sz_of hz, fun r hr => q r _ (fresh_back (e2.trans e3) hr) ((e2.trans e3).trans (Ex.new hr)) upd_same⟩
theorem el_rg1 {j : Int} (ha : Ev ta σ H (.int j)) (h : RgOk 0 j) : EvL (tLstRg (tRg1 ta)) σ H (rgV 0 j) := fun H1 e Q q =>
  ha H1 e _ fun H2 e2 => ⟨j, rfl, h, fun p hp => q p _ (fresh_back e2 hp) (e2.trans (Ex.new hp)) upd_same⟩
end
end Hk
namespace Hk
open PySem PySem.Spec PyProof.Rows L2 LamX Tl
theorem tupText_le {ts : List Str} {c : Nat} (h : ∀ t ∈ ts, t.length ≤ c) : (tupleText ts).length ≤ ts.length * (c + 2) + 3 := by
  unfold tupleText
  rw [strLen_append, strLen_append]
  have e1 : (("(" : String) : Str).length = 1 := rfl
  have e2 : (((if ts.length == 1 then ",)" else ")" : String)) : Str).length ≤ 2 := by split <;> decide
  have e3 : (Str.join ", " ts).length ≤ piled ts := by
    cases ts with
    | nil => exact Nat.le_refl _
    | cons t r => have := join_length_add (t :: r) (by simp); omega
  have := piled_le h
  omega
theorem z_lenT {ns : List Int} {c : Nat} (h1 : ns.length * (c + 4) ≤ 100000) (h2 : ∀ x ∈ ns, x.natAbs ≤ c) : (PyData.tuple (dz ns)).shown.length ≤ sizeLine := by
  show (tupleText (PyData.shownAll (dz ns))).length ≤ _
  rw [shownAll_eq]
  have := tupText_le (ts := (dz ns).map PyData.shown) (c := c + 2) fun u hu => by
    unfold dz at hu
    rw [List.map_map] at hu
    obtain ⟨x, hx, rfl⟩ := List.mem_map.mp hu
    have b1 := len_str_of_int x
    have b2 := h2 x hx
    show (Str.ofString (toString x)).length ≤ c + 2
    omega
  rw [List.length_map] at this
  unfold dz at this
  rw [List.length_map] at this
  have h3 : ns.length * (c + 2 + 2) ≤ 100000 := h1
  rw [sizeLine_eq]
  unfold dz
  omega
theorem z_showB {b : Nat} (hb : b < 2 ^ 1000) : ∀ {ns : List Int}, (∀ x ∈ ns, x.natAbs ≤ b) → PyData.showableAll (dz ns) = true
  | [], _ => rfl
  | x :: r, h => by
    show (decide (x.natAbs.log2 < 1920) && PyData.showableAll (dz r)) = true
    rw [z_showB hb fun y hy => h y (List.mem_cons_of_mem _ hy), Bool.and_true]
    have h1 := h x List.mem_cons_self
    refine decide_eq_true ?_
    by_cases z : x.natAbs = 0
    · rw [z]; decide
    · have := (Nat.log2_lt z (k := 1000)).mpr (by omega)
      omega
theorem z_deepT (ns : List Int) : (PyData.tuple (dz ns)).depth ≤ 20 := by
  unfold dz
  simp [PyData.depth, PySem.W.ke_depthAll]
/-- repr of data at an address, or of None -/
def rReprB (K : PySem.W.Frag) : List V → Hp → VK → Prop := fun xs H Q => rRepr K xs H Q ∨ (xs = [.non] ∧ Q (.str "None") H)
theorem call_reprB {X : Cx} (hg : X.A.guards = some []) (hu : X.A.units + 64 < cLine) : CallR X (.builtin "repr") (rReprB X.K) := by
  intro pins s σ H xs us Q I r h
  rcases h with h | ⟨rfl, q⟩
  · exact call_reprD hg hu _ _ _ _ _ _ _ I r h
  · obtain ⟨u, rfl, ru⟩ := vals1 r
    cases ru
    exact PySem.P.repr_of_none ⟨.str "None", H, I.tok _, ⟨_, rfl⟩, q⟩
end Hk
end S_Wl
section S_Wm
namespace Hk
open PySem PySem.Spec PyProof.Rows L2 Tl
/-- a set without items, as set() lays it -/
abbrev zO (w : World) : Obj := { cls := .type "set", dict := none, data := .set #[] 0 (.fresh 0 0 (!w.params.followText "set-order")) }
/-- what comes of set(l), l a list of these ints -/
def Got (w : World) (s : Shared) (ns : List Int) (r : Value) (s2 : Shared) : Prop := r = .ref s.heap.objs.size ∧ ∃ (h' : Heap) (tk c : Nat), s2 = { s with heap := h', toks := tk } ∧ SetR w h' s.heap.objs.size (fun j => decide (j ∈ ns)) c ∧ c ≤ ns.length ∧ ∀ b o, s.heap.get? b = some o → h'.get? b = some o
section
variable {P : Program} {w : World} {A : Around} {E : Value → Shared → Prop} {s : Shared}
set_option maxHeartbeats 3200000 in
theorem fill_list {l : Addr} {its : Array Value} {ns : List Int} (a0 : A.handled = none) (hl : s.heap.IsList l its) (hi : IntsAre its.toList ns) (hb : ns.length + 1 < scanBound) :
    codeAny (model P w) A (.call (.builtin "set.__init__") ⟨[.ref s.heap.objs.size, .ref l], []⟩) (wants (fun r s2 => r = .none ∧ Got w s ns (.ref s.heap.objs.size) s2) E) { s with heap := s.heap.push (zO w) } := by
  have n1 : its.size = ns.length := by
    have z := IntsAre.length hi
    rwa [Array.length_toList] at z
  have g0 : (s.heap.push (zO w)).get? s.heap.objs.size = some (zO w) := Heap.get?_push_size _ rfl
  refine codeAny_call_builtin (R := wants (fun r s2 => r = .none ∧ Got w s ns (.ref s.heap.objs.size) s2) E) F.called_set.init.plain F.entry_set_init (check_set_init_1 (s := { s with heap := s.heap.push (zO w) }) ⟨_, g0, rfl⟩ ?_)
  obtain ⟨⟨oc, od, ob, osl⟩, o1, o2, nl, o3⟩ := hl
  simp only at o2 o3
  subst o2
  subst o3
  have g1 := Heap.get?_push_of_some (zO w) o1
  have hls : (s.heap.push (zO w)).IsList l its := ⟨_, g1, rfl, nl, rfl⟩
  have k1 := F.sub_list_set
  have k2 := F.sub_list_frozenset
  have k3 : (Value.type "list" == Value.type "dict") = false := by decide
  unfold Builtin.«set.__init__» noKeywords Builtin.Frozenset.updateFrom
  generalize hPI : pyIter = PI
  wp_walk
  subst hPI
  refine wpAny_pyIter_list hls (wpAny_bind (wpAny_runValue ?_))
  have lS : l < s.heap.objs.size := Heap.lt_size o1
  have sz : (s.heap.push (zO w)).objs.size = s.heap.objs.size + 1 := Heap.size_push ..
  have a3 : A.in1.in1.handled = none := by simp [a0]
  have nI : l ≠ (s.heap.push (zO w)).objs.size := by
    rw [sz]
    exact Nat.ne_of_lt (Nat.lt_succ_of_lt lS)
  have nS : s.heap.objs.size ∉ [(s.heap.push (zO w)).objs.size, l] := fun m => by
    rw [sz] at m
    rcases List.mem_cons.mp m with z | z
    · exact Nat.ne_of_lt (Nat.lt_succ_self _) z
    · exact Nat.ne_of_gt lS (List.mem_singleton.mp z)
  have val : ∀ (i : Nat) (v : Value), its[i]? = some v → ∃ k t, ns[i]? = some k ∧ v = .int k t := fun i v hv => by
    have lt : i < ns.length := by rw [← n1]; exact (Array.getElem?_eq_some_iff.mp hv).1
    obtain ⟨t, e⟩ := PyProof.Rows.IntsAre.int_at hi i v (by rw [Array.getElem?_toList]; exact hv)
    exact ⟨ns[i], t, List.getElem?_eq_getElem lt, by rw [e, List.getD_eq_getElem?_getD, List.getElem?_eq_getElem lt] <;> rfl⟩
  refine set_update_ints ((Walks.list a3 _ l nI its).toS) s.heap.objs.size nS ns n1 hb val (its.size - 0) 0 _ (by omega) (Nat.zero_le _) ?z ?z0 ?z1
  case z => exact ⟨⟨_, Heap.get?_push_size _ rfl, rfl, rfl⟩, (hls.push _)⟩
  case z0 => exact ⟨0, Nat.le_refl 0, setR_new_at (Heap.get?_push_of_some _ g0)⟩
  case z1 =>
    intro s' c' hm hc' hS'
    obtain ⟨h', g2, d2, tk', os2⟩ := s'
    obtain rfl : g2 = s.gens := hm.gens
    obtain rfl : d2 = s.drawn := hm.drawn
    obtain rfl : os2 = s.os := hm.os
    show wpAny _ _ _ _ _ _
    refine wpAny_pure ?_
    show wpAny _ _ (ret Value.none) _ _ _
    rw [n1] at hc'
    refine wpAny_pure ⟨rfl, rfl, h', tk', c', rfl, hS', hc', fun b o e => ?_⟩
    have lb : b < s.heap.objs.size := Heap.lt_size e
    refine hm.heap b o (fun m => ?_) (Heap.get?_push_of_some _ (Heap.get?_push_of_some _ e))
    rcases List.mem_cons.mp m with z | z
    · exact Nat.ne_of_lt lb z
    · have z := List.mem_singleton.mp z
      rw [sz] at z
      exact Nat.ne_of_lt (Nat.lt_succ_of_lt lb) z
set_option maxHeartbeats 3200000 in
theorem set_of_list {l : Addr} {its : Array Value} {ns : List Int} {Q : Value → Shared → Prop} (a0 : A.handled = none) (hl : s.heap.IsList l its) (hi : IntsAre its.toList ns) (hb : ns.length + 1 < scanBound)
    (k : ∀ r s2, Got w s ns r s2 → Q r s2) : wpAny (model P w) A (call (.type "set") [.ref l]) Q E s := by
  obtain ⟨c, tl, hmro⟩ := F.called_set.mro
  refine wpAny_call (codeAny_of_tree ?_)
  show wpAny _ _ (callAny (.type "set") _) _ _ _
  refine wpAny_pure ⟨Code.quiet_builtin _ (by decide +kernel), codeAny_builtin F.entry_type_call ?_⟩
  rw [Around.under_plain (weight_type_call_type "set" [.ref l] []) rfl]
  have m1 := F.called_set.made
  have m2 := F.called_set.sub
  have m3 := F.called_set.notType
  have m4 := F.called_set.canCreate
  have m5 := F.typeCall_set_1 (.ref l)
  repeat (any_goals (first | assumption | wp_step))
  refine codeAny_mono (code_set_led1 (.ref l) (E := E) (Q₁ := fun u t => u = .ref s.heap.objs.size ∧ t = { s with heap := s.heap.push (zO w) }) ⟨rfl, rfl⟩) fun r s1 hr => ?_
  match r, hr with
  | .ok (.ret u), hr =>
    obtain ⟨rfl, rfl⟩ := hr
    have g0 : (s.heap.push (zO w)).get? s.heap.objs.size = some (zO w) := Heap.get?_push_size _ rfl
    have hT : Shared.TypeIs { s with heap := s.heap.push (zO w) } (.ref s.heap.objs.size) "set" := ⟨_, g0, rfl⟩
    have m6 := F.called_set.init.lookup
    have m7 := F.called_set.init.bind (.ref s.heap.objs.size)
    repeat (any_goals (first | assumption | wp_step))
    refine codeAny_mono (fill_list (P := P) (w := w) (E := E) a0 hl hi hb) fun r2 s2 h2 => ?_
    match r2, h2 with
    | .ok (.ret u), h2 =>
      obtain ⟨rfl, G⟩ := h2
      repeat (any_goals (first | assumption | wp_step))
      exact k _ _ G
    | .error e, h2 => exact h2
    | .ok .next, h2 => exact h2.elim
    | .ok .brk, h2 => exact h2.elim
    | .ok .cont, h2 => exact h2.elim
  | .error e, hr => exact hr
  | .ok .next, hr => exact hr.elim
  | .ok .brk, hr => exact hr.elim
  | .ok .cont, hr => exact hr.elim
end
/-- set(l) of a list of ints -/
def rSetL (K : PySem.W.Frag) (w : World) : List V → Hp → VK → Prop := fun xs H Q => ∃ (l : Addr) (ns : List Int), xs = [.ref l] ∧ SqL K H l (ns.map V.int) ∧ ns.length ≤ 1000 ∧ ∀ p c, H p = none → c ≤ ns.length → Q (.ref p) (upd H p (SetO w p (fun j => decide (j ∈ ns)) c))
theorem cr_setL {X : Cx} (hc : X.calm = true) : CallR X (.type "set") (rSetL X.K X.w) := by
  intro pins s σ H xs us Q I r h
  obtain ⟨l, ns, rfl, hq, hz, q⟩ := h
  rw [Vals.ref1 r]
  obtain ⟨its, rv, pl, _⟩ := I.list hq
  refine set_of_list (ns := ns) (I.ok.hd hc) pl.isList (by simpa using RZ.intsAre_vals rv) (by unfold scanBound; omega) fun u s2 ⟨e1, h', tk, c, e2, R, hc', kp⟩ => ?_
  subst e1 e2
  have hn : H s.heap.objs.size = none := I.hok.fresh (Nat.le_refl _)
  exact ⟨.ref s.heap.objs.size, _, I.laid (t' := tk) kp (Nat.le_refl _) (setO_new R), rfl, q _ c hn hc'⟩
end Hk
end S_Wm
section S_Wn
namespace Hk
open PySem PySem.Spec PyProof.Rows L2 Tl
/-- the i-th of xs, and what stands while it is walked -/
def YRow (xs : List V) (W : Hp → Prop) : Nat → Hp → V → Hp → Prop := fun i H v H' => H' = H ∧ xs[i]? = some v ∧ W H
section
open Evl
variable {K : PySem.W.Frag} {σ : L2.St} {H : Hp} {te : TE}
theorem ei_rowsL {a : Addr} {xs : List V} {n : Nat} {W : Hp → Prop} (h : Ev te σ H (.ref a)) (hx : SqL K H a xs) (hn : n = xs.length) (hW : ∀ A, Ex H A → W A) : EvI (iList K te) σ H n (YRow xs W) := fun H1 e R k => by
  subst hn
  exact h H1 e _ fun H2 e2 => ⟨a, rfl, ⟨xs, ex_l (e.trans e2) hx⟩, k _ (fun A => SqL K A a xs ∧ W A) H2 e2 (walk_list.mono (fun _ q => q.1) fun i A v A' hi q y => ⟨y.1, y.2, q.2⟩) fun A ab _ => ⟨ex_l ab hx, hW A ab⟩⟩
theorem ei_rowsT {a : Addr} {xs : List V} {n : Nat} {W : Hp → Prop} (h : Ev te σ H (.ref a)) (hx : SqT K H a xs) (hn : n = xs.length) (hW : ∀ A, Ex H A → W A) : EvI (iTup K te) σ H n (YRow xs W) := fun H1 e R k => by
  subst hn
  exact h H1 e _ fun H2 e2 => ⟨a, rfl, ⟨xs, ex_t (e.trans e2) hx⟩, k _ (fun A => SqT K A a xs ∧ W A) H2 e2 (walk_tup.mono (fun _ q => q.1) fun i A v A' hi q y => ⟨y.1, y.2, q.2⟩) fun A ab _ => ⟨ex_t ab hx, hW A ab⟩⟩
theorem ei_rng3 {ta : TA} {i j c : Int} {n : Nat} (h : EvA ta σ H [.int i, .int j, .int c]) (hr : RgC i j c n) : EvI (iRng3 ta) σ H n (YFn fun k => .int (i + (k : Nat) * c)) := fun H1 e R k =>
  h H1 e _ fun H2 e2 => ⟨i, j, c, n, rfl, hr, k _ _ H2 e2 walk_rangeC fun _ _ _ => trivial⟩
end
section
open Evl
variable {K : PySem.W.Frag} {σ : L2.St} {H : Hp}
/-- tuple(list made now) -/
theorem en_tupNL {ta : TE} {L : List V → Hp → Prop} (h : EvNL ta σ H L) : EvN (tCB (fun xs H Q => ∃ p ys, xs = [V.ref p] ∧ ((SqL K H p ys ∧ ∀ l, H l = none → Q (V.ref l) (upd H l (HO.tup ys))) ∨ (SqT K H p ys ∧ Q (V.ref p) H))) (tCons ta tNil)) σ H
    (fun u H' => ∃ t xs, u = .ref t ∧ H' t = some (.tup xs) ∧ L xs H') := fun H1 e Q q =>
  h H1 e _ fun p xs H2 hp e2 h2 hL => ⟨p, xs, rfl, .inl ⟨sq_of h2, fun t ht => q _ _ (e2.trans (Ex.new ht)) fun H3 h3 s3 => ⟨t, xs, rfl, s3 _ _ (fresh_back e2 ht) upd_same, hL H3 h3 fun a o _ ha hb => by
    refine s3 a o ha ?_
    rw [upd_ne (ne_of_none hb ht)]
    exact hb⟩⟩⟩
end
theorem ev_anyN {K : PySem.W.Frag} {ta : TE} {σ : L2.St} {H : Hp} {bs : List Bool} (h : Evl.EvL ta σ H (bs.map V.bl)) : Evl.Ev (tCB (rAny K) (tCons ta tNil)) σ H (.bl (bs.any id)) := fun H1 e Q q =>
  h H1 e _ fun p H2 hp e2 h2 => ⟨p, bs, rfl, Evl.sq_of h2, q H2 e2⟩
/-- a for over what EvI tells; the body may write what is not of the walk -/
theorem s_forI {wi : TI} {g : TG} {tb : TS} {D : Ends} {σ : L2.St} {H B : Hp} {n : Nat} {Y : Nat → Hp → V → Hp → Prop} {s : Nat → L2.St → L2.St} (hw : EvI wi σ B n Y) (aim : Aims g n Y s) (e : Evl.Ex B H) (Pv : Hp → Nat → L2.St → Hp → Prop) (h0 : ∀ H2, Evl.Ex H H2 → Pv H2 0 σ H2)
    (hk : ∀ H2 i σ' H', Evl.Ex H H2 → i ≤ n → Pv H2 i σ' H' → Evl.Ex B H' ∧ Since H H2 H') (hs : ∀ H2 i σ' H' H'', Evl.Ex H H2 → i < n → Pv H2 i σ' H' → Evl.Ex H' H'' → tb { D with nx := Pv H2 (i + 1), ct := Pv H2 (i + 1), bk := D.nx } (s i σ') H'')
    (hd : ∀ H2 σ' H', Evl.Ex H H2 → Pv H2 n σ' H' → D.nx σ' H') : tFor wi g tb D σ H :=
  hw H e _ fun J G H2 e2 w sG => for_it w (Pv H2) (h0 H2 e2) (fun i σ' H' hi p => sG H' (hk H2 i σ' H' e2 hi p).1 (hk H2 i σ' H' e2 hi p).2)
    (fun i x σ' H' H'' hi p y => by
      obtain ⟨ab, k⟩ := aim i σ' H' x H'' hi y
      exact k _ (hs H2 i σ' H' H'' e2 hi p ab)) (fun σ' H' p => hd H2 σ' H' e2 p)
theorem q_forI {wi : TI} {g : TG} {tb tz : TS} {D : Ends} {σ : L2.St} {H B : Hp} {n : Nat} {Y : Nat → Hp → V → Hp → Prop} {s : Nat → L2.St → L2.St} (hw : EvI wi σ B n Y) (aim : Aims g n Y s) (e : Evl.Ex B H) (Pv : Hp → Nat → L2.St → Hp → Prop) (h0 : ∀ H2, Evl.Ex H H2 → Pv H2 0 σ H2)
    (hk : ∀ H2 i σ' H', Evl.Ex H H2 → i ≤ n → Pv H2 i σ' H' → Evl.Ex B H' ∧ Since H H2 H') (hs : ∀ H2 i σ' H' H'', Evl.Ex H H2 → i < n → Pv H2 i σ' H' → Evl.Ex H' H'' → tb { D with nx := Pv H2 (i + 1), ct := Pv H2 (i + 1), bk := tz D } (s i σ') H'')
    (hd : ∀ H2 σ' H', Evl.Ex H H2 → Pv H2 n σ' H' → tz D σ' H') : tSeq (tFor wi g tb) tz D σ H := s_forI (D := { D with nx := tz D }) hw aim e Pv h0 hk hs hd
theorem el_catVN {σ : L2.St} {H : Hp} {ta tb : TE} {m : Addr} {xs ys : List V} (ha : Evl.Ev ta σ H (.ref m)) (hm : H m = some (.lst xs)) (hb : Evl.EvL tb σ H ys) (hz : xs.length + ys.length ≤ 100000) : Evl.EvL (tOp rCat ta tb) σ H (xs ++ ys) := fun H1 e Q q =>
  ha H1 e _ fun H2 e2 => hb H2 (e.trans e2) _ fun p H3 _ e3 h3 => ⟨m, p, xs, ys, rfl, rfl, e3 _ _ (e2 _ _ (e _ _ hm)), h3, Evl.sz_of hz, fun r hr => q r _ (Evl.fresh_back (e2.trans e3) hr) ((e2.trans e3).trans (Evl.Ex.new hr)) upd_same⟩
/-- a, b = a row of two -/
theorem aims_rowT2 {K : PySem.W.Frag} {xs : List V} {n j1 j2 : Nat} {c : Nat → V × V} : Aims (gTup K 2 (gCons (gName j1) (gCons (gName j2) gNil))) n
    (YRow xs fun H => ∀ i v, i < n → xs[i]? = some v → ∃ r, v = .ref r ∧ H r = some (.tup [(c i).1, (c i).2])) (fun i σ => (σ.set j1 (some (c i).1)).set j2 (some (c i).2)) := fun i σ H v H' hi y => by
  obtain ⟨rfl, hv, w⟩ := y
  obtain ⟨r, rfl, hr⟩ := w i v hi hv
  exact ⟨Evl.Ex.refl _, fun Q q => ⟨r, _, rfl, Evl.st_of hr, rfl, _, _, rfl, _, _, rfl, rfl, q⟩⟩
/-- a, b, c = a row of three, a list -/
theorem aims_rowL3 {K : PySem.W.Frag} {xs : List V} {n j1 j2 j3 : Nat} {c : Nat → V × V × V} : Aims (gLst K 3 (gCons (gName j1) (gCons (gName j2) (gCons (gName j3) gNil)))) n
    (YRow xs fun H => ∀ i v, i < n → xs[i]? = some v → ∃ r, v = .ref r ∧ H r = some (.lst [(c i).1, (c i).2.1, (c i).2.2])) (fun i σ => ((σ.set j1 (some (c i).1)).set j2 (some (c i).2.1)).set j3 (some (c i).2.2)) := fun i σ H v H' hi y => by
  obtain ⟨rfl, hv, w⟩ := y
  obtain ⟨r, rfl, hr⟩ := w i v hi hv
  exact ⟨Evl.Ex.refl _, fun Q q => ⟨r, _, rfl, Evl.sq_of hr, rfl, _, _, rfl, _, _, rfl, _, _, rfl, rfl, q⟩⟩
theorem joinL_length (S : List Nat) : ∀ ps : List (List Nat), (TL.joinL S ps).length ≤ (ps.map List.length).sum + ps.length * S.length
  | [] => by unfold TL.joinL; simp
  | [p] => by unfold TL.joinL; simp
  | p :: q :: r => by
    have ih := joinL_length S (q :: r)
    have e : TL.joinL S (p :: q :: r) = p ++ (S ++ TL.joinL S (q :: r)) := rfl
    rw [e, List.length_append, List.length_append, List.map_cons, List.sum_cons, List.length_cons, Nat.add_mul]
    omega
theorem tl_length (s : Str) : (TL.tl s).length = s.length := (TL.len_tl s).symm
theorem join_len (y : Str) (ps : List Str) : (Txt.join y ps).length ≤ (ps.map (·.length)).sum + ps.length * y.length := by
  rw [← tl_length, TL.join_eq, TL.tl_join]
  refine Nat.le_trans (joinL_length _ _) ?_
  rw [List.map_map, List.length_map, tl_length]
  have : (ps.map (List.length ∘ TL.tl)) = ps.map (·.length) := List.map_congr_left fun p _ => tl_length p
  rw [this] <;> exact Nat.le_refl _
end Hk
namespace Hk
open PySem PySem.Spec PyProof.Rows L2 Tl
open Evl
theorem ev_neNilL {K : PySem.W.Frag} {σ : L2.St} {H : Hp} {ta : TE} {cs : List Int} (h : EvL ta σ H (cs.map V.int)) : Ev (tOp (rNeD K) ta (tLst tNil)) σ H (.bl (!cs.isEmpty)) :=
  ev_opLL (ys := []) h (el_lst ea_nil (Nat.zero_le _)) fun p q H1 h1 h2 _ => fun H2 e2 Q k => by
    refine ⟨.list (zD cs), .list [], .lst (sq_of (e2 _ _ h1)) (dp_zD cs), .lst (sq_of (e2 _ _ h2)) .nil, PySem.W.ke_shaped_ints cs, by decide +kernel, ?_⟩
    have e3 : PyData.eqv (.list (zD cs)) (.list []) = cs.isEmpty := by cases cs <;> rfl
    rw [e3]
    exact k H2 (Ex.refl H2)
/-- the heap without one object -/
def but (t : Addr) (H : Hp) : Hp := fun a => if a = t then none else H a
theorem but_le {t : Addr} {H : Hp} : Ex (but t H) H := fun a o h => by
  unfold but at h
  split at h
  · cases h
  · exact h
theorem but_at {t a : Addr} {H : Hp} (h : a ≠ t) : but t H a = H a := if_neg h
/-- a comprehension whose body draws -/
theorem go_lcT {wi : TI} {g : TG} {tt : TT} {te : TE} {vs : List Nat} {n : Nat} {Y : Nat → Hp → V → Hp → Prop} {s : Nat → L2.St → L2.St} {σ : L2.St} {H : Hp} {Q : VK} {t : Addr} {o : HO} (ho : H t = some o)
    (hw : EvI wi σ (but t H) n Y) (aim : Aims g n Y s) (hs : ∀ i, wipe (s i (wipe σ vs)) vs = wipe σ vs) (hn : n ≤ 40000) (R : Nat → List V → Hp → Prop)
    (h0 : ∀ H2, Ex H H2 → R 0 [] H2) (hx : ∀ i acc A B, R i acc A → Ex A B → R i acc B)
    (hu : ∀ i acc A D l l', H D = none → D ≠ t → A D = some (.lst l) → R i acc A → R i acc (upd A D (.lst l')))
    (hst : ∀ i acc A (F1 : V → Hp → Prop) (F2 : Hp → Prop), i < n → (∀ a o, a ≠ t → H a = some o → A a = some o) → acc.length ≤ i → R i acc A →
      (∀ y H4, (∀ a o, a ≠ t → A a = some o → H4 a = some o) → R (i + 1) (acc ++ [y]) H4 → F1 y H4) → (∀ H3, (∀ a o, a ≠ t → A a = some o → H3 a = some o) → R (i + 1) acc H3 → F2 H3) →
      tt (s i (wipe σ vs)) A fun b H3 => if b = true then te (s i (wipe σ vs)) H3 F1 else F2 H3)
    (hd : ∀ D acc A, H D = none → D ≠ t → A D = some (.lst acc) → acc.length ≤ n → (∀ a o, a ≠ t → H a = some o → A a = some o) → R n acc A → Q (.ref D) A) : tLc wi g tt te vs σ H Q :=
  hw H but_le _ fun J G H2 e2 w sG D hD => by
    have D0 : H D = none := fresh_back e2 hD
    have Dt : D ≠ t := fun z => by rw [z, ho] at D0; cases D0
    have kp : ∀ {A : Hp}, (∀ a o, a ≠ t → H2 a = some o → A a = some o) → ∀ a o, a ≠ t → H a = some o → A a = some o := fun k a o ha h => k a o ha (e2 _ _ h)
    refine lc_it w (fun i A => (∀ a o, a ≠ t → H2 a = some o → A a = some o) ∧ ∃ acc, A D = some (.lst acc) ∧ acc.length ≤ i ∧ R i acc A) ⟨fun a o _ h => Ex.new hD a o h, [], upd_same, Nat.le_refl _, h0 _ (e2.trans (Ex.new hD))⟩ (fun i A _ p => sG A (fun a o h => ?_) fun a o h1 h2 => p.1 a o (fun z => by rw [z, ho] at h1; cases h1) h2)
      (fun i x A B hi p y => ?_) (fun A ⟨p1, acc, p2, p5, p3⟩ => hd D acc A D0 Dt p2 p5 (kp p1) p3)
    · by_cases z : a = t
      · rw [z] at h
        unfold but at h
        rw [if_pos rfl] at h
        cases h
      · rw [but_at z] at h
        exact kp p.1 a o z h
    · obtain ⟨p1, acc, p2, p3, p4⟩ := p
      obtain ⟨ab, k⟩ := aim i (wipe σ vs) A x B hi y
      refine k _ ⟨hs i, ?_⟩
      have hB : B D = some (.lst acc) := ab _ _ p2
      have pB : ∀ a o, a ≠ t → H2 a = some o → B a = some o := fun a o ha h => ab _ _ (p1 a o ha h)
      refine hst i acc B _ _ hi (kp pB) p3 (hx _ _ _ _ p4 ab) (fun y H4 k4 r4 => ?_) fun H3 k3 r3 => ⟨fun a o ha h => k3 a o ha (pB a o ha h), acc, k3 _ _ Dt hB, by omega, r3⟩
      have h4 : H4 D = some (.lst acc) := k4 _ _ Dt hB
      refine ⟨acc, h4, sz_lt (by omega), fun a o ha h => ?_, acc ++ [y], upd_same, by rw [List.length_append, List.length_singleton]; omega, hu _ _ _ _ _ _ D0 Dt h4 r4⟩
      rw [upd_ne (ne_of_none h hD)]
      exact k4 a o ha (pB a o ha h)
end Hk
end S_Wn
section S_Wo
namespace Hk
open PySem PySem.Spec PyProof.Rows L2 Tl
mutual
theorem dp_ex {K : PySem.W.Frag} {H H' : Hp} (e : Evl.Ex H H') : ∀ {v : V} {d : PyData}, Dp K H v d → Dp K H' v d
  | _, _, .non => .non
  | _, _, .bl b => .bl b
  | _, _, .int i => .int i
  | _, _, .str x => .str x
  | _, _, .lst h a => .lst (Evl.ex_l e h) (dpa_ex e a)
  | _, _, .tup h a => .tup (Evl.ex_t e h) (dpa_ex e a)
theorem dpa_ex {K : PySem.W.Frag} {H H' : Hp} (e : Evl.Ex H H') : ∀ {vs : List V} {ds : List PyData}, DpAll K H vs ds → DpAll K H' vs ds
  | _, _, .nil => .nil
  | _, _, .cons h a => .cons (dp_ex e h) (dpa_ex e a)
end
/-- a value that can be compared -/
def DpS (K : PySem.W.Frag) (H : Hp) (v : V) : Prop := ∃ d, Dp K H v d ∧ d.canLay0 = true ∧ d.depth ≤ 5
theorem DpS.ex {K : PySem.W.Frag} {H H' : Hp} {v : V} (h : DpS K H v) (e : Evl.Ex H H') : DpS K H' v := h.imp fun d ⟨a, b⟩ => ⟨dp_ex e a, b⟩
theorem lay_all : ∀ {ds : List PyData}, (∀ d ∈ ds, d.canLay0 = true) → PyData.canLayAll0 ds = true
  | [], _ => rfl
  | d :: r, h => by
    unfold PyData.canLayAll0
    rw [h d List.mem_cons_self, lay_all fun x hx => h x (List.mem_cons_of_mem _ hx)]
    rfl
theorem deep_all {c : Nat} : ∀ {ds : List PyData}, (∀ d ∈ ds, d.depth ≤ c) → PyData.depthAll ds ≤ c
  | [], _ => Nat.zero_le _
  | d :: r, h => by
    unfold PyData.depthAll
    have h1 := h d List.mem_cons_self
    have h2 := deep_all fun x hx => h x (List.mem_cons_of_mem _ hx)
    omega
theorem shaped_list {c : Nat} (hc : c ≤ 60) {ds : List PyData} (h : ∀ d ∈ ds, d.canLay0 = true ∧ d.depth ≤ c) : SeqAt.shaped (.list ds) = true := by
  unfold SeqAt.shaped
  have h1 : (PyData.list ds).canLay0 = true := by unfold PyData.canLay0; exact lay_all fun d hd => (h d hd).1
  have h2 : (PyData.list ds).depth ≤ 64 := by
    have := deep_all fun d hd => (h d hd).2
    unfold PyData.depth
    omega
  rw [h1, decide_eq_true h2] <;> rfl
theorem dps_all {K : PySem.W.Frag} {H : Hp} : ∀ {xs : List V}, (∀ v ∈ xs, DpS K H v) → ∃ ds, DpAll K H xs ds ∧ (∀ d ∈ ds, d.canLay0 = true ∧ d.depth ≤ 5) ∧ ds.length = xs.length
  | [], _ => ⟨[], .nil, fun d hd => (nomatch hd), rfl⟩
  | v :: r, h => by
    obtain ⟨d, a, b⟩ := h v List.mem_cons_self
    obtain ⟨ds, c1, c2, c3⟩ := dps_all (xs := r) fun x hx => h x (List.mem_cons_of_mem _ hx)
    refine ⟨d :: ds, .cons a c1, fun x hx => ?_, by rw [List.length_cons, List.length_cons, c3]⟩
    rcases List.mem_cons.mp hx with rfl | hx
    · exact b
    · exact c2 x hx
theorem eqv_nil (ds : List PyData) : PyData.eqv (.list ds) (.list []) = ds.isEmpty := by
  cases ds with
  | nil => rfl
  | cons d r => rfl
section
open Evl
variable {K : PySem.W.Frag} {σ : L2.St} {H : Hp} {ta tb : TE}
theorem ev_eqNilD {xs : List V} (ha : EvL ta σ H xs) (hb : EvL tb σ H []) (hx : ∀ v ∈ xs, DpS K H v) : Ev (tOp (rEqD K) ta tb) σ H (.bl xs.isEmpty) :=
  ev_opLL ha hb fun p q H1 h1 h2 e1 => fun H2 e2 Q k => by
    obtain ⟨ds, d1, d2, d3⟩ := dps_all (K := K) (H := H2) (xs := xs) fun v hv => (hx v hv).ex (e1.trans e2)
    refine ⟨.list ds, .list [], .lst (sq_of (e2 _ _ h1)) d1, .lst (sq_of (e2 _ _ h2)) .nil, shaped_list (c := 5) (by decide) d2, shaped_list (c := 5) (by decide) (fun d hd => nomatch hd), ?_⟩
    rw [eqv_nil]
    have : ds.isEmpty = xs.isEmpty := by cases ds <;> cases xs <;> first | rfl | (cases d3)
    rw [this]
    exact k H2 (Ex.refl H2)
theorem ev_neNilD {xs : List V} (ha : EvL ta σ H xs) (hb : EvL tb σ H []) (hx : ∀ v ∈ xs, DpS K H v) : Ev (tOp (rNeD K) ta tb) σ H (.bl !xs.isEmpty) :=
  ev_opLL ha hb fun p q H1 h1 h2 e1 => fun H2 e2 Q k => by
    obtain ⟨ds, d1, d2, d3⟩ := dps_all (K := K) (H := H2) (xs := xs) fun v hv => (hx v hv).ex (e1.trans e2)
    refine ⟨.list ds, .list [], .lst (sq_of (e2 _ _ h1)) d1, .lst (sq_of (e2 _ _ h2)) .nil, shaped_list (c := 5) (by decide) d2, shaped_list (c := 5) (by decide) (fun d hd => nomatch hd), ?_⟩
    rw [eqv_nil]
    have : ds.isEmpty = xs.isEmpty := by cases ds <;> cases xs <;> first | rfl | (cases d3)
    rw [this]
    exact k H2 (Ex.refl H2)
end
end Hk
end S_Wo
section S_Wp
namespace Hk
open PySem PySem.Spec PyProof.Rows L2 Tl
def rIxB (K : PySem.W.Frag) : R2 := fun x y H Q => rIxL K x y H Q ∨ rIxT K x y H Q
theorem ix_any2 {X : Cx} : IxR X (rIxB X.K) := fun value slice pins s σ H x y v u Q I r1 r2 h e => h.elim (fun h => ix_list value slice pins s σ H x y v u Q I r1 r2 h e) (fun h => ix_tup value slice pins s σ H x y v u Q I r1 r2 h e)
/-- a list or a tuple -/
def SqS (K : PySem.W.Frag) (H : Hp) (a : Addr) (xs : List V) : Prop := SqL K H a xs ∨ SqT K H a xs
theorem SqS.ex {K : PySem.W.Frag} {H H' : Hp} {a : Addr} {xs : List V} (h : SqS K H a xs) (e : Evl.Ex H H') : SqS K H' a xs := h.elim (fun h => .inl (Evl.ex_l e h)) (fun h => .inr (Evl.ex_t e h))
theorem rv_ixB {K : PySem.W.Frag} {H : Hp} {v : V} {p : Addr} {xs : List V} {i : Int} (h : SqS K H p xs) (ha : atI xs i = some v) : Evl.RV (rIxB K) (.ref p) (.int i) H v := fun H1 e Q q =>
  h.elim (fun h => .inl (Evl.rv_ixL h ha H1 e Q q)) (fun h => .inr (Evl.rv_ixT h ha H1 e Q q))
theorem ev_lenB {K : PySem.W.Frag} {ta : TE} {σ : L2.St} {H : Hp} {p : Addr} {xs : List V} (ha : Evl.Ev ta σ H (.ref p)) (h : SqS K H p xs) : Evl.Ev (tCB (Evl.rLenS K) (tCons ta tNil)) σ H (.int (xs.length : Int)) := fun H1 e Q q =>
  ha H1 e _ fun H2 e2 => ⟨p, xs, rfl, h.ex (e.trans e2), q H2 e2⟩
theorem ev_ixB {K : PySem.W.Frag} {te : TE} {σ : L2.St} {H : Hp} {a : Addr} {xs : List V} {j : Nat} {v : V} (h : Evl.Ev te σ H (.ref a)) (ha : SqS K H a xs) (hv : xs[j]? = some v) : Evl.Ev (tOp (rIxB K) te (tC (.int (j : Int)))) σ H v := Evl.ev_op h Evl.ev_c (rv_ixB ha (atI_nat hv))
/-- a walk over a list or a tuple -/
def iEi (K : PySem.W.Frag) (te : TE) : TI := fun σ H R => iList K te σ H R ∨ iTup K te σ H R
theorem pi_ei {X : Cx} {tg e : Expr} {te : TE} (he : PE X e te) : PI X tg e (iEi X.K te) := ⟨fun pins s σ H R I h => h.elim (fun h => (pi_list (tg := tg) he).run pins s σ H R I h) fun h => (pi_tup (tg := tg) he).run pins s σ H R I h⟩
theorem ei_ei {K : PySem.W.Frag} {σ : L2.St} {H : Hp} {te : TE} {a : Addr} {xs : List V} (h : Evl.Ev te σ H (.ref a)) (hs : SqS K H a xs) : EvI (iEi K te) σ H xs.length (YAt xs) := fun H1 e R k => hs.elim (fun hs => .inl (ei_list h hs H1 e R k)) fun hs => .inr (ei_tup h hs H1 e R k)
/-- a, b, .. = a list or a tuple of that length -/
def gEi (K : PySem.W.Frag) (n : Nat) (t : TGs) : TG := fun v σ H Q => gLst K n t v σ H Q ∨ gTup K n t v σ H Q
theorem gEi_of {K : PySem.W.Frag} {n : Nat} {t : TGs} {a : Addr} {xs : List V} {σ : L2.St} {H : Hp} {Q : L2.St → Hp → Prop} (h : SqS K H a xs) (hn : xs.length = n) (q : t xs σ H Q) : gEi K n t (.ref a) σ H Q := h.elim (fun h => .inl ⟨a, xs, rfl, h, hn, q⟩) fun h => .inr ⟨a, xs, rfl, h, hn, q⟩
theorem pg_ei {X : Cx} {pos : Pos} {es : List Expr} {k : Nat} {t : TGs} {n : Nat} (hc : X.calm = true) (h : PGs X es t)
    (hn : (assignEach es X.env).length = n := by rfl) (hst : (assignEach es X.env).findIdx? (·.1) = none := by rfl) : PG X (.Tuple es k pos) (gEi X.K n t) :=
  ⟨fun pins s σ H v u Q I r hw => hw.elim (fun hw => (pg_lst hc h hn hst).run pins s σ H v u Q I r hw) fun hw => (pg_tup hc h hn hst).run pins s σ H v u Q I r hw⟩
noncomputable def pd (p : Prop) : Bool := @decide p (Classical.propDecidable p)
theorem pd_true {p : Prop} (h : p) : pd p = true := @decide_eq_true p (Classical.propDecidable p) h
theorem pd_false {p : Prop} (h : ¬p) : pd p = false := @decide_eq_false p (Classical.propDecidable p) h
theorem pd_of {p : Prop} (h : pd p = true) : p := @of_decide_eq_true p (Classical.propDecidable p) h
theorem pd_not {p : Prop} (h : pd p = false) : ¬p := @of_decide_eq_false p (Classical.propDecidable p) h
theorem pd_is {p : Prop} {b : Bool} (h : p ↔ b = true) : pd p = b := by
  cases b with
  | true => exact pd_true (h.mpr rfl)
  | false => exact pd_false fun z => nomatch h.mp z
end Hk
end S_Wp
section S_Xv
/-! steps of raw terms, by name -/
namespace Go
open PySem PySem.Spec PyProof.Rows L2
theorem cons_any {te : TE} {tr : TA} {σ : L2.St} {H : Hp} {Q : List V → Hp → Prop} (h : te σ H fun v H1 => tr σ H1 fun vs H2 => Q (v :: vs) H2) : tCons te tr σ H Q := h
theorem cons_c {v : V} {tr : TA} {σ : L2.St} {H : Hp} {Q : List V → Hp → Prop} (h : tr σ H fun vs H2 => Q (v :: vs) H2) : tCons (tC v) tr σ H Q := h
theorem asg_go {te : TE} {tz : TS} {i : Nat} {D : Ends} {σ : L2.St} {H : Hp} (h : te σ H fun v H1 => tz D (σ.set i (some v)) H1) : tSeq (tAsg te (gName i)) tz D σ H := h
theorem asg_last {te : TE} {i : Nat} {D : Ends} {σ : L2.St} {H : Hp} (h : te σ H fun v H1 => D.nx (σ.set i (some v)) H1) : tAsg te (gName i) D σ H := h
theorem q_asg1 {te : TE} {g : TG} {tz : TS} {D : Ends} {σ : L2.St} {H : Hp} (h : te σ H fun x H1 => g x σ H1 fun σ1 H2 => tz D σ1 H2) : tSeq (tAsg te g) tz D σ H := h
theorem op_go {r : R2} {ta tb : TE} {σ : L2.St} {H : Hp} {Q : VK} (h : ta σ H fun x H1 => tb σ H1 fun y H2 => r x y H2 Q) : tOp r ta tb σ H Q := h
theorem tup_go {ta : TA} {σ : L2.St} {H : Hp} {Q : VK} (h : ta σ H fun xs H1 => xs.length ≤ sizeLine ∧ ∀ p, H1 p = none → Q (.ref p) (upd H1 p (.tup xs))) : tTup ta σ H Q := h
theorem lst_go {ta : TA} {σ : L2.St} {H : Hp} {Q : VK} (h : ta σ H fun xs H1 => xs.length ≤ sizeLine ∧ ∀ p, H1 p = none → Q (.ref p) (upd H1 p (.lst xs))) : tLst ta σ H Q := h
theorem ret_go {te : TE} {D : Ends} {σ : L2.St} {H : Hp} (h : te σ H D.rt) : tRet te D σ H := h
theorem drop_go {te : TE} {tz : TS} {D : Ends} {σ : L2.St} {H : Hp} (h : te σ H fun _ H1 => tz D σ H1) : tSeq (tDrop te) tz D σ H := h
theorem call_go {sp : Sp} {dvs vs : List V} {E : XK} {ta : TA} {σ : L2.St} {H : Hp} {Q : VK} (h : Evl.EvA ta σ H vs) (k : ∀ H1, Evl.Ex H H1 → sp (vs ++ dvs) H1 Q E) : tCall sp dvs E ta σ H Q := h H (Evl.Ex.refl H) _ k
theorem call_raw {sp : Sp} {dvs : List V} {E : XK} {ta : TA} {σ : L2.St} {H : Hp} {Q : VK} (h : ta σ H fun vs H1 => sp (vs ++ dvs) H1 Q E) : tCall sp dvs E ta σ H Q := h
theorem cb_go {r : List V → Hp → VK → Prop} {ta : TA} {σ : L2.St} {H : Hp} {Q : VK} (h : ta σ H fun vs H1 => r vs H1 Q) : tCB r ta σ H Q := h
theorem par_go {i j : Nat} {ta : TA} {tz : TS} {D : Ends} {σ : L2.St} {H : Hp} (h : ta σ H fun vs H1 => ∃ v w, vs = [v, w] ∧ tz D ((σ.set i (some v)).set j (some w)) H1) : tSeq (tPar i j ta) tz D σ H := h
/-- an expression with a value, in a raw place -/
theorem go {te : TE} {σ : L2.St} {H : Hp} {v : V} {Q : VK} (h : Evl.Ev te σ H v) (k : ∀ H1, Evl.Ex H H1 → Q v H1) : te σ H Q := h H (Evl.Ex.refl H) _ k
theorem goT {t : TT} {σ : L2.St} {H : Hp} {b : Bool} {Q : Bool → Hp → Prop} (h : Evl.EvT t σ H b) (k : ∀ H1, Evl.Ex H H1 → Q b H1) : t σ H Q := h H (Evl.Ex.refl H) _ k
theorem goA {ta : TA} {σ : L2.St} {H : Hp} {vs : List V} {Q : List V → Hp → Prop} (h : Evl.EvA ta σ H vs) (k : ∀ H1, Evl.Ex H H1 → Q vs H1) : ta σ H Q := h H (Evl.Ex.refl H) _ k
end Go
end S_Xv
section S_Nad
namespace P38
open PySem PySem.Spec PyProof.Rows L2 Tl Hk RZ
/-! ### bags -/
/-- a value, and its items if it is a list or a tuple -/
inductive BagD (K : PySem.W.Frag) (H : Hp) : V → Option (List V) → Prop where
  | no {x : V} {n : String} (h : Ty7 K H x n) (h1 : n ≠ "list") (h2 : n ≠ "tuple") : BagD K H x none
  | lst {a : Addr} {xs : List V} (h : SqL K H a xs) (hl : xs.length ≤ 3000) (hi : ∀ v ∈ xs, ∃ n, Ty7 K H v n) : BagD K H (.ref a) (some xs)
  | tup {a : Addr} {xs : List V} (h : SqT K H a xs) (hl : xs.length ≤ 3000) (hi : ∀ v ∈ xs, ∃ n, Ty7 K H v n) : BagD K H (.ref a) (some xs)
theorem BagD.ex {K : PySem.W.Frag} {H H' : Hp} {x : V} {r : Option (List V)} (h : BagD K H x r) (e : Evl.Ex H H') : BagD K H' x r := by
  cases h with
  | no h h1 h2 => exact .no (h.ex e) h1 h2
  | lst h hl hi => exact .lst (Evl.ex_l e h) hl fun v hv => (hi v hv).imp fun n hn => hn.ex e
  | tup h hl hi => exact .tup (Evl.ex_t e h) hl fun v hv => (hi v hv).imp fun n hn => hn.ex e
theorem BagD.ty {K : PySem.W.Frag} {H : Hp} {x : V} {r : Option (List V)} (h : BagD K H x r) : ∃ n, Ty7 K H x n := by
  cases h with
  | no h _ _ => exact ⟨_, h⟩
  | lst h _ _ => exact ⟨_, .lst h⟩
  | tup h _ _ => exact ⟨_, .tup h⟩
/-- ints, each greater than the one ahead -/
def ascI : List Int → Bool
  | a :: b :: r => decide (a < b) && ascI (b :: r)
  | _ => true
/-- the ints of values that are ints all -/
def intsOf : List V → Option (List Int)
  | [] => some []
  | .int i :: r => (intsOf r).map (i :: ·)
  | _ :: _ => none
theorem intsOf_map : ∀ ns : List Int, intsOf (ns.map V.int) = some ns
  | [] => rfl
  | n :: r => by
    rw [List.map_cons]
    show (intsOf (r.map V.int)).map (n :: ·) = _
    rw [intsOf_map r]
    rfl
theorem intsOf_some : ∀ {xs : List V} {ns : List Int}, intsOf xs = some ns → xs = ns.map V.int
  | [], ns, h => by cases h; rfl
  | .int i :: r, ns, h => by
    have h : (intsOf r).map (i :: ·) = some ns := h
    obtain ⟨ms, h1, rfl⟩ := Option.map_eq_some_iff.mp h
    rw [intsOf_some h1]
    rfl
  | .non :: _, _, h => nomatch h
  | .bl _ :: _, _, h => nomatch h
  | .str _ :: _, _, h => nomatch h
  | .ref _ :: _, _, h => nomatch h
  | .ty _ :: _, _, h => nomatch h
theorem wi0_ints {xs : List V} : (xs.all fun v => wi v (.int 0) .non) = true → ∃ ns : List Int, xs = ns.map V.int ∧ ∀ i ∈ ns, 0 ≤ i := by
  induction xs with
  | nil => exact fun _ => ⟨[], rfl, fun i h => nomatch h⟩
  | cons v r ih =>
    intro h
    rw [List.all_cons, Bool.and_eq_true_iff] at h
    obtain ⟨ns, rfl, hn⟩ := ih h.2
    cases v with
    | int i =>
      have : (decide ((0 : Int) ≤ i) && true) = true := h.1
      rw [Bool.and_true] at this
      exact ⟨i :: ns, rfl, fun j hj => by
        rcases List.mem_cons.mp hj with rfl | hj
        · exact of_decide_eq_true this
        · exact hn j hj⟩
    | _ => exact absurd h.1 (by intro z; cases z)
theorem wi0_all {ns : List Int} (h : ∀ i ∈ ns, 0 ≤ i) : ((ns.map V.int).all fun v => wi v (.int 0) .non) = true := List.all_eq_true.mpr fun v hv => by
  obtain ⟨i, hi, rfl⟩ := List.mem_map.mp hv
  show (decide ((0 : Int) ≤ i) && true) = true
  rw [decide_eq_true (h i hi)]
  rfl
/-- whether they are a bag of least to most pieces -/
def bagV (lo hi : V) : Option (List V) → Bool
  | none => false
  | some xs => (xs.all fun v => wi v (.int 0) .non) && wi (.int (xs.length : Int)) lo hi && ascI ((intsOf xs).getD [])
theorem asc_pairs : ∀ ns : List Int, ascI ns = ((List.range (ns.length - 1)).map fun i => decide (ns.getD i 0 < ns.getD (i + 1) 0)).all id
  | [] => rfl
  | [_] => rfl
  | a :: b :: r => by
    show (decide (a < b) && ascI (b :: r)) = _
    rw [asc_pairs (b :: r), show (a :: b :: r).length - 1 = ((b :: r).length - 1) + 1 by simp, List.range_succ_eq_map, List.map_cons, List.map_map]
    rfl
def spIsBag (K : PySem.W.Frag) : Sp := fun vs H Q _ => ∃ (x lo hi : V) (r : Option (List V)), vs = [x, lo, hi] ∧ BagD K H x r ∧ Bnd lo ∧ Bnd hi ∧ ∀ H1, Evl.Ex H H1 → Q (.bl (bagV lo hi r)) H1
theorem spv_isBag {K : PySem.W.Frag} {H : Hp} {x lo hi : V} {r : Option (List V)} (h : BagD K H x r) (h1 : Bnd lo) (h2 : Bnd hi) : Evl.SpV (spIsBag K) [x, lo, hi] H (.bl (bagV lo hi r)) := fun H1 e Q q E => ⟨x, lo, hi, r, rfl, h.ex e, h1, h2, q⟩
theorem scIsBag : FnScope ["value", "least", "most", "one", "other"] ["value", "least", "most"] (defScope sIsBag) := ⟨rfl, rfl, rfl, by decide +kernel, rfl, by decide +kernel, by decide +kernel⟩
section
open Evl
variable {K : PySem.W.Frag} {σ : L2.St} {H : Hp} {ta tb te : TE}
/-- zip of a tuple and its own items from the second on -/
theorem ei_zipOwnT {a : Addr} {xs : List V} (h : Ev ta σ H (.ref a)) (hx : SqT K H a xs) : EvI (iZipA K (tCons ta (tCons (tSl (rSlA K) ta (tPart (tC (.int 1))) tNoPart) tNil))) σ H (xs.length - 1) (YPair (fun i => xs[i]?) (fun i => (xs.drop 1)[i]?)) := fun H1 e R k =>
  h H1 e _ fun H2 e2 => h H2 (e.trans e2) _ fun H3 e3 => by
    have hx3 := ex_t ((e.trans e2).trans e3) hx
    refine ⟨1, rfl, a, xs, rfl, hx3, fun hw => ?_, fun _ p hp => ?_⟩
    · have hnil : xs = [] := by
        cases xs with
        | nil => rfl
        | cons x r =>
          have e1 := hw.1
          rw [show (1 : Int) = ((1 : Nat) : Int) from rfl, HT.sIx_nat, Nat.min_eq_left (by simp)] at e1
          exact absurd e1 (by decide)
      subst hnil
      exact ⟨a, a, [], [], rfl, .inr ⟨hx3, hx3, k _ _ H3 (e2.trans e3) (walk_zipT rfl) fun A ab s => ⟨ex_t ab hx, ex_t ab hx⟩⟩⟩
    · have ec : cutV xs (some ((1 : Nat) : Int)) none = xs.drop 1 := cutFrom xs 1
      rw [show (1 : Int) = ((1 : Nat) : Int) from rfl, ec]
      have eN := Ex.new (o := .tup (xs.drop 1)) hp
      exact ⟨a, p, xs, xs.drop 1, rfl, .inr ⟨ex_t eN hx3, st_of upd_same, k _ _ _ ((e2.trans e3).trans eN) (walk_zipT (by rw [List.length_drop]; omega)) fun A ab s => ⟨ex_t ab hx, st_of (s p _ (fresh_back (e2.trans e3) hp) upd_same)⟩⟩⟩
theorem ei_zipOwnL {a : Addr} {xs : List V} (h : Ev ta σ H (.ref a)) (hx : SqL K H a xs) : EvI (iZipA K (tCons ta (tCons (tSl (rSlL K) ta (tPart (tC (.int 1))) tNoPart) tNil))) σ H (xs.length - 1) (YPair (fun i => xs[i]?) (fun i => (xs.drop 1)[i]?)) := by
  have := ei_zipL (K := K) (n := xs.length - 1) (ys := xs.drop 1) (by rw [List.length_drop]; omega) h hx (by
    have := el_sl (K := K) (lo := some (1 : Int)) (hi := none) h (eo_some (te := tC (.int 1)) ev_c) eo_none hx
    rw [show cutV xs (some (1 : Int)) none = xs.drop 1 from cutFrom xs 1] at this
    exact this)
  exact this
end
theorem gd_int {f : List Int} {m : Nat} (h : m < f.length) : (f.map V.int).getD m .non = V.int (f.getD m 0) := by
  rw [List.getD_eq_getElem?_getD, List.getD_eq_getElem?_getD, List.getElem?_map, List.getElem?_eq_getElem h]
  rfl
theorem gd_int1 {f : List Int} {m : Nat} (h : m < f.length - 1) : ((f.map V.int).drop 1).getD m .non = V.int (f.getD (m + 1) 0) := by
  rw [List.getD_eq_getElem?_getD, List.getElem?_drop, ← List.getD_eq_getElem?_getD, show 1 + m = m + 1 by omega]
  exact gd_int (by omega)
theorem given_rng {n : Nat} {v : Nat → V} : Evl.given n (fun _ => true) v = (List.range n).map v := by
  unfold Evl.given
  rw [List.filter_eq_self.mpr fun _ _ => rfl]
theorem bag_no {lo hi : V} {xs : List V} (h : (!(xs.all fun v => wi v (.int 0) .non) || !wi (.int (xs.length : Int)) lo hi) = true) : bagV lo hi (some xs) = false := by
  unfold bagV
  rw [← Bool.not_and, Bool.not_eq_true'] at h
  dsimp only
  rw [h, Bool.false_and]
theorem bag_yes {lo hi : V} {xs : List V} (h : (!(xs.all fun v => wi v (.int 0) .non) || !wi (.int (xs.length : Int)) lo hi) = false) : ∃ ns : List Int, xs = ns.map V.int ∧ (∀ i ∈ ns, 0 ≤ i) ∧ bagV lo hi (some xs) = ascI ns := by
  rw [← Bool.not_and, Bool.not_eq_false'] at h
  obtain ⟨ns, rfl, hn⟩ := wi0_ints (Bool.and_eq_true_iff.mp h).1
  refine ⟨ns, rfl, hn, ?_⟩
  unfold bagV
  dsimp only
  rw [h, Bool.true_and, intsOf_map]
  rfl
section
variable {P : Program} {w : World} {K : PySem.W.Frag} {mg : Str → Option Value} {base : Heap}
theorem ok_isBag {f fW fR : Addr} {fd fdW fdR : FuncData} {k : Nat} (F : Fun K "_is_bag" "_is_bag" sIsBag f fd)
    (FR : Fun K "is_row" "is_row" sRow fR fdR) (GR : FnOk P w K mg base CX0 k fR fdR ["value", "least", "most"] (spRow K)) (bR : Binds K fdR ["value", "least", "most"] []) (gR : mg "is_row" = some (.ref fR))
    (FW : Fun K "is_within" "is_within" sWithin fW fdW) (GW : FnOk P w K mg base CX0 k fW fdW ["value", "least", "most"] (spWithin K)) (bW : Binds K fdW ["value", "least", "most"] []) (gW : mg "is_within" = some (.ref fW))
    (mlen : mg "len" = none) (mzip : mg "zip" = none) (mall : mg "all" = none) : FnOk P w K mg base CX0 (k + 1) f fd ["value", "least", "most"] (spIsBag K) := by
  refine F.ok scIsBag (fun vs H Q E h => ?_) (fun cdv A outer s H vs Q E hr h => ?_)
  · obtain ⟨x, lo, hi, r, rfl, _⟩ := h
    rfl
  · obtain ⟨x, lo, hi, r, rfl, h, hlo, hhi, q⟩ := h
    have nd := scIsBag.nd
    have row : ∀ {b : Bool} {H1 : Hp}, RowR K H1 (.int 0) .non x b → Evl.EvT (tNot (tB (tCall (spRow K) [] E0 (tCons (tVar 0) (tCons (tC (.int 0)) (tCons (tC .non) tNil)))))) (start ["value", "least", "most", "one", "other"] [x, lo, hi]) H1 (!b) := fun h => Evl.et_not (Evl.et_B (Evl.ev_call (Evl.ea_cons (Evl.ev_var rfl) (Evl.ea_cons Evl.ev_c (Evl.ea_cons Evl.ev_c Evl.ea_nil))) fun H1 e Q q E => ⟨x, .int 0, .non, _, rfl, h.ex e, trivial, trivial, q⟩))
    cases h with
    | @no x n h7 h1 h2 =>
      refine ⟨_, pss_cons (ps_if (PW.pt (pw_or (pt_not (pt_val (pe_call GR hr (by rfl) gR FR.kp bR .nil pass0 (pa_cons (pv 0) (pa_cons (pe_int) (pa_cons (pe_non) (pa_nil))))))) (pw_or1 (pt_not (pt_val (pe_call GW hr (by rfl) gW FW.kp bW .nil pass0 (pa_cons (pe_callB call_len_seq (by rfl) mlen PySem.boot_len (pa_cons (pv 0) (pa_nil))) (pa_cons (pv 1) (pa_cons (pv 2) (pa_nil)))))))))) (pss_one (ps_ret (pe_bl))) (pss_nil)) (pss_one (ps_ret (pe_callB (cr_all rfl) (by rfl) mall (by decide +kernel) (pa_cons (pe_lc (own := [("one", 3), ("other", 4)]) (g := gTup K 2 (gCons (gName 3) (gCons (gName 4) gNil))) (tt := tYes) (te := tOp (rI0 fun i j => V.bl (decide (i < j))) (tVar 3) (tVar 4)) rfl nd (pi_zipA (by rfl) mzip (pa_cons (pv 0) (pa_cons (pe_slice sl_list (pv 0) (po_some (pe_int)) (po_none)) (pa_nil)))) (blkOk_by (N := ["value", "least", "most", "one", "other"]) (sc := defScope sIsBag) (by decide +kernel)) (fun _ _ _ _ _ => pg_tup (by rfl) (pgs_cons (pg_name (i := 3) nd rfl (Or.inl rfl)) (pgs_cons (pg_name (i := 4) nd rfl (Or.inl rfl)) pgs_nil))) (fun _ _ _ _ _ => pts_nil) (fun _ _ _ _ _ => pe_cmpR op_lt (pv 3) (pv 4) (nomark _))) (pa_nil))))), ?_⟩
      exact Evl.q_when (b := true) (Evl.et_is (Evl.et_or (a := true) (b := true) (row (.no h7 h1 h2)) fun z => nomatch z) rfl) (fun _ H1 e1 => Evl.s_ret Evl.ev_c fun H2 e2 => q H2 (e1.trans e2)) fun z => nomatch z
    | @lst a xs hS hl hi0 =>
      refine ⟨_, pss_cons (ps_if (PW.pt (pw_or (pt_not (pt_val (pe_call GR hr (by rfl) gR FR.kp bR .nil pass0 (pa_cons (pv 0) (pa_cons (pe_int) (pa_cons (pe_non) (pa_nil))))))) (pw_or1 (pt_not (pt_val (pe_call GW hr (by rfl) gW FW.kp bW .nil pass0 (pa_cons (pe_callB call_len_seq (by rfl) mlen PySem.boot_len (pa_cons (pv 0) (pa_nil))) (pa_cons (pv 1) (pa_cons (pv 2) (pa_nil)))))))))) (pss_one (ps_ret (pe_bl))) (pss_nil)) (pss_one (ps_ret (pe_callB (cr_all rfl) (by rfl) mall (by decide +kernel) (pa_cons (pe_lc (own := [("one", 3), ("other", 4)]) (g := gTup K 2 (gCons (gName 3) (gCons (gName 4) gNil))) (tt := tYes) (te := tOp (rI0 fun i j => V.bl (decide (i < j))) (tVar 3) (tVar 4)) rfl nd (pi_zipA (by rfl) mzip (pa_cons (pv 0) (pa_cons (pe_slice sl_list (pv 0) (po_some (pe_int)) (po_none)) (pa_nil)))) (blkOk_by (N := ["value", "least", "most", "one", "other"]) (sc := defScope sIsBag) (by decide +kernel)) (fun _ _ _ _ _ => pg_tup (by rfl) (pgs_cons (pg_name (i := 3) nd rfl (Or.inl rfl)) (pgs_cons (pg_name (i := 4) nd rfl (Or.inl rfl)) pgs_nil))) (fun _ _ _ _ _ => pts_nil) (fun _ _ _ _ _ => pe_cmpR op_lt (pv 3) (pv 4) (nomark _))) (pa_nil))))), ?_⟩
      refine Evl.q_when (Evl.et_or (row (.lst hS (by omega) hi0)) fun _ => Evl.et_not (Evl.et_B (Evl.ev_call (Evl.ea_cons (ev_lenB (K := K) (Evl.ev_var rfl) (.inl hS)) (Evl.ea_cons (Evl.ev_var rfl) (Evl.ea_cons (Evl.ev_var rfl) Evl.ea_nil))) (spv_within (.int _) hlo hhi)))) (fun hb H1 e1 => Evl.s_ret Evl.ev_c fun H2 e2 => ?_) fun hb H1 e1 => ?_
      · rw [show false = bagV lo hi (some xs) from (bag_no hb).symm]
        exact q H2 (e1.trans e2)
      · obtain ⟨ns, rfl, h1, h2⟩ := bag_yes hb
        refine Evl.s_ret (ev_allN (bs := (List.range (ns.length - 1)).map fun i => decide (ns.getD i 0 < ns.getD (i + 1) 0)) ?_) fun H2 e2 => ?_
        · have := el_lcI (te := tOp (rI0 fun i j => V.bl (decide (i < j))) (tVar 3) (tVar 4)) (t := tYes) (σ := start ["value", "least", "most", "one", "other"] [.ref a, lo, hi]) (H := H1) (vs := [3, 4]) (fun _ => true) (fun i => V.bl (decide (ns.getD i 0 < ns.getD (i + 1) 0))) (ei_zipOwnL (K := K) (Evl.ev_var (i := 0) rfl) (Evl.ex_l e1 hS)) (aims_pair (K := K) (j1 := 3) (j2 := 4)) (fun _ => rfl) (by omega) (fun _ _ _ _ => et_yes) (fun i A eA hi _ => by
            rw [List.length_map] at hi
            exact Evl.ev_op (Evl.ev_is (Evl.ev_var rfl) (gd_int (by omega))) (Evl.ev_is (Evl.ev_var rfl) (gd_int1 hi)) Evl.rv_I0)
          rw [given_rng, List.length_map] at this
          rw [List.map_map]
          exact this
        · rw [← asc_pairs, ← h2]
          exact q H2 (e1.trans e2)
    | @tup a xs hS hl hi0 =>
      refine ⟨_, pss_cons (ps_if (PW.pt (pw_or (pt_not (pt_val (pe_call GR hr (by rfl) gR FR.kp bR .nil pass0 (pa_cons (pv 0) (pa_cons (pe_int) (pa_cons (pe_non) (pa_nil))))))) (pw_or1 (pt_not (pt_val (pe_call GW hr (by rfl) gW FW.kp bW .nil pass0 (pa_cons (pe_callB call_len_seq (by rfl) mlen PySem.boot_len (pa_cons (pv 0) (pa_nil))) (pa_cons (pv 1) (pa_cons (pv 2) (pa_nil)))))))))) (pss_one (ps_ret (pe_bl))) (pss_nil)) (pss_one (ps_ret (pe_callB (cr_all rfl) (by rfl) mall (by decide +kernel) (pa_cons (pe_lc (own := [("one", 3), ("other", 4)]) (g := gTup K 2 (gCons (gName 3) (gCons (gName 4) gNil))) (tt := tYes) (te := tOp (rI0 fun i j => V.bl (decide (i < j))) (tVar 3) (tVar 4)) rfl nd (pi_zipA (by rfl) mzip (pa_cons (pv 0) (pa_cons (pe_slice sl_tupA (pv 0) (po_some (pe_int)) (po_none)) (pa_nil)))) (blkOk_by (N := ["value", "least", "most", "one", "other"]) (sc := defScope sIsBag) (by decide +kernel)) (fun _ _ _ _ _ => pg_tup (by rfl) (pgs_cons (pg_name (i := 3) nd rfl (Or.inl rfl)) (pgs_cons (pg_name (i := 4) nd rfl (Or.inl rfl)) pgs_nil))) (fun _ _ _ _ _ => pts_nil) (fun _ _ _ _ _ => pe_cmpR op_lt (pv 3) (pv 4) (nomark _))) (pa_nil))))), ?_⟩
      refine Evl.q_when (Evl.et_or (row (.tup hS (by omega) hi0)) fun _ => Evl.et_not (Evl.et_B (Evl.ev_call (Evl.ea_cons (ev_lenB (K := K) (Evl.ev_var rfl) (.inr hS)) (Evl.ea_cons (Evl.ev_var rfl) (Evl.ea_cons (Evl.ev_var rfl) Evl.ea_nil))) (spv_within (.int _) hlo hhi)))) (fun hb H1 e1 => Evl.s_ret Evl.ev_c fun H2 e2 => ?_) fun hb H1 e1 => ?_
      · rw [show false = bagV lo hi (some xs) from (bag_no hb).symm]
        exact q H2 (e1.trans e2)
      · obtain ⟨ns, rfl, h1, h2⟩ := bag_yes hb
        refine Evl.s_ret (ev_allN (bs := (List.range (ns.length - 1)).map fun i => decide (ns.getD i 0 < ns.getD (i + 1) 0)) ?_) fun H2 e2 => ?_
        · have := el_lcI (te := tOp (rI0 fun i j => V.bl (decide (i < j))) (tVar 3) (tVar 4)) (t := tYes) (σ := start ["value", "least", "most", "one", "other"] [.ref a, lo, hi]) (H := H1) (vs := [3, 4]) (fun _ => true) (fun i => V.bl (decide (ns.getD i 0 < ns.getD (i + 1) 0))) (ei_zipOwnT (K := K) (Evl.ev_var (i := 0) rfl) (Evl.ex_t e1 hS)) (aims_pair (K := K) (j1 := 3) (j2 := 4)) (fun _ => rfl) (by omega) (fun _ _ _ _ => et_yes) (fun i A eA hi _ => by
            rw [List.length_map] at hi
            exact Evl.ev_op (Evl.ev_is (Evl.ev_var rfl) (gd_int (by omega))) (Evl.ev_is (Evl.ev_var rfl) (gd_int1 hi)) Evl.rv_I0)
          rw [given_rng, List.length_map] at this
          rw [List.map_map]
          exact this
        · rw [← asc_pairs, ← h2]
          exact q H2 (e1.trans e2)
end
end P38
end S_Nad
section S_Nae
namespace P38
open PySem PySem.Spec PyProof.Rows L2 Tl Hk RZ
/-! ### lists of bags -/
/-- a value, and its items if it is a list or a tuple -/
inductive BagsD (K : PySem.W.Frag) (H : Hp) : V → Option (List (Option (List V))) → Prop where
  | no {x : V} {n : String} (h : Ty7 K H x n) (h1 : n ≠ "list") (h2 : n ≠ "tuple") : BagsD K H x none
  | seq {a : Addr} {xs : List V} {rs : List (Option (List V))} (h : SqS K H a xs) (hn : xs.length = rs.length) (hl : xs.length ≤ 3000) (hi : ∀ (i : Nat) (v : V) (r : Option (List V)), xs[i]? = some v → rs[i]? = some r → BagD K H v r) : BagsD K H (.ref a) (some rs)
theorem BagsD.ex {K : PySem.W.Frag} {H H' : Hp} {x : V} {r : Option (List (Option (List V)))} (h : BagsD K H x r) (e : Evl.Ex H H') : BagsD K H' x r := by
  cases h with
  | no h h1 h2 => exact .no (h.ex e) h1 h2
  | seq h hn hl hi => exact .seq (h.ex e) hn hl fun i v r a b => (hi i v r a b).ex e
theorem BagsD.ty {K : PySem.W.Frag} {H : Hp} {x : V} {r : Option (List (Option (List V)))} (h : BagsD K H x r) : ∃ n, Ty7 K H x n := by
  cases h with
  | no h _ _ => exact ⟨_, h⟩
  | seq h _ _ _ =>
    rcases h with h | h
    · exact ⟨_, .lst h⟩
    · exact ⟨_, .tup h⟩
def bagsV (lo hi : V) : Option (List (Option (List V))) → Bool
  | none => false
  | some rs => rs.all (bagV lo hi)
def spAreBags (K : PySem.W.Frag) : Sp := fun vs H Q _ => ∃ (x lo hi : V) (r : Option (List (Option (List V)))), vs = [x, lo, hi] ∧ BagsD K H x r ∧ Bnd lo ∧ Bnd hi ∧ ∀ H1, Evl.Ex H H1 → Q (.bl (bagsV lo hi r)) H1
theorem spv_areBags {K : PySem.W.Frag} {H : Hp} {x lo hi : V} {r : Option (List (Option (List V)))} (h : BagsD K H x r) (h1 : Bnd lo) (h2 : Bnd hi) : Evl.SpV (spAreBags K) [x, lo, hi] H (.bl (bagsV lo hi r)) := fun H1 e Q q E => ⟨x, lo, hi, r, rfl, h.ex e, h1, h2, q⟩
theorem scAreBags : FnScope ["value", "least", "most", "bag"] ["value", "least", "most"] (defScope sAreBags) := ⟨rfl, rfl, rfl, by decide +kernel, rfl, by decide +kernel, by decide +kernel⟩
/-- enumerate of a list or a tuple -/
def iEnE (K : PySem.W.Frag) (ta : TA) : TI := fun σ H R => iEnum K ta σ H R ∨ iEnumT K ta σ H R
theorem pi_enE {X : Cx} {e : Expr} {ta : TA} {p pos tpos : Pos} {elts : List Expr} {kk : Nat} (hg : Gl X "enumerate") (hm : X.mg "enumerate" = none) (ha : PA X [e] ta) (hs : starEach [e] X.env = [(false, eval e X.env)] := by rfl) : PI X (.Tuple elts kk tpos) (.Call (.Name "enumerate" p) [e] [] pos) (iEnE X.K ta) :=
  ⟨fun pins s σ H R I h => h.elim (fun h => (pi_enum hg hm ha hs).run pins s σ H R I h) fun h => (pi_enumT hg hm ha hs).run pins s σ H R I h⟩
theorem ei_enE {K : PySem.W.Frag} {σ : L2.St} {H : Hp} {a : Addr} {xs : List V} {ta : TA} (h : Evl.EvA ta σ H [.ref a]) (hs : SqS K H a xs) : EvI (iEnE K ta) σ H xs.length (YPair (fun i => some (.int (i : Nat))) (fun i => xs[i]?)) := fun H1 e R k =>
  hs.elim (fun hs => .inl (ei_enum h hs H1 e R k)) fun hs => .inr (ei_enumT h hs H1 e R k)
theorem aims_enumE {K : PySem.W.Frag} {xs : List V} {n j1 j2 : Nat} : Aims (gTup K 2 (gCons (gName j1) (gCons (gName j2) gNil))) n (YPair (fun i => some (.int (i : Nat))) (fun i => xs[i]?))
    (fun i σ => (σ.set j1 (some (.int (i : Nat)))).set j2 (some (xs.getD i .non))) := fun i σ H v H' hi y => by
  obtain ⟨T, x, y, rfl, hT, rfl, h1, h2⟩ := y
  have h1 : some (V.int (i : Nat)) = some x := h1
  have h2 : xs[i]? = some y := h2
  cases h1
  obtain rfl : xs.getD i .non = y := by rw [List.getD_eq_getElem?_getD, h2]; rfl
  exact ⟨Evl.Ex.new hT, fun Q q => ⟨T, _, rfl, Evl.st_of upd_same, rfl, _, _, rfl, _, _, rfl, rfl, q⟩⟩
section
variable {P : Program} {w : World} {K : PySem.W.Frag} {mg : Str → Option Value} {base : Heap}
theorem ok_areBags {f fB fL : Addr} {fd fdB fdL : FuncData} {k : Nat} (F : Fun K "are_bags" "are_bags" sAreBags f fd)
    (FB : Fun K "_is_bag" "_is_bag" sIsBag fB fdB) (GB : FnOk P w K mg base CX0 k fB fdB ["value", "least", "most"] (spIsBag K)) (bB : Binds K fdB ["value", "least", "most"] []) (gB : mg "_is_bag" = some (.ref fB))
    (FL : Fun K "is_list" "is_list" sList fL fdL) (GL : FnOk P w K mg base CX0 k fL fdL ["value"] (spList K)) (bL : Binds K fdL ["value"] []) (gL : mg "is_list" = some (.ref fL)) (mall : mg "all" = none) : FnOk P w K mg base CX0 (k + 1) f fd ["value", "least", "most"] (spAreBags K) := by
  refine F.ok scAreBags (fun vs H Q E h => ?_) (fun cdv A outer s H vs Q E hr h => ?_)
  · obtain ⟨x, lo, hi, r, rfl, _⟩ := h
    rfl
  · obtain ⟨x, lo, hi, r, rfl, h, hlo, hhi, q⟩ := h
    have nd := scAreBags.nd
    refine ⟨_, pss_one (ps_ret (pe_and (pe_call GL hr (by rfl) gL FL.kp bL .nil pass0 (pa_cons (pv 0) (pa_nil))) (pe_one (pe_callB (cr_all rfl) (by rfl) mall (by decide +kernel) (pa_cons (pe_lc (own := [("bag", 3)]) (g := gName 3) (tt := tYes) (te := tCall (spIsBag K) [] E0 (tCons (tVar 3) (tCons (tVar 1) (tCons (tVar 2) tNil)))) rfl nd (pi_ei (pv 0)) (blkOk_by (N := ["value", "least", "most", "bag"]) (sc := defScope sAreBags) (by decide +kernel)) (fun _ _ _ _ _ => pg_name (i := 3) nd rfl (Or.inl rfl)) (fun _ _ _ _ _ => pts_nil) (fun _ _ _ _ _ => pe_call GB hr (by rfl) gB FB.kp bB .nil pass0 (pa_cons (pv 3) (pa_cons (pv 1) (pa_cons (pv 2) (pa_nil)))))) (pa_nil)))))), ?_⟩
    have isl : ∀ {n : String}, Ty7 K H x n → Evl.Ev (tCall (spList K) [] E0 (tCons (tVar 0) tNil)) (start ["value", "least", "most", "bag"] [x, lo, hi]) H (.bl (decide (n = "list") || decide (n = "tuple"))) :=
      fun h7 => Evl.ev_call (Evl.ea_cons (Evl.ev_var rfl) Evl.ea_nil) (spv_list h7)
    cases h with
    | @no x n h7 h1 h2 =>
      have eb : (decide (n = "list") || decide (n = "tuple")) = false := by simp [h1, h2]
      exact Evl.s_ret (Evl.ev_is (Evl.ev_andV (b := false) (isl h7) fun z => by rw [eb] at z; cases z) (by rw [eb] <;> rfl)) q
    | @seq a xs rs hS hn hl hi0 =>
      have isT : Evl.Ev (tCall (spList K) [] E0 (tCons (tVar 0) tNil)) (start ["value", "least", "most", "bag"] [.ref a, lo, hi]) H (.bl true) := by
        rcases hS with hS | hS
        · exact isl (.lst hS)
        · exact isl (.tup hS)
      have item := el_lcI (te := tCall (spIsBag K) [] E0 (tCons (tVar 3) (tCons (tVar 1) (tCons (tVar 2) tNil)))) (t := tYes) (σ := start ["value", "least", "most", "bag"] [.ref a, lo, hi]) (H := H) (vs := [3]) (fun _ => true) (fun i => V.bl (bagV lo hi (rs.getD i none))) (ei_ei (K := K) (Evl.ev_var (i := 0) rfl) hS) (aims_at (j := 3)) (fun _ => rfl) (by omega) (fun _ _ _ _ => et_yes) (fun i A eA hi _ => by
        have hx := List.getElem?_eq_getElem hi
        have hr2 := List.getElem?_eq_getElem (show i < rs.length by omega)
        rw [show xs.getD i .non = xs[i] from by rw [List.getD_eq_getElem?_getD, hx]; rfl, show rs.getD i none = rs[i]'(by omega) from by rw [List.getD_eq_getElem?_getD, hr2]; rfl]
        exact Evl.ev_call (Evl.ea_cons (Evl.ev_var rfl) (Evl.ea_cons (Evl.ev_var rfl) (Evl.ea_cons (Evl.ev_var rfl) Evl.ea_nil))) (spv_isBag ((hi0 i _ _ hx hr2).ex eA) hlo hhi))
      rw [hn, given_all rs none fun r => V.bl (bagV lo hi r)] at item
      refine Evl.s_ret (v := .bl (true && rs.all (bagV lo hi))) (Evl.ev_andV isT fun _ => Evl.ev_is (ev_allN (bs := rs.map (bagV lo hi)) (by rw [List.map_map]; exact item)) ?_) fun H1 e1 => ?_
      · rw [List.all_map]; rfl
      · rw [Bool.true_and]; exact q H1 e1
end
/-! ### the way up -/
/-- indexes as values -/
def nv (l : List Nat) : List V := l.map fun k : Nat => V.int (k : Int)
/-- what stands above each: as values -/
def uv : Option Nat → V
  | none => .non
  | some k => .int (k : Int)
/-- from here one comes up to a top -/
inductive Top (ups : List (Option Nat)) : Nat → Prop where
  | top {i : Nat} (h : ups[i]? = some none) : Top ups i
  | up {i j : Nat} (h : ups[i]? = some (some j)) (t : Top ups j) : Top ups i
theorem Top.lt {ups : List (Option Nat)} {i : Nat} (h : Top ups i) : i < ups.length := by
  cases h with
  | top h => exact (List.getElem?_eq_some_iff.mp h).1
  | up h _ => exact (List.getElem?_eq_some_iff.mp h).1
def kids (ups : List (Option Nat)) (j n : Nat) : List Nat := (List.range n).filter fun k => decide (ups[k]? = some (some j))
def tops (ups : List (Option Nat)) (n : Nat) : List Nat := (List.range n).filter fun k => decide (ups[k]? = some none)
theorem kids_mem {ups : List (Option Nat)} {j n x : Nat} : x ∈ kids ups j n ↔ x < n ∧ ups[x]? = some (some j) := by
  unfold kids
  rw [List.mem_filter, List.mem_range, decide_eq_true_iff]
theorem tops_mem {ups : List (Option Nat)} {n x : Nat} : x ∈ tops ups n ↔ x < n ∧ ups[x]? = some none := by
  unfold tops
  rw [List.mem_filter, List.mem_range, decide_eq_true_iff]
theorem kids_nd (ups : List (Option Nat)) (j n : Nat) : (kids ups j n).Nodup := List.Pairwise.filter _ List.nodup_range
theorem tops_nd (ups : List (Option Nat)) (n : Nat) : (tops ups n).Nodup := List.Pairwise.filter _ List.nodup_range
theorem kids_succ (ups : List (Option Nat)) (j n : Nat) : kids ups j (n + 1) = kids ups j n ++ if ups[n]? = some (some j) then [n] else [] := by
  unfold kids
  rw [List.range_succ, List.filter_append]
  congr 1
  by_cases h : ups[n]? = some (some j) <;> simp [h]
theorem tops_succ (ups : List (Option Nat)) (n : Nat) : tops ups (n + 1) = tops ups n ++ if ups[n]? = some none then [n] else [] := by
  unfold tops
  rw [List.range_succ, List.filter_append]
  congr 1
  by_cases h : ups[n]? = some none <;> simp [h]
/-- how far the walk down has come -/
structure Dn (ups : List (Option Nat)) (order wl : List Nat) : Prop where
  nd : (order ++ wl).Nodup
  tp : ∀ x ∈ order ++ wl, Top ups x
  top : ∀ x, ups[x]? = some none → x ∈ order ++ wl
  kid : ∀ o ∈ order, ∀ x, ups[x]? = some (some o) → x ∈ order ++ wl
  par : ∀ x ∈ order ++ wl, ∀ o, ups[x]? = some (some o) → o ∈ order
theorem Dn.start (ups : List (Option Nat)) : Dn ups [] (tops ups ups.length) := by
  refine ⟨by rw [List.nil_append]; exact tops_nd _ _, fun x hx => ?_, fun x hx => ?_, (fun o ho => nomatch ho), fun x hx o ho => ?_⟩
  · rw [List.nil_append] at hx
    exact .top (tops_mem.mp hx).2
  · rw [List.nil_append]
    exact tops_mem.mpr ⟨(List.getElem?_eq_some_iff.mp hx).1, hx⟩
  · rw [List.nil_append] at hx
    rw [(tops_mem.mp hx).2] at ho
    cases ho
theorem Dn.step {ups : List (Option Nat)} {order wl : List Nat} {y : Nat} (d : Dn ups order (wl ++ [y])) : Dn ups (order ++ [y]) (wl ++ kids ups y ups.length) := by
  have hp : (order ++ (wl ++ [y])).Perm ((order ++ [y]) ++ wl) := by
    rw [List.append_assoc]
    exact List.Perm.append_left _ List.perm_append_comm
  have hin : ∀ x, x ∈ (order ++ [y]) ++ (wl ++ kids ups y ups.length) ↔ x ∈ order ++ (wl ++ [y]) ∨ x ∈ kids ups y ups.length := fun x => by
    rw [← List.append_assoc, List.mem_append, hp.mem_iff]
  have yin : y ∈ order ++ (wl ++ [y]) := by simp
  have yno : y ∉ order := fun z => (List.nodup_append.mp d.nd).2.2 y z y (by simp) rfl
  have kno : ∀ x ∈ kids ups y ups.length, x ∉ order ++ (wl ++ [y]) := fun x hx hz => yno (d.par x hz y (kids_mem.mp hx).2)
  refine ⟨?_, fun x hx => ?_, fun x hx => ?_, fun o ho x hx => ?_, fun x hx o ho => ?_⟩
  · rw [← List.append_assoc]
    refine List.nodup_append.mpr ⟨hp.nodup_iff.mp d.nd, kids_nd _ _ _, fun a ha b hb e => ?_⟩
    subst e
    exact kno a hb (hp.mem_iff.mpr ha)
  · rcases (hin x).mp hx with hx | hx
    · exact d.tp x hx
    · exact .up (kids_mem.mp hx).2 (d.tp y yin)
  · exact (hin x).mpr (.inl (d.top x hx))
  · rcases List.mem_append.mp ho with ho | ho
    · exact (hin x).mpr (.inl (d.kid o ho x hx))
    · rw [List.mem_singleton.mp ho] at hx
      exact (hin x).mpr (.inr (kids_mem.mpr ⟨(List.getElem?_eq_some_iff.mp hx).1, hx⟩))
  · rcases (hin x).mp hx with hx | hx
    · exact List.mem_append.mpr (.inl (d.par x hx o ho))
    · rw [(kids_mem.mp hx).2] at ho
      cases ho
      simp
theorem Dn.done {ups : List (Option Nat)} {order : List Nat} (d : Dn ups order []) : order.Nodup ∧ ∀ x, x ∈ order ↔ Top ups x := by
  have nd := d.nd
  rw [List.append_nil] at nd
  refine ⟨nd, fun x => ⟨fun h => d.tp x (by rw [List.append_nil]; exact h), fun h => ?_⟩⟩
  induction h with
  | top h => have := d.top _ h; rwa [List.append_nil] at this
  | up h _ ih => have := d.kid _ ih _ h; rwa [List.append_nil] at this
theorem nd_le : ∀ {l m : List Nat}, l.Nodup → (∀ x ∈ l, x ∈ m) → l.length ≤ m.length
  | [], _, _, _ => Nat.zero_le _
  | a :: r, m, h1, h2 => by
    obtain ⟨n1, n2⟩ := List.nodup_cons.mp h1
    have ha := h2 a (by simp)
    have := nd_le (m := m.erase a) n2 fun x hx => (List.mem_erase_of_ne (fun (z : x = a) => n1 (by rw [← z]; exact hx))).mpr (h2 x (by simp [hx]))
    rw [List.length_erase_of_mem ha] at this
    have hp := List.length_pos_of_mem ha
    rw [List.length_cons]
    omega
theorem Dn.le {ups : List (Option Nat)} {order wl : List Nat} (d : Dn ups order wl) : (order ++ wl).length ≤ ups.length := by
  have h := nd_le d.nd (m := List.range ups.length) fun x hx => List.mem_range.mpr (d.tp x hx).lt
  rwa [List.length_range] at h
theorem Dn.full {ups : List (Option Nat)} {order : List Nat} (d : Dn ups order []) : order.length = ups.length ↔ ∀ x, x < ups.length → Top ups x := by
  obtain ⟨nd, hm⟩ := d.done
  have hle := d.le
  rw [List.append_nil] at hle
  constructor
  · intro he x hx
    by_cases hz : x ∈ order
    · exact (hm x).mp hz
    · have := nd_le (l := x :: order) (m := List.range ups.length) (List.nodup_cons.mpr ⟨hz, nd⟩) fun y hy => List.mem_range.mpr (by
        rcases List.mem_cons.mp hy with rfl | hy
        · exact hx
        · exact ((hm y).mp hy).lt)
      rw [List.length_cons, List.length_range] at this
      omega
  · intro h
    have := nd_le (l := List.range ups.length) (m := order) List.nodup_range fun y hy => (hm y).mpr (h y (List.mem_range.mp hy))
    rw [List.length_range] at this
    omega
end P38
end S_Nae
section S_Xh
namespace EnL
open PySem PySem.Spec PyProof.Rows L2 Tl
/-! ### == and != by an own __eq__, whatever it says -/
section
variable {prog : Program} {w : World} {A : Around} {E : Value → Shared → Prop} {s : Shared} {K : PySem.W.Frag} {x C f L : Addr} {h₀ : Heap} {m : Str → Option Value} {ox : Obj} {od : Option Obj} {b tb : Value}
theorem check_slotK {M : Model} {id owner n : String} {rest : List Value} {Q : Unit → Shared → Prop} (hk : builtinKind id = some .slot) (hs : splitId id = some (owner, n)) (ha : argsOk id ⟨.ref x :: rest, []⟩)
    (X : K.In s.heap) (I : PySem.W.InstAt s.heap x ox C od) (hm : PySem.W.mroIn K C (.type owner) = some true) (hq : Q () s) : wpAny M A (checkBuiltinCall id ⟨.ref x :: rest, []⟩) Q E s := by
  simp only [checkBuiltinCall, hk, hs]
  refine wpAny_bind ?_
  unfold isInstance
  refine wpAny_bind (I.type.here ?_)
  refine (PySem.W.looks_mroIn X hm).here ?_
  cases hsig : Manifest.signature? id with
  | none => exact wpAny_pure hq
  | some sig =>
    simp only [argsOk, hsig] at ha
    have h2 : Bind.checkArgs id sig ⟨.ref x :: rest, []⟩ = pure () := ha
    show wpAny M A (Bind.checkArgs id sig ⟨.ref x :: rest, []⟩) Q E _
    rw [h2]; exact wpAny_pure hq
theorem ifBound_ne {M : Model} {Q : Option Value → Shared → Prop} (X : K.In s.heap) (I : PySem.W.InstAt s.heap x ox C od) (hs : PySem.W.findIn K (.ref C) "__ne__" = some (some (.builtin "object.__ne__")))
    (h : wpAny M A (call (.builtin "object.__ne__") [.ref x, b]) (fun v => Q (some v)) E s) : wpAny M A (callSpecialIfBound? (.ref x) "__ne__" [b]) Q E s := by
  simp only [callSpecialIfBound?, bindSpecialIfBound?]
  refine wpAny_holding (wpAny_bind (wpAny_bind (wpAny_bind (I.type.here ((PySem.W.looks_findIn X hs).here ?_)))))
  refine wpAny_bind (wpAny_askSetting (wpAny_ite ?_))
  have fin : wpAny M A (call (.builtin "object.__ne__") ([.ref x] ++ [b]) >>= fun v => pure (some v)) Q E s := wpAny_bind (wpAny_mono h (fun v s' h' => wpAny_pure h') fun _ _ h' => h')
  split
  · rw [F.cmp_object.ne.bind]
    exact wpAny_bind (wpAny_pure (wpAny_pure (by exact fin)))
  · refine wpAny_tryCatch ?_
    rw [F.cmp_object.ne.bind]
    exact wpAny_bind (wpAny_pure (wpAny_pure (by exact fin)))
theorem ne_entryK {Q : Fin → Shared → Prop} (X : K.In s.heap) (I : PySem.W.InstAt s.heap x ox C od) (hu : A.units < cLine) (hs : PySem.W.findIn K (.ref C) "__eq__" = some (some (.ref f))) (hf : PySem.W.isFn K (.ref f) = true)
    (hcall : wpAny (model prog w) A (call (.ref f) [.ref x, b]) (fun v s' => ∃ k, v = .bool k ∧ Q (.done (.ret (.bool (!k)))) s') E s) :
    wpAny (model prog w) A (Builtin.«object.__ne__» ⟨[.ref x, b], []⟩) Q E s := by
  unfold Builtin.«object.__ne__»
  have eq1 := fun (Q1 : Option Value → Shared → Prop) (h : wpAny (model prog w) A (call (.ref f) [.ref x, b]) (fun v => Q1 (some v)) E s) => PySem.W.ifBound_K (args := [b]) (E := E) X I hs hf h
  repeat (first
    | with_reducible refine wpAny_cRoomFor hu ?_
    | (refine wpAny_bind (m := callSpecialIfBound? (.ref x) (Str.ofString "__eq__") [b])
        (eq1 _ (wpAny_mono hcall (fun v s' hv => by
          obtain ⟨k, rfl, hq⟩ := hv
          repeat (first | exact hq | exact wpAny_pure hq | exact wpAny_truthy_bool hq | (refine wpAny_bind (m := truthy (.bool _)) (wpAny_truthy_bool ?_)) | wp_step)) fun _ _ e => e)))
    | wp_step)
theorem richK {op : CmpOp} {Q : Value → Shared → Prop} (hu : A.units < cLine) (X : K.In s.heap) (I : PySem.W.InstAt s.heap x ox C od) (hb : PySem.W.Looks (model prog w) s.heap (typeOf b) tb) (hn : PySem.W.notFirst K C tb = true)
    (h : wpAny (model prog w) A (tryCompare (.ref x) (cmpInfo op).2.1 b) (fun r s' => ∃ v, r = some v ∧ Q v s') E s) : wpAny (model prog w) A (richCompare op (.ref x) b) Q E s := by
  unfold richCompare
  simp only [oneThing_ref]
  refine wpAny_holding (wpAny_bind (wpAny_cRoomFor hu ?_))
  refine wpAny_bind (I.type.here (wpAny_bind (hb.here ?_)))
  split
  · rename_i q
    have e : PySem.W.subIn K tb (.ref C) = some false := by
      rcases Bool.or_eq_true_iff.mp hn with e | e
      · rw [beq_iff_eq.mp e] at q; simp at q
      · exact beq_iff_eq.mp e
    refine wpAny_bind ((PySem.W.looks_subIn X e).here ?_)
    simp only [Bool.false_eq_true, if_false]
    refine wpAny_bind (wpAny_mono h (fun r s' z => ?_) fun _ _ e => e)
    obtain ⟨v, rfl, hq⟩ := z
    exact wpAny_pure hq
  · refine wpAny_bind (wpAny_pure ?_)
    simp only [Bool.false_eq_true, if_false]
    refine wpAny_bind (wpAny_mono h (fun r s' z => ?_) fun _ _ e => e)
    obtain ⟨v, rfl, hq⟩ := z
    exact wpAny_pure hq
theorem cmp_ne {Q : Value → Shared → Prop} (hu : A.units + 1 < cLine) (X : K.In s.heap) (I : PySem.W.InstAt s.heap x ox C od) (hb : PySem.W.Looks (model prog w) s.heap (typeOf b) tb) (hn : PySem.W.notFirst K C tb = true)
    (hs : PySem.W.findIn K (.ref C) "__eq__" = some (some (.ref f))) (hf : PySem.W.isFn K (.ref f) = true) (hne : PySem.W.findIn K (.ref C) "__ne__" = some (some (.builtin "object.__ne__"))) (hm : PySem.W.mroIn K C (.type "object") = some true)
    (h : wpAny (model prog w) A.in1 (call (.ref f) [.ref x, b]) (fun v s' => ∃ k, v = .bool k ∧ Q (.bool (!k)) s') E s) : wpAny (model prog w) A (richCompare .NotEq (.ref x) b) Q E s := by
  refine richK (Nat.lt_of_succ_lt hu) X I hb hn ?_
  show wpAny (model prog w) A (tryCompare (.ref x) "__ne__" b) (fun r s' => ∃ v, r = some v ∧ Q v s') E s
  unfold tryCompare
  refine wpAny_bind (ifBound_ne (Q := fun r s' => wpAny (model prog w) A (match r with | some .notImplemented => pure none | none => pure none | some v => pure (some v)) (fun r s' => ∃ v, r = some v ∧ Q v s') E s') X I hne (wpAny_call (codeAny_call_builtin F.cmp_object.ne.plain F.cmpEntry_ne (check_slotK F.cmpKind_ne F.cmpSplit_ne (F.cmpArgs_ne _ _) X I hm (ne_entryK (A := A.in1) X I hu hs hf (wpAny_mono h (fun v s' hv => ?_) fun _ _ e => e))))))
  obtain ⟨k, rfl, hq⟩ := hv
  exact ⟨k, rfl, wpAny_pure ⟨_, rfl, hq⟩⟩
end
/-- y stands aside when an instance of the class at C is compared with it -/
def Aside (K : PySem.W.Frag) (C : Addr) (H : Hp) (y : V) : Prop := (∃ b dy gs, y = .ref b ∧ H b = some (.ins C dy gs)) ∨ (∃ b ys, y = .ref b ∧ SqT K H b ys ∧ PySem.W.subIn K (.type "tuple") (.ref C) = some false)
/-- x == y (neg: x != y), x an instance of the class at C with an own __eq__ -/
def rOwnEq (K : PySem.W.Frag) (C : Addr) (neg : Bool) (sp : Sp) (E : XK) : R2 := fun x y H Q => ∃ a dx fs, x = .ref a ∧ H a = some (.ins C dx fs) ∧ Aside K C H y ∧ sp [x, y] H (fun v H' => ∃ k, v = .bl k ∧ Q (.bl (k != neg)) H') E
section
variable {X : Cx} {CX : CXT} {C f : Addr} {fd : FuncData} {ps : List Str} {n : Nat} {sp : Sp} {E : XK}
theorem aside_looks {pins : List (Addr × Obj)} {σ : L2.St} {H : Hp} {s : Shared} {y : V} {u : Value} (I : Inv X pins σ H s) (ry : RelV y u) (h : Aside X.K C H y) : ∃ tb, PySem.W.Looks (model X.prog X.w) s.heap (typeOf u) tb ∧ PySem.W.notFirst X.K C tb = true := by
  rcases h with ⟨b, dy, gs, rfl, hb⟩ | ⟨b, ys, rfl, hb, hs⟩
  · cases (show u = Value.ref b from ry)
    obtain ⟨mB, J, _⟩ := ins_get I.hok hb
    obtain ⟨od, J, _⟩ := J.look
    exact ⟨_, J.type, by simp [PySem.W.notFirst]⟩
  · cases (show u = Value.ref b from ry)
    obtain ⟨its, _, ⟨o, e, ec, _⟩, _⟩ := I.tuple hb
    refine ⟨.type "tuple", ?_, by simp [PySem.W.notFirst, hs]⟩
    intro A Q E s' k q
    refine wpAny_typeOf_ref (k _ _ e) ?_
    rw [ec]
    exact q
theorem op_ownEq (hs : PySem.W.findIn X.K (.ref C) "__eq__" = some (some (.ref f))) (hf : PySem.W.isFn X.K (.ref f) = true) (F : FnOk X.prog X.w X.K X.mg X.base CX n f fd ps sp) (hb : Binds X.K fd ps [])
    (hr : Room n X.A) (hx : Passes CX X E) : OpR X (compareOp .Eq) (rOwnEq X.K C false sp E) := by
  intro pins s σ H x y v u Q I rx ry h
  obtain ⟨a, dx, fs, rfl, ha, hy, q⟩ := h
  cases (show v = Value.ref a from rx)
  obtain ⟨mA, J, _⟩ := ins_get I.hok ha
  obtain ⟨od, J, _⟩ := J.look
  obtain ⟨m, hF⟩ := I.fr
  obtain ⟨tb, L, hn⟩ := aside_looks I ry hy
  show wpAny (model X.prog X.w) X.A (richCompare .Eq (.ref a) u) (EP X pins σ Q) X.xe s
  refine PySem.W.cmp_K (op := .Eq) hr.units0 hF I.ok.mod.kin J L hn hs hf ?_
  refine wpAny_mono (run_fn (us := [.ref a, u]) (vs := [.ref a, y]) F hr hb .nil hx I (.cons rfl (.cons ry .nil)) q) (fun w s' z => ?_) fun _ _ x => x
  obtain ⟨z', H', I', rz, k, ez, qz⟩ := z
  subst ez
  cases (show w = Value.bool k from rz)
  refine ⟨.bl k, H', I', rfl, ?_⟩
  cases k <;> exact qz
theorem op_ownNe (hs : PySem.W.findIn X.K (.ref C) "__eq__" = some (some (.ref f))) (hf : PySem.W.isFn X.K (.ref f) = true) (hne : PySem.W.findIn X.K (.ref C) "__ne__" = some (some (.builtin "object.__ne__"))) (hm : PySem.W.mroIn X.K C (.type "object") = some true)
    (F : FnOk X.prog X.w X.K X.mg X.base CX n f fd ps sp) (hb : Binds X.K fd ps []) (hr : Room (n + 1) X.A) (hx : Passes CX X E) : OpR X (compareOp .NotEq) (rOwnEq X.K C true sp E) := by
  intro pins s σ H x y v u Q I rx ry h
  obtain ⟨a, dx, fs, rfl, ha, hy, q⟩ := h
  cases (show v = Value.ref a from rx)
  obtain ⟨mA, J, _⟩ := ins_get I.hok ha
  obtain ⟨od, J, _⟩ := J.look
  obtain ⟨tb, L, hn⟩ := aside_looks I ry hy
  show wpAny (model X.prog X.w) X.A (richCompare .NotEq (.ref a) u) (EP X pins σ Q) X.xe s
  refine cmp_ne (by have := hr.un; omega) I.kIn J L hn hs hf hne hm ?_
  have hl := F.len _ _ _ _ q
  have r2 : Vals [V.ref a, y] [Value.ref a, u] := .cons rfl (.cons ry .nil)
  refine wpAny_call (codeAny_mono (F.run X.A.in1 X.stack s H ⟨[.ref a, u], []⟩ [.ref a, u] [.ref a, y] _ E hr.in1 I.env0.in1 (by
    have := hb s [.ref a, u] I.kIn (by simpa using hl)
    simpa using this) r2 q) fun r s' hq => ?_)
  cases r with
  | error e => exact hx pins σ H s e s' I hq
  | ok fl =>
    cases fl with
    | ret w =>
      obtain ⟨z, H', I', rz, k, ez, qz⟩ := I.after hq
      subst ez
      cases (show w = Value.bool k from rz)
      refine ⟨k, rfl, .bl (!k), H', I', rfl, ?_⟩
      cases k <;> exact qz
    | next => exact False.elim hq
    | brk => exact False.elim hq
    | cont => exact False.elim hq
end
end EnL
end S_Xh
section S_Wi
/-! a lambda with one parameter, its default a constant, handed to a def that calls it without arguments -/
namespace LamX
open PySem PySem.Spec PyProof.Rows L2
/-- the function object of such a lambda: dv its defaults -/
abbrev dfFd (q : Str) (ps : Arguments) (bd : Expr) (sc : Scope) (cl : List (Str × Addr)) (dv pm cv ct : Value) : FuncData :=
  { PySem.W.kla_fn "<lambda>" q ps bd sc cl pm cv ct with defaults := dv }
abbrev dfObj (fd : FuncData) : Obj := { cls := .type "function", data := .func fd }
abbrev dfTup (v : Value) : Obj := { cls := .type "tuple", data := .seq #[v] }
abbrev dfArgs (x : Str) (ap : Pos) (e : Expr) : Arguments := { posonlyargs := [], args := [{ arg := x, annotation := none, pos := ap }], vararg := none, kwonlyargs := [], kw_defaults := [], kwarg := none, defaults := [e] }
section
variable {M : Model} {A : Around} {E : Value → Shared → Prop} {s : Shared} {q : Str} {ap : Arguments} {bd : Expr} {sc : Scope} {env : Env} {c P : Addr} {tr : Array Value} {pos : Pos} {fl : Nat} {mg : Str → Option Value}
  {cl : List (Str × Addr)} {dv : Value} {Q : Value → Shared → Prop}
theorem clo_tup {its : List Value} {b : Bool} {jp : Value → Sem Value} (h : ∀ (v : Value) (hh : Heap), (∀ a o, s.heap.get? a = some o → hh.get? a = some o) → s.heap.objs.size ≤ hh.objs.size → wpAny M A (jp v) Q E { s with heap := hh }) :
    wpAny M A (if b = true then pure Value.none >>= jp else newTextTuple its >>= jp) Q E s := by
  cases b with
  | true => exact wpAny_bind (wpAny_pure (h .none s.heap (fun _ _ e => e) (Nat.le_refl _)))
  | false => exact wpAny_bind (wpAny_newTextTuple (h _ _ (fun _ _ e => Heap.get?_push_of_some _ e) (by rw [Heap.size_push]; omega)))
/-- the object is made: its code object is new -/
theorem df_miss (h1 : closureFor sc env = pure cl) (h2 : env.globals = mainGlobals) (h3 : s.heap.Ns mainGlobals mg) (h4 : env.code = .ref c) (h5 : PySem.W.CodeHd s.heap c P) (h6 : s.heap.get? P = some (PySem.W.tabObj tr)) (h7 : TriplesOk tr.toList)
    (h8 : codeAmong pos tr.toList = none) (h9 : mainGlobals ≠ P) (hb : s.heap.BuiltinsAt mg P)
    (k : ∀ c' ct hh tk, Heap.ExtBut P s.heap hh → s.heap.objs.size ≤ c' → c' < hh.objs.size → hh.CodeRec (.ref c') q → hh.get? P = some (PySem.W.tabObj (tr ++ #[rawInt pos.line, rawInt pos.col, .ref c'])) →
      Q (.ref hh.objs.size) { s with heap := hh.push (dfObj (dfFd q ap bd sc cl dv ((mg "__name__").getD .none) (.ref c') ct)), toks := tk }) : wpAny M A (makeTail "<lambda>" q ap (.expr bd) sc env dv .none none pos fl) Q E s := by
  obtain ⟨bm, ob, b1, b2, _, b3, b4, b5, b6, b7⟩ := hb
  unfold makeTail
  rw [h1, h2]
  refine wpAny_bind (wpAny_pure ?_)
  refine clo_tup fun ct h0 k0 sz => ?_
  refine wpAny_bind (wpAny_functionCodeX h4 ((h5.keeps k0).code (k0 _ _ h6) h7) ((h5.keeps k0).tab (k0 _ _ h6)) h8 fun c' hh tk hx ge lt _ hrec htb _ => ?_)
  have g' := (h3.keeps k0).extBut hx h9
  have x' : Heap.ExtBut P s.heap hh := fun b o n e => hx b o n (k0 b o e)
  refine wpAny_bind (wpAny_builtinsFor g' b1 b2 (x' _ _ b3 b4) b5 b6 b7 (wpAny_bind (wpAny_nsGet g' ?_)))
  exact wpAny_bind (wpAny_pure (wpAny_newObj_type (k c' ct hh tk x' (Nat.le_trans sz ge) lt hrec htb.2) (by size_fits)))
/-- its code object stands in the table -/
theorem df_hit {cv : Value} (h1 : closureFor sc env = pure cl) (h2 : env.globals = mainGlobals) (h3 : s.heap.Ns mainGlobals mg) (h4 : env.code = .ref c) (h5 : PySem.W.CodeHd s.heap c P) (h6 : s.heap.get? P = some (PySem.W.tabObj tr)) (h7 : TriplesOk tr.toList)
    (h8 : codeAmong pos tr.toList = some cv) (hb : s.heap.BuiltinsAt mg P)
    (k : ∀ (ct : Value) (hh : Heap) (tk : Tok), (∀ a o, s.heap.get? a = some o → hh.get? a = some o) → s.heap.objs.size ≤ hh.objs.size → Q (.ref hh.objs.size) { s with heap := hh.push (dfObj (dfFd q ap bd sc cl dv ((mg "__name__").getD .none) cv ct)), toks := tk }) :
    wpAny M A (makeTail "<lambda>" q ap (.expr bd) sc env dv .none none pos fl) Q E s := by
  obtain ⟨bm, ob, b1, b2, _, b3, b4, b5, b6, b7⟩ := hb
  unfold makeTail
  rw [h1, h2]
  refine wpAny_bind (wpAny_pure ?_)
  refine clo_tup fun ct h0 k0 sz => ?_
  refine wpAny_bind (wpAny_functionCode_hit h4 ((h5.keeps k0).code (k0 _ _ h6) h7) h8 ?_)
  refine wpAny_bind (wpAny_builtinsFor (h3.keeps k0) b1 b2 (k0 _ _ b4) b5 b6 b7 (wpAny_bind (wpAny_nsGet (h3.keeps k0) ?_)))
  exact wpAny_bind (wpAny_pure (wpAny_newObj_type (k ct h0 s.toks k0 sz) (by size_fits)))
end
section
variable {X : Cx} {pins : List (Addr × Obj)} {σ : L2.St} {H : Hp} {s : Shared}
/-- the whole making -/
theorem lam_makeD {T : List (Addr × Str)} {c P : Addr} {x : Str} {ap : Pos} {e : Expr} {bd : Expr} {sc : Scope} {pos : Pos} {E : Value → Shared → Prop} {Q : Value → Shared → Prop} (I : Inv X pins σ H s) (TB : TabB X.base X.mg c P) (hcode : X.env.code = .ref c) (he : e.isPlainConst = true)
    (hm : (P, X.env.qual ++ "<lambda>") ∈ T) (hu : ∀ p ∈ T, p.1 = P → p.2 = X.env.qual ++ "<lambda>") (hT : Tabs T H) (hfree : ∀ y ∈ sc.names, y.2 = .free → ∃ c, X.env.cells.lookup y.1 = some c)
    (k : ∀ (f c' d : Addr) (v pm ct : Value) (H1 : Hp) (s' : Shared), Inv X pins σ H1 s' → ExtN H H1 → Tabs T H1 → s'.heap.get? f = some (dfObj (dfFd (X.env.qual ++ "<lambda>") (dfArgs x ap e) bd sc (cloFrom X.env.cells sc.names []) (.ref d) pm (.ref c') ct)) →
      s'.heap.get? d = some (dfTup v) → H1 f = none → H1 d = none → f ∉ frs X.stack → d ∉ frs X.stack → H1 c' = some (CodeO c' (X.env.qual ++ "<lambda>")) → Q (.ref f) s') :
    wpAny (model X.prog X.w) X.A (eval (.Lambda (dfArgs x ap e) bd sc pos) X.env) Q E s := by
  obtain ⟨tr, hP, ht, ha⟩ := hT _ hm
  rw [arm_eval_Lambda]
  show wpAny (model X.prog X.w) X.A (do let dv ← evalAll (evalEach [e] X.env); let kdv ← holding dv (evalAllOpt []); makeFunction "<lambda>" (X.env.qual ++ "<lambda>") (dfArgs x ap e) (.expr bd) sc X.env dv kdv [] pos pos.line) Q E s
  refine wpAny_bind (wpAny_evalAll_consts [e] s _ (fun z hz => by rw [List.mem_singleton.mp hz]; exact he) fun vs tk cv => ?_)
  obtain ⟨v, rfl⟩ : ∃ v, vs = [v] := by
    match vs, cv with
    | [v], _ => exact ⟨v, rfl⟩
    | _ :: _ :: _, cv => exact cv.2.elim
  refine wpAny_bind (wpAny_holding (wpAny_pure ?_))
  rw [makeFunction_eq]
  simp only [List.zip_nil_left, List.filterMap_nil, List.isEmpty_nil, List.isEmpty_cons, if_true, if_false, Bool.false_eq_true, pure_bind]
  refine wpAny_bind (wpAny_newTextTuple ?_)
  have nofr : ∀ f, s.heap.objs.size ≤ f → f ∉ frs X.stack := fun f hf z => by
    rcases List.mem_cons.mp (I.stkSub _ z) with e' | e'
    · have w := I.lt
      rw [← e'] at w
      exact Nat.lt_irrefl _ (Nat.lt_of_lt_of_le w hf)
    · exact I.nofs hf e'
  have hd : H s.heap.objs.size = none := I.hok.fresh (Nat.le_refl _)
  have dP : s.heap.objs.size ≠ P := fun z => by rw [z, hP] at hd; cases hd
  have I0 : Inv X pins σ H { s with heap := s.heap.push (dfTup v), toks := tk } := I.kept fun b o z => Heap.get?_push_of_some _ z
  have d0 : (s.heap.push (dfTup v)).get? s.heap.objs.size = some (dfTup v) := Heap.get?_push_size _ rfl
  have sz0 : s.heap.objs.size ≤ (s.heap.push (dfTup v)).objs.size := by rw [Heap.size_push]; omega
  have bP : (s.heap.push (dfTup v)).BuiltinsAt X.mg P := TB.bm.keeps I0.bk
  have hP' : (s.heap.push (dfTup v)).get? P = some { cls := .none, data := .fields tr } := I0.hok P _ hP
  cases hc : codeAmong pos tr.toList with
  | none =>
    refine df_miss (s := { s with heap := s.heap.push (dfTup v), toks := tk }) (mg := X.mg) (c := c) (P := P) (tr := tr) (closure_ok hfree) I.ok.glob (I.mod.glob.keeps I0.bk) hcode (TB.code.keeps I0.bk) hP' ht hc TB.gP bP fun c' ct hh tk' hx ge lt hrec htb => ?_
    obtain ⟨c2, oc, vs, t, e2, hoc, hdt, hv⟩ := hrec
    cases e2
    have ge' : (s.heap.push (dfTup v)).objs.size ≤ c' := ge
    have nC : H c' = none := I.hok.fresh (Nat.le_trans sz0 ge')
    have szh : (s.heap.push (dfTup v)).objs.size ≤ hh.objs.size := Nat.le_trans ge' (Nat.le_of_lt lt)
    have dc : s.heap.objs.size ≠ c' := fun z => by rw [← z, Heap.size_push] at ge'; omega
    have df : s.heap.objs.size ≠ hh.objs.size := fun z => by rw [← z, Heap.size_push] at szh; omega
    have I1 := inv_table (t' := tk') (more := #[rawInt pos.line, rawInt pos.col, .ref c']) (h' := hh.push (dfObj (dfFd (X.env.qual ++ "<lambda>") (dfArgs x ap e) bd sc (cloFrom X.env.cells sc.names []) (.ref s.heap.objs.size) ((X.mg "__name__").getD .none) (.ref c') ct))) I0 hP
      (fun b o hb z => Heap.get?_push_of_some _ (hx b o hb z)) (Heap.get?_push_of_some _ htb) ge ⟨oc, vs, t, Heap.get?_push_of_some _ hoc, hdt, hv⟩
    have hE : ExtN H (upd (upd H P (.tbl (tr ++ #[rawInt pos.line, rawInt pos.col, .ref c']))) c' (CodeO c' (X.env.qual ++ "<lambda>"))) := fun b o z n => by
      have bP' : b ≠ P := fun y => n tr (Option.some.inj (z.symm.trans (by rw [y]; exact hP)))
      rw [upd_ne (ne_of_none z nC), upd_ne bP']
      exact z
    have eL : (tr ++ #[rawInt pos.line, rawInt pos.col, .ref c']).toList = tr.toList ++ [rawInt pos.line, rawInt pos.col, .ref c'] := by simp
    have off : ∀ {b : Addr}, b ≠ c' → b ≠ P → H b = none → upd (upd H P (.tbl (tr ++ #[rawInt pos.line, rawInt pos.col, .ref c']))) c' (CodeO c' (X.env.qual ++ "<lambda>")) b = none := fun n1 n2 n3 => by rw [upd_ne n1, upd_ne n2]; exact n3
    refine k hh.objs.size c' s.heap.objs.size v ((X.mg "__name__").getD .none) ct _ _ I1 hE (fun p hp => ?_) (Heap.get?_push_size _ rfl) (Heap.get?_push_of_some _ (hx _ _ dP d0)) (off (Nat.ne_of_gt lt) (Nat.ne_of_gt (Nat.lt_of_lt_of_le (Heap.lt_size hP') szh)) (I.hok.fresh (Nat.le_trans sz0 szh))) (off dc dP hd) (nofr _ (Nat.le_trans sz0 szh)) (nofr _ (Nat.le_refl _)) upd_same
    by_cases hb : p.1 = P
    · rw [hu p hp hb, hb]
      refine ⟨_, by rw [upd_ne (ne_of_none hP nC), upd_same], by rw [eL]; exact PySem.TriplesOk_snoc _ _ _ _ ht, fun p' cv' hcv => ?_⟩
      rw [eL] at hcv
      rcases among_app _ ht hcv with z | z
      · obtain ⟨c0, y1, y2⟩ := ha p' cv' z
        exact ⟨c0, y1, hE _ _ y2 codeO_ne⟩
      · exact ⟨c', z, upd_same⟩
    · obtain ⟨tr2, a1, a2, a3⟩ := hT p hp
      refine ⟨tr2, by rw [upd_ne (ne_of_none a1 nC), upd_ne hb]; exact a1, a2, fun p' cv' hcv => ?_⟩
      obtain ⟨c0, y1, y2⟩ := a3 p' cv' hcv
      exact ⟨c0, y1, hE _ _ y2 codeO_ne⟩
  | some cv =>
    obtain ⟨c', y, hco⟩ := ha pos cv hc
    subst y
    refine df_hit (s := { s with heap := s.heap.push (dfTup v), toks := tk }) (mg := X.mg) (c := c) (P := P) (tr := tr) (closure_ok hfree) I.ok.glob (I.mod.glob.keeps I0.bk) hcode (TB.code.keeps I0.bk) hP' ht hc bP fun ct hh tk' hx szh => ?_
    have I1 : Inv X pins σ H { s with heap := hh.push (dfObj (dfFd (X.env.qual ++ "<lambda>") (dfArgs x ap e) bd sc (cloFrom X.env.cells sc.names []) (.ref s.heap.objs.size) ((X.mg "__name__").getD .none) (.ref c') ct)), toks := tk' } := I0.kept fun b o z => Heap.get?_push_of_some _ (hx b o z)
    exact k hh.objs.size c' s.heap.objs.size v ((X.mg "__name__").getD .none) ct H _ I1 (ExtN.refl H) hT (Heap.get?_push_size _ rfl) (Heap.get?_push_of_some _ (hx _ _ d0)) (I.hok.fresh (Nat.le_trans sz0 szh)) hd (nofr _ (Nat.le_trans sz0 szh)) (nofr _ (Nat.le_refl _)) hco
end
/-- its names: the parameter x alone is its own -/
structure LamSD (sc scope : Scope) (x : Str) : Prop where
  kind : scope.kind = .function
  co : scope.isCoroutine = false
  gen : scope.isGenerator = false
  own : ∀ y ∈ scope.names, (y.2 = .local → y.1 = x) ∧ y.2 ≠ .cell
  loc : scope.names.lookup x = some .local
  free : ∀ y ∈ scope.names, y.2 = .free → sc.names.lookup y.1 = some .cell ∨ sc.names.lookup y.1 = some .free
def lamSDB (sc scope : Scope) (x : Str) : Bool :=
  decide (scope.kind = .function) && (!scope.isCoroutine && (!scope.isGenerator && (decide (scope.names.lookup x = some .local) && scope.names.all fun y => (!decide (y.2 = .local) || decide (y.1 = x)) && (!decide (y.2 = .cell) && (!decide (y.2 = .free) || (decide (sc.names.lookup y.1 = some .cell) || decide (sc.names.lookup y.1 = some .free)))))))
theorem lamSD_by {sc scope : Scope} {x : Str} (h : lamSDB sc scope x = true) : LamSD sc scope x := by
  unfold lamSDB at h
  simp only [Bool.and_eq_true, Bool.or_eq_true, Bool.not_eq_true', decide_eq_true_eq, decide_eq_false_iff_not, List.all_eq_true] at h
  obtain ⟨a1, a2, a3, a4, a5⟩ := h
  exact ⟨a1, a2, a3, fun y hy => ⟨fun e => (a5 y hy).1.elim (fun n => absurd e n) id, (a5 y hy).2.1⟩, a4, fun y hy e => (a5 y hy).2.2.elim (fun n => absurd e n) id⟩
theorem LamSD.has {X : Cx} {scope : Scope} {x : Str} (L : LamSD X.env.scope scope x) (ok : X.Ok) : ∀ y ∈ scope.names, y.2 = .free → ∃ c, X.env.cells.lookup y.1 = some c := fun y hy e =>
  (L.free y hy e).elim (fun z => ok.has _ (.inl z)) fun z => ok.has _ (.inr z)
section
variable {X : Cx} {pins : List (Addr × Obj)} {σ : L2.St} {H HZ : Hp} {s s1 : Shared}
theorem lam_startD {A : Around} {outer : List Env} {E : XK} {scope : Scope} {f c' : Addr} {h₁ : Heap} {tk : Nat} {x : Str} {v : Value} (I : Inv X pins σ H s) (L : LamSD X.env.scope scope x) (hx : x ∉ X.N) (z0 : Env0 X.prog X.w X.K X.mg X.base A outer s1 HZ) (z1 : A.handled = none)
    (un : Un (frs X.stack) [] H HZ s.heap s1.heap) (ns : h₁.Ns s1.heap.objs.size fun y => ([(x, v)] : List (Str × Value)).reverse.lookup y) (kp : ∀ b o, s1.heap.get? b = some o → h₁.get? b = some o) :
    Inv (lamCx X A outer s1 HZ E scope f c') [] σ HZ { s1 with heap := h₁, toks := tk } := by
  have hfree := L.has I.ok
  have cm : ∀ {y c}, (cloFrom X.env.cells scope.names []).lookup y = some c → X.env.cells.lookup y = some c := fun {y c} e => by
    rcases cloFrom_mem (PySem.mem_of_lookup e) with m | ⟨m1, m2⟩
    · cases m
    · obtain ⟨c1, hc⟩ := hfree _ m1 rfl
      have hc : X.env.cells.lookup y = some c1 := hc
      obtain rfl : c = c1 := by rw [m2, hc] <;> rfl
      exact hc
  have look : ∀ {y}, scope.names.lookup y = some .free → ∃ c, (cloFrom X.env.cells scope.names []).lookup y = some c := fun {y} m =>
    mem_lookup (cloFrom_has (cells := X.env.cells) (acc := []) (show (y, NameKind.free) ∈ scope.names from PySem.mem_of_lookup m))
  have cellK : ∀ {c : Addr} {u : Option Value}, H c = none → s.heap.IsCell c u → h₁.IsCell c u := fun {c u} n ⟨o, ho, hd⟩ => by
    obtain ⟨sl, w⟩ := un.any ho n (by simp)
    exact ⟨_, kp _ _ w, hd⟩
  have noA : ∀ b : Addr, b ∉ (lamCx X A outer s1 HZ E scope f c').ex := fun b m => absurd (show b ∈ ([] : List Addr) from m) (by simp)
  refine ⟨⟨z0.mod, L.kind, rfl, rfl, Nat.le_refl _, fun y m c e1 e2 => I.ok.inj y m c (cm e1) (cm e2), fun y hy => ?_, fun y c m _ => ?_, fun _ => z1, Around.frames_deeper z0.frames, .inr ⟨rfl, rfl⟩, fun b m => absurd m (noA b), z0.bs, z0.bsz, fun b _ _ => noA b,
      fun b m => absurd m (noA b), z0.funs, z0.frf⟩,
    rfl, z0.bare, Un.kept kp, ⟨_, ns, fun i y u e1 e2 e3 => ?_⟩, fun y c e => ?_, z0.hok.fresh (Nat.le_refl _), fun y c e => ?_, fun p hp => absurd (show p ∈ ([] : List (Addr × Obj)) ++ [] from hp) (by simp), z0.hok.kept kp, I.len⟩
  · have hy : scope.names.lookup y = some .cell ∨ scope.names.lookup y = some .free := hy
    exact hy.elim (fun m => absurd rfl (L.own _ (PySem.mem_of_lookup m)).2) look
  · cases (show false = true from m)
  · have e1' : X.N[i]? = some y := e1
    have e3 : Vis scope y := e3
    rcases e3 with m | m | m
    · have m' := (L.own _ (PySem.mem_of_lookup m)).1 rfl
      exact absurd (m' ▸ List.mem_of_getElem? e1') hx
    · exact absurd rfl (L.own _ (PySem.mem_of_lookup m)).2
    · obtain ⟨mm, hn, hl⟩ := I.loc
      have vis : Vis X.env.scope y := (L.free _ (PySem.mem_of_lookup m) rfl).elim (fun m => .inr (.inl m)) (fun m => .inr (.inr m))
      obtain ⟨u', r, w⟩ := hl i y u e1 e2 vis
      obtain ⟨c2, m2⟩ := look m
      refine ⟨u', r, .inr ⟨.inr m, c2, m2, ?_⟩⟩
      have c1 := cm m2
      rcases w with ⟨k', _⟩ | ⟨_, c3, e', w⟩
      · have k' : X.env.scope.names.lookup y = some .local := k'
        rcases L.free _ (PySem.mem_of_lookup m) rfl with k2 | k2 <;> rw [show X.env.scope.names.lookup y = _ from k2] at k' <;> cases k'
      · rw [c1] at e'
        cases e'
        exact cellK (I.freeC y _ c1) w
  · obtain ⟨u', w⟩ := I.cell y c (cm e)
    exact ⟨u', cellK (I.freeC y c (cm e)) w⟩
  · obtain ⟨u, o, ho, hd⟩ := I.cell y c (cm e)
    exact un.free c o ho (I.freeC y c (cm e)) (by simp)
/-- how the call without arguments binds -/
def BindsD (x : Str) (ps : Arguments) (bd : Expr) (sc : Scope) : Prop := ∀ (q : Str) (cl : List (Str × Addr)) (d : Addr) (v pm cv ct : Value), ∃ k, bindArgs (dfFd q ps bd sc cl (.ref d) pm cv ct) ⟨[], []⟩ = seqItems? (.ref d) >>= k ∧ k (some #[v]) = pure [(x, v)]
theorem pe_actD {CXg : CXT} {Eg : XK} {Ng : List Str} {qg : Str} {sg : Scope} {g f c' d : Addr} {cdg pm ct v : Value} {ps : Arguments} {bd : Expr} {scope : Scope} {k i : Nat} {a x : Str} {pn : List (Addr × Obj)} {xe : Value → Shared → Prop} {W : WX} {E : XK} {tb : TE} {p1 p2 : Pos}
    (I : Inv X pins σ H s) (L : LamSD X.env.scope scope x) (hx : x ∉ X.N) (hf : s.heap.get? f = some (dfObj (dfFd (X.env.qual ++ "<lambda>") ps bd scope (cloFrom X.env.cells scope.names []) (.ref d) pm (.ref c') ct))) (hdv : s.heap.get? d = some (dfTup v)) (nf : H f = none) (nd : H d = none) (ff : f ∉ frs X.stack) (fd : d ∉ frs X.stack)
    (hbind : BindsD x ps bd scope)
    (tk : Takes ((cxOf CXg X.prog X.w X.K X.mg X.base Ng qg sg g cdg X.A X.stack s H Eg).tr pn xe) W) (hW : ∀ cls d σ' H', E cls d H' → W cls d σ' H') (hr : Room (k + 1) (X.A.deeper (envOfC qg sg s.heap.objs.size g cdg)))
    (hbody : ∀ (A : Around) (outer : List Env) (s : Shared) (H : Hp), Room k (A.deeper (lamEnv X scope s.heap.objs.size f c')) → PE (lamCx X A outer s H E scope f c') bd tb)
    (hN : Ng[i]? = some a) (hv : Vis sg a) (hd : (a == ("__debug__" : Str)) = false := by decide) (hcd : (a == ("__classdict__" : Str)) = false := by decide) :
    PE ((cxOf CXg X.prog X.w X.K X.mg X.base Ng qg sg g cdg X.A X.stack s H Eg).tr pn xe) (.Call (.Name a p1) [] [] p2)
      (fun σZ HZ Q => σZ[i]? = some (some (.ref f)) ∧ HZ c' = some (CodeO c' (X.env.qual ++ "<lambda>")) ∧ tb σ HZ Q) := by
  refine ⟨fun pinsZ sZ σZ HZ Q IZ ⟨hs, hc, ht⟩ => ?_⟩
  refine wpAny_Call_Name_kw (thn ((pe_var (pos := p1) (i := i) hN hv hd hcd).run pinsZ sZ σZ HZ (fun u H1 => u = .ref f ∧ H1 = HZ) IZ ⟨.ref f, hs, rfl, rfl⟩) fun u s1 ⟨u', H1, I1, r1, w1⟩ => ?_)
  obtain ⟨w1, w2⟩ := w1
  subst w1
  rw [w2] at I1
  obtain rfl : u = Value.ref f := r1
  have noX : ∀ b : Addr, b ∉ ([] : List Addr) := fun b z => nomatch z
  have of1 : s1.heap.get? f = some (dfObj (dfFd (X.env.qual ++ "<lambda>") ps bd scope (cloFrom X.env.cells scope.names []) (.ref d) pm (.ref c') ct)) := I1.base.keep f _ hf nf ff (noX f)
  have od1 : s1.heap.get? d = some (dfTup v) := I1.base.keep d _ hdv nd fd (noX d)
  refine PySem.W.callWith_F0 ⟨_, _, _, _, of1⟩ ?_
  have un : Un (frs X.stack) [] H HZ s.heap s1.heap := I1.base
  obtain ⟨⟨oc, vs, t, o1, o2, o3⟩, _, _⟩ := I1.hok c' _ hc
  obtain ⟨kb, bk1, bk2⟩ := hbind (X.env.qual ++ "<lambda>") (cloFrom X.env.cells scope.names []) d v pm (.ref c') ct
  have rc : codeAny (model X.prog X.w) (X.A.deeper (envOfC qg sg s.heap.objs.size g cdg)) (.call (.ref f) ⟨[], []⟩) (CR (L2.CX X.prog X.w) (envOfC qg sg s.heap.objs.size g cdg :: X.stack) X.prog X.w HZ s1 Q E) s1 := by
    refine PySem.W.kla_callFunE hr.depth of1 rfl L.co L.gen rfl ⟨c', oc, vs, t, rfl, o1, o2, o3⟩ ?_
    rw [bk1]
    refine wpAny_bind (wpAny_seqItems od1 rfl ?_)
    rw [bk2]
    refine wpAny_pure (wpAny_newFunctionEnv (fun y hy => (L.own y hy).2) (fun y hy => by rw [List.mem_singleton.mp hy]; exact L.loc) (fun h₁ hns hsb => ⟨I1.nolimit.fresh _ hsb, ?_⟩) L.kind)
    show codeAny _ _ (.expr bd (lamEnv X scope s1.heap.objs.size f c')) _ _
    have kp : ∀ b o, s1.heap.get? b = some o → h₁.get? b = some o := fun b o z => hsb.extBut b o (Nat.ne_of_lt (Heap.lt_size z)) (Heap.get?_push_of_some _ z)
    have J : Inv (lamCx X (X.A.deeper (envOfC qg sg s.heap.objs.size g cdg)) (envOfC qg sg s.heap.objs.size g cdg :: X.stack) s1 HZ E scope f c') [] σ HZ { s1 with heap := h₁, toks := s1.toks + ([(x, v)] : List (Str × Value)).length } :=
      lam_startD I L hx I1.env0 hr.hd un hns kp
    refine PySem.W.kla_codeExpr (wpAny_mono ((hbody _ _ s1 HZ (hr.deeper _)).run [] _ _ HZ Q J ht) (fun u s' hq => ?_) fun z s' hq => hq)
    obtain ⟨w', H', J', rv, q⟩ := hq
    exact ⟨w', H', J'.os, J'.bare, J'.base, J'.hok, rv, q⟩
  have hxp : Passes (L2.CX X.prog X.w) ((cxOf CXg X.prog X.w X.K X.mg X.base Ng qg sg g cdg X.A X.stack s H Eg).tr pn xe) E := passes_call tk hW
  refine wpAny_call (codeAny_mono rc fun r s' hq => ?_)
  match r, hq with
  | .error z, hq => exact hxp pinsZ σZ HZ s1 z s' I1 hq
  | .ok (.ret u), hq => exact I1.after hq
  | .ok .next, hq => exact hq.elim
  | .ok .brk, hq => exact hq.elim
  | .ok .cont, hq => exact hq.elim
end
section
variable {X : Cx}
/-- g(lambda x=const: body) -/
theorem pe_lamcallD {T : List (Addr × Str)} {TT : (XK → Hp → VK → Prop) → Hp → VK → Prop} {gn a x : Str} {g c P : Addr} {k : Nat} {pg : Arguments} {bg : List Stmt} {sg : Scope} {dV kV doc pm cdv ct oc : Value} {an od : Option Addr} {osl : Array (Option Value)} {Ng : List Str}
    {ap : Pos} {e bd : Expr} {scope : Scope} {t : XK → TE} {p lpos pos : Pos} (hg : Gl X gn) (hm : X.mg gn = some (.ref g)) (hk : PySem.W.keepIn X.K (.ref g) = true)
    (lk : X.K.lookup g = some ⟨oc, od, .func (PySem.W.fnOf gn gn pg bg sg dV kV doc pm an cdv ct), osl⟩) (hcg : PySem.W.codeIn X.K cdv gn = true) (hb : L2.Binds X.K (PySem.W.fnOf gn gn pg bg sg dV kV doc pm an cdv ct) [a] []) (Sg : FnScope Ng [a] sg) (hNg : Ng[0]? = some a) (hva : Vis sg a)
    (hG : GivesTo X Ng gn sg g cdv bg a (X.env.qual ++ "<lambda>") TT)
    (TB : TabB X.base X.mg c P) (hcode : X.env.code = .ref c) (hmT : (P, X.env.qual ++ "<lambda>") ∈ T) (hu : ∀ p ∈ T, p.1 = P → p.2 = X.env.qual ++ "<lambda>") (hr : Room (k + 2) X.A) (L : LamSD X.env.scope scope x) (hx : x ∉ X.N) (he : e.isPlainConst = true)
    (hbind : BindsD x (dfArgs x ap e) bd scope)
    (hbody : ∀ (A : Around) (outer : List Env) (s : Shared) (H : Hp) (E : XK) (f c' : Addr), Room k (A.deeper (lamEnv X scope s.heap.objs.size f c')) → PE (lamCx X A outer s H E scope f c') bd (t E))
    (hdb : (gn == ("__debug__" : Str)) = false := by decide) (hd : (a == ("__debug__" : Str)) = false := by decide) (hcd : (a == ("__classdict__" : Str)) = false := by decide) :
    PE X (.Call (.Name gn p) [.Lambda (dfArgs x ap e) bd scope lpos] [] pos) (tLam T TT t) := by
  refine ⟨fun pins s σ H Q I ⟨hT, h⟩ => ?_⟩
  refine wpAny_Call_Name_kw (ld_glob I hg hm ?_ hdb)
  refine PySem.W.callWith_K (h₀ := X.base) I.ok.mod.kin hk ?_ (by rfl) (by rfl)
  show wpAny _ _ (spliced ((false, eval (.Lambda (dfArgs x ap e) bd scope lpos) X.env) :: backTo pos (starEach [] X.env))) _ _ s
  refine Calls.spliced_cons (lam_makeD I TB hcode he hmT hu hT (L.has I.ok) fun f c' d v pm' ctv H1 s' I1 eN T1 hf hdv nf nd ff fd hco => ?_)
  refine Calls.spliced_nil ⟨I1.kIn, ?_⟩
  have rc : codeAny (model X.prog X.w) X.A (.call (.ref g) ⟨[.ref f], []⟩) (CR C8.CX0 X.stack X.prog X.w H1 s' Q C8.E0) s' := by
    refine run_ofS (N := Ng) (ps := [a]) (us := [.ref f]) (vs := [.ref f]) lk hcg Sg hr I1.env0 (hb s' [.ref f] I1.kIn rfl) (.cons rfl .nil) rfl fun hr' => ?_
    obtain ⟨t', ht', hq'⟩ := hG f c' s' H1 Q (fun E H' Q' => t E σ H' Q') (fun W pn xe E p1 p2 tk hW => pe_actD (i := 0) I1 L hx hf hdv nf nd ff fd hbind tk hW hr' (fun A outer s H hr2 => hbody A outer s H E f c' hr2) hNg hva hd hcd) hco (h H1 eN T1)
    exact ⟨t', ht'.nox, hq'⟩
  refine wpAny_call (codeAny_mono rc fun r s2 hq => ?_)
  match r, hq with
  | .error z, hq => exact (show False from hq).elim
  | .ok (.ret u), hq => exact I1.after hq
  | .ok .next, hq => exact hq.elim
  | .ok .brk, hq => exact hq.elim
  | .ok .cont, hq => exact hq.elim
end
end LamX
end S_Wi
section S_Wk
namespace Hk
open PySem PySem.Spec PyProof.Rows L2 LamX Tl
/-- caught = None / try: ask() / except E as error: caught = error / rest -/
def THeardS (K : PySem.W.Frag) (CS : Addr) (tr : TS) : (XK → Hp → VK → Prop) → Hp → VK → Prop := fun tl H Q => ∀ f : Addr,
  tl (fun cls d H' => PySem.W.exmOne K cls (.ref CS) = some true ∧ ∀ a, H' a = none → ∀ σ' : L2.St, σ'.length = 3 → σ'[1]? = some (some (.ref a)) → tr { nx := fun _ G => Q .non G, rt := Q } σ' (upd H' a (ErrAt cls d a))) H
    fun _ H' => tr { nx := fun _ G => Q .non G, rt := Q } [some (.ref f), some .non, none] H'
theorem heard_givesS {X : Cx} {x e q : Str} {sg : Scope} {g CS : Addr} {cdg : Value} {j : Nat} {rest : List Stmt} {tr : TS} {p1 p2 p3 p4 p5 p6 p7 p8 p9 r1 r2 r3 : Pos} (Sg : FnScope nAsk ["ask"] sg) (k1 : sg.names.lookup ("caught" : Str) = some NameKind.local) (k2 : sg.names.lookup ("error" : Str) = some NameKind.local)
    (hge : sg.names.lookup e = some .globalImplicit) (hme : X.mg e = some (.ref CS)) (hde : (e == ("__debug__" : Str)) = false)
    (hrt : ∀ (A : Around) (s : Shared) (H : Hp), PSs (cxA X x sg g cdg A s H) rest tr) :
    GivesTo X nAsk x sg g cdg (.Assign [.Name "caught" p1] (.Constant .none j p2) p3 :: .Try [.Expr (.Call (.Name "ask" r1) [] [] r2) r3] [.ExceptHandler (some (.Name e p4)) (some "error") [.Assign [.Name "caught" p5] (.Name "error" p6) p7] p8] [] [] p9 :: rest) "ask" q (THeardS X.K CS tr) := by
  intro f c' s H Q tl act hc h
  have gE : Gl (cxA X x sg g cdg X.A s H) e := hge
  have l1 : ∀ {Y : Cx}, Y.env.scope = sg → (Y.fn "caught" = true ∨ Y.env.scope.names.lookup ("caught" : Str) = some NameKind.local) := fun z => .inr (by rw [z]; exact k1)
  refine ⟨_, pss_cons (ps_set (X := cxA X x sg g cdg X.A s H) (i := 1) Sg.nd rfl (Or.inl k1) pe_non rfl (l1 rfl)) (pss_cons (ps_keep (X := cxA X x sg g cdg X.A s H) (i := 2) (c := .ref CS) (ts := fun _ _ _ => tAsg (tVar 2) (gName 1))
      (tb := fun W D σ H => ∃ Ech : XK, (∀ cls d σ' H', Ech cls d H' → σ'.length = 3 → W cls d σ' H') ∧ σ[0]? = some (some (.ref f)) ∧ H c' = some (CodeO c' q) ∧ tl Ech H (fun _ H' => D.nx σ H'))
      rfl rfl rfl Sg.nd rfl k2 ⟨gE, hde, Or.inl hme⟩ (fun W pn xe tk _ => ?_) (fun a oe cls d pn _ _ => pss_one (ps_set (i := 1) Sg.nd rfl (Or.inl k1) (pe_var (i := 2) rfl (Or.inl k2)) rfl (l1 rfl)))) (hrt X.A s H)), ?_⟩
  · refine ⟨fun pins s' σ H' D I ⟨Ech, hW, h1, h2, h3⟩ => ?_⟩
    have hp := act (fun cls d σ H => σ.length = nAsk.length → W cls d σ H) pn xe Ech r1 r2 (takes_len tk) hW
    exact (pss_one (ps_expr (pos := r3) hp)).run pins s' σ H' D I ⟨h1, h2, h3⟩
  · have h' := h f
    refine ⟨fun cls d H' => PySem.W.exmOne X.K cls (.ref CS) = some true ∧ ∀ a, H' a = none → ∀ σ' : L2.St, σ'.length = 3 → σ'[1]? = some (some (.ref a)) → tr { nx := fun _ G => Q .non G, rt := Q } σ' (upd H' a (ErrAt cls d a)), ?_, rfl, hc, h'⟩
    rintro cls d σ' H' ⟨he, hk⟩ hl
    refine ⟨he, fun a na => ?_⟩
    exact ⟨.ref a, by rw [List.getElem?_set_self (by omega)] <;> rfl, fun na' => hk a na' _ (by simp [hl]) (by rw [List.getElem?_set_ne (by decide), List.getElem?_set_self (by simp [hl])] <;> rfl)⟩
/-! ### what stays while tables grow and the drawer draws -/
/-- H without its tables, and without what stands at t -/
def strip (t : Addr) (H : Hp) : Hp := fun a => if a = t then none else match H a with
  | some (.tbl _) => none
  | o => o
theorem strip_at {t a : Addr} {H : Hp} {o : HO} (h : H a = some o) (ht : a ≠ t) (hn : ∀ ps, o ≠ .tbl ps) : strip t H a = some o := by
  unfold strip
  rw [if_neg ht, h]
  split
  · rename_i ps e
    exact absurd (Option.some.inj e) (hn ps)
  · rfl
theorem strip_le {t a : Addr} {H : Hp} {o : HO} (h : strip t H a = some o) : a ≠ t ∧ H a = some o ∧ ∀ ps, o ≠ .tbl ps := by
  unfold strip at h
  by_cases z : a = t
  · rw [if_pos z] at h
    cases h
  · rw [if_neg z] at h
    refine ⟨z, ?_⟩
    split at h
    · cases h
    · rename_i hh
      refine ⟨h, fun ps e => ?_⟩
      rw [e] at h
      exact hh ps h
theorem strip_new {t a : Addr} {H : Hp} (h : H a = none) : strip t H a = none := by
  unfold strip
  split
  · rfl
  · rw [h]
theorem strip_ex {t : Addr} {H : Hp} : Evl.Ex (strip t H) H := fun a o h => (strip_le h).2.1
theorem strip_n {t : Addr} {H H' : Hp} (e : ExtN H H') : Evl.Ex (strip t H) H' := fun a o h => e a o (strip_le h).2.1 (strip_le h).2.2
theorem strip_nt {t : Addr} {H : Hp} : ∀ a ps, strip t H a ≠ some (.tbl ps) := fun a ps h => (strip_le h).2.2 ps rfl
/-- B, which holds no table, stands; so do the tables -/
structure Live (T : List (Addr × Str)) (B H : Hp) : Prop where
  ex : Evl.Ex B H
  nt : ∀ a ps, B a ≠ some (.tbl ps)
  tabs : Tabs T H
theorem Live.exN {T : List (Addr × Str)} {B H H' : Hp} (l : Live T B H) (e : ExtN H H') (t : Tabs T H') : Live T B H' := ⟨fun a o h => e a o (l.ex a o h) fun ps z => l.nt a ps (z ▸ h), l.nt, t⟩
theorem Live.go {T : List (Addr × Str)} {B H H' : Hp} (l : Live T B H) (e : Evl.Ex H H') : Live T B H' := ⟨l.ex.trans e, l.nt, l.tabs.ext e⟩
theorem Live.add {T : List (Addr × Str)} {B H : Hp} {p : Addr} {o : HO} (l : Live T B H) (h : H p = some o) (ho : ∀ ps, o ≠ .tbl ps) : Live T (upd B p o) H := ⟨fun a u e => by
  by_cases z : a = p
  · rw [z, upd_same] at e
    rw [z, h]
    exact e
  · rw [upd_ne z] at e
    exact l.ex a u e, fun a ps => by
  by_cases z : a = p
  · rw [z, upd_same]
    exact fun e => ho ps (Option.some.inj e)
  · rw [upd_ne z]
    exact l.nt a ps, l.tabs⟩
theorem Live.fresh {T : List (Addr × Str)} {B H : Hp} {p : Addr} (l : Live T B H) (h : H p = none) : B p = none := by
  cases e : B p with
  | none => rfl
  | some o =>
    have := l.ex p o e
    rw [h] at this
    cases this
section
variable {K : PySem.W.Frag} {σ : L2.St} {G : Hp}
theorem ev_isK {a D : Addr} {d : Option Addr} {fs : List (Str × V)} {c : Addr} {b : Bool} {i : Nat} (hσ : σ[i]? = some (some (.ref a))) (ha : G a = some (ErrAt (.ref D) d a)) (hd : DictAt G d fs) (E : ErrC K D) (hk : PySem.W.kitOne K (.ref D) (.ref c) = some b) :
    Evl.Ev (tCB (fun xs H Q => rIsi K xs H Q ∨ rIsK K xs H Q) (tCons (tVar i) (tCons (tC (.ref c)) tNil))) σ G (.bl b) := fun H1 e Q q =>
  ⟨.ref a, hσ, .inr ⟨a, D, d, fs, .ref c, .ref c, b, rfl, e _ _ ha, hd.imp fun x ⟨y, z⟩ => ⟨y, e _ _ z⟩, E, .own c, hk, q H1 (Evl.Ex.refl H1)⟩⟩
theorem ev_isNone {c : Addr} {b : Bool} {i : Nat} (hσ : σ[i]? = some (some .non)) (hk : PySem.W.kitOne K (.type "NoneType") (.ref c) = some b) :
    Evl.Ev (tCB (fun xs H Q => rIsi K xs H Q ∨ rIsK K xs H Q) (tCons (tVar i) (tCons (tC (.ref c)) tNil))) σ G (.bl b) := fun H1 e Q q =>
  ⟨.non, hσ, .inl ⟨.non, .ref c, .type "NoneType", .ref c, b, rfl, .own c, .base .non, hk, q H1 (Evl.Ex.refl H1)⟩⟩
theorem ev_keptF {a D : Addr} {d : Option Addr} {fs : List (Str × V)} {f : Str} {v : V} {i : Nat} (hσ : σ[i]? = some (some (.ref a))) (ha : G a = some (ErrAt (.ref D) d a)) (hd : DictAt G d fs) (E : ErrC K D) (hn : PySem.W.findIn K (.ref D) f = some none) (hl : fs.lookup f = some v) :
    Evl.Ev (tKeptF K f (tVar i)) σ G v := fun H1 e Q q => ⟨.ref a, hσ, a, D, d, fs, v, rfl, e _ _ ha, hd.imp fun x ⟨y, z⟩ => ⟨y, e _ _ z⟩, E, hn, hl, q H1 (Evl.Ex.refl H1)⟩
/-- a lambda heard that raises an error of the class D: a new tuple -/
theorem lam_raise {T : List (Addr × Str)} {CS D : Addr} {tr : TS} {t : XK → TE} {B H : Hp} {Q : VK} {fs : List (Str × V)} {vs : List V} (l : Live T B H) (hx : PySem.W.exmOne K (.ref D) (.ref CS) = some true)
    (ht : ∀ H1 E Q', Evl.Ex B H1 → (∀ H2 d, Evl.Ex H1 H2 → H2 d = none → E (.ref D) (some d) (upd H2 d (.xd fs))) → t E σ H1 Q')
    (hr : ∀ (G : Hp) (a d : Addr) (σ' : L2.St) (D' : Ends), G a = some (ErrAt (.ref D) (some d) a) → DictAt G (some d) fs → σ'.length = 3 → σ'[1]? = some (some (.ref a)) → (∀ p G', G p = none → Evl.Ex G G' → G' p = some (.tup vs) → D'.rt (.ref p) G') → tr D' σ' G)
    (k : ∀ p H3, Live T (upd B p (.tup vs)) H3 → H3 p = some (.tup vs) → B p = none → Q (.ref p) H3) : tLam T (THeardS K CS tr) t σ H Q := by
  refine ⟨l.tabs, fun H1 eN T1 f => ht H1 _ _ (l.exN eN T1).ex fun H2 d e2 hd => ⟨hx, fun a na σ' hl hσ => ?_⟩⟩
  have ad : d ≠ a := fun z => by rw [← z, upd_same] at na; cases na
  have eG : Evl.Ex H1 (upd (upd H2 d (.xd fs)) a (ErrAt (.ref D) (some d) a)) := (e2.trans (Evl.Ex.new hd)).trans (Evl.Ex.new na)
  refine hr _ a d σ' _ upd_same ⟨d, rfl, by rw [upd_ne ad, upd_same]⟩ hl hσ fun p G' hp e hG' => ?_
  have L := ((l.exN eN T1).go eG).go e
  refine k p G' (L.add hG' fun ps z => nomatch z) hG' ?_
  exact ((l.exN eN T1).go eG).fresh hp
/-- a lambda heard that raises nothing -/
theorem lam_calm {T : List (Addr × Str)} {CS : Addr} {tr : TS} {t : XK → TE} {B H : Hp} {Q : VK} (l : Live T B H)
    (ht : ∀ H1 E Q', Evl.Ex B H1 → (∀ v H2, Evl.Ex H1 H2 → Q' v H2) → t E σ H1 Q')
    (hr : ∀ (G : Hp) (f : Addr) (D' : Ends), (∀ G', Evl.Ex G G' → D'.rt .non G') → tr D' [some (.ref f), some .non, none] G)
    (k : ∀ H3, Live T B H3 → Q .non H3) : tLam T (THeardS K CS tr) t σ H Q :=
  ⟨l.tabs, fun H1 eN T1 f => ht H1 _ _ (l.exN eN T1).ex fun v H2 e2 => hr H2 f _ fun G' e => k G' (((l.exN eN T1).go e2).go e)⟩
end
end Hk
end S_Wk
section S_Ws
namespace Hk
open PySem PySem.Spec PyProof.Rows L2 LamX Tl
/-- isinstance(e, (c1, c2, ..)) of a kept error -/
def rIsKT (K : PySem.W.Frag) : List V → Hp → VK → Prop := fun xs H Q => ∃ (a D tp : Addr) (d : Option Addr) (fs : List (Str × V)) (cs : List V) (us : List Value) (b : Bool), xs = [.ref a, .ref tp] ∧ H a = some (ErrAt (.ref D) d a) ∧ DictAt H d fs ∧ ErrC K D ∧ H tp = some (.tup cs) ∧ Paired ClsV cs us ∧ PySem.W.kitAny K (.ref D) us = some b ∧ Q (.bl b) H
theorem call_isKeptT {X : Cx} : CallR X (.builtin "isinstance") (rIsKT X.K) := by
  intro pins s σ H xs us Q I r h
  obtain ⟨a, D, tp, d, fs, cs, ws, b, rfl, ha, hd, C, hT, k, e, q⟩ := h
  obtain ⟨u1, u2, rfl, r1, r2⟩ := vals2 r
  cases (show u2 = Value.ref tp from r2)
  cases (show u1 = Value.ref a from r1)
  obtain ⟨oe, od, mA, J, _, _⟩ := at_inst I ha hd
  obtain ⟨_, its, rv, o, h1, h2, n, h3⟩ := (show ObjOk X.prog X.w H s.heap tp (.tup cs) from I.hok tp _ hT)
  have e3 := ClsV.all k rv
  subst e3
  obtain ⟨oc, od', dt, sl⟩ := o
  simp only at h2 h3
  subst h2 h3
  exact PySem.W.kia_tup (PySem.W.kitx_exc C.ci C.ga C.gg C.ex C.ha C.hn C.ht C.hm) I.kIn J h1 e (fun z => nomatch z) fun tk => ⟨.bl b, H, I.kept (t' := tk) fun _ _ z => z, rfl, q⟩
theorem call_isAnyT {X : Cx} : CallR X (.builtin "isinstance") (fun xs H Q => rIsiT X.K xs H Q ∨ rIsKT X.K xs H Q) := by
  intro pins s σ H xs us Q I r h
  rcases h with h | h
  · exact call_isiT _ _ _ _ _ _ _ I r h
  · exact call_isKeptT _ _ _ _ _ _ _ I r h
section
variable {K : PySem.W.Frag} {σ : L2.St} {G : Hp}
theorem ev_isKT2 {a D : Addr} {d : Option Addr} {fs : List (Str × V)} {c1 c2 : Addr} {b : Bool} {i : Nat} (hσ : σ[i]? = some (some (.ref a))) (ha : G a = some (ErrAt (.ref D) d a)) (hd : DictAt G d fs) (E : ErrC K D) (hk : PySem.W.kitAny K (.ref D) [.ref c1, .ref c2] = some b) :
    Evl.Ev (tCB (fun xs H Q => rIsiT K xs H Q ∨ rIsKT K xs H Q) (tCons (tVar i) (tCons (tTup (tCons (tC (.ref c1)) (tCons (tC (.ref c2)) tNil))) tNil))) σ G (.bl b) := fun H1 e Q q =>
  ⟨.ref a, hσ, by show 2 ≤ sizeLine; decide, fun tp htp => .inr ⟨a, D, tp, d, fs, [.ref c1, .ref c2], [.ref c1, .ref c2], b, rfl, (e.trans (Evl.Ex.new htp)) _ _ ha, hd.imp fun x ⟨y, z⟩ => ⟨y, (e.trans (Evl.Ex.new htp)) _ _ z⟩, E, upd_same, .cons (.own c1) (.cons (.own c2) .nil), hk, q _ (Evl.Ex.new htp)⟩⟩
end
end Hk
end S_Ws
section S_Wu
namespace Hk
open PySem PySem.Spec PyProof.Rows L2 LamX Tl
/-- a text backward -/
def revS (z : Str) : Str := ⟨((Builtin.Str.strSliceIndices none none (-1) z.length).filterMap (z.cps[·]?)).toArray⟩
def tRevS (te : TE) : TE := fun σ H Q => te σ H fun x H1 => ∃ z, x = .str z ∧ (revS z).length ≤ sizeLine ∧ Q (.str (revS z)) H1
theorem pe_revS {X : Cx} {e : Expr} {te : TE} {k : Nat} {p1 p2 p3 pos : Pos} (he : PE X e te) : PE X (.Subscript e (.Slice none none (some (.UnaryOp .USub (.Constant (.int 1) k p1) p2)) p3) pos) (tRevS te) := by
  refine ⟨fun pins s σ H Q I h => ?_⟩
  refine Subscript_ (thn (he.run pins s σ H _ I h) fun v s1 ⟨x, H1, I1, r1, q1⟩ => ?_)
  obtain ⟨z, ex, hz, q⟩ := q1
  subst ex
  obtain ⟨t, rfl⟩ := r1
  have hst : PO X (some (.UnaryOp .USub (.Constant (.int 1) k p1) p2)) (tPart (tUn (rU fun i => .int (-i)) (tC (.int 1)))) := po_some (pe_un un_neg pe_int)
  refine wpAny_Slice (thn (po_none.run pins s1 σ H1 (fun o H2 => o = none ∧ H2 = H1) I1 ⟨rfl, rfl⟩) fun vl s2 ⟨l, H2, I2, pl, el, e2⟩ => ?_)
  subst el e2
  refine thn (po_none.run pins s2 σ H2 (fun o H3 => o = none ∧ H3 = H2) I2 ⟨rfl, rfl⟩) fun vu s3 ⟨u, H3, I3, pu, eu, e3⟩ => ?_
  subst eu e3
  refine thn (hst.run pins s3 σ H3 (fun o H4 => o = some (-1) ∧ H4 = H3) I3 ⟨1, rfl, -1, rfl, rfl, rfl⟩) fun vs s4 ⟨o, H4, I4, ps, eo, e4⟩ => ?_
  subst eo e4
  have I5 : Inv X pins σ H4 { s4 with heap := s4.heap.push { cls := .type "slice", data := .fields #[vl, vu, vs] } } := I4.kept (t' := s4.toks) fun b ob q => Heap.get?_push_of_some _ q
  obtain ⟨l', rfl, el⟩ := IsPart.raw pl
  obtain ⟨u', rfl, eu⟩ := IsPart.raw pu
  obtain ⟨st', rfl, es⟩ := IsPart.raw ps
  show wpAny (model X.prog X.w) X.A (subscriptTail e (.Slice none none (some (.UnaryOp .USub (.Constant (.int 1) k p1) p2)) p3) (.str z t) (.ref s4.heap.objs.size)) (EP X pins σ Q) X.xe { s4 with heap := s4.heap.push { cls := .type "slice", data := .fields #[partValue l', partValue u', partValue st'] } }
  refine tail_any (ops := [.str z t, .ref s4.heap.objs.size]) (typeIs_str _ _ _) (F.slot_str_getitem.lookup) ?_ (by with_unfolding_all rfl)
  refine wpAny_getItem_str_slice (l := l') (u := u') (st := st') ⟨_, Heap.get?_push_size _ rfl, rfl, rfl⟩ (by rw [es]; rfl) ?_
  unfold sliceMade slicePicked
  rw [el, eu, es]
  have hne : ¬((((some (-1) : Option Int).getD 1 == 1) && (Builtin.Str.strSliceIndices none none ((some (-1) : Option Int).getD 1) z.length).length == z.length) = true) := by
    show ¬((false && _) = true)
    rw [Bool.false_and]
    exact Bool.false_ne_true
  rw [if_neg hne]
  exact ⟨hz, .str (revS z), H4, I5.tok _, ⟨_, rfl⟩, q⟩
/-- a text, some times -/
def mulS (a : Str) (n : Nat) : Str := ⟨(List.replicate n a.cps).foldl (· ++ ·) #[]⟩
def rMulS : R2 := fun x y H Q => ∃ (a : Str) (n : Nat), x = .str a ∧ y = .int (n : Int) ∧ 2 ≤ n ∧ 1 ≤ a.length ∧ a.length * n ≤ 1000 ∧ Q (.str (mulS a n)) H
theorem op_mulS {X : Cx} : OpR X (binaryOp .Mult) rMulS := by
  intro pins s σ H x y v u Q I rx ry h
  obtain ⟨a, n, rfl, rfl, h2, h1, hz, q⟩ := h
  obtain ⟨t, rfl⟩ := rx
  obtain ⟨t2, rfl⟩ := ry
  have hn : n ≤ 1000 := Nat.le_trans (Nat.le_mul_of_pos_left n h1) hz
  have hlong : Builtin.Str.tooLong (a.length * ((n : Int)).toNat) = false := by
    rw [Int.toNat_natCast]
    refine decide_eq_false fun z => ?_
    rw [sizeLine_eq] at z
    exact absurd (Nat.lt_of_lt_of_le z hz) (by decide)
  refine PySem.P.mul_str ?_ (fun _ _ => ?_) (fun _ _ => hlong) ?_
  · rw [decide_eq_false (by omega), decide_eq_false (by omega)]
    rfl
  · have : ((a.length : Nat) : Int) ≤ (2 ^ 63 - 1) / (n : Int) := by
      refine (Int.le_ediv_iff_mul_le (by omega)).mpr ?_
      have : ((a.length : Nat) : Int) * (n : Int) = ((a.length * n : Nat) : Int) := by rw [Int.natCast_mul]
      rw [this]
      have h3 : ((a.length * n : Nat) : Int) ≤ 1000 := by exact_mod_cast hz
      exact Int.le_trans h3 (by decide)
    omega
  · rw [if_neg (by omega), if_neg (by
      rw [Bool.or_eq_true_iff, beq_iff_eq, beq_iff_eq]
      omega), Int.toNat_natCast]
    exact ⟨PySem.fits_reps (by rw [← hlong, Int.toNat_natCast]), .str (mulS a n), H, I.tok _, ⟨_, rfl⟩, q⟩
end Hk
end S_Wu
section S_Wt
namespace Hk
open PySem PySem.Spec PyProof.Rows L2 LamX Tl
/-- the law's own call where no repr is under way, its code object's table tracked -/
theorem law_gTs {P : Program} {w : World} {K : PySem.W.Frag} {mg mb : Str → Option Value} {k : Nat} {fa a : Addr} {Ts : List (Addr × Addr)} {fd : FuncData} {x : Str} {sp : Sp} {s₁ : Shared} {vs : List Value} {ns : List Int}
    (kin : K.In s₁.heap) (hns : s₁.heap.Ns mainGlobals mg) (hb : s₁.heap.Ns builtinsNs mb) (hbb : ∀ x : Str, x ≠ "__name__" → mb x = bootBuiltins x) (hlim : s₁.heap.NoLimit) (hg : s₁.gens = #[])
    (hTs : ∀ p ∈ Ts, s₁.heap.get? p.2 = some { cls := .none, data := .fields #[] } ∧ K.lookup p.2 = none ∧ PySem.W.CodeHd s₁.heap p.1 p.2)
    (hbm : ∃ (bm : Addr) (ob : Obj), mg "__builtins__" = some (.ref bm) ∧ bm ≠ builtinsNs ∧ s₁.heap.get? bm = some ob ∧ ob.cls = .type "module" ∧ ob.dict = some builtinsNs ∧ ob.data = .plain)
    (ha : s₁.heap.get? a = some { cls := .type "list", data := .seq vs.toArray }) (hi : IntsAre vs ns) (hl : ns.length ≤ sizeLine) (hr : Room k callerA)
    (F : ∀ base : Heap, K.In base → base.Ns mainGlobals mg → (∀ p ∈ Ts, TabB base mg p.1 p.2) → FnG P w K mg base k fa fd [x] sp) (hbind : ∀ (s : Shared) (u : Value), BindsTo s fd ⟨[u], []⟩ [(x, u)])
    (hsp : ∀ H : Hp, (∀ p ∈ Ts, H p.2 = some (.tbl #[])) → SqL K H a (ns.map V.int) → sp [.ref a] H (fun v _ => v = .bl true) fun _ _ _ => False) :
    codeAny (model P w) callerA (.call (.ref fa) ⟨[.ref a], []⟩) (fun r s' => r = .ok (.ret (.bool true)) ∧ OldK s₁.heap s'.heap ∧ s'.os = s₁.os ∧ AllBare s'.gens) s₁ := by
  have rv := vals_ints hi
  have tbl : ∀ {b : Addr}, b ∈ Ts.map (·.2) → s₁.heap.get? b = some { cls := .none, data := .fields #[] } ∧ K.lookup b = none := fun {b} hb => by
    obtain ⟨p, hp, rfl⟩ := List.mem_map.mp hb
    exact ⟨(hTs p hp).1, (hTs p hp).2.1⟩
  have aT : a ∉ Ts.map (·.2) := fun z => by
    rw [(tbl z).1] at ha
    have z' : Data.fields #[] = Data.seq vs.toArray _ := congrArg Obj.data (Option.some.inj ha)
    cases z'
  have run : ∀ H : Hp, (∀ p ∈ Ts, H p.2 = some (.tbl #[])) → SqL K H a (ns.map V.int) → HOk P w H s₁.heap → (∀ b u, H b = some u → b ∈ Ts.map (·.2) ∨ (b = a ∧ K.lookup a = none ∧ ∃ o xs, u = .frz o (.lst xs))) →
      codeAny (model P w) callerA (.call (.ref fa) ⟨[.ref a], []⟩) (fun r s' => r = .ok (.ret (.bool true)) ∧ OldK s₁.heap s'.heap ∧ s'.os = s₁.os ∧ AllBare s'.gens) s₁ := by
    intro H hHT hS hok hA
    have keepB : ∀ {b : Addr} {o : Obj}, s₁.heap.get? b = some o → (∀ vs n, o.data ≠ .seq vs n) → o.data ≠ .fields #[] → (hidT s₁.heap H).get? b = some o := fun {b o} e h1 h2 => by
      refine hidT_get e ?_
      cases q : H b with
      | none => rfl
      | some u =>
        rcases hA b u q with e1 | ⟨e1, _⟩
        · rw [(tbl e1).1] at e
          cases e
          exact absurd rfl h2
        · rw [e1, ha] at e
          cases e
          exact absurd rfl (h1 _ _)
    have ns_of : ∀ {b : Addr} {m : Str → Option Value}, s₁.heap.Ns b m → (hidT s₁.heap H).Ns b m := fun {b m} hm => by
      obtain ⟨o, es, ep, e, d, r⟩ := hm
      exact ⟨o, es, ep, keepB e (fun vs n z => by rw [d] at z; cases z) (fun z => by rw [d] at z; cases z), d, r⟩
    have kb : K.In (hidT s₁.heap H) := fun b o e => hidT_get (kin b o e) (by
      cases q : H b with
      | none => rfl
      | some u =>
        rcases hA b u q with e1 | ⟨e1, e2, _⟩
        · rw [(tbl e1).2] at e
          cases e
        · rw [e1, e2] at e
          cases e)
    have hM : Mod K mg (hidT s₁.heap H) := ⟨kb, ns_of hns, ⟨mb, ns_of hb, hbb⟩, hlim.elim fun mc h => ⟨mc, ns_of h.1, h.2⟩⟩
    have e0 : Env0 P w K mg (hidT s₁.heap H) callerA [] s₁ H := ⟨rfl, hM, fun _ _ e => of_hidT e, by rw [hidT_size] <;> exact Nat.le_refl _, trivial, fun _ hb => (nomatch hb), hok, .of_eq hg⟩
    have TB : ∀ p ∈ Ts, TabB (hidT s₁.heap H) mg p.1 p.2 := fun p hp => by
      obtain ⟨hT, nT, hC⟩ := hTs p hp
      refine ⟨?_, ?_, fun z => ?_⟩
      · obtain ⟨o, us, file, tf, flags, tg, inF, text, tt, e1, r1, r2, r3, r4⟩ := hC
        exact ⟨o, us, file, tf, flags, tg, inF, text, tt, keepB e1 (fun vs n z => by rw [r2] at z; cases z) (fun z => by rw [r2] at z; cases z; simp at r3), r1, r2, r3, r4⟩
      · obtain ⟨bm, ob, b1, b2, b3, b4, b5, b6⟩ := hbm
        refine ⟨bm, ob, b1, b2, fun q => ?_, fun q => ?_, keepB b3 (fun vs n z => by rw [b6] at z; cases z) (fun z => by rw [b6] at z; cases z), b4, b5, b6⟩
        · obtain ⟨o, es, ep, e, hd, _⟩ := hns
          rw [q, e] at b3
          cases b3
          rw [hd] at b6
          cases b6
        · rw [q, hT] at b3
          cases b3
          cases b6
      · obtain ⟨o, es, ep, e, hd, _⟩ := hns
        rw [z, hT] at e
        cases e
        cases hd
    refine codeAny_mono ((F _ kb (ns_of hns) TB).go rfl hr e0 (us := [.ref a]) (hbind s₁ (.ref a)) (vs := [.ref a]) (.cons rfl .nil) (hsp H hHT hS)) fun r s' h => ?_
    match r, h with
    | .ok (.ret u), h =>
      obtain ⟨v, H', os, bare, un, hok', r', q⟩ := h
      cases (show v = .bl true from q)
      cases (show u = Value.bool true from r')
      have grown : ∀ p ∈ Ts, ∃ more, s'.heap.get? p.2 = some { cls := .none, data := .fields more } := fun p hp => by
        obtain ⟨more, zT⟩ := un.tbls p.2 #[] (hHT p hp)
        have q := hok' p.2 _ zT
        rw [Array.empty_append] at q
        exact ⟨more, q⟩
      have others : ∀ b o, b ∉ Ts.map (·.2) → s₁.heap.get? b = some o → s'.heap.get? b = some o := fun b o nb e => by
        cases q : H b with
        | none => exact un.keep b o e q (fun y => (nomatch y)) (fun y => (nomatch y))
        | some u =>
          rcases hA b u q with z | ⟨_, _, ob, xs, rfl⟩
          · exact absurd z nb
          · obtain ⟨e1, _⟩ := hok b _ q
            obtain ⟨e2, _⟩ := hok' b _ (un.frzs b ob _ q)
            rw [e] at e1
            cases e1
            exact e2
      refine ⟨rfl, ⟨fun b o e => ?_, fun b o e => ?_⟩, os, bare⟩
      · by_cases hb : b ∈ Ts.map (·.2)
        · obtain ⟨p, hp, rfl⟩ := List.mem_map.mp hb
          obtain ⟨hT, _, hC⟩ := hTs p hp
          obtain ⟨more, hm⟩ := grown p hp
          rw [hT] at e
          cases e
          exact .inr (.inl ⟨(hC.tab hT).isCodeTable, rfl, #[], more, rfl, by rw [Array.empty_append]; exact hm⟩)
        · exact .inl (others b o hb e)
      · by_cases hb : b ∈ Ts.map (·.2)
        · obtain ⟨p, hp, rfl⟩ := List.mem_map.mp hb
          obtain ⟨more, hm⟩ := grown p hp
          exact ⟨_, hm⟩
        · exact ⟨o, others b o hb e⟩
    | .error e, h => exact False.elim h
    | .ok .next, h => exact False.elim h
    | .ok .brk, h => exact False.elim h
    | .ok .cont, h => exact False.elim h
  have mem : ∀ p ∈ Ts, p.2 ∈ Ts.map (·.2) := fun p hp => List.mem_map.mpr ⟨p, hp, rfl⟩
  cases hk : K.lookup a with
  | some o =>
    have e := kin a o hk
    rw [ha] at e
    cases e
    refine run (fun b => if b ∈ Ts.map (·.2) then some (.tbl #[]) else none) (fun p hp => if_pos (mem p hp)) (.inr ⟨_, vs.toArray, _, hk, rfl, rfl, rfl, ?_, by simpa using rv⟩) (fun b u z => ?_) (fun b u z => ?_)
    · rw [List.size_toArray, hi.length]
      exact hl
    · dsimp only at z
      by_cases hb : b ∈ Ts.map (·.2)
      · rw [if_pos hb] at z
        cases z
        exact (tbl hb).1
      · rw [if_neg hb] at z
        cases z
    · by_cases hb : b ∈ Ts.map (·.2)
      · exact .inl hb
      · rw [if_neg hb] at z
        cases z
  | none =>
    refine run (fun b => if b ∈ Ts.map (·.2) then some (.tbl #[]) else if b = a then some (.frz { cls := .type "list", data := .seq vs.toArray } (.lst (ns.map V.int))) else none) (fun p hp => if_pos (mem p hp)) (.inl (.inr ⟨_, by dsimp only; rw [if_neg aT, if_pos rfl]⟩)) (fun b u z => ?_) fun b u z => ?_
    · dsimp only at z
      by_cases hb : b ∈ Ts.map (·.2)
      · rw [if_pos hb] at z
        cases z
        exact (tbl hb).1
      · rw [if_neg hb] at z
        by_cases hb2 : b = a
        · rw [if_pos hb2] at z
          cases z
          subst hb2
          exact ⟨ha, by rw [List.length_map]; exact hl, vs, _, rv, ha⟩
        · rw [if_neg hb2] at z
          cases z
    · by_cases hb : b ∈ Ts.map (·.2)
      · exact .inl hb
      · rw [if_neg hb] at z
        by_cases hb2 : b = a
        · rw [if_pos hb2] at z
          cases z
          exact .inr ⟨hb2, hk, _, _, rfl⟩
        · rw [if_neg hb2] at z
          cases z
/-- what is known of a def whose lambdas' table is tracked -/
def TabOf (K : PySem.W.Frag) (mg : Str → Option Value) (q : Program) (p : Addr × Addr) : Prop := ∃ (name : Str) (f : Addr) (fd : FuncData) (o : Obj) (e : Value) (dd : Option Addr) (vs : Array Value) (sl : Array (Option Value)),
  ((recsOf q).any fun e => e.name == name) = true ∧ mg name = some (.ref f) ∧ K.lookup f = some o ∧ o.data = .func fd ∧ fd.code = .ref p.1 ∧ K.lookup p.1 = some ⟨e, dd, .fields vs, sl⟩ ∧ vs[11]? = some (.ref p.2) ∧ K.lookup p.2 = none
theorem walk_gTs {l : PySem.W.OpenLaw} {n k : Nat} {q : Program} {loose : List Str} {XP : (Str → Option Value) → Heap → Prop} {YP : World → Heap → Prop} {d : DefRec} {K : Params → PySem.W.Frag} {x : Str}
    (hn : l.most = some n) (hn2 : n ≤ sizeLine) (hdf : d.params.defaults = []) (hr : Room k callerA) (hY : ∀ (w : World) (h : Heap), YP w h → (K w.params).In h)
    (F : ∀ (w : World) (mg : Str → Option Value) (fa : Addr) (h : Heap), (K w.params).In h → h.Ns mainGlobals mg → mg d.name = some (.ref fa) →
      ∃ (fd : FuncData) (Ts : List (Addr × Addr)) (sp : Sp), (∀ p ∈ Ts, TabOf (K w.params) mg q p) ∧ (∀ (s : Shared) (u : Value), BindsTo s fd ⟨[u], []⟩ [(x, u)]) ∧
        (∀ (H : Hp) (a : Addr) (ns : List Int), ns.length ≤ n → (∀ p ∈ Ts, H p.2 = some (.tbl #[])) → SqL (K w.params) H a (ns.map V.int) → sp [.ref a] H (fun v _ => v = .bl true) fun _ _ _ => False) ∧
        ∀ base : Heap, (K w.params).In base → base.Ns mainGlobals mg → (∀ p ∈ Ts, TabB base mg p.1 p.2) → FnG l.prog w (K w.params) mg base k fa fd [x] sp) :
    PySem.W.WalkO q loose XP YP l.row.toRowW d [] (fun f vs => PySem.call f vs) := by
  refine Att.attach_call hn hdf fun w s₀ s₁ mg mb fa o pm cd doc a vs ns G Y ho hd hcd hmg hobj hints hlen hg => ?_
  have kin := hY w _ Y
  obtain ⟨fd, Ts, sp, hTs, h1, hs, h2⟩ := F w mg fa _ kin G.T.g hmg
  have ts : ∀ p ∈ Ts, s₁.heap.get? p.2 = some { cls := .none, data := .fields #[] } ∧ (K w.params).lookup p.2 = none ∧ PySem.W.CodeHd s₁.heap p.1 p.2 := fun p hp => by
    obtain ⟨name, f, fd', o1, e, dd, us, sl, hrec, hmf, k1, k2, k3, k4, k5, nT⟩ := hTs p hp
    obtain ⟨dL, hm, hn1⟩ := List.any_eq_true.mp hrec
    have hn2' : dL.name = name := beq_iff_eq.mp hn1
    obtain ⟨a', o', fd2, c', P', g1, g2, g3, g4, g5, g6⟩ := G.T.tab dL hm
    rw [hn2', hmf] at g1
    cases g1
    have q1 := kin _ _ k1
    rw [q1] at g2
    cases g2
    rw [k2] at g3
    cases g3
    rw [k3] at g4
    cases g4
    have hC := PySem.W.CodeHd.of g5 g6
    obtain ⟨⟨oc, vc, e1, _, e3, e4⟩, hP⟩ := g6
    have q2 := kin _ _ k4
    rw [q2] at e1
    cases e1
    cases e3
    rw [k5] at e4
    cases e4
    exact ⟨hP, nT, hC⟩
  exact law_gTs kin G.T.g G.T.b G.T.builtins G.T.nolimit hg ts G.T.bmain hobj hints (Nat.le_trans hlen hn2) hr h2 h1 fun H hHT hS => hs H a ns hlen hHT hS
end Hk
end S_Wt
section S_Wv
namespace Hk
open PySem PySem.Spec PyProof.Rows L2 LamX Tl
/-- repr of data at an address, of None or of a truth -/
def rReprX (K : PySem.W.Frag) : List V → Hp → VK → Prop := fun xs H Q => rReprB K xs H Q ∨ ∃ b : Bool, xs = [.bl b] ∧ Q (.str (if b then "True" else "False")) H
theorem call_reprX {X : Cx} (hg : X.A.guards = some []) (hu : X.A.units + 64 < cLine) : CallR X (.builtin "repr") (rReprX X.K) := by
  intro pins s σ H xs us Q I r h
  rcases h with h | ⟨b, rfl, q⟩
  · exact call_reprB hg hu _ _ _ _ _ _ _ I r h
  · obtain ⟨u, rfl, ru⟩ := vals1 r
    cases ru
    exact PySem.P.repr_of_bool ⟨.str (if b then "True" else "False"), H, I.tok _, ⟨_, rfl⟩, q⟩
theorem ev_reprT {K : PySem.W.Frag} {te : TE} {σ : L2.St} {H : Hp} {b : Bool} (h : Evl.Ev te σ H (.bl b)) : Evl.Ev (tCB (rReprX K) (tCons te tNil)) σ H (.str (if b then "True" else "False")) := fun H1 e Q q =>
  h H1 e _ fun H2 e2 => .inr ⟨b, rfl, q H2 e2⟩
theorem strip_tb {T t : Addr} {H : Hp} {ps : Array Value} (hT : H T = some (.tbl ps)) {a : Addr} {o : HO} (h : H a = some o) (hn : ∀ ps, o ≠ .tbl ps) : strip T H a = some o := strip_at h (fun z => by
  rw [z, hT] at h
  exact hn ps (Option.some.inj h).symm) hn
theorem strip_extN {T : Addr} {H H' : Hp} {ps : Array Value} (hT : H T = some (.tbl ps)) (e : Evl.Ex (strip T H) H') : ExtN H H' := fun a o h hn => e a o (strip_tb (t := T) hT h hn)
end Hk
end S_Wv
section S_Wx
namespace Hk
open PySem PySem.Spec PyProof.Rows L2 LamX Tl
section
variable {prog : Program} {w : World} {A : Around} {E : Value → Shared → Prop} {s : Shared}
theorem applied_rev {sl : Addr} {vs : Value} {n : Nat} {Q : Int × Int × Nat → Shared → Prop} (hs : s.heap.IsSliceOf sl .none .none vs) (ps : IsPart vs (some (-1)))
    (h : Q ((n : Int) - 1, -1, n) s) : wpAny (model prog w) A (Builtin.Slice.sliceApplied (.ref sl) (pure (n : Int))) Q E s := by
  obtain ⟨os, hos, hcs, hds⟩ := id hs
  unfold Builtin.Slice.sliceApplied Builtin.Slice.sliceFields
  refine wpAny_bind (wpAny_bind (wpAny_field hos hds (x := .none) rfl (wpAny_bind (wpAny_field hos hds (x := .none) rfl (wpAny_bind (wpAny_field hos hds (x := vs) rfl (wpAny_pure ?_)))))))
  refine wpAny_bind (HT.slicePart_ ps ?_)
  show wpAny _ _ (if ((-1 : Int) == 0) = true then _ else _) _ _ s
  rw [if_neg (by decide)]
  refine wpAny_bind (HT.slicePart_ .none (wpAny_bind (HT.slicePart_ .none (wpAny_bind (wpAny_pure ?_)))))
  show wpAny _ _ (pure ((n : Int) - 1, (-1 : Int), Builtin.Slice.slicePlaces ((n : Int) - 1) (-1) (-1))) _ _ s
  have e : Builtin.Slice.slicePlaces ((n : Int) - 1) (-1) (-1) = n := by
    unfold Builtin.Slice.slicePlaces
    rw [if_neg (by decide)]
    by_cases z : n = 0
    · subst z; decide
    · rw [if_pos (by omega)]
      have : ((n : Int) - 1 - -1 - 1) / (- -1) = (n : Int) - 1 := by
        rw [Int.neg_neg, Int.ediv_one]
        omega
      rw [this]
      omega
  rw [e]
  exact wpAny_pure h
theorem fm_congr {α β : Type} {f g : α → Option β} : ∀ {l : List α}, (∀ x ∈ l, f x = g x) → l.filterMap f = l.filterMap g
  | [], _ => rfl
  | a :: r, h => by rw [List.filterMap_cons, List.filterMap_cons, h a List.mem_cons_self, fm_congr fun x hx => h x (List.mem_cons_of_mem _ hx)]
theorem pick_rev (xs : Array Value) : ((List.range xs.size).filterMap fun (m : Nat) => xs[((xs.size : Int) - 1 + (m : Int) * (-1)).toNat]?).toArray = xs.toList.reverse.toArray := by
  have h := HT.pick_gen xs.reverse 0 xs.size
  have e : ((List.range xs.size).filterMap fun (m : Nat) => xs[((xs.size : Int) - 1 + (m : Int) * (-1)).toNat]?) = (List.range xs.size).filterMap fun (m : Nat) => xs.reverse[(((0 : Nat) : Int) + (m : Int) * 1).toNat]? := by
    refine fm_congr fun m hm => ?_
    have hm := List.mem_range.mp hm
    have h1 : ((xs.size : Int) - 1 + (m : Int) * (-1)).toNat = xs.size - 1 - m := by omega
    have h2 : (((0 : Nat) : Int) + (m : Int) * 1).toNat = m := by omega
    rw [h1, h2, Array.getElem?_reverse hm]
  rw [e, h, List.drop_zero, List.take_of_length_le (by simp)]
  simp
theorem getItem_tuple_rev {t sl : Addr} {items : Array Value} {vs : Value} {Q : Value → Shared → Prop} (ht : IsTup s.heap t items) (hs : s.heap.IsSliceOf sl .none .none vs) (ps : IsPart vs (some (-1)))
    (h : Q (.ref s.heap.objs.size) { s with heap := s.heap.push { cls := .type "tuple", data := .seq items.toList.reverse.toArray } })
    (hsz : items.size ≤ sizeLine) : wpAny (model prog w) A (getItem (.ref t) (.ref sl)) Q E s := by
  have htake : sizeOk (.seq items.toList.reverse.toArray) := by
    show items.toList.reverse.toArray.size ≤ sizeLine
    rw [List.size_toArray, List.length_reverse, Array.length_toList]
    exact hsz
  obtain ⟨os, hos, hcs, hds⟩ := id hs
  have hTs : s.TypeIs (.ref sl) "slice" := ⟨os, hos, hcs⟩
  unfold getItem
  try with_reducible refine wpAny_holding ?_
  first | refine wpAny_bind (wpAny_pure ?_) | skip
  refine wpAny_bind (wpAny_sequenceKey ht.typeIs (by decide) ?_)
  refine wpAny_bind (wpAny_callSpecial?_slot (name := Str.ofString "__getitem__") ht.typeIs PyProof.Rows.slot_tuple_getitem
    (wpAny_call_entry PyProof.Rows.slot_tuple_getitem ht.typeIs PyProof.Rows.entry_tuple_getitem ?_ (PyProof.Rows.args_tuple_getitem _ _)))
  show wpAny _ _ (Builtin.Tuple.tupleItemsOf (.ref t) >>= _) _ _ s
  refine wpAny_bind (tupleItemsOf_ ht ?_)
  refine wpAny_bind (wpAny_typeOf hTs ?_)
  rw [if_pos (by decide)]
  refine wpAny_bind (applied_rev hs ps ?_)
  have hno : ¬ ((((items.size : Int) - 1) == 0 && (-1 : Int) == 1 && items.size == items.size) = true) := by
    rw [show ((-1 : Int) == 1) = false from rfl, Bool.and_false, Bool.false_and]
    exact Bool.false_ne_true
  show wpAny _ _ (if ((((items.size : Int) - 1) == 0 && (-1 : Int) == 1 && items.size == items.size) = true) then _ else _) _ _ s
  rw [if_neg hno, pick_rev]
  first
    | exact wpAny_bind (m := Builtin.Tuple.tupleExact _) (wpAny_newObj_type (wpAny_pure ⟨_, rfl, wpAny_pure h⟩) htake)
    | exact wpAny_bind (m := Builtin.Tuple.tupleExact _) (wpAny_newObj_type (wpAny_bind (wpAny_pure (wpAny_pure ⟨_, rfl, wpAny_pure h⟩))) htake)
    | exact wpAny_bind (wpAny_bind (m := Builtin.Tuple.tupleExact _) (wpAny_newObj_type (wpAny_pure (wpAny_pure ⟨_, rfl, wpAny_pure h⟩)) htake))
    | exact wpAny_bind (wpAny_bind (m := Builtin.Tuple.tupleExact _) (wpAny_newObj_type (wpAny_pure ⟨_, rfl, wpAny_pure h⟩) htake))
end
/-- a tuple backward -/
def tRevT (K : PySem.W.Frag) (te : TE) : TE := fun σ H Q => te σ H fun x H1 => ∃ a xs, x = .ref a ∧ SqT K H1 a xs ∧ ∀ p, H1 p = none → Q (.ref p) (upd H1 p (.tup xs.reverse))
theorem pe_revT {X : Cx} {e : Expr} {te : TE} {k : Nat} {p1 p2 p3 pos : Pos} (he : PE X e te) : PE X (.Subscript e (.Slice none none (some (.UnaryOp .USub (.Constant (.int 1) k p1) p2)) p3) pos) (tRevT X.K te) := by
  refine ⟨fun pins s σ H Q I h => ?_⟩
  refine Subscript_ (thn (he.run pins s σ H _ I h) fun v s1 ⟨x, H1, I1, r1, q1⟩ => ?_)
  obtain ⟨a, xs, ex, hx, q⟩ := q1
  subst ex
  cases r1
  have hst : PO X (some (.UnaryOp .USub (.Constant (.int 1) k p1) p2)) (tPart (tUn (rU fun i => .int (-i)) (tC (.int 1)))) := po_some (pe_un un_neg pe_int)
  refine wpAny_Slice (thn (po_none.run pins s1 σ H1 (fun o H2 => o = none ∧ H2 = H1) I1 ⟨rfl, rfl⟩) fun vl s2 ⟨l, H2, I2, pl, el, e2⟩ => ?_)
  subst el e2
  refine thn (po_none.run pins s2 σ H2 (fun o H3 => o = none ∧ H3 = H2) I2 ⟨rfl, rfl⟩) fun vu s3 ⟨u, H3, I3, pu, eu, e3⟩ => ?_
  subst eu e3
  refine thn (hst.run pins s3 σ H3 (fun o H4 => o = some (-1) ∧ H4 = H3) I3 ⟨1, rfl, -1, rfl, rfl, rfl⟩) fun vs s4 ⟨o, H4, I4, ps, eo, e4⟩ => ?_
  subst eo e4
  have I5 : Inv X pins σ H4 { s4 with heap := s4.heap.push { cls := .type "slice", data := .fields #[vl, vu, vs] } } := I4.kept (t' := s4.toks) fun b ob q => Heap.get?_push_of_some _ q
  obtain ⟨its, r, ht, hz⟩ := I5.tuple hx
  have hlen := r.length
  cases pl
  cases pu
  show wpAny (model X.prog X.w) X.A (subscriptTail e (.Slice none none (some (.UnaryOp .USub (.Constant (.int 1) k p1) p2)) p3) (.ref a) (.ref s4.heap.objs.size)) (EP X pins σ Q) X.xe { s4 with heap := s4.heap.push { cls := .type "slice", data := .fields #[.none, .none, vs] } }
  refine tail_any (ops := [.ref a, .ref s4.heap.objs.size]) ht.typeIs (PyProof.Rows.slot_tuple_getitem.lookup) ?_ (by with_unfolding_all rfl)
  refine getItem_tuple_rev ht (Heap.IsSliceOf.new _ .none .none vs) ps ?_ (by rw [List.size_toArray]; omega)
  refine ⟨.ref _, _, I5.laid (t' := s4.toks) (o := .tup xs.reverse) (fun b ob q => Heap.get?_push_of_some _ q) (Nat.le_refl _) ?_, rfl, q _ (I5.hok.fresh (Nat.le_refl _))⟩
  exact ⟨by rw [List.length_reverse]; exact hz, _, r.reverse, IsTup.new _ _⟩
end Hk
end S_Wx
section S_Wy
namespace Hk
open PySem PySem.Spec PyProof.Rows L2 LamX Tl
/-! ### a call of a def that wants no repr under way -/
theorem pe_callG {X : Cx} {k : Nat} {f : Addr} {fd : FuncData} {ps : List Str} {sp : Sp} {E : XK} {x : Str} {p pos : Pos} {e : Expr} {es : List Expr} {t : TA} (F : FnG X.prog X.w X.K X.mg X.base k f fd ps sp) (hgd : X.A.guards = some []) (hr : Room k X.A) (hg : Gl X x) (hm : X.mg x = some (.ref f))
    (hk : PySem.W.keepIn X.K (.ref f) = true) (hb : Binds X.K fd ps []) (hx : Passes CX0 X E) (ha : PA X (e :: es) t) (hdb : (x == ("__debug__" : Str)) = false := by decide) (he : starEach (e :: es) X.env = (false, eval e X.env) :: starEach es X.env := by rfl)
    (hpl : (backTo pos (starEach es X.env)).any (·.1) = false := by rfl) : PE X (.Call (.Name x p) (e :: es) [] pos) (tCall sp [] E t) := by
  constructor
  intro pins s σ H Q I h
  refine wpAny_Call_Name_kw (ld_glob I hg hm (PySem.W.callWith_K (h₀ := X.base) I.ok.mod.kin hk (thn (ha.run pos pins s σ H _ I h) fun us s1 hv => ?_) he hpl) hdb)
  obtain ⟨vs, H1, I1, r, q⟩ := hv
  rw [List.append_nil] at q
  refine ⟨I1.kIn, wpAny_call (codeAny_mono (F.go hgd hr I1.env0 (by
    have := hb s1 us I1.kIn (by rw [List.append_nil, ← r.length]; exact F.len q)
    rwa [List.append_nil] at this) r q) fun z s' hq => ?_)⟩
  match z, hq with
  | .error e, hq => exact hx pins σ H1 s1 e s' I1 hq
  | .ok (.ret u), hq => exact I1.after hq
  | .ok .next, hq => exact hq.elim
  | .ok .brk, hq => exact hq.elim
  | .ok .cont, hq => exact hq.elim
theorem FnG.mono {P : Program} {w : World} {K : PySem.W.Frag} {mg : Str → Option Value} {base : Heap} {j k : Nat} {f : Addr} {fd : FuncData} {ps : List Str} {sp : Sp} (F : FnG P w K mg base j f fd ps sp) (h : j ≤ k) : FnG P w K mg base k f fd ps sp := ⟨F.len, fun a b c d e g => F.go a (b.mono h) c d e g⟩
theorem addr_snoc {as : List Addr} {p : Addr} {i : Nat} {a : Addr} (h : (as ++ [p])[i]? = some a) : (i < as.length ∧ as[i]? = some a) ∨ (i = as.length ∧ p = a) := by
  rcases Nat.lt_or_ge i as.length with z | z
  · rw [List.getElem?_append_left z] at h
    exact .inl ⟨z, h⟩
  · rw [List.getElem?_append_right z] at h
    rcases Nat.lt_or_ge (i - as.length) 1 with y | y
    · have e : i - as.length = 0 := by omega
      rw [e] at h
      cases h
      exact .inr ⟨by omega, rfl⟩
    · rw [List.getElem?_eq_none (by rw [List.length_singleton]; exact y)] at h
      cases h
section
open Evl
variable {K : PySem.W.Frag} {σ : L2.St} {H : Hp}
/-- a comprehension whose items are new objects, one each -/
theorem go_lcN {wi : TI} {g : TG} {te : TE} {vs : List Nat} {n : Nat} {Y : Nat → Hp → V → Hp → Prop} {s : Nat → L2.St → L2.St} {o : Nat → HO} (hw : EvI wi σ H n Y) (aim : Aims g n Y s) (hs : ∀ i, wipe (s i (wipe σ vs)) vs = wipe σ vs) (hn : n ≤ 90000)
    (he : ∀ i, i < n → ∀ H1, Ex H H1 → ∀ Q : VK, (∀ p H2, H1 p = none → Ex H1 H2 → H2 p = some (o i) → Q (.ref p) H2) → te (s i (wipe σ vs)) H1 Q) (H1 : Hp) (e : Ex H H1) (Q : VK)
    (q : ∀ (D : Addr) (as : List Addr) (H2 : Hp), H1 D = none → Ex H1 H2 → H2 D = some (.lst (as.map V.ref)) → as.length = n → (∀ (i : Nat) (a : Addr), as[i]? = some a → H2 a = some (o i)) → Q (.ref D) H2) :
    tLc wi g tYes te vs σ H1 Q :=
  hw H1 e _ fun J G H2 e2 w sG D hD => lc_it w (fun i H' => Ex H2 H' ∧ ∃ as : List Addr, H' D = some (.lst (as.map V.ref)) ∧ as.length = i ∧ (∀ (k : Nat) (a : Addr), as[k]? = some a → H1 a = none ∧ H' a = some (o k) ∧ a ≠ D))
    ⟨Ex.new hD, [], upd_same, rfl, fun i v h => by simp at h⟩ (fun i H' _ p => sG H' ((e.trans e2).trans p.1) fun a o _ ha => p.1 _ _ ha)
    (fun i x A B hi p y => by
      obtain ⟨p1, as, p3, p4, p5⟩ := p
      obtain ⟨ab, k⟩ := aim i (wipe σ vs) A x B hi y
      refine k _ ⟨hs i, ?_⟩
      show te (s i (wipe σ vs)) B _
      refine he i hi B (((e.trans e2).trans p1).trans ab) _ fun p C hp eC hC => ⟨as.map V.ref, eC _ _ (ab _ _ p3), sz_lt (by rw [List.length_map]; omega), ((p1.trans ab).trans eC).mut hD, as ++ [p], ?_, by rw [List.length_append, p4] <;> rfl, fun j a ha => ?_⟩
      · rw [upd_same, List.map_append]
        rfl
      · rcases addr_snoc ha with ⟨_, ha⟩ | ⟨rfl, rfl⟩
        · obtain ⟨q1, q2, q3⟩ := p5 j a ha
          exact ⟨q1, by rw [upd_ne q3]; exact eC _ _ (ab _ _ q2), q3⟩
        · have pD : p ≠ D := fun z => by rw [z, ab _ _ p3] at hp; cases hp
          exact ⟨fresh_back ((e2.trans p1).trans ab) hp, by rw [upd_ne pD, p4]; exact hC, pD⟩)
    (fun H' p => by
      obtain ⟨p1, as, p3, p4, p5⟩ := p
      exact q D as H' (fresh_back e2 hD) (e2.trans p1) p3 p4 fun i a ha => (p5 i a ha).2.1)
end
end Hk
end S_Wy
section S_Xi
namespace EnL
open PySem PySem.Spec PyProof.Rows L2 Tl Hk
/-! ### values told by what is new -/
/-- of H what G has not -/
def nw (G H : Hp) : Hp := fun a => if (G a).isNone = true then H a else none
theorem nw_of {G H : Hp} {a : Addr} {o : HO} (h : G a = none) (h2 : H a = some o) : nw G H a = some o := by
  unfold nw
  rw [h]
  exact h2
theorem nw_at {G H : Hp} {a : Addr} {o : HO} (h : nw G H a = some o) : G a = none ∧ H a = some o := by
  unfold nw at h
  cases z : G a with
  | none => rw [z] at h; exact ⟨rfl, h⟩
  | some u => rw [z] at h; cases h
theorem nw_ex {G H : Hp} : Evl.Ex (nw G H) H := fun a o h => (nw_at h).2
theorem nw_by {G H H' : Hp} (h : ∀ a o, G a = none → H a = some o → H' a = some o) : Evl.Ex (nw G H) H' := fun a o e => h a o (nw_at e).1 (nw_at e).2
theorem nw_up {G H H' : Hp} (e : Evl.Ex H H') : Evl.Ex (nw G H) (nw G H') := fun a o h => nw_of (nw_at h).1 (e _ _ (nw_at h).2)
theorem nw_back {G G' H : Hp} (e : Evl.Ex G G') : Evl.Ex (nw G' H) (nw G H) := fun a o h => nw_of (Evl.fresh_back e (nw_at h).1) (nw_at h).2
def Mono (R : V → Hp → Prop) : Prop := ∀ v H H', Evl.Ex H H' → R v H → R v H'
section
open Evl
variable {K : PySem.W.Frag} {σ : L2.St} {G : Hp} {te : TE} {ta : TA} {R R' : V → Hp → Prop} {n : Nat}
def EvF (te : TE) (σ : L2.St) (G : Hp) (R : V → Hp → Prop) : Prop := ∀ H1, Ex G H1 → ∀ Q : VK, (∀ v H2, Ex H1 H2 → R v (nw H1 H2) → Q v H2) → te σ H1 Q
def EvAF (ta : TA) (σ : L2.St) (G : Hp) (n : Nat) (R : V → Hp → Prop) : Prop := ∀ H1, Ex G H1 → ∀ Q : List V → Hp → Prop, (∀ vs H2, Ex H1 H2 → vs.length = n → (∀ v ∈ vs, R v (nw H1 H2)) → Q vs H2) → ta σ H1 Q
theorem ef_nil : EvAF tNil σ G 0 R := fun H1 e Q q => q [] H1 (Ex.refl H1) rfl fun v h => nomatch h
theorem ef_cons {tr : TA} (m : Mono R) (h : EvF te σ G R) (hr : EvAF tr σ G n R) : EvAF (tCons te tr) σ G (n + 1) R := fun H1 e Q q => h H1 e _ fun v H2 e2 hv => hr H2 (e.trans e2) _ fun vs H3 e3 l3 h3 =>
  q (v :: vs) H3 (e2.trans e3) (by rw [List.length_cons, l3]) fun u hu => by
    rcases List.mem_cons.mp hu with z | z
    · subst z
      exact m _ _ _ (nw_up e3) hv
    · exact m _ _ _ (nw_back e2) (h3 u z)
theorem ef_c {v : V} (h : Ev te σ G v) (r : ∀ H, R v H) : EvF te σ G R := fun H1 e Q q => h H1 e Q fun H2 e2 => q v H2 e2 (r _)
theorem ef_l {xs : List V} (h : EvL te σ G xs) (r : ∀ p H, H p = some (.lst xs) → R (.ref p) H) : EvF te σ G R := fun H1 e Q q => h H1 e Q fun p H2 hp e2 h2 => q _ H2 e2 (r p _ (nw_of hp h2))
theorem ef_u {xs : List V} (h : EvU te σ G xs) (r : ∀ p H, H p = some (.tup xs) → R (.ref p) H) : EvF te σ G R := fun H1 e Q q => h H1 e Q fun p H2 hp e2 h2 => q _ H2 e2 (r p _ (nw_of hp h2))
theorem ef_d (r : ∀ p H, H p = some (.dK []) → R (.ref p) H) : EvF tDNewK σ G R := fun H1 e Q q p hp => q _ _ (Ex.new hp) (r p _ (nw_of hp upd_same))
theorem ef_lst (m : Mono R) (h : EvAF ta σ G n R) (hn : n ≤ 100000) (r : ∀ p xs H, H p = some (.lst xs) → xs.length = n → (∀ v ∈ xs, R v H) → R' (.ref p) H) : EvF (tLst ta) σ G R' := fun H1 e Q q => h H1 e _ fun vs H2 e2 l2 h2 =>
  ⟨by rw [sizeLine_eq]; omega, fun p hp => q _ _ (e2.trans (Ex.new hp)) (r p vs _ (nw_of (fresh_back e2 hp) upd_same) l2 fun v hv => m _ _ _ (nw_up (Ex.new hp)) (h2 v hv))⟩
theorem mem_rep {α : Type} {xs : List α} {k : Nat} {v : α} (h : v ∈ (List.replicate k xs).flatten) : v ∈ xs := by
  obtain ⟨ys, h1, h2⟩ := List.mem_flatten.mp h
  rw [(List.mem_replicate.mp h1).2] at h2
  exact h2
theorem ef_rep {ti : TE} {k : Int} {m : Nat} (mo : Mono R) (h : EvF te σ G (fun u H' => ∃ p xs, u = .ref p ∧ H' p = some (.lst xs) ∧ xs.length ≤ m ∧ ∀ v ∈ xs, R v H')) (hi : ∀ H', Ex G H' → Ev ti σ H' (.int k)) (k0 : 0 ≤ k) (k1 : k ≤ 10000) (hm : m ≤ 5)
    (r : ∀ p ys H, H p = some (.lst ys) → ys.length ≤ m * k.toNat → (∀ v ∈ ys, R v H) → R' (.ref p) H) : EvF (tOp rRep te ti) σ G R' := fun H1 e Q q => h H1 e _ fun v H2 e2 hv => by
  obtain ⟨p, xs, rfl, hp, hl, hx⟩ := hv
  refine hi H2 (e.trans e2) H2 (Ex.refl _) _ fun H3 e3 => ⟨p, k, xs, rfl, rfl, e3 _ _ (nw_at hp).2, by omega, by omega, ?_, fun b hb => q _ _ ((e2.trans e3).trans (Ex.new hb)) (r b _ _ (nw_of (fresh_back (e2.trans e3) hb) upd_same) ?_ fun v hv => mo _ _ _ (nw_up (e3.trans (Ex.new hb))) (hx v (mem_rep hv)))⟩
  · rw [sizeLine_eq]
    have : k.toNat ≤ 10000 := by omega
    have := Nat.mul_le_mul (show xs.length ≤ 5 by omega) this
    omega
  · have len : ∀ j : Nat, ((List.replicate j xs).flatten).length = j * xs.length := fun j => by
      induction j with
      | zero => rw [Nat.zero_mul]; rfl
      | succ j ih => rw [List.replicate_succ, List.flatten_cons, List.length_append, ih, Nat.succ_mul, Nat.add_comm]
    rw [len]
    rw [Nat.mul_comm]
    exact Nat.mul_le_mul hl (Nat.le_refl _)
/-- a comprehension whose items are new objects, all unlike -/
theorem go_lcD {wi : TI} {g : TG} {te : TE} {vs : List Nat} {n : Nat} {Y : Nat → Hp → V → Hp → Prop} {s : Nat → L2.St → L2.St} {σ : L2.St} {H : Hp} {o : Nat → HO} (hw : EvI wi σ H n Y) (aim : Aims g n Y s) (hs : ∀ i, wipe (s i (wipe σ vs)) vs = wipe σ vs) (hn : n ≤ 90000)
    (he : ∀ i, i < n → ∀ H1, Ex H H1 → ∀ Q : VK, (∀ p H2, H1 p = none → Ex H1 H2 → H2 p = some (o i) → Q (.ref p) H2) → te (s i (wipe σ vs)) H1 Q) (H1 : Hp) (e : Ex H H1) (Q : VK)
    (q : ∀ (D : Addr) (as : List Addr) (H2 : Hp), H1 D = none → Ex H1 H2 → H2 D = some (.lst (as.map V.ref)) → as.length = n → as.Nodup → (∀ (i : Nat) (a : Addr), as[i]? = some a → H1 a = none ∧ a ≠ D ∧ H2 a = some (o i)) → Q (.ref D) H2) :
    tLc wi g tYes te vs σ H1 Q :=
  hw H1 e _ fun J G H2 e2 w sG D hD => lc_it w (fun i H' => Ex H2 H' ∧ ∃ as : List Addr, H' D = some (.lst (as.map V.ref)) ∧ as.length = i ∧ as.Nodup ∧ (∀ (k : Nat) (a : Addr), as[k]? = some a → H1 a = none ∧ H' a = some (o k) ∧ a ≠ D))
    ⟨Ex.new hD, [], upd_same, rfl, List.nodup_nil, fun i v h => by simp at h⟩ (fun i H' _ p => sG H' ((e.trans e2).trans p.1) fun a o _ ha => p.1 _ _ ha)
    (fun i x A B hi p y => by
      obtain ⟨p1, as, p3, p4, pn, p5⟩ := p
      obtain ⟨ab, k⟩ := aim i (wipe σ vs) A x B hi y
      refine k _ ⟨hs i, ?_⟩
      show te (s i (wipe σ vs)) B _
      refine he i hi B (((e.trans e2).trans p1).trans ab) _ fun p C hp eC hC => ⟨as.map V.ref, eC _ _ (ab _ _ p3), sz_lt (by rw [List.length_map]; omega), ((p1.trans ab).trans eC).mut hD, as ++ [p], ?_, by rw [List.length_append, p4] <;> rfl, ?_, fun j a ha => ?_⟩
      · rw [upd_same, List.map_append]
        rfl
      · rw [List.nodup_append]
        refine ⟨pn, by simp, fun x hx y hy e => ?_⟩
        rw [List.mem_singleton.mp hy] at e
        subst e
        obtain ⟨j, hj⟩ := List.mem_iff_getElem?.mp hx
        rw [ab _ _ (p5 j x hj).2.1] at hp
        cases hp
      · rcases addr_snoc ha with ⟨_, ha⟩ | ⟨rfl, rfl⟩
        · obtain ⟨q1, q2, q3⟩ := p5 j a ha
          exact ⟨q1, by rw [upd_ne q3]; exact eC _ _ (ab _ _ q2), q3⟩
        · have pD : p ≠ D := fun z => by rw [z, ab _ _ p3] at hp; cases hp
          exact ⟨fresh_back ((e2.trans p1).trans ab) hp, by rw [upd_ne pD, p4]; exact hC, pD⟩)
    (fun H' p => by
      obtain ⟨p1, as, p3, p4, pn, p5⟩ := p
      exact q D as H' (fresh_back e2 hD) (e2.trans p1) p3 p4 pn fun i a ha => ⟨(p5 i a ha).1, (p5 i a ha).2.2, (p5 i a ha).2.1⟩)
end
end EnL
end S_Xi
section S_Naf
namespace P38
open PySem PySem.Spec PyProof.Rows L2 Tl Hk RZ EnL
abbrev nFT : List Str := ["above", "beneath", "waiting", "at", "over", "order", "_"]
theorem scFromTop : FnScope nFT ["above"] (defScope sFromTop) := ⟨rfl, rfl, rfl, by decide +kernel, rfl, by decide +kernel, by decide +kernel⟩
/-- the way down, from above ones that are each one of the bags or none -/
def spFromTop (K : PySem.W.Frag) : Sp := fun vs H Q _ => ∃ (a : Addr) (ups : List (Option Nat)), vs = [.ref a] ∧ SqS K H a (ups.map uv) ∧ ups.length ≤ 3000 ∧ (∀ (i j : Nat), ups[i]? = some (some j) → j < ups.length) ∧
  ∀ O order H', Evl.Ex H H' → H O = none → H' O = some (.lst (nv order)) → Dn ups order [] → Q (.ref O) H'
theorem uv_at {ups : List (Option Nat)} {i : Nat} {u : Option Nat} (h : ups[i]? = some u) : (ups.map uv).getD i .non = uv u := by
  rw [List.getD_eq_getElem?_getD, List.getElem?_map, h]
  rfl
theorem nv_app (l m : List Nat) : nv l ++ nv m = nv (l ++ m) := List.map_append.symm
theorem nv_len (l : List Nat) : (nv l).length = l.length := List.length_map _
section
variable {P : Program} {w : World} {K : PySem.W.Frag} {mg : Str → Option Value} {base : Heap}
set_option maxHeartbeats 2000000 in
theorem ok_fromTop {f : Addr} {fd : FuncData} {k : Nat} (F : Fun K "from_top" "from_top" sFromTop f fd) (menum : mg "enumerate" = none) : FnOk P w K mg base CX0 (k + 1) f fd ["above"] (spFromTop K) := by
  refine F.ok scFromTop (fun vs H Q E h => ?_) (fun cdv A outer s H vs Q E hr h => ?_)
  · obtain ⟨a, ups, rfl, _⟩ := h
    rfl
  · obtain ⟨a, ups, rfl, hS, hl, hin, q⟩ := h
    have nd := scFromTop.nd
    refine ⟨_, pss_cons (ps_setLc (i := 1) (own := [("_", 6)]) (g := gName 6) (tt := tYes) (te := tLst tNil) rfl nd rfl rfl (sw_true rfl rfl rfl (by decide +kernel)) (pi_ei (pv 0)) (blkOk_by (N := nFT) (sc := defScope sFromTop) (by decide +kernel)) (fun _ _ _ _ _ => pg_name (i := 6) nd rfl (Or.inl rfl)) (fun _ _ _ _ _ => pts_nil) (fun _ _ _ _ _ => pe_lst (pa_nil))) (pss_cons (ps_set (i := 2) nd rfl (.inl rfl) (pe_lst (pa_nil))) (pss_cons (ps_for PassesOwn.never rfl (pi_enE (by rfl) menum (pa_cons (pv 0) pa_nil)) (pg_tup (by rfl) (pgs_cons (pg_name (i := 3) nd rfl (Or.inl rfl)) (pgs_cons (pg_name (i := 4) nd rfl (Or.inl rfl)) pgs_nil))) (pss_one (ps_if (pt_cmpR op_isN (pv 4) (pe_non) (nomark _)) (pss_one (ps_expr (pe_bm PySem.F.plainAttrs_list PySem.F.slot_list_append PySem.F.type_list_append mt_append (pv 2) (pa_cons (pv 3) (pa_nil))))) (pss_one (ps_expr (pe_bm PySem.F.plainAttrs_list PySem.F.slot_list_append PySem.F.type_list_append mt_append (pe_ix ix_list (pv 1) (pv 4) (fun _ _ => rfl)) (pa_cons (pv 3) (pa_nil)))))))) (pss_cons (ps_set (i := 5) nd rfl (.inl rfl) (pe_lst (pa_nil))) (pss_cons (ps_while PassesOwn.never (pt_truth (pv 2) (by intro _; rfl)) (pss_cons (ps_set (i := 3) nd rfl (.inl rfl) (pe_bm0 PySem.F.plainAttrs_list PySem.F.slot_list_pop PySem.F.type_list_pop mt_pop (pv 2))) (pss_cons (ps_expr (pe_bm PySem.F.plainAttrs_list PySem.F.slot_list_append PySem.F.type_list_append mt_append (pv 5) (pa_cons (pv 3) (pa_nil)))) (pss_one (ps_expr (pe_bm PySem.F.plainAttrs_list PySem.F.slot_list_extend PySem.F.type_list_extend mt_extend (pv 2) (pa_cons (pe_ix ix_list (pv 1) (pv 3) (fun _ _ => rfl)) (pa_nil)))))))) (pss_one (ps_ret (pv 5))))))), ?_⟩
    -- beneath
    refine Go.asg_go (go_lcD (H := H) (n := (ups.map uv).length) (o := fun _ => .lst []) (ei_ei (K := K) (Evl.ev_var (i := 0) rfl) hS) (aims_at (j := 6)) (fun _ => rfl) (by rw [List.length_map]; omega) (fun i hi H1 e1 Q1 q1 => (Evl.el_lst (vs := []) Evl.ea_nil (Nat.zero_le _)) H1 (Evl.Ex.refl _) _ fun p H2 hp e2 h2 => q1 p H2 hp e2 h2) H (Evl.Ex.refl _) _ fun D as H1 nD e1 hD hal hand hrow => ?_)
    rw [List.length_map] at hal
    try dsimp only [List.set_cons_zero, List.set_cons_succ]
    refine Evl.q_asgL (xs := []) (Evl.el_lst Evl.ea_nil (Nat.zero_le _)) fun Wt H2 nW e2 hW => ?_
    try dsimp only [List.set_cons_zero, List.set_cons_succ]
    have nW0 : H Wt = none := Evl.fresh_back e1 nW
    have e02 := e1.trans e2
    have hD2 := e2 _ _ hD
    have DW : D ≠ Wt := fun z => by rw [← z, hD] at nW; cases nW
    have asW : Wt ∉ as := fun z => by
      obtain ⟨i, hi⟩ := List.mem_iff_getElem?.mp z
      rw [(hrow i Wt hi).2.2] at nW
      cases nW
    have asD : D ∉ as := fun z => by
      obtain ⟨i, hi⟩ := List.mem_iff_getElem?.mp z
      exact (hrow i D hi).2.1 rfl
    have as0 : ∀ {b : Addr}, b ∈ as → H b = none := fun z => by
      obtain ⟨i, hi⟩ := List.mem_iff_getElem?.mp z
      exact (hrow i _ hi).1
    have as2 : ∀ {b : Addr}, b ∈ as → H2 b = some (.lst []) := fun z => by
      obtain ⟨i, hi⟩ := List.mem_iff_getElem?.mp z
      exact e2 _ _ (hrow i _ hi).2.2
    refine q_forI (B := H) (ei_enE (K := K) (Evl.ea_cons (Evl.ev_var (i := 0) rfl) Evl.ea_nil) hS) (aims_enumE (K := K) (j1 := 3) (j2 := 4)) e02
      (fun H3 i σ' H' => ∃ y3 y4 : Option V, σ' = [some (.ref a), some (.ref D), some (.ref Wt), y3, y4, none, none] ∧ H' D = some (.lst (as.map V.ref)) ∧ H' Wt = some (.lst (nv (tops ups i))) ∧ (∀ (j : Nat) b, as[j]? = some b → H' b = some (.lst (nv (kids ups j i)))) ∧ (∀ b o, b ≠ Wt → b ∉ as → H3 b = some o → H' b = some o))
      (fun H3 e3 => ⟨none, none, rfl, e3 _ _ hD2, e3 _ _ hW, fun j b hb => e3 _ _ (as2 (List.mem_of_getElem? hb)), fun _ _ _ _ h => h⟩)
      (fun H3 i σ' H' e3 _ ⟨_, _, _, _, _, _, kp⟩ => ⟨fun b o h => kp b o (fun z => by rw [z, nW0] at h; cases h) (fun z => by rw [as0 z] at h; cases h) (e3 _ _ (e02 _ _ h)), fun b o hn h => kp b o (fun z => by rw [z, hW] at hn; cases hn) (fun z => by rw [as2 z] at hn; cases hn) h⟩) ?_ ?_
    · rintro H3 i σ' H' H'' e3 hi ⟨y3, y4, rfl, k1, k2, k3, kp⟩ e''
      rw [List.length_map] at hi
      obtain ⟨u, hu⟩ : ∃ u, ups[i]? = some u := ⟨_, List.getElem?_eq_getElem hi⟩
      rw [uv_at hu]
      have g1 := e'' _ _ k1
      have g2 := e'' _ _ k2
      have g3 : ∀ (j : Nat) b, as[j]? = some b → H'' b = some (.lst (nv (kids ups j i))) := fun j b hb => e'' _ _ (k3 j b hb)
      have gp : ∀ b o, b ≠ Wt → b ∉ as → H3 b = some o → H'' b = some o := fun b o h1 h2 h => e'' _ _ (kp b o h1 h2 h)
      clear k1 k2 k3 kp
      cases u with
      | none =>
        refine Evl.s_if (b := true) (Evl.et_is (Evl.et_test (Evl.ev_op (Evl.ev_var (v := V.non) rfl) Evl.ev_c rv_isN)) rfl) (fun _ H4 e4 => ?_) fun z => nomatch z
        refine ⟨.ref Wt, rfl, .inl ⟨rfl, _, Evl.sq_of (e4 _ _ g2)⟩, .int (i : Int), rfl, Wt, nv (tops ups i), .int (i : Int), rfl, rfl, e4 _ _ g2, by rw [nv_len, sizeLine_eq]; have := List.length_filter_le (fun k => decide (ups[k]? = some none)) (List.range i); rw [List.length_range] at this; unfold tops; omega, ?_⟩
        refine ⟨_, _, rfl, by rw [upd_ne DW]; exact e4 _ _ g1, ?_, fun j b hb => ?_, fun b o h1 h2 h => by rw [upd_ne h1]; exact e4 _ _ (gp b o h1 h2 h)⟩
        · rw [upd_same, tops_succ, if_pos hu]
          exact congrArg (fun l => some (HO.lst l)) (nv_app (tops ups i) [i])
        · rw [upd_ne (fun z => asW (by rw [← z]; exact List.mem_of_getElem? hb)), kids_succ, if_neg (by rw [hu]; exact fun z => nomatch z), List.append_nil]
          exact e4 _ _ (g3 j b hb)
      | some o =>
        have ho := hin i o hu
        obtain ⟨c, hc⟩ : ∃ c, as[o]? = some c := ⟨_, List.getElem?_eq_getElem (by omega)⟩
        refine Evl.s_if (b := false) (Evl.et_is (Evl.et_test (Evl.ev_op (Evl.ev_var (v := V.int (o : Int)) rfl) Evl.ev_c rv_isN)) rfl) (fun z => nomatch z) fun _ H4 e4 => ?_
        have hcm := List.mem_of_getElem? hc
        refine (Evl.ev_op (x := .ref D) (y := .int (o : Int)) (z := .ref c) (Evl.ev_var rfl) (Evl.ev_var rfl) (Evl.rv_ixL (K := K) (Evl.sq_of (e4 _ _ g1)) (atI_nat (by rw [List.getElem?_map, hc]; rfl)))) H4 (Evl.Ex.refl _) _ fun H5 e5 => ⟨.inl ⟨rfl, _, Evl.sq_of (e5 _ _ (e4 _ _ (g3 o c hc)))⟩, .int (i : Int), rfl, c, nv (kids ups o i), .int (i : Int), rfl, rfl, e5 _ _ (e4 _ _ (g3 o c hc)), by rw [nv_len, sizeLine_eq]; have := List.length_filter_le (fun k => decide (ups[k]? = some (some o))) (List.range i); rw [List.length_range] at this; unfold kids; omega, ?_⟩
        refine ⟨_, _, rfl, by rw [upd_ne (fun z => asD (by rw [z]; exact hcm))]; exact e5 _ _ (e4 _ _ g1), ?_, fun j b hb => ?_, fun b o' h1 h2 h => by rw [upd_ne (fun z => h2 (by rw [z]; exact hcm))]; exact e5 _ _ (e4 _ _ (gp b o' h1 h2 h))⟩
        · rw [upd_ne (fun z => asW (by rw [z]; exact hcm)), tops_succ, if_neg (by rw [hu]; exact fun z => nomatch z), List.append_nil]
          exact e5 _ _ (e4 _ _ g2)
        · by_cases z : b = c
          · subst z
            obtain rfl : j = o := by
              obtain ⟨l1, g1⟩ := List.getElem?_eq_some_iff.mp hb
              obtain ⟨l2, g2⟩ := List.getElem?_eq_some_iff.mp hc
              exact (List.getElem_inj hand).mp (g1.trans g2.symm)
            rw [upd_same, kids_succ, if_pos hu]
            exact congrArg (fun l => some (HO.lst l)) (nv_app (kids ups j i) [i])
          · rw [upd_ne z, kids_succ, if_neg (fun z2 => z (by
              rw [hu] at z2
              have : o = j := Option.some.inj (Option.some.inj z2)
              subst this
              rw [hc] at hb
              exact (Option.some.inj hb).symm)), List.append_nil]
            exact e5 _ _ (e4 _ _ (g3 j b hb))
    · rintro H3 σ' H4 e3 ⟨y3, y4, rfl, k1, k2, k3, kp⟩
      rw [List.length_map] at k2 k3
      have e04 : Evl.Ex H H4 := fun b o h => kp b o (fun z => by rw [z, nW0] at h; cases h) (fun z => by rw [as0 z] at h; cases h) (e3 _ _ (e02 _ _ h))
      -- order
      refine Evl.q_asgL (xs := []) (Evl.el_lst Evl.ea_nil (Nat.zero_le _)) fun O H5 nO e5 hO => ?_
      try dsimp only [List.set_cons_zero, List.set_cons_succ]
      have nO0 : H O = none := Evl.fresh_back e04 nO
      have OW : O ≠ Wt := fun z => by rw [z, k2] at nO; cases nO
      have OD : O ≠ D := fun z => by rw [z, k1] at nO; cases nO
      have asO : O ∉ as := fun z => by
        obtain ⟨i, hi⟩ := List.mem_iff_getElem?.mp z
        rw [k3 i O hi] at nO
        cases nO
      refine Evl.q_while (fun m σ' H' => ∃ (y3 y4 : Option V) (order wl : List Nat), σ' = [some (.ref a), some (.ref D), some (.ref Wt), y3, y4, some (.ref O), none] ∧ m = ups.length - order.length ∧ Dn ups order wl ∧ H' D = some (.lst (as.map V.ref)) ∧ H' Wt = some (.lst (nv wl)) ∧ H' O = some (.lst (nv order)) ∧ (∀ (j : Nat) b, as[j]? = some b → H' b = some (.lst (nv (kids ups j ups.length)))) ∧ Evl.Ex H H') _
        ⟨_, _, [], _, rfl, rfl, Dn.start ups, e5 _ _ k1, e5 _ _ k2, hO, fun j b hb => e5 _ _ (k3 j b hb), e04.trans e5⟩ ?_
      rintro m σ' H' ⟨y3, y4, order, wl, rfl, rfl, hd, g1, g2, g3, g4, g5⟩
      refine ⟨!(nv wl).isEmpty, fun H6 e6 Q6 q6 => ⟨_, rfl, _, .inl ⟨_, Evl.sq_of (e6 _ _ g2), rfl⟩, q6 H6 (Evl.Ex.refl H6)⟩, fun hb H6 e6 => ?_, fun hb H6 e6 => ?_⟩
      · obtain ⟨wl', y, rfl⟩ : ∃ wl' y, wl = wl' ++ [y] := by
          rcases List.eq_nil_or_concat wl with h | ⟨l, y, h⟩
          · rw [h] at hb; cases hb
          · exact ⟨l, y, by rw [h, List.concat_eq_append]⟩
        have hle := hd.le
        simp only [List.length_append, List.length_cons, List.length_nil] at hle
        refine ⟨fun σ2 H2 => ∃ (y3 y4 : Option V) (order' wl : List Nat), σ2 = [some (.ref a), some (.ref D), some (.ref Wt), y3, y4, some (.ref O), none] ∧ order'.length = order.length + 1 ∧ Dn ups order' wl ∧ H2 D = some (.lst (as.map V.ref)) ∧ H2 Wt = some (.lst (nv wl)) ∧ H2 O = some (.lst (nv order')) ∧ (∀ (j : Nat) b, as[j]? = some b → H2 b = some (.lst (nv (kids ups j ups.length)))) ∧ Evl.Ex H H2, fun σ2 H2 ⟨y3, y4, o', w', h1, h2, h3⟩ => ⟨_, by omega, y3, y4, o', w', h1, rfl, h3⟩, ?_⟩
        have hwl : (nv (wl' ++ [y]))[(nv (wl' ++ [y])).length - 1]? = some (.int (y : Int)) := by
          rw [← nv_app, List.length_append]
          show (nv wl' ++ nv [y])[(nv wl').length + 1 - 1]? = _
          rw [List.getElem?_append_right (by omega)]
          simp [nv]
        have hdl : (nv (wl' ++ [y])).dropLast = nv wl' := by
          rw [← nv_app]
          exact List.dropLast_concat
        refine ⟨_, rfl, .inl ⟨rfl, _, Evl.sq_of (e6 _ _ g2)⟩, Wt, _, _, rfl, rfl, e6 _ _ g2, hwl, ?_⟩
        rw [hdl]
        have yt := hd.tp y (by simp)
        have ylt := yt.lt
        obtain ⟨c, hc⟩ : ∃ c, as[y]? = some c := ⟨_, List.getElem?_eq_getElem (by omega)⟩
        have hcm := List.mem_of_getElem? hc
        have hcW : c ≠ Wt := fun z => asW (z ▸ hcm)
        have hcO : c ≠ O := fun z => asO (z ▸ hcm)
        refine ⟨.ref O, rfl, .inl ⟨rfl, _, Evl.sq_of (by rw [upd_ne OW]; exact e6 _ _ g3)⟩, .int (y : Int), rfl, O, nv order, .int (y : Int), rfl, rfl, by rw [upd_ne OW]; exact e6 _ _ g3, by rw [nv_len, sizeLine_eq]; omega, ?_⟩
        have c1 : upd (upd H6 Wt (.lst (nv wl'))) O (.lst (nv order ++ [.int (y : Int)])) Wt = some (.lst (nv wl')) := by rw [upd_ne OW.symm, upd_same]
        have c2 : upd (upd H6 Wt (.lst (nv wl'))) O (.lst (nv order ++ [.int (y : Int)])) D = some (.lst (as.map V.ref)) := by rw [upd_ne OD.symm, upd_ne DW]; exact e6 _ _ g1
        have c3 : upd (upd H6 Wt (.lst (nv wl'))) O (.lst (nv order ++ [.int (y : Int)])) O = some (.lst (nv (order ++ [y]))) := by rw [upd_same]; exact congrArg (fun l => some (HO.lst l)) (nv_app order [y])
        have c4 : ∀ (j : Nat) b, as[j]? = some b → upd (upd H6 Wt (.lst (nv wl'))) O (.lst (nv order ++ [.int (y : Int)])) b = some (.lst (nv (kids ups j ups.length))) := fun j b hb2 => by
          have hm := List.mem_of_getElem? hb2
          rw [upd_ne (fun z => asO (by rw [← z]; exact hm)), upd_ne (fun z => asW (by rw [← z]; exact hm))]
          exact e6 _ _ (g4 j b hb2)
        have c5 : Evl.Ex H (upd (upd H6 Wt (.lst (nv wl'))) O (.lst (nv order ++ [.int (y : Int)]))) := ((g5.trans e6).mut nW0).mut nO0
        generalize upd (upd H6 Wt (.lst (nv wl'))) O (.lst (nv order ++ [.int (y : Int)])) = H7 at c1 c2 c3 c4 c5
        have klen : (kids ups y ups.length).length ≤ ups.length := by have := List.length_filter_le (fun k => decide (ups[k]? = some (some y))) (List.range ups.length); rw [List.length_range] at this; exact this
        refine ⟨.ref Wt, rfl, .inl ⟨rfl, _, Evl.sq_of c1⟩, (Evl.ev_op (x := .ref D) (y := .int (y : Int)) (z := .ref c) (Evl.ev_var rfl) (Evl.ev_var rfl) (Evl.rv_ixL (K := K) (Evl.sq_of c2) (atI_nat (by rw [List.getElem?_map, hc]; rfl)))) H7 (Evl.Ex.refl _) _ fun H8 e8 => ⟨Wt, c, nv wl', nv (kids ups y ups.length), rfl, rfl, e8 _ _ c1, e8 _ _ (c4 y c hc), by rw [nv_len, nv_len, sizeLine_eq]; omega, ?_⟩⟩
        refine ⟨_, _, order ++ [y], wl' ++ kids ups y ups.length, rfl, by rw [List.length_append]; rfl, hd.step, by rw [upd_ne DW]; exact e8 _ _ c2, by rw [upd_same, nv_app], by rw [upd_ne OW]; exact e8 _ _ c3, fun j b hb2 => by rw [upd_ne (fun z => asW (by rw [← z]; exact List.mem_of_getElem? hb2))]; exact e8 _ _ (c4 j b hb2), (c5.trans e8).mut nW0⟩
      · obtain rfl : wl = [] := by
          cases wl with
          | nil => rfl
          | cons x r => cases hb
        exact ⟨_, rfl, q O order H6 (g5.trans e6) nO0 (e6 _ _ g3) hd⟩
end
end P38
end S_Naf
section S_Nag
namespace P38
open PySem PySem.Spec PyProof.Rows L2 Tl Hk RZ EnL
abbrev nTA : List Str := ["value", "many", "tops", "over", "at"]
theorem scTells : FnScope nTA ["value", "many"] (defScope sTells) := ⟨rfl, rfl, rfl, by decide +kernel, rfl, by decide +kernel, by decide +kernel⟩
abbrev rIsN : R2 := fun x y H Q => y = V.non ∧ Q (.bl (decide (x = V.non))) H
abbrev teUp (K : PySem.W.Frag) : TE := tOrV (tOp rIsN (tVar 3) (tC .non)) (tCall (spWithin K) [] E0 (tCons (tVar 3) (tCons (tC (.int 0)) (tCons (tOp (rI0 fun i j => V.int (i - j)) (tVar 1) (tC (.int 1))) tNil))))
/-- for each of m bags the one above it, and one top: all come up to it -/
def UpsOk (m : Nat) (ups : List (Option Nat)) : Prop := ups.length = m ∧ (∀ (i j : Nat), ups[i]? = some (some j) → j < m) ∧ (tops ups m).length = 1 ∧ ∀ x, x < m → Top ups x
def TellsP (m : Nat) (r : Option (List V)) : Prop := ∃ ups, r = some (ups.map uv) ∧ UpsOk m ups
def spTells (K : PySem.W.Frag) : Sp := fun vs H Q _ => ∃ (v : V) (m : Nat) (r : Option (List V)), vs = [v, .int (m : Int)] ∧ BagD K H v r ∧ m ≤ 3000 ∧ ∀ H1, Evl.Ex H H1 → Q (.bl (pd (TellsP m r))) H1
theorem spv_tells {K : PySem.W.Frag} {H : Hp} {v : V} {m : Nat} {r : Option (List V)} (h : BagD K H v r) (hm : m ≤ 3000) : Evl.SpV (spTells K) [v, .int (m : Int)] H (.bl (pd (TellsP m r))) := fun H1 e Q q E => ⟨v, m, r, rfl, h.ex e, hm, q⟩
theorem BagD.sq {K : PySem.W.Frag} {H : Hp} {x : V} {xs : List V} (h : BagD K H x (some xs)) : ∃ a, x = .ref a ∧ SqS K H a xs ∧ xs.length ≤ 3000 ∧ ∀ v ∈ xs, ∃ n, Ty7 K H v n := by
  cases h with
  | lst h hl hi => exact ⟨_, rfl, .inl h, hl, hi⟩
  | tup h hl hi => exact ⟨_, rfl, .inr h, hl, hi⟩
theorem isl_bag {K : PySem.W.Frag} {H : Hp} {x : V} {r : Option (List V)} (h : BagD K H x r) : Evl.SpV (spList K) [x] H (.bl r.isSome) := by
  cases h with
  | no h h1 h2 =>
    have := spv_list h
    rw [show (decide (_ = "list") || decide (_ = "tuple")) = false from by simp [h1, h2]] at this
    exact this
  | lst h hl hi => exact spv_list (.lst h)
  | tup h hl hi => exact spv_list (.tup h)
/-- one above, or none -/
def upV (m : Nat) (v : V) : Bool := decide (v = .non) || wi v (.int 0) (.int ((m : Int) - 1))
theorem upV_uv {m : Nat} {u : Option Nat} (h : ∀ j, u = some j → j < m) : upV m (uv u) = true := by
  cases u with
  | none => rfl
  | some j =>
    have := h j rfl
    show (decide (V.int (j : Int) = V.non) || (decide ((0 : Int) ≤ (j : Int)) && decide ((j : Int) ≤ (m : Int) - 1))) = true
    rw [decide_eq_true (show (0 : Int) ≤ (j : Int) by omega), decide_eq_true (show (j : Int) ≤ (m : Int) - 1 by omega), Bool.and_self, Bool.or_true]
theorem ups_of {m : Nat} : ∀ {xs : List V}, xs.all (upV m) = true → ∃ ups : List (Option Nat), xs = ups.map uv ∧ ∀ u ∈ ups, ∀ j, u = some j → j < m
  | [], _ => ⟨[], rfl, fun u h => nomatch h⟩
  | v :: r, h => by
    rw [List.all_cons, Bool.and_eq_true_iff] at h
    obtain ⟨ups, rfl, hu⟩ := ups_of h.2
    have hv := h.1
    unfold upV at hv
    cases v with
    | non => exact ⟨none :: ups, rfl, fun u h2 => by
        rcases List.mem_cons.mp h2 with rfl | h2
        · exact fun j z => nomatch z
        · exact hu u h2⟩
    | int i =>
      have h3 : (decide ((0 : Int) ≤ i) && decide (i ≤ (m : Int) - 1)) = true := by simpa [wi, okLo, okHi] using hv
      rw [Bool.and_eq_true_iff] at h3
      have h4 := of_decide_eq_true h3.1
      have h5 := of_decide_eq_true h3.2
      refine ⟨some i.toNat :: ups, ?_, fun u h2 => ?_⟩
      · rw [List.map_cons]
        congr 1
        show V.int i = V.int ((i.toNat : Nat) : Int)
        rw [Int.toNat_of_nonneg h4]
      · rcases List.mem_cons.mp h2 with rfl | h2
        · intro j z
          have := Option.some.inj z
          omega
        · exact hu u h2
    | _ => cases hv
theorem uv_inj {a b : Option Nat} (h : uv a = uv b) : a = b := by
  cases a with
  | none => cases b with
    | none => rfl
    | some j => cases h
  | some i => cases b with
    | none => cases h
    | some j => have := V.int.inj h; congr 1; omega
theorem uvs_inj : ∀ {a b : List (Option Nat)}, a.map uv = b.map uv → a = b
  | [], [], _ => rfl
  | [], _ :: _, h => nomatch h
  | _ :: _, [], h => nomatch h
  | x :: a, y :: b, h => by
    rw [List.map_cons, List.map_cons] at h
    rw [uv_inj (List.cons.inj h).1, uvs_inj (List.cons.inj h).2]
section
variable {P : Program} {w : World} {K : PySem.W.Frag} {mg : Str → Option Value} {base : Heap}
set_option maxHeartbeats 2000000 in
theorem ok_tells {f fW fL fT : Addr} {fd fdW fdL fdT : FuncData} {k : Nat} (F : Fun K "tells_above" "tells_above" sTells f fd)
    (FW : Fun K "is_within" "is_within" sWithin fW fdW) (GW : FnOk P w K mg base CX0 k fW fdW ["value", "least", "most"] (spWithin K)) (bW : Binds K fdW ["value", "least", "most"] []) (gW : mg "is_within" = some (.ref fW))
    (FL : Fun K "is_list" "is_list" sList fL fdL) (GL : FnOk P w K mg base CX0 k fL fdL ["value"] (spList K)) (bL : Binds K fdL ["value"] []) (gL : mg "is_list" = some (.ref fL))
    (FT : Fun K "from_top" "from_top" sFromTop fT fdT) (GT : FnOk P w K mg base CX0 k fT fdT ["above"] (spFromTop K)) (bT : Binds K fdT ["above"] []) (gT : mg "from_top" = some (.ref fT))
    (mlen : mg "len" = none) (mall : mg "all" = none) (menum : mg "enumerate" = none) : FnOk P w K mg base CX0 (k + 1) f fd ["value", "many"] (spTells K) := by
  refine F.ok scTells (fun vs H Q E h => ?_) (fun cdv A outer s H vs Q E hr h => ?_)
  · obtain ⟨v, m, r, rfl, _⟩ := h
    rfl
  · obtain ⟨v, m, r, rfl, h, hm, q⟩ := h
    have nd := scTells.nd
    refine ⟨_, pss_cons (ps_if (PW.pt (pw_or (pt_not (pt_val (pe_call GL hr (by rfl) gL FL.kp bL .nil pass0 (pa_cons (pv 0) (pa_nil))))) (pw_or1 (pt_cmpR op_ne (pe_callB call_len_seq (by rfl) mlen PySem.boot_len (pa_cons (pv 0) (pa_nil))) (pv 1) (nomark _))))) (pss_one (ps_ret (pe_bl))) (pss_nil)) (pss_cons (ps_if (pt_not (pt_val (pe_callB (cr_all rfl) (by rfl) mall (by decide +kernel) (pa_cons (pe_lc (own := [("over", 3)]) (g := gName 3) (tt := tYes) (te := teUp K) rfl nd (pi_ei (pv 0)) (blkOk_by (N := nTA) (sc := defScope sTells) (by decide +kernel)) (fun _ _ _ _ _ => pg_name (i := 3) nd rfl (Or.inl rfl)) (fun _ _ _ _ _ => pts_nil) (fun _ _ _ _ _ => pe_or (pe_cmpR op_isN (pv 3) (pe_non) (nomark _)) (pe_one (pe_call GW hr (by rfl) gW FW.kp bW .nil pass0 (pa_cons (pv 3) (pa_cons (pe_int) (pa_cons (pe_op op_sub (pv 1) (pe_int)) (pa_nil)))))))) (pa_nil))))) (pss_one (ps_ret (pe_bl))) (pss_nil)) (pss_cons (ps_setLc (i := 2) (own := [("at", 4), ("over", 3)]) (g := gTup K 2 (gCons (gName 4) (gCons (gName 3) gNil))) (tt := tTest (tOp rIsN (tVar 3) (tC .non))) (te := tVar 4) rfl nd rfl rfl (sw_true rfl rfl rfl (by decide +kernel)) (pi_enE (by rfl) menum (pa_cons (pv 0) pa_nil)) (blkOk_by (N := nTA) (sc := defScope sTells) (by decide +kernel)) (fun _ _ _ _ _ => pg_tup (by rfl) (pgs_cons (pg_name (i := 4) nd rfl (Or.inl rfl)) (pgs_cons (pg_name (i := 3) nd rfl (Or.inl rfl)) pgs_nil))) (fun _ _ _ _ _ => pts_one (pt_cmpR op_isN (pv 3) (pe_non) (nomark _))) (fun _ _ _ _ _ => pv 4)) (pss_one (ps_ret (pe_and (pe_cmpR op_eq (pe_callB call_len_seq (by rfl) mlen PySem.boot_len (pa_cons (pv 2) (pa_nil))) (pe_int) (nomark _)) (pe_one (pe_cmpR op_eq (pe_callB call_len_seq (by rfl) mlen PySem.boot_len (pa_cons (pe_call GT hr (by rfl) gT FT.kp bT .nil pass0 (pa_cons (pv 0) (pa_nil))) (pa_nil))) (pv 1) (nomark _)))))))), ?_⟩
    have isl : Evl.EvT (tNot (tB (tCall (spList K) [] E0 (tCons (tVar 0) tNil)))) (start nTA [v, .int (m : Int)]) H (!r.isSome) := Evl.et_not (Evl.et_B (Evl.ev_call (Evl.ea_cons (Evl.ev_var rfl) Evl.ea_nil) (isl_bag h)))
    have no : ¬ TellsP m r → ∀ H1, Evl.Ex H H1 → Q (.bl false) H1 := fun hn H1 e => by
      have := q H1 e
      rwa [pd_false hn] at this
    cases r with
    | none => exact Evl.q_when (b := true) (Evl.et_is (Evl.et_or (a := true) (b := true) isl fun z => nomatch z) rfl) (fun _ H1 e1 => Evl.s_ret Evl.ev_c fun H2 e2 => no (fun ⟨ups, z, _⟩ => nomatch z) H2 (e1.trans e2)) fun z => nomatch z
    | some xs =>
      obtain ⟨a, rfl, hS, hl, hi0⟩ := h.sq
      refine Evl.q_when (b := !decide (xs.length = m)) (Evl.et_is (Evl.et_or (a := false) (b := !decide (xs.length = m)) isl fun _ => Evl.et_is (Evl.et_test (Evl.ev_op (ev_lenB (K := K) (Evl.ev_var rfl) hS) (Evl.ev_var rfl) (Evl.rv_ne rfl))) (by
        congr 1
        exact decide_eq_decide.mpr ⟨fun z => by have := V.int.inj z; omega, fun z => by rw [z]⟩)) rfl) (fun hb H1 e1 => ?_) fun hb H1 e1 => ?_
      · rw [Bool.not_eq_true', decide_eq_false_iff_not] at hb
        exact Evl.s_ret Evl.ev_c fun H2 e2 => no (fun ⟨ups, z, hu⟩ => hb (by
          cases z
          rw [List.length_map]
          exact hu.1)) H2 (e1.trans e2)
      · rw [Bool.not_eq_false', decide_eq_true_iff] at hb
        have hS1 := hS.ex e1
        have item := el_lcI (te := teUp K) (t := tYes) (σ := start nTA [.ref a, .int (m : Int)]) (H := H1) (vs := [3]) (fun _ => true) (fun i => V.bl (upV m (xs.getD i .non))) (ei_ei (K := K) (Evl.ev_var (i := 0) rfl) hS1) (aims_at (j := 3)) (fun _ => rfl) (by omega) (fun _ _ _ _ => et_yes) (fun i A eA hi _ => by
          obtain ⟨n7, h7⟩ := hi0 _ (List.getElem_mem hi)
          rw [show xs.getD i .non = xs[i] from by rw [List.getD_eq_getElem?_getD, List.getElem?_eq_getElem hi]; rfl]
          exact Evl.ev_orV (Evl.ev_op (Evl.ev_var rfl) Evl.ev_c rv_isN) fun _ => Evl.ev_call (Evl.ea_cons (Evl.ev_var rfl) (Evl.ea_cons Evl.ev_c (Evl.ea_cons (Evl.ev_op (Evl.ev_var rfl) Evl.ev_c Evl.rv_I0) Evl.ea_nil))) (spv_within ((h7.ex e1).ex eA) trivial trivial))
        rw [given_all xs .non fun v => V.bl (upV m v)] at item
        refine Evl.q_when (b := !xs.all (upV m)) (Evl.et_not (Evl.et_B (Evl.ev_is (ev_allN (bs := xs.map (upV m)) (by rw [List.map_map]; exact item)) (by rw [List.all_map]; rfl)))) (fun hb2 H2 e2 => ?_) fun hb2 H2 e2 => ?_
        · rw [Bool.not_eq_true'] at hb2
          refine Evl.s_ret Evl.ev_c fun H3 e3 => no (fun ⟨ups, z, hu⟩ => ?_) H3 ((e1.trans e2).trans e3)
          cases z
          rw [List.all_map, List.all_eq_true.mpr fun u hu' => ?_] at hb2
          · cases hb2
          · obtain ⟨i, hi⟩ := List.mem_iff_getElem?.mp hu'
            exact upV_uv fun j z => by subst z; exact hu.2.1 i j hi
        · rw [Bool.not_eq_false'] at hb2
          obtain ⟨ups, rfl, hu⟩ := ups_of hb2
          rw [List.length_map] at hb hl
          have hin : ∀ (i j : Nat), ups[i]? = some (some j) → j < ups.length := fun i j h => by rw [hb]; exact hu _ (List.mem_of_getElem? h) j rfl
          have hS2 := hS1.ex e2
          have tp := el_lcI (te := tVar 4) (t := tTest (tOp rIsN (tVar 3) (tC .non))) (σ := start nTA [.ref a, .int (m : Int)]) (H := H2) (vs := [4, 3]) (fun i => decide (ups[i]? = some none)) (fun i => V.int (i : Int)) (ei_enE (K := K) (Evl.ea_cons (Evl.ev_var (i := 0) rfl) Evl.ea_nil) hS2) (aims_enumE (K := K) (j1 := 4) (j2 := 3)) (fun _ => rfl) (by rw [List.length_map]; omega) (fun i A eA hi => by
            rw [List.length_map] at hi
            obtain ⟨u, hu2⟩ : ∃ u, ups[i]? = some u := ⟨_, List.getElem?_eq_getElem hi⟩
            rw [uv_at hu2]
            refine Evl.et_is (Evl.et_test (Evl.ev_op (x := uv u) (Evl.ev_var rfl) Evl.ev_c rv_isN)) (decide_eq_decide.mpr ?_)
            rw [hu2]
            exact ⟨fun z => by rw [show u = none from uv_inj (b := none) z], fun z => by rw [Option.some.inj z]; rfl⟩) (fun i A eA hi _ => Evl.ev_var rfl)
          rw [List.length_map, show Evl.given ups.length (fun i => decide (ups[i]? = some none)) (fun i => V.int (i : Int)) = nv (tops ups ups.length) from rfl] at tp
          refine Evl.q_asgL tp fun Tp H3 nT e3 hT => ?_
          try dsimp only [List.set_cons_zero, List.set_cons_succ]
          have key : ∀ b : Bool, (b = true ↔ (tops ups ups.length).length = 1 ∧ ∀ x, x < ups.length → Top ups x) → ∀ H4, Evl.Ex H3 H4 → Q (.bl b) H4 := fun b hb4 H4 e4 => by
            have := q H4 (((e1.trans e2).trans e3).trans e4)
            rwa [pd_is (b := b)] at this
            rw [hb4]
            constructor
            · rintro ⟨us, z, u1, u2, u3, u4⟩
              rw [← uvs_inj (Option.some.inj z)] at u1 u2 u3 u4
              rw [u1]
              exact ⟨u3, u4⟩
            · rintro ⟨u3, u4⟩
              exact ⟨ups, rfl, hb, fun i j h => by rw [← hb]; exact hin i j h, by rw [← hb]; exact u3, by rw [← hb]; exact u4⟩
          refine Go.ret_go ((Evl.ev_op (Evl.ev_len (K := K) (Evl.ev_var (i := 2) rfl) (Evl.sq_of hT)) Evl.ev_c (Evl.rv_eq rfl)) H3 (Evl.Ex.refl _) _ fun H4 e4 => ⟨_, rfl, if_go (fun hc => ?_) fun hc => ?_⟩)
          · have hc := of_decide_eq_true hc
            rw [nv_len] at hc
            have h1 : (tops ups ups.length).length = 1 := by have := V.int.inj hc; omega
            refine Go.op_go (Go.cb_go (Go.cons_any (Go.call_raw ⟨.ref a, rfl, a, ups, rfl, (hS2.ex e3).ex e4, by omega, hin, fun O order H5 e5 nO hO hd => ⟨O, nv order, rfl, .inl (Evl.sq_of hO), .int (m : Int), rfl, ?_⟩⟩)))
            refine (Evl.rv_eq rfl) H5 (Evl.Ex.refl _) _ fun H6 e6 => key _ ?_ H6 ((e4.trans e5).trans e6)
            rw [nv_len, decide_eq_true_iff, ← hd.full]
            exact ⟨fun z => ⟨h1, by have := V.int.inj z; omega⟩, fun z => by rw [z.2, hb]⟩
          · have hc := of_decide_eq_false hc
            rw [nv_len] at hc
            refine key false ⟨(fun z => nomatch z), fun z => absurd (by rw [z.1]; rfl) hc⟩ H4 e4
end
end P38
end S_Nag
section S_Re
set_option maxHeartbeats 2000000
/-! zip of any two that feed: a list's or a tuple's iterator, whichever -/
namespace Hk
open PySem RZ
/-- an iterator at c over what lies at l -/
structure Feed (prog : Program) (w : World) (c l : Addr) (ys : Array Value) (S : Nat → Heap → Prop) : Prop where
  keep : ∀ {i : Nat} {h h' : Heap}, S i h → (∀ o, h.get? c = some o → h'.get? c = some o) → (∀ o, h.get? l = some o → h'.get? l = some o) → S i h'
  live : ∀ {i : Nat} {h : Heap}, S i h → ∃ o, h.get? c = some o ∧ o.data = .fields #[.ref l, .int i 0]
  item : ∀ {A : Around} {E : Value → Shared → Prop} {s : Shared} {i : Nat} {x : Value} {Q : Value → Shared → Prop}, S i s.heap → ys[i]? = some x →
    (∀ h', S (i + 1) h' → Heap.SameBut c s.heap h' → Q x { s with heap := h' }) → wpAny (model prog w) A (Builtin.SmallTypes.nextOf (.ref c)) Q E s
  last : ∀ {A : Around} {E : Value → Shared → Prop} {s : Shared} {i : Nat} {Q : Value → Shared → Prop}, A.handled = none → S i s.heap → ys[i]? = none →
    (∀ h' e, Heap.ExtBut c s.heap h' → (∃ o, h'.get? e = some o ∧ o.cls = .type "StopIteration") → E (.ref e) { s with heap := h' }) → wpAny (model prog w) A (Builtin.SmallTypes.nextOf (.ref c)) Q E s
theorem feed_lst {prog : Program} {w : World} {c l : Addr} {ys : Array Value} (n : l ≠ c) : Feed prog w c l ys fun i h => h.IsListIter c l i ∧ h.IsList l ys where
  keep h k1 k2 := ⟨h.1.at k1, h.2.at k2⟩
  live h := by
    obtain ⟨⟨o, a, _, b⟩, _⟩ := h
    exact ⟨o, a, b⟩
  item h hx q := wpAny_nextOf_list_item h.1 h.2 hx fun h' k e => q h' ⟨k, h.2.extBut e.extBut n⟩ e
  last hh h hx q := wpAny_nextOf_list_end hh h.1 h.2 hx q
theorem feed_tup {prog : Program} {w : World} {c l : Addr} {ys : Array Value} (n : l ≠ c) : Feed prog w c l ys fun i h => h.IsTupleIter c l i ∧ h.IsTuple l ys where
  keep h k1 k2 := ⟨h.1.at k1, h.2.at k2⟩
  live h := by
    obtain ⟨⟨o, a, _, b⟩, _⟩ := h
    exact ⟨o, a, b⟩
  item h hx q := nextOf_tuple_item h.1 h.2 hx fun h' k e => q h' ⟨k, h.2.extBut e.extBut n⟩ e
  last hh h hx q := nextOf_tuple_end hh h.1 h.2 hx q
section
variable {prog : Program} {w : World} {A : Around} {E : Value → Shared → Prop} {s : Shared} {z TI TO i1 i2 l1 l2 : Addr} {k1 k2 : Nat} {xs ys : Array Value} {S1 S2 : Nat → Heap → Prop} {x y a b : Value}
theorem feed_by {c l d : Addr} {vs : Array Value} {S : Nat → Heap → Prop} {k : Nat} {h h' : Heap} (F : Feed prog w c l vs S) (st : S k h) (e : Heap.ExtBut d h h') (nc : c ≠ d) (nl : l ≠ d) : S k h' := F.keep st (fun o => e c o nc) fun o => e l o nl
theorem zipF_item {Q : Value → Shared → Prop} (D : ZipApart z TI TO i1 i2 l1 l2) (F1 : Feed prog w i1 l1 xs S1) (F2 : Feed prog w i2 l2 ys S2)
    (hz : IsZip s.heap z TI TO .none) (hTI : IsPair s.heap TI (.ref i1) (.ref i2)) (hTO : IsPair s.heap TO a b) (h1 : S1 k1 s.heap) (h2 : S2 k2 s.heap) (hx : xs[k1]? = some x) (hy : ys[k2]? = some y)
    (q : ∀ h', IsZip h' z TI TO (rawInt s.heap.objs.size) → IsPair h' TO x y → S1 (k1 + 1) h' → S2 (k2 + 1) h' → IsPair h' s.heap.objs.size x y → (∀ c o, c ≠ z → c ≠ TO → c ≠ i1 → c ≠ i2 → s.heap.get? c = some o → h'.get? c = some o) → Q (.ref s.heap.objs.size) { s with heap := h' }) :
    wpAny (model prog w) A (Builtin.«zip.__next__» ⟨[.ref z], []⟩) (fun fin s' => ∃ v, fin = .done (.ret v) ∧ Q v s') E s := by
  show wpAny _ _ (field (.ref z) 2 >>= _) _ _ _
  refine wpAny_bind (wpAny_field hz rfl (x := .bool false) rfl ?_)
  show wpAny _ _ (field (.ref z) 3 >>= _) _ _ _
  refine wpAny_bind (wpAny_field hz rfl (x := .ref TI) rfl (wpAny_bind (wpAny_seqItems hTI rfl ?_)))
  show wpAny _ _ (Builtin.SmallTypes.ownedTupleIsFree (.ref z) >>= _) _ _ _
  refine wpAny_bind ?_
  unfold Builtin.SmallTypes.ownedTupleIsFree
  refine wpAny_bind (wpAny_field hz rfl (x := .none) rfl (wpAny_pure ?_))
  simp only [if_true]
  refine wpAny_bind (wpAny_rule (wpAny_bind (wpAny_field hz rfl (x := .ref TO) rfl (wpAny_bind (wpAny_setField_rec hz (by simp) fun g1 z1 e1 => ?_)))))
  replace z1 : IsZip g1 z TI TO .ellipsis := z1
  refine wpAny_bind ?_
  simp only [List.zipIdx_cons, List.zipIdx_nil, List.forIn_cons, List.forIn_nil]
  -- the first
  refine wpAny_bind (wpAny_bind (wpAny_onRaise ?_))
  show wpAny _ _ (Builtin.SmallTypes.nextOf (.ref i1) >>= _) _ _ _
  refine wpAny_bind (F1.item (feed_by F1 h1 e1.extBut D.i1z D.l1z) hx fun g2 n1 e2 => wpAny_pure ?_)
  have o2 : IsPair g2 TO a b := e2.extBut _ _ D.TOi1 (e1.extBut _ _ D.TOz hTO)
  refine wpAny_bind (wpAny_seqItems o2 rfl (wpAny_bind (wpAny_updateSeq_pair o2 fun g3 o3 e3 => wpAny_bind (wpAny_letGo (wpAny_pure ?_)))))
  replace o3 : IsPair g3 TO x b := o3
  -- the second
  refine wpAny_bind (wpAny_bind (wpAny_onRaise ?_))
  show wpAny _ _ (Builtin.SmallTypes.nextOf (.ref i2) >>= _) _ _ _
  refine wpAny_bind (F2.item (feed_by F2 (feed_by F2 (feed_by F2 h2 e1.extBut D.i2z D.l2z) e2.extBut D.i12.symm D.l2i1) e3.extBut D.TOi2.symm D.l2TO) hy fun g4 n2 e4 => wpAny_pure ?_)
  have o4 : IsPair g4 TO x b := e4.extBut _ _ D.TOi2 o3
  refine wpAny_bind (wpAny_seqItems o4 rfl (wpAny_bind (wpAny_updateSeq_pair o4 fun g5 o5 e5 => wpAny_bind (wpAny_letGo (wpAny_pure (wpAny_pure ?_))))))
  replace o5 : IsPair g5 TO x y := o5
  have z5 : IsZip g5 z TI TO .ellipsis := e5.extBut _ _ D.TOz.symm (e4.extBut _ _ D.i2z.symm (e3.extBut _ _ D.TOz.symm (e2.extBut _ _ D.i1z.symm z1)))
  have sz : g5.objs.size = s.heap.objs.size := by rw [e5.1, e4.1, e3.1, e2.1, e1.1]
  have k5 : ∀ c o, c ≠ z → c ≠ TO → c ≠ i1 → c ≠ i2 → s.heap.get? c = some o → g5.get? c = some o := fun c o c1 c2 c3 c4 h => e5.extBut _ _ c2 (e4.extBut _ _ c4 (e3.extBut _ _ c2 (e2.extBut _ _ c3 (e1.extBut _ _ c1 h))))
  have m1 := feed_by F1 (feed_by F1 (feed_by F1 n1 e3.extBut D.TOi1.symm D.l1TO) e4.extBut D.i12 D.l1i2) e5.extBut D.TOi1.symm D.l1TO
  have m2 := feed_by F2 n2 e5.extBut D.TOi2.symm D.l2TO
  have zl : z < g5.objs.size := Heap.lt_size z5
  -- the pair
  refine wpAny_bind (wpAny_seqItems o5 rfl (wpAny_bind (wpAny_newTuple ?_)))
  show wpAny _ _ (Builtin.SmallTypes.ownedTupleHandOut (.ref z) (.ref g5.objs.size) >>= _) _ _ _
  refine wpAny_bind ?_
  unfold Builtin.SmallTypes.ownedTupleHandOut
  have z6 : IsZip (g5.push { cls := .type "tuple", data := .seq #[x, y] }) z TI TO .ellipsis := Heap.get?_push_of_some _ z5
  refine wpAny_bind (wpAny_setField_rec z6 (by simp) fun g7 z7 e7 => ?_)
  replace z7 : IsZip g7 z TI TO (rawInt g5.objs.size) := z7
  refine wpAny_setField_rec z7 (by simp) fun g8 z8 e8 => ?_
  replace z8 : IsZip g8 z TI TO (rawInt g5.objs.size) := z8
  have up : ∀ c o, c ≠ z → g5.get? c = some o → g8.get? c = some o := fun c o n h => e8.extBut _ _ n (e7.extBut _ _ n (Heap.get?_push_of_some _ h))
  have t8 : IsPair g8 g5.objs.size x y := e8.extBut _ _ (Nat.ne_of_gt zl) (e7.extBut _ _ (Nat.ne_of_gt zl) (Heap.get?_push_size _ rfl))
  rw [sz] at z8 t8
  refine wpAny_pure ⟨_, rfl, ?_⟩
  show Q (.ref g5.objs.size) _
  rw [sz]
  exact q g8 z8 (up _ _ D.TOz o5) (F1.keep m1 (fun o => up _ o D.i1z) fun o => up _ o D.l1z) (F2.keep m2 (fun o => up _ o D.i2z) fun o => up _ o D.l2z) t8 fun c o c1 c2 c3 c4 h => up c o c1 (k5 c o c1 c2 c3 c4 h)
theorem zipF_end {Q : Fin → Shared → Prop} (hh : A.handled = none) (D : ZipApart z TI TO i1 i2 l1 l2) (F1 : Feed prog w i1 l1 xs S1) (F2 : Feed prog w i2 l2 ys S2)
    (hz : IsZip s.heap z TI TO .none) (hTI : IsPair s.heap TI (.ref i1) (.ref i2)) (hTO : IsPair s.heap TO a b) (h1 : S1 k1 s.heap) (h2 : S2 k2 s.heap) (hend : xs[k1]? = none ∨ ys[k2]? = none)
    (q : ∀ h' e, (∀ c o, c ≠ z → c ≠ TO → c ≠ i1 → c ≠ i2 → s.heap.get? c = some o → h'.get? c = some o) → (∃ o, h'.get? e = some o ∧ o.cls = .type "StopIteration") → E (.ref e) { s with heap := h' }) :
    wpAny (model prog w) A (Builtin.«zip.__next__» ⟨[.ref z], []⟩) Q E s := by
  show wpAny _ _ (field (.ref z) 2 >>= _) _ _ _
  refine wpAny_bind (wpAny_field hz rfl (x := .bool false) rfl ?_)
  show wpAny _ _ (field (.ref z) 3 >>= _) _ _ _
  refine wpAny_bind (wpAny_field hz rfl (x := .ref TI) rfl (wpAny_bind (wpAny_seqItems hTI rfl ?_)))
  show wpAny _ _ (Builtin.SmallTypes.ownedTupleIsFree (.ref z) >>= _) _ _ _
  refine wpAny_bind ?_
  unfold Builtin.SmallTypes.ownedTupleIsFree
  refine wpAny_bind (wpAny_field hz rfl (x := .none) rfl (wpAny_pure ?_))
  simp only [if_true]
  refine wpAny_bind (wpAny_rule (wpAny_bind (wpAny_field hz rfl (x := .ref TO) rfl (wpAny_bind (wpAny_setField_rec hz (by simp) fun g1 z1 e1 => ?_)))))
  replace z1 : IsZip g1 z TI TO .ellipsis := z1
  -- an error out of a feeding iterator: the zip takes its tuple back
  have out : ∀ (g h' : Heap) (e : Addr), IsZip g z TI TO .ellipsis → (∃ o, g.get? e = some o ∧ o.cls = .type "StopIteration") → Heap.SameBut z g h' → (∃ o, h'.get? e = some o ∧ o.cls = .type "StopIteration") := fun g h' e hg ⟨o, ho, hc⟩ sb =>
    ⟨o, sb.extBut _ _ (fun v => by subst v; rw [hg] at ho; cases ho; simp at hc) ho, hc⟩
  refine wpAny_bind ?_
  simp only [List.zipIdx_cons, List.zipIdx_nil, List.forIn_cons, List.forIn_nil]
  refine wpAny_bind (wpAny_bind (wpAny_onRaise ?_))
  show wpAny _ _ (Builtin.SmallTypes.nextOf (.ref i1) >>= _) _ _ _
  have m1 := feed_by F1 h1 e1.extBut D.i1z D.l1z
  have m2 := feed_by F2 h2 e1.extBut D.i2z D.l2z
  cases hx : xs[k1]? with
  | none =>
    refine wpAny_bind (F1.last hh m1 hx fun g2 e e2 he => ?_)
    have z2 : IsZip g2 z TI TO .ellipsis := e2 _ _ D.i1z.symm z1
    exact wpAny_setField_rec z2 (by simp) fun g3 _ e3 => q g3 e (fun c o c1 _ c3 _ h => e3.extBut _ _ c1 (e2 _ _ c3 (e1.extBut _ _ c1 h))) (out g2 g3 e z2 he e3)
  | some x =>
    have hy : ys[k2]? = none := by
      rcases hend with h | h
      · rw [hx] at h; cases h
      · exact h
    refine wpAny_bind (F1.item m1 hx fun g2 n1 e2 => wpAny_pure ?_)
    have o2 : IsPair g2 TO a b := e2.extBut _ _ D.TOi1 (e1.extBut _ _ D.TOz hTO)
    refine wpAny_bind (wpAny_seqItems o2 rfl (wpAny_bind (wpAny_updateSeq_pair o2 fun g3 o3 e3 => wpAny_bind (wpAny_letGo (wpAny_pure ?_)))))
    refine wpAny_bind (wpAny_bind (wpAny_onRaise ?_))
    show wpAny _ _ (Builtin.SmallTypes.nextOf (.ref i2) >>= _) _ _ _
    refine wpAny_bind (F2.last hh (feed_by F2 (feed_by F2 m2 e2.extBut D.i12.symm D.l2i1) e3.extBut D.TOi2.symm D.l2TO) hy fun g4 e e4 he => ?_)
    have z4 : IsZip g4 z TI TO .ellipsis := e4 _ _ D.i2z.symm (e3.extBut _ _ D.TOz.symm (e2.extBut _ _ D.i1z.symm z1))
    exact wpAny_setField_rec z4 (by simp) fun g5 _ e5 => q g5 e (fun c o c1 c2 c3 c4 h => e5.extBut _ _ c1 (e4 _ _ c4 (e3.extBut _ _ c2 (e2.extBut _ _ c3 (e1.extBut _ _ c1 h))))) (out g4 g5 e z4 he e5)
theorem nextF_item {Q : Option Value → Shared → Prop} (D : ZipApart z TI TO i1 i2 l1 l2) (F1 : Feed prog w i1 l1 xs S1) (F2 : Feed prog w i2 l2 ys S2)
    (hz : IsZip s.heap z TI TO .none) (hTI : IsPair s.heap TI (.ref i1) (.ref i2)) (hTO : IsPair s.heap TO a b) (h1 : S1 k1 s.heap) (h2 : S2 k2 s.heap) (hx : xs[k1]? = some x) (hy : ys[k2]? = some y)
    (q : ∀ h', IsZip h' z TI TO (rawInt s.heap.objs.size) → IsPair h' TO x y → S1 (k1 + 1) h' → S2 (k2 + 1) h' → IsPair h' s.heap.objs.size x y → (∀ c o, c ≠ z → c ≠ TO → c ≠ i1 → c ≠ i2 → s.heap.get? c = some o → h'.get? c = some o) → Q (some (.ref s.heap.objs.size)) { s with heap := h' }) :
    wpAny (model prog w) A (pyNext (.ref z)) Q E s := by
  have hT : s.TypeIs (.ref z) "zip" := ⟨_, hz, rfl⟩
  unfold pyNext
  exact wpAny_bind (wpAny_attempt (wpAny_callSpecial?_slot (name := Str.ofString "__next__") hT F.slot_zip_next (wpAny_call_entry F.slot_zip_next hT F.entry_zip_next
    (zipF_item D F1 F2 hz hTI hTO h1 h2 hx hy fun h' a1 a2 a3 a4 a5 a6 => wpAny_pure (q h' a1 a2 a3 a4 a5 a6)) (F.args_zip_next_1 _))))
theorem nextF_end {Q : Option Value → Shared → Prop} (hh : A.handled = none) (D : ZipApart z TI TO i1 i2 l1 l2) (F1 : Feed prog w i1 l1 xs S1) (F2 : Feed prog w i2 l2 ys S2)
    (hz : IsZip s.heap z TI TO .none) (hTI : IsPair s.heap TI (.ref i1) (.ref i2)) (hTO : IsPair s.heap TO a b) (h1 : S1 k1 s.heap) (h2 : S2 k2 s.heap) (hend : xs[k1]? = none ∨ ys[k2]? = none)
    (q : ∀ h', (∀ c o, c ≠ z → c ≠ TO → c ≠ i1 → c ≠ i2 → s.heap.get? c = some o → h'.get? c = some o) → Q none { s with heap := h' }) : wpAny (model prog w) A (pyNext (.ref z)) Q E s := by
  have hT : s.TypeIs (.ref z) "zip" := ⟨_, hz, rfl⟩
  unfold pyNext
  refine wpAny_bind (wpAny_attempt (wpAny_callSpecial?_slot (name := Str.ofString "__next__") hT F.slot_zip_next (wpAny_call_entry F.slot_zip_next hT F.entry_zip_next
    (zipF_end hh D F1 F2 hz hTI hTO h1 h2 hend fun h' e hk he => ?_) (F.args_zip_next_1 _))))
  obtain ⟨o, ho, hc⟩ := he
  exact wpAny_bind (wpAny_isInstance (T := "StopIteration") (b := true) ⟨o, ho, hc⟩ isSubtype_stop (wpAny_pure (q _ hk)))
end
end Hk
end S_Re
section S_Rf
set_option maxHeartbeats 2000000
/-! zip of a list and a tuple -/
namespace Hk
open PySem RZ
open PySem.Sem (wp)
abbrev zq1 (h : Heap) (l : Addr) : Heap := h.push { cls := .type "list_iterator", data := .fields #[.ref l, .int 0 0] }
abbrev zq2 (h : Heap) (l t : Addr) : Heap := (zq1 h l).push { cls := .type "tuple_iterator", data := .fields #[.ref t, .int 0 0] }
abbrev zq3 (h : Heap) (l t : Addr) : Heap := (zq2 h l t).push { cls := .type "tuple", data := .seq #[.ref h.objs.size, .ref (zq1 h l).objs.size] }
abbrev zq4 (h : Heap) (l t : Addr) : Heap := (zq3 h l t).push { cls := .type "tuple", data := .seq #[.none, .none] }
abbrev zq5 (h : Heap) (l t : Addr) : Heap := (zq4 h l t).push { cls := .type "zip", data := .fields #[.none, .bool false, .bool false, .ref (zq2 h l t).objs.size, .ref (zq3 h l t).objs.size] }
theorem meets_zipLT (l t : Addr) (xs ys : Array Value) : Meets (Builtin.«zip.__new__» ⟨[.type "zip", .ref l, .ref t], []⟩) (fun _ R s => s.heap.IsList l xs ∧ s.heap.IsTuple t ys ∧ R (.ok (.ret (.ref (zq4 s.heap l t).objs.size))) { s with heap := zq5 s.heap l t }) :=
  .of_wp fun prog w A R s h => by
    obtain ⟨hp, g, d, tk, os⟩ := s
    obtain ⟨a1, a2, h⟩ := h
    have hsub := sub_zip
    have b1 : Heap.IsList (Shared.heap ⟨hp, g, d, tk, os⟩) l xs := a1
    have b2 : Heap.IsTuple (Shared.heap ⟨hp.push { cls := .type "list_iterator", data := .fields #[.ref l, .int 0 0] }, g, d, tk, os⟩) t ys := Heap.IsTuple.push a2 _
    wp_walk using wpAny_pyIter_list b1, wpAny_pyIter_tuple b2
    exact ⟨_, rfl, h⟩
theorem call_zipLT {prog : Program} {w : World} {A : Around} {E : Value → Shared → Prop} {s : Shared} {l t : Addr} {xs ys : Array Value} {Q : Value → Shared → Prop} (a1 : s.heap.IsList l xs) (a2 : s.heap.IsTuple t ys)
    (q : ∀ h', IsZip h' (s.heap.objs.size + 4) (s.heap.objs.size + 2) (s.heap.objs.size + 3) .none → IsPair h' (s.heap.objs.size + 2) (.ref s.heap.objs.size) (.ref (s.heap.objs.size + 1)) →
      IsPair h' (s.heap.objs.size + 3) .none .none → h'.IsListIter s.heap.objs.size l 0 → h'.IsTupleIter (s.heap.objs.size + 1) t 0 → (∀ c o, s.heap.get? c = some o → h'.get? c = some o) → Q (.ref (s.heap.objs.size + 4)) { s with heap := h' }) :
    wpAny (model prog w) A (call (.type "zip") [.ref l, .ref t]) Q E s := by
  refine callType_new F.called_zip (by decide) (F.typeCall_zip_2 _ _) (F.newCall_zip_2 _ _) (fun obj => F.args_object_init_3 obj _ _) F.entry_zip_new (meets_zipLT l t xs ys) ⟨a1, a2, ?_⟩
  have n1 : (zq1 s.heap l).objs.size = s.heap.objs.size + 1 := Heap.size_push ..
  have n2 : (zq2 s.heap l t).objs.size = s.heap.objs.size + 2 := by rw [Heap.size_push, n1]
  have n3 : (zq3 s.heap l t).objs.size = s.heap.objs.size + 3 := by rw [Heap.size_push, n2]
  have n4 : (zq4 s.heap l t).objs.size = s.heap.objs.size + 4 := by rw [Heap.size_push, n3]
  have up : ∀ {c o}, (zq4 s.heap l t).get? c = some o → (zq5 s.heap l t).get? c = some o := fun h => Heap.get?_push_of_some _ h
  have up3 : ∀ {c o}, (zq3 s.heap l t).get? c = some o → (zq5 s.heap l t).get? c = some o := fun h => up (Heap.get?_push_of_some _ h)
  have up2 : ∀ {c o}, (zq2 s.heap l t).get? c = some o → (zq5 s.heap l t).get? c = some o := fun h => up3 (Heap.get?_push_of_some _ h)
  have up1 : ∀ {c o}, (zq1 s.heap l).get? c = some o → (zq5 s.heap l t).get? c = some o := fun h => up2 (Heap.get?_push_of_some _ h)
  have g5 : (zq5 s.heap l t).get? (zq4 s.heap l t).objs.size = some _ := Heap.get?_push_size _ rfl
  have g4 : (zq5 s.heap l t).get? (zq3 s.heap l t).objs.size = some _ := up (Heap.get?_push_size _ rfl)
  have g3 : (zq5 s.heap l t).get? (zq2 s.heap l t).objs.size = some _ := up3 (Heap.get?_push_size _ rfl)
  have g2 : (zq5 s.heap l t).get? (zq1 s.heap l).objs.size = some _ := up2 (Heap.get?_push_size _ rfl)
  have g1 : (zq5 s.heap l t).get? s.heap.objs.size = some _ := up1 (Heap.get?_push_size _ rfl)
  show _ ∧ _
  rw [n2, n3, n4] at g5
  rw [n1, n2] at g3
  rw [n3] at g4
  rw [n1] at g2
  rw [n4]
  exact ⟨⟨_, g5, rfl⟩, q _ g5 g3 g4 ⟨_, g1, rfl, rfl⟩ ⟨_, g2, rfl, rfl⟩ fun c o h => up1 (Heap.get?_push_of_some _ h)⟩
end Hk
end S_Rf
section S_Rg
set_option maxHeartbeats 2000000
/-! a loop over zip of a list or a tuple with a tuple -/
namespace Hk
open PySem PySem.Spec PyProof.Rows L2 RZ
/-- the list at a and the tuple at b as they stand at each turn, the items in new pairs -/
def ItzM (K : PySem.W.Frag) (a b : Addr) : It :=
  ⟨fun i H => ∃ (xs ys : List V) (x y : V), SqL K H a xs ∧ SqT K H b ys ∧ xs[i]? = some x ∧ ys[i]? = some y,
    fun i H v H' => ∃ T x y, v = .ref T ∧ H T = none ∧ H' = upd H T (.tup [x, y]) ∧ (∀ xs, SqL K H a xs → xs[i]? = some x) ∧ ∀ ys, SqT K H b ys → ys[i]? = some y,
    fun i H => ∃ xs ys : List V, SqL K H a xs ∧ SqT K H b ys ∧ (xs.length ≤ i ∨ ys.length ≤ i)⟩
theorem turn_zipM {P : Program} {w : World} {K : PySem.W.Frag} {elts : List Expr} {kk : Nat} {tpos : Pos} {a b z TI TO i1 i2 : Addr} (D : ZipApart z TI TO i1 i2 a b) :
    Turn P w K (.Tuple elts kk tpos) (ItzM K a b) [z, TI, TO, i1, i2] z (fun i h => IsZip h z TI TO .none ∧ IsPair h TI (.ref i1) (.ref i2) ∧ (∃ x y, IsPair h TO x y) ∧ h.IsListIter i1 a i ∧ h.IsTupleIter i2 b i) where
  mem := by simp
  obj := fun i h st c hc => by
    obtain ⟨hz, hTI, ⟨x, y, hTO⟩, ⟨o1, e1, _, d1⟩, ⟨o2, e2, _, d2⟩⟩ := st
    simp only [List.mem_cons, List.not_mem_nil, or_false] at hc
    rcases hc with rfl | rfl | rfl | rfl | rfl
    · exact ⟨_, hz, fun v q => nomatch q⟩
    · exact ⟨_, hTI, fun v q => nomatch q⟩
    · exact ⟨_, hTO, fun v q => nomatch q⟩
    · exact ⟨o1, e1, fun v q => by rw [d1] at q; cases q⟩
    · exact ⟨o2, e2, fun v q => by rw [d2] at q; cases q⟩
  keep := fun i h h' st k => by
    obtain ⟨hz, hTI, ⟨x, y, hTO⟩, h1, h2⟩ := st
    exact ⟨k z (by simp) _ hz, k TI (by simp) _ hTI, ⟨x, y, k TO (by simp) _ hTO⟩, h1.at fun o q => k i1 (by simp) o q, h2.at fun o q => k i2 (by simp) o q⟩
  item := by
    intro X hP hw hK hc i pins s σ H E I hf st hg
    subst hP hw hK
    obtain ⟨hz, hTI, ⟨x0, y0, hTO⟩, h1, h2⟩ := st
    obtain ⟨xs, ys, x, y, hqx, hqy, hx, hy⟩ := hg
    obtain ⟨its, rv, p, _⟩ := I.list hqx
    obtain ⟨its2, rv2, p2, _⟩ := I.tuple hqy
    obtain ⟨u, hu, ru⟩ := rv.get hx
    obtain ⟨u2, hu2, ru2⟩ := rv2.get hy
    have zl : z < s.heap.objs.size := Heap.lt_size hz
    refine nextF_item D (feed_lst D.l1i1) (feed_tup D.l2i2) hz hTI hTO ⟨h1, p.isList⟩ ⟨h2, p2⟩ (x := u) (y := u2) (by simpa using hu) (by simpa using hu2) fun h' z' o' s1 s2 hT hk => ?_
    refine ⟨_, rfl, wpAny_letOwnedTupleGo_zip (s := { s with heap := h' }) z' fun h'' z'' sb => ?_⟩
    have hT2 : h''.get? s.heap.objs.size = some { cls := .type "tuple", data := .seq #[u, u2] } := (sb.2 _ (Nat.ne_of_gt zl)).trans hT
    have new : ObjOk X.prog X.w (upd H s.heap.objs.size (.tup [x, y])) h'' s.heap.objs.size (.tup [x, y]) := ⟨by show 2 ≤ sizeLine; decide, [u, u2], .cons ru (.cons ru2 .nil), ⟨_, hT2, rfl, _, rfl⟩⟩
    have I1 : Inv X pins σ (upd H s.heap.objs.size (.tup [x, y])) { s with heap := h'' } :=
      I.turnedNew (t' := s.toks) (ch := [z, TI, TO, i1, i2]) (fun c o hb q => (sb.2 c (fun e => hb (by simp [e]))).trans (hk c o (fun e => hb (by simp [e])) (fun e => hb (by simp [e])) (fun e => hb (by simp [e])) (fun e => hb (by simp [e])) q)) hf (Nat.le_refl _) new
    refine ⟨.ref s.heap.objs.size, _, I1, rfl, ⟨_, x, y, rfl, I.hok.fresh (Nat.le_refl _), rfl, fun l hl => by rw [I.list_inj hl hqx]; exact hx, fun l hl => by rw [I.tuple_inj hl hqy]; exact hy⟩,
      ⟨z'', (sb.2 _ D.TIz).trans (hk _ _ D.TIz D.TITO D.TIi1 D.TIi2 hTI), ⟨u, u2, (sb.2 _ D.TOz).trans o'⟩, s1.1.at fun o q => (sb.2 _ D.i1z).trans q, s2.1.at fun o q => (sb.2 _ D.i2z).trans q⟩, fun c hcm => ?_⟩
    have hlt : c < s.heap.objs.size := by
      have hcm2 := hcm
      simp only [List.mem_cons, List.not_mem_nil, or_false] at hcm2
      rcases hcm2 with rfl | rfl | rfl | rfl | rfl
      · exact zl
      · exact Heap.lt_size hTI
      · exact Heap.lt_size hTO
      · obtain ⟨_, e1, _⟩ := h1; exact Heap.lt_size e1
      · obtain ⟨_, e2, _⟩ := h2; exact Heap.lt_size e2
    rw [upd_ne (Nat.ne_of_lt hlt)]
    exact (hf c hcm).1
  done := by
    intro X hP hw hK hc i pins s σ H E I hf st hg
    subst hP hw hK
    obtain ⟨hz, hTI, ⟨x0, y0, hTO⟩, h1, h2⟩ := st
    obtain ⟨xs, ys, hqx, hqy, hend⟩ := hg
    obtain ⟨its, rv, p, _⟩ := I.list hqx
    obtain ⟨its2, rv2, p2, _⟩ := I.tuple hqy
    have l1 := rv.length
    have l2 := rv2.length
    have he : its.toArray[i]? = none ∨ its2.toArray[i]? = none := hend.imp (fun q => by simp; omega) fun q => by simp; omega
    exact nextF_end (I.ok.hd hc) D (feed_lst D.l1i1) (feed_tup D.l2i2) hz hTI hTO ⟨h1, p.isList⟩ ⟨h2, p2⟩ he fun h' hk => ⟨rfl, I.turnedL (t' := s.toks) (ch := [z, TI, TO, i1, i2]) (fun c o hb q =>
      hk c o (fun e => hb (by simp [e])) (fun e => hb (by simp [e])) (fun e => hb (by simp [e])) (fun e => hb (by simp [e])) q) hf⟩
  self := fun A i s Q E st h => wpAny_pyIter_zip st.1 h
/-- zip of a list or a tuple with a tuple -/
def iZipM (K : PySem.W.Frag) (ta : TA) : TI := fun σ H R => ta σ H fun vs H1 => ∃ a b xs ys, vs = [.ref a, .ref b] ∧ SqT K H1 b ys ∧ ((SqL K H1 a xs ∧ R (ItzM K a b) H1) ∨ (SqT K H1 a xs ∧ R (ItzT K a b) H1))
theorem pi_zipM {X : Cx} {e e2 : Expr} {ta : TA} {p pos tpos : Pos} {elts : List Expr} {kk : Nat} (hg : Gl X "zip") (hm : X.mg "zip" = none) (ha : PA X [e, e2] ta)
    (hs : starEach [e, e2] X.env = (false, eval e X.env) :: starEach [e2] X.env := by rfl) (hpl : (backTo pos (starEach [e2] X.env)).any (·.1) = false := by rfl) :
    PI X (.Tuple elts kk tpos) (.Call (.Name "zip" p) [e, e2] [] pos) (iZipM X.K ta) := by
  refine ⟨fun pins s σ H R I h => Call_ (ld_blt I hg hm PyProof.Rows.boot_zip (PyProof.Rows.callWith_type1 (thn (ha.run pos pins s σ H _ I h) fun us s1 ⟨vs, H1, I1, r1, q1⟩ => ?_) hs hpl))⟩
  obtain ⟨a, b, xs, ys, rfl, hqy, q1⟩ := q1
  obtain ⟨v1, v2, rfl, r, r'⟩ : ∃ v1 v2, us = [v1, v2] ∧ RelV (.ref a) v1 ∧ RelV (.ref b) v2 := by
    cases r1 with
    | cons r rr =>
      cases rr with
      | cons r' rr => cases rr; exact ⟨_, _, rfl, r, r'⟩
  cases r
  cases r'
  have new : ∀ c, c ∈ [s1.heap.objs.size + 4, s1.heap.objs.size + 2, s1.heap.objs.size + 3, s1.heap.objs.size, s1.heap.objs.size + 1] → FpOk X pins H1 c := fun c hcm => by
    have hle : s1.heap.objs.size ≤ c := by
      simp only [List.mem_cons, List.not_mem_nil, or_false] at hcm
      omega
    exact I1.fpOk hle (I1.hok.fresh hle)
  obtain ⟨its2, rv2, p2, _⟩ := I1.tuple hqy
  obtain ⟨o2, ho2, _⟩ := id p2
  rcases q1 with ⟨hqx, q⟩ | ⟨hqx, q⟩
  · obtain ⟨its, rv, p1, _⟩ := I1.list hqx
    refine call_zipLT p1.isList (show s1.heap.IsTuple b its2.toArray from p2) fun h' hz hTI hTO h1 h2 hk => wpAny_pyIter_zip hz ?_
    exact ⟨s1.heap.objs.size + 4, _, _, _, H1, rfl, I1.kept (t' := s1.toks) hk, turn_zipM (PySem.W.ktu_apart s1.heap.objs.size a b p1.lt (Heap.lt_size ho2)), ⟨hz, hTI, ⟨_, _, hTO⟩, h1, h2⟩, new, q⟩
  · obtain ⟨its, rv, p1, _⟩ := I1.tuple hqx
    obtain ⟨o1, ho1, _⟩ := id p1
    refine call_zipT (show s1.heap.IsTuple a its.toArray from p1) (show s1.heap.IsTuple b its2.toArray from p2) fun h' hz hTI hTO h1 h2 hsz hk => wpAny_pyIter_zip hz ?_
    exact ⟨s1.heap.objs.size + 4, _, _, _, H1, rfl, I1.kept (t' := s1.toks) hk, turn_zipT (PySem.W.ktu_apart s1.heap.objs.size a b (Heap.lt_size ho1) (Heap.lt_size ho2)), ⟨hz, hTI, ⟨_, _, hTO⟩, h1, h2⟩, new, q⟩
end Hk
end S_Rg
section S_Rh
/-! zip of a list or a tuple with a tuple, told -/
namespace Hk
open PySem PySem.Spec PyProof.Rows L2 Tl RZ
theorem walk_zipM {K : PySem.W.Frag} {a b : Addr} {xs ys : List V} {n : Nat} (hn : n = min xs.length ys.length) : Walk (ItzM K a b) n (fun H => SqL K H a xs ∧ SqT K H b ys) (YPair (fun i => xs[i]?) (fun i => ys[i]?)) := by
  subst hn
  refine ⟨fun i _ hi ⟨q1, q2⟩ => ?_, fun _ ⟨q1, q2⟩ => ⟨xs, ys, q1, q2, by omega⟩, fun i H v H' _ ⟨q1, q2⟩ ⟨T, x, z, z1, z2, z3, z4, z5⟩ => ⟨T, x, z, z1, z2, z3, z4 xs q1, z5 ys q2⟩⟩
  have l1 : i < xs.length := by omega
  have l2 : i < ys.length := by omega
  exact ⟨xs, ys, xs[i], ys[i], q1, q2, by simp [l1], by simp [l2]⟩
open Evl
theorem ei_zipM {K : PySem.W.Frag} {σ : L2.St} {H : Hp} {ta tb : TE} {a b : Addr} {xs ys : List V} {n : Nat} (hn : n = min xs.length ys.length) (h : Ev ta σ H (.ref a)) (hx : SqS K H a xs) (h2 : Ev tb σ H (.ref b)) (hy : SqT K H b ys) :
    EvI (iZipM K (tCons ta (tCons tb tNil))) σ H n (YPair (fun i => xs[i]?) (fun i => ys[i]?)) := fun H1 e R k =>
  h H1 e _ fun H2 e2 => h2 H2 (e.trans e2) _ fun H3 e3 => by
    have e03 := (e.trans e2).trans e3
    refine ⟨a, b, xs, ys, rfl, ex_t e03 hy, ?_⟩
    rcases hx with hx | hx
    · exact .inl ⟨ex_l e03 hx, k _ (fun H => SqL K H a xs ∧ SqT K H b ys) H3 (e2.trans e3) (walk_zipM hn) fun A ab s => ⟨ex_l ab hx, ex_t ab hy⟩⟩
    · exact .inr ⟨ex_t e03 hx, k _ (fun H => SqT K H a xs ∧ SqT K H b ys) H3 (e2.trans e3) (walk_zipT hn) fun A ab s => ⟨ex_t ab hx, ex_t ab hy⟩⟩
end Hk
end S_Rh
section S_Nah
namespace P38
open PySem PySem.Spec PyProof.Rows L2 Tl Hk RZ EnL
abbrev nFr : List Str := ["bags", "above", "held", "bag", "piece", "over"]
theorem scFresh : FnScope nFr ["bags", "above"] (defScope sFresh) := ⟨rfl, rfl, rfl, by decide +kernel, rfl, by decide +kernel, by decide +kernel⟩
theorem bkFr : BlkOk nFr { kind := .function, names := [(".0", .local), ("bag", .local), ("over", .cell), ("held", .cell)], isGenerator := false, isCoroutine := false } { kind := .function, names := [(".0", .local), ("piece", .local), ("held", .free), ("over", .free)], isGenerator := false, isCoroutine := false } [("piece", 4)] := blkOk_by (by decide +kernel)
/-- zip of two lists, or of a list or a tuple and a tuple -/
def iZipE (K : PySem.W.Frag) (ta : TA) : TI := fun σ H R => iZipA K ta σ H R ∨ iZipM K ta σ H R
theorem pi_zipE {X : Cx} {e e2 : Expr} {ta : TA} {p pos tpos : Pos} {elts : List Expr} {kk : Nat} (hg : Gl X "zip") (hm : X.mg "zip" = none) (ha : PA X [e, e2] ta) (hs : starEach [e, e2] X.env = (false, eval e X.env) :: starEach [e2] X.env := by rfl) (hpl : (backTo pos (starEach [e2] X.env)).any (·.1) = false := by rfl) : PI X (.Tuple elts kk tpos) (.Call (.Name "zip" p) [e, e2] [] pos) (iZipE X.K ta) :=
  ⟨fun pins s σ H R I h => h.elim (fun h => (pi_zipA hg hm ha (hs := hs) (hpl := hpl)).run pins s σ H R I h) fun h => (pi_zipM hg hm ha (hs := hs) (hpl := hpl)).run pins s σ H R I h⟩
/-- what can be zipped -/
def ZipOk (K : PySem.W.Frag) (H : Hp) (a b : Addr) (xs ys : List V) : Prop := (SqL K H a xs ∧ SqL K H b ys) ∨ (SqS K H a xs ∧ SqT K H b ys)
theorem ZipOk.ex {K : PySem.W.Frag} {H H' : Hp} {a b : Addr} {xs ys : List V} (h : ZipOk K H a b xs ys) (e : Evl.Ex H H') : ZipOk K H' a b xs ys := h.elim (fun h => .inl ⟨Evl.ex_l e h.1, Evl.ex_l e h.2⟩) fun h => .inr ⟨h.1.ex e, Evl.ex_t e h.2⟩
theorem ei_zipE {K : PySem.W.Frag} {σ : L2.St} {H : Hp} {ta tb : TE} {a b : Addr} {xs ys : List V} {n : Nat} (hn : n = min xs.length ys.length) (h : Evl.Ev ta σ H (.ref a)) (h2 : Evl.Ev tb σ H (.ref b)) (hz : ZipOk K H a b xs ys) : EvI (iZipE K (tCons ta (tCons tb tNil))) σ H n (YPair (fun i => xs[i]?) (fun i => ys[i]?)) := fun H1 e R k => by
  rcases hz with ⟨hx, hy⟩ | ⟨hx, hy⟩
  · exact .inl (h H1 e _ fun H2 e2 => h2 H2 (e.trans e2) _ fun H3 e3 => ⟨a, b, xs, ys, rfl, .inl ⟨Evl.ex_l ((e.trans e2).trans e3) hx, Evl.ex_l ((e.trans e2).trans e3) hy, k _ _ H3 (e2.trans e3) (walk_zip hn) fun A ab s => ⟨Evl.ex_l ab hx, Evl.ex_l ab hy⟩⟩⟩)
  · exact .inr (ei_zipM hn h hx h2 hy H1 e R k)
/-- rows of ints -/
def RowsB (K : PySem.W.Frag) (H : Hp) (xs : List V) (bs : List (List Int)) : Prop := xs.length = bs.length ∧ ∀ (i : Nat) (ns : List Int), bs[i]? = some ns → ∃ a, xs[i]? = some (.ref a) ∧ SqS K H a (ns.map V.int)
theorem RowsB.ex {K : PySem.W.Frag} {H H' : Hp} {xs : List V} {bs : List (List Int)} (h : RowsB K H xs bs) (e : Evl.Ex H H') : RowsB K H' xs bs := ⟨h.1, fun i ns hn => (h.2 i ns hn).imp fun a ha => ⟨ha.1, ha.2.ex e⟩⟩
/-- the pieces of a bag that the one above has not -/
def frB (bs : List (List Int)) : Option Nat → Int → Bool
  | none, _ => true
  | some o, p => !decide (p ∈ bs.getD o [])
def freshAt (bs : List (List Int)) (ups : List (Option Nat)) (i : Nat) : List Int := (bs.getD i []).filter (frB bs (ups.getD i none))
def freshL (bs : List (List Int)) (ups : List (Option Nat)) : List (List Int) := (List.range bs.length).map (freshAt bs ups)
theorem given_filter (ns : List Int) (g : Int → Bool) : Evl.given ns.length (fun m => g (ns.getD m 0)) (fun m => V.int (ns.getD m 0)) = (ns.filter g).map V.int := by
  have e : ns = (List.range ns.length).map fun m => ns.getD m 0 := by
    refine List.ext_getElem? fun i => ?_
    rw [List.getElem?_map]
    rcases Nat.lt_or_ge i ns.length with h | h
    · rw [List.getElem?_range h, List.getElem?_eq_getElem h]
      show _ = some (ns.getD i 0)
      rw [List.getD_eq_getElem?_getD, List.getElem?_eq_getElem h]
      rfl
    · rw [List.getElem?_eq_none h, List.getElem?_eq_none (by rw [List.length_range]; exact h)]
      rfl
  unfold Evl.given
  have : ns.filter g = ((List.range ns.length).filter fun m => g (ns.getD m 0)).map fun m => ns.getD m 0 := by
    conv => lhs; rw [e, List.filter_map]
    rfl
  rw [this, List.map_map]
  rfl
/-- lists at addresses -/
def RowsL (H : Hp) (as : List Addr) (bs : List (List Int)) : Prop := as.length = bs.length ∧ ∀ (i : Nat) (a : Addr) (ns : List Int), as[i]? = some a → bs[i]? = some ns → H a = some (.lst (ns.map V.int))
def spFresh (K : PySem.W.Frag) : Sp := fun vs H Q _ => ∃ (A U : Addr) (xs : List V) (bs : List (List Int)) (ups : List (Option Nat)), vs = [.ref A, .ref U] ∧ RowsB K H xs bs ∧ ZipOk K H A U xs (ups.map uv) ∧ ups.length = bs.length ∧ bs.length ≤ 3000 ∧ (∀ (i j : Nat), ups[i]? = some (some j) → j < bs.length) ∧ (∀ ns ∈ bs, ns.length ≤ 3000) ∧
  ∀ R fa H', Evl.Ex H H' → H' R = some (.lst (fa.map V.ref)) → RowsL H' fa (freshL bs ups) → Q (.ref R) H'
abbrev ttFr (K : PySem.W.Frag) : L2.TT := tOr (tTest (tOp rIsN (tVar 5) (tC .non))) (tTest (tDNotIn (tVar 4) (tOp (rIxL K) (tVar 2) (tVar 5))))
abbrev teFr (K : PySem.W.Frag) : TE := tLc (iEi K (tVar 3)) (gName 4) (ttFr K) (tVar 4) [4]
theorem refs_of : ∀ {xs : List V} {R : Nat → Addr → Prop}, (∀ i v, xs[i]? = some v → ∃ r, v = .ref r ∧ R i r) → ∃ rs : List Addr, xs = rs.map V.ref ∧ rs.length = xs.length ∧ ∀ i r, rs[i]? = some r → R i r
  | [], R, _ => ⟨[], rfl, rfl, fun i r h => by simp at h⟩
  | v :: r, R, hx => by
    obtain ⟨a, rfl, ha⟩ := hx 0 v rfl
    obtain ⟨rs, h1, h2, h3⟩ := refs_of (xs := r) (R := fun i => R (i + 1)) fun i u hu => hx (i + 1) u (by simpa using hu)
    refine ⟨a :: rs, by rw [h1]; rfl, by rw [List.length_cons, h2]; rfl, fun i b hb => ?_⟩
    cases i with
    | zero => cases hb; exact ha
    | succ i => exact h3 i b (by simpa using hb)
section
open Evl
theorem go_nl {te : TE} {σ : L2.St} {H : Hp} {L : List V → Hp → Prop} {Q : VK} (h : EvNL te σ H L) (k : ∀ p xs H1, H p = none → Ex H H1 → H1 p = some (.lst xs) → L xs H1 → Q (.ref p) H1) : te σ H Q := h H (Ex.refl H) Q fun p xs H1 hp e h1 hL => k p xs H1 hp e h1 (hL H1 e fun _ _ _ _ h => h)
theorem q_asgNL {te : TE} {tz : TS} {i : Nat} {σ : L2.St} {H : Hp} {D : Ends} {L : List V → Hp → Prop} (h : EvNL te σ H L) (k : ∀ p xs H1, H p = none → Ex H H1 → H1 p = some (.lst xs) → L xs H1 → tz D (σ.set i (some (.ref p))) H1) : tSeq (tAsg te (gName i)) tz D σ H :=
  go_nl h k
variable {K : PySem.W.Frag} {σ : L2.St} {H : Hp} {ty td : TE}
theorem et_dnin {d : Addr} {kvs : List (L2.Key × V)} {x : Int} (h1 : Ev ty σ H (.int x)) (h2 : Ev td σ H (.ref d)) (hd : H d = some (.dK kvs)) : EvT (tTest (tDNotIn ty td)) σ H (!(valV kvs (.inl x)).isSome) := Evl.et_test fun H1 e Q q =>
  h1 H1 e _ fun H2 e2 => h2 H2 (e.trans e2) _ fun H3 e3 => ⟨d, _, rfl, DGet.k (k := Sum.inl x) (((e.trans e2).trans e3) _ _ hd), q H3 (e2.trans e3)⟩
end
theorem dOf_in (ns : List Int) (x : Int) : (valV (dOf (fun j => ns.getD j 0) ns.length) (.inl x)).isSome = decide (x ∈ ns) := by
  rw [Bool.eq_iff_iff, dOf_at, decide_eq_true_iff]
  constructor
  · rintro ⟨i, h1, h2⟩
    rw [← h2, List.getD_eq_getElem?_getD, List.getElem?_eq_getElem h1]
    exact List.getElem_mem h1
  · intro h
    obtain ⟨i, hi, e⟩ := List.mem_iff_getElem.mp h
    exact ⟨i, hi, by rw [List.getD_eq_getElem?_getD, List.getElem?_eq_getElem hi]; exact e⟩
section
variable {P : Program} {w : World} {K : PySem.W.Frag} {mg : Str → Option Value} {base : Heap}
set_option maxHeartbeats 2000000 in
theorem ok_fresh {f : Addr} {fd : FuncData} {k : Nat} (F : Fun K "fresh_in" "fresh_in" sFresh f fd) (mzip : mg "zip" = none) : FnOk P w K mg base CX0 (k + 1) f fd ["bags", "above"] (spFresh K) := by
  refine F.ok scFresh (fun vs H Q E h => ?_) (fun cdv A0 outer s H vs Q E hr h => ?_)
  · obtain ⟨A, U, xs, bs, ups, rfl, _⟩ := h
    rfl
  · obtain ⟨A, U, xs, bs, ups, rfl, hR, hZ, hul, hl, hin, hsz, q⟩ := h
    have nd := scFresh.nd
    have hxl := hR.1
    refine ⟨_, pss_cons (ps_set (i := 2) nd rfl (.inr rfl) (pe_lc (own := [("bag", 3)]) (g := gName 3) (tt := tYes) (te := tDc (iEi K (tVar 3)) (gName 4) tYes (tVar 4) (tC (.bl true)) [4]) rfl nd (pi_ei (pv 0)) (blkOk_by (N := nFr) (sc := defScope sFresh) (by decide +kernel)) (fun _ _ _ _ _ => pg_name (i := 3) nd rfl (Or.inl rfl)) (fun _ _ _ _ _ => pts_nil) (fun _ _ _ _ _ => pe_dc (own := [("piece", 4)]) (wi := iEi K (tVar 3)) (g := gName 4) (tt := tYes) rfl nd (pi_ei (pv 3)) (blkOk_by (N := nFr) (sc := { kind := .function, names := [(".0", .local), ("bag", .local)], isGenerator := false, isCoroutine := false }) (by decide +kernel)) (fun _ _ _ _ _ => pg_name (i := 4) nd rfl (Or.inl rfl)) (fun _ _ _ _ _ => pts_nil) (fun _ _ _ _ _ => pv 4) (fun _ _ _ _ _ => pe_bl)))) (pss_one (ps_ret (pe_lc (own := [("bag", 3), ("over", 5)]) (g := gTup K 2 (gCons (gName 3) (gCons (gName 5) gNil))) (tt := tYes) (te := teFr K) rfl nd (pi_zipE (by rfl) mzip (pa_cons (pv 0) (pa_cons (pv 1) (pa_nil)))) (blkOk_by (N := nFr) (sc := defScope sFresh) (by decide +kernel)) (fun _ _ _ _ _ => pg_tup (by rfl) (pgs_cons (pg_name (i := 3) nd rfl (Or.inl rfl)) (pgs_cons (pg_name (i := 5) nd rfl (Or.inr rfl)) pgs_nil))) (fun _ _ _ _ _ => pts_nil) (fun _ _ _ _ _ => pe_lc (own := [("piece", 4)]) (wi := iEi K (tVar 3)) (g := gName 4) (tt := ttFr K) (te := tVar 4) rfl nd (pi_ei (pv 3)) bkFr (fun _ _ _ _ _ => pg_name (i := 4) nd rfl (Or.inl rfl)) (fun _ _ _ _ _ => pts_one (PW.pt (pw_or (pt_cmpR op_isN (pv 5) (pe_non) (nomark _)) (pw_or1 (pt_cmp (pc_dnotin (hu_of hr) (pv 4) (pe_ix ix_list (pv 2) (pv 5) (fun _ _ => rfl)))))))) (fun _ _ _ _ _ => pv 4))))), ?_⟩
    have hA : SqS K H A xs := hZ.elim (fun h => .inl h.1) fun h => h.1
    have getX : ∀ {i : Nat} {a : Addr}, xs[i]? = some (.ref a) → xs.getD i .non = .ref a := fun h => by rw [List.getD_eq_getElem?_getD, h]; rfl
    refine q_asgNL (L := Holds (fun i v H' => ∃ (ns : List Int) (d : Addr), bs[i]? = some ns ∧ v = .ref d ∧ H' d = some (.dK (dOf (fun j => ns.getD j 0) ns.length))) xs.length) (en_lc (ei_ei (K := K) (Evl.ev_var (i := 0) rfl) hA) (aims_at (j := 3)) (fun _ => rfl) (by omega) _ fun i hi => ?_) fun p ds H1 hp e1 h1 hL => ?_
    · have hb := List.getElem?_eq_getElem (show i < bs.length by omega)
      generalize bs[i] = ns at hb
      obtain ⟨a, ha, hs⟩ := hR.2 i ns hb
      have := hsz ns (List.mem_of_getElem? hb)
      have e0 : (ns.map V.int).length = ns.length := List.length_map ..
      refine fun H5 e5 Q q => en_dc (kf := fun j => ns.getD j 0) (n := (ns.map V.int).length) (ei_ei (K := K) (Evl.ev_is (Evl.ev_var rfl) (getX ha)) hs) aims_at (fun _ => rfl) (by omega) (fun j hj => Evl.ev_is (Evl.ev_var rfl) (gd_int (by omega))) (fun j hj => Evl.ev_c) H5 e5 Q fun v H6 e6 hv => q v H6 e6 fun H7 e7 s7 => ?_
      obtain ⟨d, rfl, hd⟩ := hv H7 e7 s7
      rw [e0] at hd
      exact ⟨ns, d, hb, rfl, hd⟩
    · have hL1 := hL
      obtain ⟨dd, rfl, hdl, hdr⟩ := refs_of (xs := ds) (R := fun i d => ∃ ns, bs[i]? = some ns ∧ H1 d = some (.dK (dOf (fun j => ns.getD j 0) ns.length))) fun i v hv => by
        obtain ⟨ns, d, k1, k2, k3⟩ := hL1.2 i v hv
        exact ⟨d, k2, ns, k1, k3⟩
      have hl2 := hL1.1
      try dsimp only [List.set_cons_zero, List.set_cons_succ]
      have hR1 := hR.ex e1
      refine Go.ret_go ((en_lc (R := fun i v H' => ∃ a, v = .ref a ∧ H' a = some (.lst ((freshAt bs ups i).map V.int))) (ei_zipE (K := K) (n := bs.length) (by rw [List.length_map]; omega) (Evl.ev_var (i := 0) rfl) (Evl.ev_var (i := 1) rfl) (hZ.ex e1)) (aims_pair (K := K) (j1 := 3) (j2 := 5)) (fun _ => rfl) (by omega) fun i hi => ?_) H1 (Evl.Ex.refl _) _ fun R ys H2 hRn e2 h2 hL2 => ?_)
      · have hb := List.getElem?_eq_getElem hi
        have eb : bs.getD i [] = bs[i] := by rw [List.getD_eq_getElem?_getD, hb]; rfl
        generalize bs[i] = ns at hb eb
        obtain ⟨a, ha, hs⟩ := hR1.2 i ns hb
        obtain ⟨u, hu⟩ : ∃ u, ups[i]? = some u := ⟨_, List.getElem?_eq_getElem (by omega)⟩
        have eu : ups.getD i none = u := by rw [List.getD_eq_getElem?_getD, hu]; rfl
        rw [getX ha, uv_at hu]
        have hsz1 := hsz ns (List.mem_of_getElem? hb)
        have item := el_lcI (te := tVar 4) (t := ttFr K) (σ := [some (.ref A), some (.ref U), some (.ref p), some (.ref a), none, some (uv u)]) (H := H1) (vs := [4]) (fun m => frB bs u (ns.getD m 0)) (fun m => V.int (ns.getD m 0)) (ei_ei (K := K) (Evl.ev_var (i := 3) rfl) hs) (aims_at (j := 4)) (fun _ => rfl) (by rw [List.length_map]; omega) (fun m B eB hm => by
          rw [List.length_map] at hm
          rw [gd_int hm]
          cases u with
          | none => exact Evl.et_is (Evl.et_or (a := true) (b := true) (Evl.et_is (Evl.et_test (Evl.ev_op (Evl.ev_var (v := V.non) rfl) Evl.ev_c rv_isN)) rfl) fun z => nomatch z) rfl
          | some o =>
            have ho := hin i o hu
            have hbo := List.getElem?_eq_getElem ho
            have eo : bs.getD o [] = bs[o] := by rw [List.getD_eq_getElem?_getD, hbo]; rfl
            obtain ⟨d, hd⟩ : ∃ d, dd[o]? = some d := ⟨_, List.getElem?_eq_getElem (by omega)⟩
            obtain ⟨ms, k1, k2⟩ := hdr o d hd
            rw [k1] at hbo
            have em : bs.getD o [] = ms := by rw [List.getD_eq_getElem?_getD, k1]; rfl
            refine Evl.et_is (Evl.et_or (a := false) (b := !decide (ns.getD m 0 ∈ ms)) (Evl.et_is (Evl.et_test (Evl.ev_op (Evl.ev_var (v := V.int (o : Int)) rfl) Evl.ev_c rv_isN)) rfl) fun _ => Evl.et_is (et_dnin (Evl.ev_var rfl) (Evl.ev_op (x := .ref p) (y := .int (o : Int)) (z := .ref d) (Evl.ev_var rfl) (Evl.ev_var rfl) (Evl.rv_ixL (Evl.sq_of (eB _ _ h1)) (atI_nat (by rw [List.getElem?_map, hd]; rfl)))) (eB _ _ k2)) (by rw [dOf_in])) ?_
            show _ = !decide (ns.getD m 0 ∈ bs.getD o [])
            rw [em]
            rfl) (fun m B eB hm _ => by
          rw [List.length_map] at hm
          exact Evl.ev_is (Evl.ev_var rfl) (gd_int hm))
        rw [List.length_map, given_filter] at item
        have ef : freshAt bs ups i = ns.filter (frB bs u) := by
          unfold freshAt
          rw [eb, eu]
        rw [ef]
        exact en_l item
      · obtain ⟨fa, rfl, hfl, hfr⟩ := refs_of (xs := ys) (R := fun i a => H2 a = some (.lst ((freshAt bs ups i).map V.int))) fun i v hv => (hL2 H2 e2 fun _ _ _ _ h => h).2 i v hv
        have hl3 := (hL2 H2 e2 fun _ _ _ _ h => h).1
        refine q R fa H2 (e1.trans e2) h2 ⟨by unfold freshL; rw [List.length_map, List.length_range]; omega, fun i a ns ha hn => ?_⟩
        unfold freshL at hn
        rw [List.getElem?_map] at hn
        obtain ⟨j, hj, rfl⟩ := Option.map_eq_some_iff.mp hn
        obtain ⟨j1, j2⟩ := List.getElem?_eq_some_iff.mp hj
        rw [List.getElem_range] at j2
        subst j2
        exact hfr i a ha
end
end P38
end S_Nah
section S_Nai
namespace P38
open PySem PySem.Spec PyProof.Rows L2 Tl Hk RZ EnL
abbrev nHa : List Str := ["bags", "above", "fresh", "row", "piece"]
theorem scHang : FnScope nHa ["bags", "above"] (defScope sHang) := ⟨rfl, rfl, rfl, by decide +kernel, rfl, by decide +kernel, by decide +kernel⟩
theorem rows_flat (L : List (List Int)) : rows (fun i => (L.getD i []).length) (fun _ _ => true) (fun i j => (L.getD i []).getD j 0) L.length = L.flatten := by
  have els_is : ∀ i, els (fun i => (L.getD i []).length) (fun _ _ => true) (fun i j => (L.getD i []).getD j 0) i = L.getD i [] := fun i => by
    unfold els
    dsimp only
    rw [List.filter_eq_self.mpr fun _ _ => rfl]
    generalize L.getD i [] = ns
    refine List.ext_getElem (by simp) fun i h1 h2 => ?_
    rw [List.getElem_map, List.getElem_range, List.getD_eq_getElem?_getD, List.getElem?_eq_getElem h2]
    rfl
  have key : ∀ n, n ≤ L.length → rows (fun i => (L.getD i []).length) (fun _ _ => true) (fun i j => (L.getD i []).getD j 0) n = (L.take n).flatten := fun n => by
    induction n with
    | zero => intro _; simp [rows]
    | succ n ih =>
      intro h
      rw [rows_succ, ih (by omega), els_is, List.take_succ_eq_append_getElem (by omega), List.flatten_append, List.flatten_singleton, List.getD_eq_getElem?_getD, List.getElem?_eq_getElem (show n < L.length by omega)]
      rfl
  rw [key _ (Nat.le_refl _), List.take_length]
def spHang (K : PySem.W.Frag) : Sp := fun vs H Q _ => ∃ (A U : Addr) (xs : List V) (bs : List (List Int)) (ups : List (Option Nat)), vs = [.ref A, .ref U] ∧ RowsB K H xs bs ∧ ZipOk K H A U xs (ups.map uv) ∧ ups.length = bs.length ∧ bs.length ≤ 3000 ∧ (∀ (i j : Nat), ups[i]? = some (some j) → j < bs.length) ∧ (bs.map List.length).sum ≤ 3000 ∧
  ∀ H1, Evl.Ex H H1 → Q (.bl (decide (freshL bs ups).flatten.Nodup)) H1
theorem sum_mem {l : List Nat} {x : Nat} (h : x ∈ l) : x ≤ l.sum := by
  induction l with
  | nil => cases h
  | cons a r ih =>
    rw [List.sum_cons]
    rcases List.mem_cons.mp h with rfl | h
    · omega
    · have := ih h
      omega
theorem fresh_len (bs : List (List Int)) (ups : List (Option Nat)) : (freshL bs ups).flatten.length ≤ (bs.map List.length).sum := by
  rw [List.length_flatten]
  unfold freshL
  rw [List.map_map]
  have e : bs.map List.length = (List.range bs.length).map fun i => (bs.getD i []).length := by
    refine List.ext_getElem? fun i => ?_
    rw [List.getElem?_map, List.getElem?_map]
    rcases Nat.lt_or_ge i bs.length with h | h
    · rw [List.getElem?_range h, List.getElem?_eq_getElem h]
      show _ = some (bs.getD i []).length
      rw [List.getD_eq_getElem?_getD, List.getElem?_eq_getElem h]
      rfl
    · rw [List.getElem?_eq_none h, List.getElem?_eq_none (by rw [List.length_range]; exact h)]
      rfl
  rw [e]
  have : ∀ l : List Nat, (l.map (List.length ∘ freshAt bs ups)).sum ≤ (l.map fun i => (bs.getD i []).length).sum := fun l => by
    induction l with
    | nil => exact Nat.le_refl _
    | cons a r ih =>
      rw [List.map_cons, List.map_cons, List.sum_cons, List.sum_cons]
      have : (freshAt bs ups a).length ≤ (bs.getD a []).length := List.length_filter_le _ _
      exact Nat.add_le_add this ih
  exact this _
section
variable {P : Program} {w : World} {K : PySem.W.Frag} {mg : Str → Option Value} {base : Heap}
theorem lc2_go {te : TE} {g : TG} {tt tt1 : L2.TT} {wi1 : TI} {g1 : TG} {t : TE} {vs vs1 : List Nat} {σ : L2.St} {H : Hp} {Q : VK} (h : te σ H fun v H' => tLc2 (iList K (tC v)) g tt wi1 g1 tt1 t vs vs1 σ H' Q) : tLc2 (iList K te) g tt wi1 g1 tt1 t vs vs1 σ H Q := h
set_option maxHeartbeats 2000000 in
theorem ok_hang {f fF : Addr} {fd fdF : FuncData} {k : Nat} (F : Fun K "hang_together" "hang_together" sHang f fd) (FF : Fun K "fresh_in" "fresh_in" sFresh fF fdF) (GF : FnOk P w K mg base CX0 k fF fdF ["bags", "above"] (spFresh K)) (bF : Binds K fdF ["bags", "above"] []) (gF : mg "fresh_in" = some (.ref fF))
    (mlen : mg "len" = none) (mset : mg "set" = none) : FnOk P w K mg base CX0 (k + 1) f fd ["bags", "above"] (spHang K) := by
  refine F.ok scHang (fun vs H Q E h => ?_) (fun cdv A0 outer s H vs Q E hr h => ?_)
  · obtain ⟨A, U, xs, bs, ups, rfl, _⟩ := h
    rfl
  · obtain ⟨A, U, xs, bs, ups, rfl, hR, hZ, hul, hl, hin, hsz, q⟩ := h
    have nd := scHang.nd
    refine ⟨_, pss_cons (ps_setLc2 (i := 2) (own := [("row", 3), ("piece", 4)]) (vs1 := [4]) (wi1 := iList K (tVar 3)) (g := gName 3) (g1 := gName 4) (tt := tYes) (tt1 := tYes) (te := tVar 4) rfl nd rfl rfl (sw_true rfl rfl rfl (by decide +kernel)) (pi_list (pe_call GF hr (by rfl) gF FF.kp bF .nil pass0 (pa_cons (pv 0) (pa_cons (pv 1) (pa_nil))))) (blkOk_by (N := nHa) (sc := defScope sHang) (by decide +kernel)) (by decide) (fun _ _ _ _ _ => pg_name (i := 3) nd rfl (Or.inl rfl)) (fun _ _ _ _ _ => pts_nil) (fun _ _ _ _ _ => pi_list (pv 3)) (fun _ _ _ _ _ => pg_name (i := 4) nd rfl (Or.inl rfl)) (fun _ _ _ _ _ => pts_nil) (fun _ _ _ _ _ => pv 4)) (pss_one (ps_ret (pe_cmpR op_eq (pe_lenSetN (by rfl) mlen (by rfl) mset (pv 2)) (pe_callB call_len_seq (by rfl) mlen PySem.boot_len (pa_cons (pv 2) (pa_nil))) (nomark _)))), ?_⟩
    refine Go.asg_go (lc2_go (Go.call_raw (Go.cons_any ⟨.ref A, rfl, .ref U, rfl, A, U, xs, bs, ups, rfl, hR, hZ, hul, hl, hin, fun ns hn => by have := sum_mem (List.mem_map.mpr ⟨ns, hn, rfl⟩ : ns.length ∈ bs.map List.length); omega, fun R fa H1 e1 h1 hRL => ?_⟩)))
    have hfl := hRL.1
    have hL : (freshL bs ups).length = bs.length := by unfold freshL; rw [List.length_map, List.length_range]
    have tot := fresh_len bs ups
    have item : ∀ i, i < (freshL bs ups).length → ∃ a, fa[i]? = some a ∧ (fa.map V.ref).getD i .non = .ref a ∧ H1 a = some (.lst (((freshL bs ups).getD i []).map V.int)) := fun i hi => by
      obtain ⟨a, ha⟩ : ∃ a, fa[i]? = some a := ⟨_, List.getElem?_eq_getElem (by omega)⟩
      have hn := List.getElem?_eq_getElem hi
      refine ⟨a, ha, by rw [List.getD_eq_getElem?_getD, List.getElem?_map, ha]; rfl, ?_⟩
      rw [List.getD_eq_getElem?_getD, hn]
      exact hRL.2 i a _ ha hn
    refine (en_lc2 (σ := start nHa [.ref A, .ref U]) (H := H1) (n := (freshL bs ups).length) (m := fun i => ((freshL bs ups).getD i []).length) (f := fun _ _ => true) (b := fun i j => ((freshL bs ups).getD i []).getD j 0) (Rb := fun x v _ => v = .int x) (s := fun i σ => σ.set 3 (some ((fa.map V.ref).getD i .non))) (s1 := fun i j σ => σ.set 4 (some ((((freshL bs ups).getD i []).map V.int).getD j .non)))
      (Y := YAt (fa.map V.ref)) (Y1 := fun i => YAt (((freshL bs ups).getD i []).map V.int)) ?_ ?_ (fun _ => rfl) (fun i hi => ?_) (fun i => ?_) (fun _ _ => rfl) (fun i j _ _ => et_yes) (fun i j hi hj _ => ?_) ?_) H1 (Evl.Ex.refl _) _ fun p ys H2 hp e2 h2 hL2 => ?_
    · have := ei_list (K := K) (σ := start nHa [.ref A, .ref U]) (H := H1) (tl := tC (.ref R)) Evl.ev_c (Evl.sq_of h1)
      rw [List.length_map, show fa.length = (freshL bs ups).length from hfl] at this
      exact this
    · have := aims_at (xs := fa.map V.ref) (j := 3)
      rw [List.length_map, show fa.length = (freshL bs ups).length from hfl] at this
      exact this
    · obtain ⟨a, ha, ea, haH⟩ := item i hi
      have := ei_list (K := K) (σ := wipe ((wipe (start nHa [.ref A, .ref U]) [3, 4]).set 3 (some ((fa.map V.ref).getD i .non))) [4]) (H := H1) (tl := tVar 3) (xs := ((freshL bs ups).getD i []).map V.int) (Evl.ev_is (Evl.ev_var rfl) ea) (Evl.sq_of haH)
      rw [List.length_map] at this
      exact this
    · have := aims_at (xs := ((freshL bs ups).getD i []).map V.int) (j := 4)
      rw [List.length_map] at this
      exact this
    · exact en_v (Evl.ev_is (Evl.ev_var rfl) (gd_int hj))
    · rw [rows_flat]
      omega
    · rw [rows_flat] at hL2
      have hr2 := hL2 H2 e2 fun _ _ _ _ h => h
      have ey : ys = (freshL bs ups).flatten.map V.int := by
        refine List.ext_getElem? fun i => ?_
        rw [List.getElem?_map]
        rcases Nat.lt_or_ge i ys.length with h | h
        · have h3 := List.getElem?_eq_getElem h
          have h4 := List.getElem?_eq_getElem (show i < (freshL bs ups).flatten.length by have := hr2.1; omega)
          rw [h4, h3]
          exact congrArg some (hr2.2 i _ _ h4 h3)
        · rw [List.getElem?_eq_none h, List.getElem?_eq_none (by have := hr2.1; omega)]
          rfl
      rw [ey] at h2
      try dsimp only [List.set_cons_zero, List.set_cons_succ]
      refine Go.ret_go (Go.op_go ⟨.ref p, rfl, p, (freshL bs ups).flatten, rfl, Evl.sq_of h2, by omega, fun c hc => ?_⟩)
      refine (Evl.ev_len (K := K) (Evl.ev_var (i := 2) rfl) (Evl.sq_of h2)) H2 (Evl.Ex.refl _) _ fun H3 e3 => ?_
      have fin := q H3 ((e1.trans e2).trans e3)
      refine (Evl.rv_eq rfl) H3 (Evl.Ex.refl _) _ fun H4 e4 => ?_
      rw [List.length_map]
      have := q H4 (((e1.trans e2).trans e3).trans e4)
      rw [show decide (V.int (c : Int) = V.int ((freshL bs ups).flatten.length : Int)) = decide (freshL bs ups).flatten.Nodup from decide_eq_decide.mpr ⟨fun z => hc.mp (by have := V.int.inj z; omega), fun z => by rw [hc.mpr z]⟩]
      exact this
end
end P38
end S_Nai
section S_Naj
namespace P38
open PySem PySem.Spec PyProof.Rows L2 Tl Hk RZ EnL
/-! ### rows as bags -/
def rowV (ns : List Int) : Option (List V) := some (ns.map V.int)
/-- bags told right: ascending ints from 0 on -/
structure BagsOk (bs : List (List Int)) : Prop where
  asc : ∀ ns ∈ bs, ascI ns = true
  pos : ∀ ns ∈ bs, ∀ i ∈ ns, 0 ≤ i
theorem bagV_row {ns : List Int} (h1 : ascI ns = true) (h2 : ∀ i ∈ ns, 0 ≤ i) : bagV (.int 0) .non (rowV ns) = true := by
  unfold bagV rowV
  dsimp only
  rw [wi0_all h2, intsOf_map]
  show (true && (decide ((0 : Int) ≤ ((ns.map V.int).length : Int)) && true) && ascI ns) = true
  rw [decide_eq_true (by omega), h1]
  rfl
theorem bags_of : ∀ {rs : List (Option (List V))}, rs.all (bagV (.int 0) .non) = true → ∃ bs : List (List Int), rs = bs.map rowV ∧ BagsOk bs
  | [], _ => ⟨[], rfl, ⟨fun _ h => (nomatch h), fun _ h => (nomatch h)⟩⟩
  | r :: rs, h => by
    rw [List.all_cons, Bool.and_eq_true_iff] at h
    obtain ⟨bs, rfl, hb⟩ := bags_of h.2
    have hr := h.1
    cases r with
    | none => cases hr
    | some xs =>
      unfold bagV at hr
      dsimp only at hr
      rw [Bool.and_eq_true_iff, Bool.and_eq_true_iff] at hr
      obtain ⟨ns, rfl, hn⟩ := wi0_ints hr.1.1
      rw [intsOf_map] at hr
      refine ⟨ns :: bs, rfl, ⟨fun ms hm => ?_, fun ms hm => ?_⟩⟩
      · rcases List.mem_cons.mp hm with rfl | hm
        · exact hr.2
        · exact hb.asc ms hm
      · rcases List.mem_cons.mp hm with rfl | hm
        · exact hn
        · exact hb.pos ms hm
theorem bags_all {bs : List (List Int)} (h : BagsOk bs) : (bs.map rowV).all (bagV (.int 0) .non) = true := List.all_eq_true.mpr fun r hr => by
  obtain ⟨ns, hn, rfl⟩ := List.mem_map.mp hr
  exact bagV_row (h.asc ns hn) (h.pos ns hn)
theorem ints_inj : ∀ {a b : List Int}, a.map V.int = b.map V.int → a = b := fun {a b} h => by
  have := congrArg intsOf h
  rw [intsOf_map, intsOf_map] at this
  exact Option.some.inj this
theorem rowV_inj : ∀ {a b : List (List Int)}, a.map rowV = b.map rowV → a = b
  | [], [], _ => rfl
  | [], _ :: _, h => nomatch h
  | _ :: _, [], h => nomatch h
  | x :: a, y :: b, h => by
    rw [List.map_cons, List.map_cons] at h
    rw [ints_inj (Option.some.inj (List.cons.inj h).1), rowV_inj (List.cons.inj h).2]
/-- how bags and what is above them stand, if both are lists or tuples -/
def Zip2 (K : PySem.W.Frag) (H : Hp) (b u : V) (rb : Option (List (Option (List V)))) (ru : Option (List V)) : Prop := ∀ rs ys, rb = some rs → ru = some ys → 1 ≤ rs.length → ∃ A U xs, b = .ref A ∧ u = .ref U ∧ ZipOk K H A U xs ys ∧ xs.length = rs.length ∧ ∀ (i : Nat) (v : V) (r : Option (List V)), xs[i]? = some v → rs[i]? = some r → BagD K H v r
theorem Zip2.ex {K : PySem.W.Frag} {H H' : Hp} {b u : V} {rb : Option (List (Option (List V)))} {ru : Option (List V)} (h : Zip2 K H b u rb ru) (e : Evl.Ex H H') : Zip2 K H' b u rb ru := fun rs ys h1 h2 h3 => by
  obtain ⟨A, U, xs, a1, a2, a3, a4, a5⟩ := h rs ys h1 h2 h3
  exact ⟨A, U, xs, a1, a2, a3.ex e, a4, fun i v r p q => (a5 i v r p q).ex e⟩
/-- what may be handed to a tree of bags -/
structure In2 (K : PySem.W.Frag) (H : Hp) (b u : V) (rb : Option (List (Option (List V)))) (ru : Option (List V)) : Prop where
  hb : BagsD K H b rb
  hu : BagD K H u ru
  hz : Zip2 K H b u rb ru
  sz : ∀ rs, rb = some rs → (rs.map fun r => (r.getD []).length).sum ≤ 3000
theorem In2.ex {K : PySem.W.Frag} {H H' : Hp} {b u : V} {rb : Option (List (Option (List V)))} {ru : Option (List V)} (h : In2 K H b u rb ru) (e : Evl.Ex H H') : In2 K H' b u rb ru := ⟨h.hb.ex e, h.hu.ex e, h.hz.ex e, h.sz⟩
theorem In2.rows {K : PySem.W.Frag} {H : Hp} {b u : V} {bs : List (List Int)} {ys : List V} (h : In2 K H b u (some (bs.map rowV)) (some ys)) (hne : 1 ≤ bs.length) : ∃ A U xs, b = .ref A ∧ u = .ref U ∧ ZipOk K H A U xs ys ∧ RowsB K H xs bs ∧ (bs.map List.length).sum ≤ 3000 := by
  obtain ⟨A, U, xs, a1, a2, a3, a4, a5⟩ := h.hz _ _ rfl rfl (by rw [List.length_map]; exact hne)
  rw [List.length_map] at a4
  refine ⟨A, U, xs, a1, a2, a3, ⟨a4, fun i ns hn => ?_⟩, ?_⟩
  · have hx := List.getElem?_eq_getElem (show i < xs.length by have := (List.getElem?_eq_some_iff.mp hn).1; omega)
    have := a5 i _ (rowV ns) hx (by rw [List.getElem?_map, hn]; rfl)
    obtain ⟨c, e, hs, _⟩ := this.sq
    exact ⟨c, by rw [hx, e], hs⟩
  · have := h.sz _ rfl
    rw [List.map_map] at this
    have e : bs.map List.length = bs.map ((fun r : Option (List V) => (r.getD []).length) ∘ rowV) := List.map_congr_left fun ns _ => (List.length_map _).symm
    rw [e]
    exact this
theorem BagsD.sq {K : PySem.W.Frag} {H : Hp} {x : V} {rs : List (Option (List V))} (h : BagsD K H x (some rs)) : ∃ a xs, x = .ref a ∧ SqS K H a xs ∧ xs.length = rs.length ∧ xs.length ≤ 3000 := by
  cases h with
  | seq h hn hl hi => exact ⟨_, _, rfl, h, hn, hl⟩
/-- a piece of some bag is held afresh by one at least -/
theorem fresh_some {bs : List (List Int)} {ups : List (Option Nat)} (hl : ups.length = bs.length) {i : Nat} (ht : Top ups i) {p : Int} (hp : p ∈ bs.getD i []) : p ∈ (freshL bs ups).flatten := by
  have put : ∀ {i : Nat}, i < bs.length → p ∈ bs.getD i [] → frB bs (ups.getD i none) p = true → p ∈ (freshL bs ups).flatten := fun {i} hi hp hf => List.mem_flatten.mpr ⟨freshAt bs ups i, List.mem_map.mpr ⟨i, List.mem_range.mpr hi, rfl⟩, List.mem_filter.mpr ⟨hp, hf⟩⟩
  induction ht with
  | @top i h => exact put (by rw [← hl]; exact (List.getElem?_eq_some_iff.mp h).1) hp (by rw [List.getD_eq_getElem?_getD, h]; rfl)
  | @up i j h t ih =>
    by_cases hj : p ∈ bs.getD j []
    · exact ih hj
    · refine put (by rw [← hl]; exact (List.getElem?_eq_some_iff.mp h).1) hp ?_
      rw [List.getD_eq_getElem?_getD, h]
      show (!decide (p ∈ bs.getD j [])) = true
      rw [decide_eq_false hj]
      rfl
theorem freshL_at {bs : List (List Int)} {ups : List (Option Nat)} {i : Nat} (hi : i < bs.length) : (freshL bs ups).getD i [] = freshAt bs ups i := by
  unfold freshL
  rw [List.getD_eq_getElem?_getD, List.getElem?_map, List.getElem?_range hi]
  rfl
theorem asc_pw : ∀ {ns : List Int}, ascI ns = true → ns.Pairwise (· < ·)
  | [], _ => List.Pairwise.nil
  | [a], _ => List.pairwise_singleton _ _
  | a :: b :: r, h => by
    have h : (decide (a < b) && ascI (b :: r)) = true := h
    rw [Bool.and_eq_true_iff] at h
    have h1 := of_decide_eq_true h.1
    have ih := asc_pw h.2
    refine List.pairwise_cons.mpr ⟨fun x hx => ?_, ih⟩
    rcases List.mem_cons.mp hx with rfl | hx
    · exact h1
    · have := (List.pairwise_cons.mp ih).1 x hx
      omega
end P38
end S_Naj
section S_Wq
namespace Hk
open PySem PySem.Spec PyProof.Rows L2 Tl
theorem asc_eq : ∀ {xs ys : List Int}, xs.Pairwise (· < ·) → ys.Pairwise (· < ·) → (∀ k, k ∈ xs ↔ k ∈ ys) → xs = ys
  | [], [], _, _, _ => rfl
  | [], y :: r, _, _, h => by have := (h y).mpr List.mem_cons_self; cases this
  | x :: r, [], _, _, h => by have := (h x).mp List.mem_cons_self; cases this
  | x :: r, y :: s, h1, h2, h => by
    obtain ⟨a1, a2⟩ := List.pairwise_cons.mp h1
    obtain ⟨b1, b2⟩ := List.pairwise_cons.mp h2
    have e : x = y := by
      rcases List.mem_cons.mp ((h x).mp List.mem_cons_self) with z | z
      · exact z
      · rcases List.mem_cons.mp ((h y).mpr List.mem_cons_self) with u | u
        · exact u.symm
        · have := a1 y u
          have := b1 x z
          omega
    subst e
    rw [asc_eq a2 b2 fun k => ?_]
    constructor
    · intro hk
      rcases List.mem_cons.mp ((h k).mp (List.mem_cons_of_mem _ hk)) with z | z
      · have := a1 k hk; omega
      · exact z
    · intro hk
      rcases List.mem_cons.mp ((h k).mpr (List.mem_cons_of_mem _ hk)) with z | z
      · have := b1 k hk; omega
      · exact z
theorem in_ints (x : Int) (ns : List Int) : inV (.int x) (ns.map V.int) = decide (x ∈ ns) := by
  unfold inV
  induction ns with
  | nil => rfl
  | cons a r ih =>
    rw [List.map_cons, List.any_cons, ih]
    have e : eqV (.int a) (.int x) = decide (x = a) := by
      show decide (a = x) = decide (x = a)
      exact decide_eq_decide.mpr eq_comm
    rw [e, ← Bool.decide_or]
    exact decide_eq_decide.mpr List.mem_cons.symm
theorem flat_ints (ns : List Int) : (ns.map V.int).all flatV = true := by
  rw [List.all_eq_true]
  intro v hv
  obtain ⟨i, _, rfl⟩ := List.mem_map.mp hv
  rfl
section
open Evl
variable {K : PySem.W.Frag} {σ : L2.St} {H : Hp} {ta tb te : TE}
theorem el_from1 {tl : TO} {a : Addr} {xs : List V} (h : Ev te σ H (.ref a)) (h2 : EvO tl σ H (some (1 : Int))) (hs : SqL K H a xs) : EvL (tSl (rSlL K) te tl tNoPart) σ H (xs.drop 1) := by
  rw [← cutFrom]
  exact el_sl h h2 eo_none hs
theorem el_sortedSet {w : World} {ns : List Int} (h : EvL ta σ H (ns.map V.int)) (hp : ns.Pairwise (· < ·)) (hl : ns.length < 60) : EvL (tCB (rSortedSet w) (tCons (tCB (rSetL K w) (tCons ta tNil)) tNil)) σ H (ns.map V.int) := fun H1 e Q q =>
  h H1 e _ fun l H2 hl' e2 h2 => ⟨l, ns, rfl, sq_of h2, by omega, fun p c hp' hc => ⟨p, _, c, rfl, upd_same, by omega, fun ms r hpw hmem hlen hr => by
    obtain rfl : ms = ns := asc_eq hpw hp fun k => (hmem k).trans decide_eq_true_iff
    exact q r _ (fresh_back (e2.trans (Ex.new hp')) hr) ((e2.trans (Ex.new hp')).trans (Ex.new hr)) upd_same⟩⟩
theorem ev_notIn {x : Int} {ns : List Int} (h : Ev ta σ H (.int x)) (h2 : EvL tb σ H (ns.map V.int)) : Ev (tOp (rIn K true) ta tb) σ H (.bl !decide (x ∈ ns)) := fun H1 e Q q =>
  h H1 e _ fun H2 e2 => h2 H2 (e.trans e2) _ fun p H3 hp e3 h3 => ⟨p, _, rfl, .inl (sq_of h3), rfl, flat_ints ns, by
    show Q (.bl !inV (.int x) (ns.map V.int)) H3
    rw [in_ints]
    exact q H3 (e2.trans e3)⟩
end
section
open Evl
variable {K : PySem.W.Frag} {σ : L2.St} {H : Hp} {ta tb : TE}
/-- a new list of ints is the sorted set of the same -/
theorem ev_eqSS {w : World} {ns : List Int} (h : EvL ta σ H (ns.map V.int)) (h2 : EvL tb σ H (ns.map V.int)) (hl : ns.length < 60) : Ev (tOp (rEqD K) ta (tCB (rSortedSet w) (tCons (tCB (rSetL K w) (tCons tb tNil)) tNil))) σ H (.bl (pd (ns.Pairwise (· < ·)))) := fun H1 e Q q =>
  h H1 e _ fun l1 H2 hl1 e2 hh1 => h2 H2 (e.trans e2) _ fun l H3 hl' e3 hh2 => ⟨l, ns, rfl, sq_of hh2, by omega, fun p c hp' hc => ⟨p, _, c, rfl, upd_same, by omega, fun ms r hpw hmem hlen hr => by
    have e4 : Ex H3 (upd (upd H3 p _) r (.lst (ms.map V.int))) := (Ex.new hp').trans (Ex.new hr)
    refine ⟨.list (zD ns), .list (zD ms), .lst (sq_of (e4 _ _ (e3 _ _ hh1))) (dp_zD ns), .lst (sq_of upd_same) (dp_zD ms), PySem.W.ke_shaped_ints ns, PySem.W.ke_shaped_ints ms, ?_⟩
    rw [eqv_zD]
    have hm : ∀ k, k ∈ ms ↔ k ∈ ns := fun k => (hmem k).trans decide_eq_true_iff
    have hp : decide (ns = ms) = pd (ns.Pairwise (· < ·)) := by
      by_cases z : ns.Pairwise (· < ·)
      · rw [pd_true z, decide_eq_true (asc_eq z hpw fun k => (hm k).symm)]
      · rw [pd_false z, decide_eq_false (fun y : ns = ms => z (by rw [y]; exact hpw))]
    rw [hp]
    exact q _ ((e2.trans e3).trans e4)⟩⟩
end
end Hk
end S_Wq
section S_Wr
namespace Hk
open PySem PySem.Spec PyProof.Rows L2 Tl
theorem refs_of {H : Hp} : ∀ {xs : List V} {P : Nat → Addr → Hp → Prop}, (∀ i v, xs[i]? = some v → ∃ r, v = .ref r ∧ P i r H) → ∃ rs : List Addr, xs = rs.map V.ref ∧ rs.length = xs.length ∧ ∀ i r, rs[i]? = some r → P i r H
  | [], P, hx => ⟨[], rfl, rfl, fun i r z => by simp at z⟩
  | v :: r, P, hx => by
    obtain ⟨a, rfl, ha⟩ := hx 0 v rfl
    obtain ⟨rs, h1, h2, h3⟩ := refs_of (xs := r) (P := fun i => P (i + 1)) fun i u hu => hx (i + 1) u (by simpa using hu)
    refine ⟨a :: rs, by rw [h1, List.map_cons], by rw [List.length_cons, List.length_cons, h2], fun i u hu => ?_⟩
    cases i with
    | zero => cases hu; exact ha
    | succ i => exact h3 i u (by simpa using hu)
theorem holds_refs {P : Nat → Addr → Hp → Prop} {n : Nat} {xs : List V} {H : Hp} (h : Holds (fun i v H => ∃ r, v = .ref r ∧ P i r H) n xs H) : ∃ rs : List Addr, xs = rs.map V.ref ∧ rs.length = n ∧ ∀ i r, rs[i]? = some r → P i r H := by
  obtain ⟨hl, hx⟩ := h
  subst hl
  exact refs_of hx
theorem eu_tupL {K : PySem.W.Frag} {σ : L2.St} {H : Hp} {ta : TE} {xs : List V} (h : Evl.EvL ta σ H xs) : Evl.EvU (tCB (fun xs H Q => ∃ p ys, xs = [V.ref p] ∧ ((SqL K H p ys ∧ ∀ l, H l = none → Q (V.ref l) (upd H l (HO.tup ys))) ∨ (SqT K H p ys ∧ Q (V.ref p) H))) (tCons ta tNil)) σ H xs := fun H1 e Q q =>
  h H1 e _ fun p H2 hp e2 h2 => ⟨p, xs, rfl, .inl ⟨Evl.sq_of h2, fun t ht => q t _ (Evl.fresh_back e2 ht) (e2.trans (Evl.Ex.new ht)) upd_same⟩⟩
theorem sum_le {ps : List Str} {m : Nat} (h : ∀ s ∈ ps, s.length ≤ m) : (ps.map (·.length)).sum ≤ m * ps.length := by
  induction ps with
  | nil => simp
  | cons a r ih =>
    have := h a List.mem_cons_self
    have := ih fun s hs => h s (List.mem_cons_of_mem _ hs)
    rw [List.map_cons, List.sum_cons, List.length_cons, Nat.mul_add, Nat.mul_one]
    omega
end Hk
namespace Hk
open PySem PySem.Spec PyProof.Rows L2 Tl
theorem cons_any {te : TE} {tr : TA} {σ : L2.St} {H : Hp} {Q : List V → Hp → Prop} (h : te σ H fun v H1 => tr σ H1 fun vs H2 => Q (v :: vs) H2) : tCons te tr σ H Q := h
theorem asg_go {te : TE} {tz : TS} {i : Nat} {D : Ends} {σ : L2.St} {H : Hp} (h : te σ H fun v H1 => tz D (σ.set i (some v)) H1) : tSeq (tAsg te (gName i)) tz D σ H := h
theorem sl_go {r : V → Option Int → Option Int → Hp → VK → Prop} {te : TE} {tl th : TO} {σ : L2.St} {H : Hp} {Q : VK} (h : te σ H fun x H1 => tl σ H1 fun lo H2 => th σ H2 fun hi H3 => r x lo hi H3 Q) : tSl r te tl th σ H Q := h
theorem op_go {r : R2} {ta tb : TE} {σ : L2.St} {H : Hp} {Q : VK} (h : ta σ H fun x H1 => tb σ H1 fun y H2 => r x y H2 Q) : tOp r ta tb σ H Q := h
theorem tup_go {ta : TA} {σ : L2.St} {H : Hp} {Q : VK} (h : ta σ H fun xs H1 => xs.length ≤ sizeLine ∧ ∀ p, H1 p = none → Q (.ref p) (upd H1 p (.tup xs))) : tTup ta σ H Q := h
theorem lst_go {ta : TA} {σ : L2.St} {H : Hp} {Q : VK} (h : ta σ H fun xs H1 => xs.length ≤ sizeLine ∧ ∀ p, H1 p = none → Q (.ref p) (upd H1 p (.lst xs))) : tLst ta σ H Q := h
theorem ret_go {te : TE} {D : Ends} {σ : L2.St} {H : Hp} (h : te σ H D.rt) : tRet te D σ H := h
theorem call_go {sp : Sp} {dvs vs : List V} {E : XK} {ta : TA} {σ : L2.St} {H : Hp} {Q : VK} (h : Evl.EvA ta σ H vs) (k : ∀ H1, Evl.Ex H H1 → sp (vs ++ dvs) H1 Q E) : tCall sp dvs E ta σ H Q := h H (Evl.Ex.refl H) _ k
theorem cons_c {v : V} {tr : TA} {σ : L2.St} {H : Hp} {Q : List V → Hp → Prop} (h : tr σ H fun vs H2 => Q (v :: vs) H2) : tCons (tC v) tr σ H Q := h
theorem call_raw {sp : Sp} {dvs : List V} {E : XK} {ta : TA} {σ : L2.St} {H : Hp} {Q : VK} (h : ta σ H fun vs H1 => sp (vs ++ dvs) H1 Q E) : tCall sp dvs E ta σ H Q := h
theorem cb_go {r : List V → Hp → VK → Prop} {ta : TA} {σ : L2.St} {H : Hp} {Q : VK} (h : ta σ H fun vs H1 => r vs H1 Q) : tCB r ta σ H Q := h
theorem par_go {i j : Nat} {ta : TA} {tz : TS} {D : Ends} {σ : L2.St} {H : Hp} (h : ta σ H fun vs H1 => ∃ v w, vs = [v, w] ∧ tz D ((σ.set i (some v)).set j (some w)) H1) : tSeq (tPar i j ta) tz D σ H := h
theorem ev_slS {σ : L2.St} {H : Hp} {te : TE} {tl th : TO} {z : Str} {lo hi : Option Int} (h : Evl.Ev te σ H (.str z)) (h1 : Evl.EvO tl σ H lo) (h2 : Evl.EvO th σ H hi) (hz : z.length ≤ sizeLine) : Evl.Ev (tSl rSlS te tl th) σ H (.str (cutS z lo hi)) := fun H1 e Q q =>
  h H1 e _ fun H2 e2 => h1 H2 (e.trans e2) _ fun H3 e3 => h2 H3 ((e.trans e2).trans e3) _ fun H4 e4 => ⟨z, rfl, hz, q H4 ((e2.trans e3).trans e4)⟩
theorem rv_cat {H : Hp} {x y : Str} (h : x.length + y.length ≤ sizeLine) : Evl.RV (fun x y H Q => ∃ i j, x = V.str i ∧ y = V.str j ∧ i.length + j.length ≤ sizeLine ∧ Q (.str (i ++ j)) H) (.str x) (.str y) H (.str (x ++ y)) := fun H1 e Q q => ⟨x, y, rfl, rfl, h, q H1 (Evl.Ex.refl _)⟩
theorem ev_callN {sp : Sp} {gV : List V → List V → List V} {E : XK} {tk : TA} {σ : L2.St} {H : Hp} {zs : List V} {m : Nat} {v : V} (h : Evl.EvA tk σ H zs) (hm : zs.length = m) (hs : Evl.SpV sp (gV [] zs) H v) : Evl.Ev (tCallN 0 m sp gV E tNil tk) σ H v := fun H1 e Q q =>
  h H1 e _ fun H2 e2 => ⟨rfl, hm, hs H2 (e.trans e2) Q (fun H3 e3 => q H3 (e2.trans e3)) E⟩
theorem et_chain {σ : L2.St} {H : Hp} {ta tb tc : TE} {i j k : Int} (h1 : Evl.Ev ta σ H (.int i)) (h2 : Evl.Ev tb σ H (.int j)) (h3 : Evl.Ev tc σ H (.int k)) : Evl.EvT (tTest (tChain (rI0 fun i j => .bl (decide (i ≤ j))) (rI0 fun i j => .bl (decide (i ≤ j))) ta tb tc)) σ H (decide (i ≤ j) && decide (j ≤ k)) := fun H1 e Q q =>
  h1 H1 e _ fun H2 e2 => h2 H2 (e.trans e2) _ fun H3 e3 => ⟨i, j, rfl, rfl, decide (i ≤ j), rfl, if_go (fun hb => h3 H3 ((e.trans e2).trans e3) _ fun H4 e4 => ⟨j, k, rfl, rfl, decide (j ≤ k), rfl, by rw [hb, Bool.true_and] at q; exact q H4 ((e2.trans e3).trans e4)⟩) (fun hb => ⟨false, rfl, by rw [hb, Bool.false_and] at q; exact q H3 (e2.trans e3)⟩)⟩
theorem _root_.Evl.SpV.is {sp : Sp} {vs : List V} {H : Hp} {v w : V} (h : Evl.SpV sp vs H v) (e : v = w) : Evl.SpV sp vs H w := e ▸ h
end Hk
namespace Hk
open PySem PySem.Spec PyProof.Rows L2 Tl
open Evl
theorem ei_rowsN {K : PySem.W.Frag} {σ : L2.St} {H : Hp} {te : TE} {xs : List V} {n : Nat} {W : Hp → Prop} (h : EvL te σ H xs) (hn : n = xs.length) (hW : ∀ A, Ex H A → W A) : EvI (iList K te) σ H n (YRow xs W) := fun H1 e R k => by
  subst hn
  exact h H1 e _ fun a H2 ha e2 hx => ⟨a, rfl, ⟨xs, sq_of hx⟩, k _ (fun A => SqL K A a xs ∧ W A) H2 e2 (walk_list.mono (fun _ q => q.1) fun i A v A' hi q y => ⟨y.1, y.2, q.2⟩) fun A ab s => ⟨sq_of (s _ _ ha hx), hW A ab⟩⟩
/-- a list of ints that stands is not the sorted set of the same -/
theorem ev_neSS {K : PySem.W.Frag} {σ : L2.St} {H : Hp} {ta tb : TE} {w : World} {a : Addr} {ns : List Int} (h : Ev ta σ H (.ref a)) (h2 : Ev tb σ H (.ref a)) (hs : H a = some (.lst (ns.map V.int))) (hl : ns.length < 60) : Ev (tOp (rNeD K) ta (tCB (rSortedSet w) (tCons (tCB (rSetL K w) (tCons tb tNil)) tNil))) σ H (.bl (!pd (ns.Pairwise (· < ·)))) := fun H1 e Q q =>
  h H1 e _ fun H2 e2 => h2 H2 (e.trans e2) _ fun H3 e3 => ⟨a, ns, rfl, sq_of (e3 _ _ (e2 _ _ (e _ _ hs))), by omega, fun p c hp' hc => ⟨p, _, c, rfl, upd_same, by omega, fun ms r hpw hmem hlen hr => by
    have e4 : Ex H3 (upd (upd H3 p _) r (.lst (ms.map V.int))) := (Ex.new hp').trans (Ex.new hr)
    refine ⟨.list (zD ns), .list (zD ms), .lst (sq_of (e4 _ _ (e3 _ _ (e2 _ _ (e _ _ hs))))) (dp_zD ns), .lst (sq_of upd_same) (dp_zD ms), PySem.W.ke_shaped_ints ns, PySem.W.ke_shaped_ints ms, ?_⟩
    rw [eqv_zD]
    have hm : ∀ k, k ∈ ms ↔ k ∈ ns := fun k => (hmem k).trans decide_eq_true_iff
    have hp : decide (ns = ms) = pd (ns.Pairwise (· < ·)) := by
      by_cases z : ns.Pairwise (· < ·)
      · rw [pd_true z, decide_eq_true (asc_eq z hpw fun k => (hm k).symm)]
      · rw [pd_false z, decide_eq_false (fun y : ns = ms => z (by rw [y]; exact hpw))]
    rw [hp]
    exact q _ ((e2.trans e3).trans e4)⟩⟩
end Hk
end S_Wr
section S_Rl
namespace Hk
open PySem PySem.Spec PyProof.Rows L2 Tl
/-! ### d.update(l) of a list of pairs -/
section
variable {X : Cx}
theorem pairs_upd {pins : List (Addr × Obj)} {σ : L2.St} {H : Hp} {s : Shared} (I : Inv X pins σ H s) : ∀ {ps : List Addr} {kvs : List (L2.Key × V)}, Paired (fun p kv => SqT X.K H p [kV kv.1, kv.2]) ps kvs →
    ∃ (prs : List (L2.Key × Value)) (pv : List (Value × Value)), KV kvs prs ∧ prs.length = ps.length ∧ pv.length = ps.length ∧ ∀ (j : Nat) (k v : Value), pv[j]? = some (k, v) → ∃ (b : Addr) (key : L2.Key), ps[j]? = some b ∧ IsTup s.heap b #[k, v] ∧ prs[j]? = some (key, v) ∧ keyIs key k = true
  | _, _, .nil => ⟨[], [], .nil, rfl, rfl, fun j k v e => by simp at e⟩
  | _, _, .cons (a := p) (b := kv) h t => by
    obtain ⟨prs, pv, r, hl, hl2, hp⟩ := pairs_upd I t
    obtain ⟨its, rv, ht, _⟩ := I.tuple h
    obtain ⟨u, y, ei, ru, ry⟩ := vals2 rv
    subst ei
    refine ⟨(kv.1, y) :: prs, (u, y) :: pv, .cons ⟨rfl, ry⟩ r, by rw [List.length_cons, List.length_cons, hl], by rw [List.length_cons, List.length_cons, hl2], fun j k v e => ?_⟩
    cases j with
    | zero =>
      have e' : (u, y) = (k, v) := Option.some.inj e
      cases e'
      exact ⟨p, kv.1, rfl, ht, rfl, kV_is (P := X.prog) (w := X.w) ru⟩
    | succ j =>
      obtain ⟨b, key, e1, e2, e3, e4⟩ := hp j k v (by simpa using e)
      exact ⟨b, key, by simpa using e1, e2, by simpa using e3, e4⟩
/-- d.update(l), l a list of pairs (key, value) -/
def rUpdP (K : PySem.W.Frag) : V → List V → Hp → VK → Prop := fun x xs H Q => ∃ (d a : Addr) (ps : List Addr) (old kvs : List (L2.Key × V)), x = .ref d ∧ xs = [.ref a] ∧ H d = some (.dK old) ∧ SqL K H a (ps.map V.ref) ∧ Paired (fun p kv => SqT K H p [kV kv.1, kv.2]) ps kvs ∧ old.length + kvs.length ≤ 10000 ∧
  Q .non (upd H d (.dK (mergeK old kvs)))
theorem mt_updP (hcalm : X.calm = true) : MtR X "dict.update" (rUpdP X.K) := by
  intro pins s σ H x xs v us Q I rx rxs h
  obtain ⟨d, a, ps, old, kvs, rfl, rfl, hd, hq, hp, hsz, q⟩ := h
  cases rx
  obtain ⟨u, rfl, ru⟩ := vals1 rxs
  cases ru
  obtain ⟨its, rv, pl, hz⟩ := I.list hq
  have ei := refs_at rv
  subst ei
  obtain ⟨prs, pv, rel, hl, hl2, hpr⟩ := pairs_upd I hp
  obtain ⟨o, n, ho, hc, hdd, hdat⟩ := pl
  obtain ⟨z, lo, vs, rel0, dd⟩ := dk_of I.hok hd
  obtain ⟨od, hod, odc, _⟩ := id dd
  have lk : kvs.length = ps.length := rel.length.trans hl
  have dne : ∀ (b : Addr) (ob : Obj), s.heap.get? b = some ob → ob.cls ≠ .type "dict" → d ≠ b := fun b ob hb hcl e => by
    subst e
    obtain ⟨o2, h2, h3⟩ := dd.typeIs
    rw [hb] at h2
    cases h2
    exact hcl h3
  refine PySem.call_update_pairs (knd := mixKind X.prog X.w) (acc := vs) (kvs := prs) (d := d) (PySem.PairArg.list a (ps.map Value.ref).toArray (fun j => ps.getD j 0) pv) (I.ok.hd hcalm)
    ⟨⟨o, n, ho, hc, hdd, hdat⟩, by rw [List.size_toArray, List.length_map, hl2], fun j k v e => ?_⟩ (fun hm => ?_) ⟨by rw [hl, hl2], fun i key v e => ?_⟩ dd (by rw [hl2, ← lk, ← rel0.length]; rw [sizeLine_eq]; omega) fun h' tk hd' kp => ?_
  · obtain ⟨b, key, e1, e2, e3, e4⟩ := hpr j k v e
    have eb : ps.getD j 0 = b := by rw [List.getD_eq_getElem?_getD, e1]; rfl
    refine ⟨by rw [List.getElem?_toArray, List.getElem?_map, e1]; exact congrArg (fun z => some (Value.ref z)) eb.symm, .inl ?_⟩
    show s.heap.IsTuple (ps.getD j 0) _
    rw [eb]
    exact e2
  · rcases List.mem_cons.mp hm with e | e
    · exact dne a o ho (by rw [hc]; decide) e
    · obtain ⟨j, hj, e⟩ := List.mem_map.mp e
      have hj := List.mem_range.mp hj
      obtain ⟨⟨k, v⟩, ev⟩ : ∃ p, pv[j]? = some p := ⟨_, List.getElem?_eq_getElem hj⟩
      obtain ⟨b, key, e1, ⟨ob, e2, e3, _⟩, _, _⟩ := hpr j k v ev
      have eb : ps.getD j 0 = b := by rw [List.getD_eq_getElem?_getD, e1]; rfl
      exact dne b ob e2 (by rw [e3]; decide) (by rw [← e, eb])
  · obtain ⟨b, k, e1, e2, e3, e4⟩ := hpr i key v e
    exact ⟨k, e3, e4⟩
  · have hlen : (mergeK old kvs).length ≤ sizeLine := by
      refine Nat.le_trans (length_mergeK kvs old) ?_
      rw [sizeLine_eq]
      omega
    obtain ⟨o', _, _, ho', _⟩ := id hd'
    exact ⟨.non, upd H d (.dK (mergeK old kvs)), I.write (x := d) (e := d) (t' := tk) (by rw [hd]; trivial) (.inl rfl) (fun b ob hb e => kp b ob hb (fun z => nomatch z) e) ⟨o', ho'⟩ (dk_new hlen lo (KV.merge rel rel0) hd'), rfl, q⟩
end
end Hk
end S_Rl
section S_Rd
namespace EnL
open PySem PySem.Spec PyProof.Rows L2 Tl
/-! ### sorted and min of a list of data -/
theorem each_of {R : Value → V × PyData → Prop} : ∀ {bs : List (V × PyData)} {its : List Value}, Vals (bs.map Prod.fst) its → (∀ b ∈ bs, ∀ u, RelV b.1 u → R u b) → PySem.W.EachIs R its bs
  | [], _, .nil, _ => .nil
  | b :: bs, _, .cons h t, k => .cons (k b List.mem_cons_self _ h) (each_of t fun c hc => k c (List.mem_cons_of_mem _ hc))
theorem of_each : ∀ {bs : List (V × PyData)} {its : List Value}, PySem.W.EachIs (fun u b => RelV b.1 u) its bs → Vals (bs.map Prod.fst) its
  | [], _, .nil => .nil
  | b :: bs, _, .cons h t => .cons h (of_each t)
def rSortedDat (K : PySem.W.Frag) : List V → Hp → VK → Prop := fun vs H Q => ∃ (a : Addr) (bs : List (V × PyData)), vs = [V.ref a] ∧ SqL K H a (bs.map Prod.fst) ∧ (∀ b ∈ bs, Dp K H b.1 b.2) ∧ PySem.W.AllAlike (bs.map Prod.snd) ∧ PySem.W.Sortable (bs.map Prod.snd) ∧ (∀ b ∈ bs, b.2.depth ≤ 60) ∧
  ∀ p, H p = none → Q (.ref p) (upd H p (.lst ((bs.mergeSort (PySem.W.dataLe false Prod.snd)).map Prod.fst)))
section
variable {X : Cx}
theorem cr_sortedDat (hu : X.A.units + 66 < cLine) : CallR X (.builtin "sorted") (rSortedDat X.K) := by
  intro pins s σ H xs us Q I r h
  obtain ⟨a, bs, rfl, hs, hd, hal, hk, hdep, q⟩ := h
  obtain ⟨its, rv, hl, hz⟩ := I.list hs
  rw [List.length_map] at hz
  rw [Vals.ref1 r]
  refine PySem.W.sorted_data (R := fun u b => RelV b.1 u) (enc := Prod.snd) (bs := bs) hl.isList (each_of rv fun b _ u h => h) (each_of rv fun b hb u h => Dp.reads I b.2 b.1 u (hd b hb) h) hal hk hz (fun b hb => by have := hdep b hb; omega) fun out hlen eo => ?_
  obtain ⟨ep, he'⟩ := PyProof.Rows.sortedAll_at s.heap its out.toArray
  have hl2 : ((bs.mergeSort (PySem.W.dataLe false Prod.snd)).map Prod.fst).length ≤ sizeLine := by
    rw [List.length_map, List.length_mergeSort]
    exact hz
  exact ⟨.ref _, upd H (s.heap.objs.size + 1) (.lst ((bs.mergeSort (PySem.W.dataLe false Prod.snd)).map Prod.fst)), I.laid (t' := s.toks) (fun _ _ => PyProof.Rows.sortedAll_old) (Nat.le_succ _) ⟨hl2, out, ep, of_each eo, he'⟩, rfl, q _ (I.hok.fresh (Nat.le_succ _))⟩
theorem minD_mem : ∀ (xs : List PyData) (x : PyData), PySem.W.minD x xs ∈ x :: xs
  | [], x => List.mem_cons_self
  | y :: r, x => by
    have := minD_mem r (if PySem.W.dataLt y x then y else x)
    show PySem.W.minD (if PySem.W.dataLt y x then y else x) r ∈ _
    rcases List.mem_cons.mp this with h | h
    · rw [h]
      split
      · simp
      · simp
    · simp [h]
theorem vals_get : ∀ {xs : List V} {its : List Value}, Vals xs its → ∀ (i : Nat) {x : V} {v : Value}, xs[i]? = some x → its[i]? = some v → RelV x v
  | _, _, .nil, i, _, _, h, _ => by simp at h
  | _, _, .cons h t, 0, _, _, hx, hv => by cases hx; cases hv; exact h
  | _, _, .cons h t, i + 1, _, _, hx, hv => vals_get t i (by simpa using hx) (by simpa using hv)
def rMinDat (K : PySem.W.Frag) : List V → Hp → VK → Prop := fun vs H Q => ∃ (a : Addr) (xs : List V) (d0 : PyData) (ds : List PyData), vs = [V.ref a] ∧ SqL K H a xs ∧ DpAll K H xs (d0 :: ds) ∧ PySem.W.AlikeAll (d0 :: ds) ∧ PyData.depthAll (d0 :: ds) ≤ 60 ∧
  ∀ (i : Nat) (v : V), xs[i]? = some v → (d0 :: ds)[i]? = some (PySem.W.minD d0 ds) → Q v H
theorem cr_minDat (hc : X.calm = true) (hu : X.A.units + 66 < cLine) : CallR X (.builtin "min") (rMinDat X.K) := by
  intro pins s σ H vs us Q I r h
  obtain ⟨a, xs, d0, ds, rfl, hs, hD, ha, hdep, q⟩ := h
  obtain ⟨its, rv, hl, hz⟩ := I.list hs
  rw [Vals.ref1 r]
  obtain ⟨as, hr⟩ := Dp.readsAll I (d0 :: ds) xs its hD rv
  refine PySem.W.min_list_data (x := d0) (xs := ds) (I.ok.hd hc) hl.isList (by simpa using hr) ha (by omega) fun i v h' tk bs hv hrd hk => ?_
  have hv' : its[i]? = some v := by simpa using hv
  obtain ⟨bs2, hr2, hi, hm, _⟩ := PySem.W.readsAll_at hr i v hv'
  have e := PySem.W.alike_unique _ _ v bs2 bs (ha.1 _ hm _ (minD_mem ds d0)) (PyProof.Rows.Reads.keeps hk hr2) hrd
  obtain ⟨x, hx⟩ : ∃ x, xs[i]? = some x := by
    have hlt := (List.getElem?_eq_some_iff.mp hv').1
    rw [← rv.length] at hlt
    exact ⟨_, List.getElem?_eq_getElem hlt⟩
  have hrel : RelV x v := vals_get rv i hx hv'
  exact ⟨x, H, I.kept hk, hrel, q i x hx (by
    rw [List.getD_eq_getElem?_getD, List.getElem?_eq_getElem hi] at e
    rw [List.getElem?_eq_getElem hi]
    exact congrArg some e)⟩
end
end EnL
end S_Rd
section S_Rs
namespace Hk
open PySem PySem.Spec PyProof.Rows L2
/-- sorted(d) of a dict with integers as keys, up to 10,000 -/
def rSortedDA : List V → Hp → VK → Prop := fun vs H Q => ∃ (d : Addr) (m : List (Key × V)) (ns : List Int), vs = [V.ref d] ∧ Rd H d (.dK m) ∧ m.map (·.1) = ns.map Sum.inl ∧ ns.length ≤ 10000 ∧
  ∀ (ms : List Int) (l : Addr), ms.Perm ns → ms.Pairwise (· ≤ ·) → H l = none → Q (.ref l) (upd H l (.lst (ms.map V.int)))
theorem cr_sortedDA {X : Cx} (hc : X.calm = true) : CallR X (.builtin "sorted") rSortedDA := by
  intro pins s σ H vs us Q I r h
  obtain ⟨d, m, ns, rfl, hd, hk, hn, q⟩ := h
  rw [Vals.ref1 r]
  obtain ⟨_, lo, ws, rel, dd⟩ := dk_rd I.hok hd
  obtain ⟨ep, hat⟩ := dd.dictAt
  have ek : ws.map (·.1) = ns.map Sum.inl := rel.keys.symm.trans hk
  have el : ws.length = ns.length := by simpa using congrArg List.length ek
  have hsz : sizeLine = 16777216 := sizeLine_eq
  refine Calls.call_function_entry kind_sorted plain_sorted entry_sorted (args_sorted1 _) ?_
  unfold Builtin.«sorted»
  refine wpAny_bind (m := checkCount "sorted" 1 1 _) (wpAny_pure ?_)
  refine wpAny_bind (PySem.W.kdu_collect (A := X.A.in1) (PySem.W.kdl_dict (knd := mixKind X.prog X.w) (kvs := ws) (ep := ep) lo) (I.ok.hd hc) hat (by rw [el]; omega) fun g tk got kp hg => ?_)
  have lg : got.toList.length = ns.length := by rw [Array.length_toList, hg.1, el]
  have whole : IntsAre got.toList ns := ints_each lg fun j v ev => by
    obtain ⟨k, x, e1, e2⟩ := hg.2 j v (by rw [← Array.getElem?_toList]; exact ev)
    have e3 : (ns.map (Sum.inl : Int → Key))[j]? = some k := by rw [← ek, List.getElem?_map, e1]; rfl
    obtain ⟨y, hy, rfl⟩ : ∃ y, ns[j]? = some y ∧ k = Sum.inl y := by
      rw [List.getElem?_map] at e3
      cases e4 : ns[j]? with
      | none => rw [e4] at e3; cases e3
      | some y => rw [e4] at e3; exact ⟨y, rfl, (Option.some.inj e3).symm⟩
    rcases keyIs_shape (show keyIs (Sum.inl y) v = true from e2) with ⟨i, t, e5, e6⟩ | ⟨z, t, e5, e6⟩
    · cases e5
      exact ⟨y, t, hy, e6⟩
    · cases e5
  have J : Inv X pins σ H { s with heap := g, toks := tk } := I.kept kp
  refine wpAny_bind (wpAny_newList ?_ (by rw [lg]; omega))
  have at0 : (g.push (seqObj "list" got.toList.toArray 0)).get? g.objs.size = some (seqObj "list" got.toList.toArray 0) := Heap.get?_push_size _ rfl
  refine wpAny_bind (wpAny_holding (wpAny_call_entry slot_list_sort ⟨_, at0, rfl⟩ entry_list_sort (list_sort_treeAny (s := { s with heap := g.push (seqObj "list" got.toList.toArray 0), toks := tk }) at0 whole (by rw [lg]; omega) fun res ms b1 b2 b3 => ⟨_, rfl, ?_⟩) (args_list_sort _)))
  obtain ⟨cc, hcc⟩ := sortedHeap_at (vs := got.toList) (out := res) at0
  have hl : (ms.map V.int).length ≤ sizeLine := by rw [List.length_map, b2.length_eq]; omega
  refine wpAny_pure ⟨_, rfl, .ref g.objs.size, upd H g.objs.size (.lst (ms.map V.int)), J.laid (t' := tk) (fun b u e => ?_) (Nat.le_refl _) (show ObjOk X.prog X.w _ _ _ (.lst (ms.map V.int)) from ⟨hl, res.toList, cc, vals_of_ints b1, by rw [Array.toArray_toList]; exact hcc⟩), rfl, q ms _ b2 b3 (J.hok.fresh (Nat.le_refl _))⟩
  have lt1 : b < g.objs.size := Heap.lt_size e
  exact (sortedHeap_old (Nat.ne_of_lt lt1) (by rw [size_push']; exact Nat.lt_succ_of_lt lt1)).trans (Heap.get?_push_of_some _ e)
end Hk
end S_Rs
section S_Rzb
/-! sorted(d), d a dict keyed by tuples; d.update(l) of pairs whose keys are tuples; for k in such a dict -/
namespace Hk
open PySem PySem.Spec PyProof.Rows L2 Tl EnL
def kDat : L2.Key → PyData
  | .inl i => .int i
  | .inr s => .str s
def kvDat (kv : List L2.Key × V) : PyData := .tuple (kv.1.map kDat)
theorem dpa_keys {K : PySem.W.Frag} {H : Hp} : ∀ ks : List L2.Key, DpAll K H (ks.map kV) (ks.map kDat)
  | [] => .nil
  | .inl i :: r => .cons (.int i) (dpa_keys r)
  | .inr s :: r => .cons (.str s) (dpa_keys r)
theorem dp_key {K : PySem.W.Frag} {H : Hp} {b : Addr} {ks : List L2.Key} (h : H b = some (.tup (ks.map kV))) : Dp K H (.ref b) (.tuple (ks.map kDat)) := .tup (.inl (.inl h)) (dpa_keys ks)
theorem kt_data {H : Hp} : ∀ {kvs : List (List L2.Key × V)} {ks : List (List L2.Key × Addr × Value)}, KT H kvs ks → (ks.map fun x => PyData.tuple (x.1.map kDat)) = kvs.map kvDat ∧ ∀ x ∈ ks, H x.2.1 = some (.tup (x.1.map kV))
  | _, _, .nil => ⟨rfl, fun _ h => nomatch h⟩
  | _, _, .cons (a := p) (b := x) h t => by
    obtain ⟨i1, i2⟩ := kt_data t
    obtain ⟨h1, h2, _⟩ := h
    refine ⟨?_, fun y hy => ?_⟩
    · rw [List.map_cons, List.map_cons, i1]
      show PyData.tuple (x.1.map kDat) :: _ = PyData.tuple (p.1.map kDat) :: _
      rw [h1]
    · rcases List.mem_cons.mp hy with rfl | hy
      · rw [← h1]; exact h2
      · exact i2 y hy
def rSortedDT (K : PySem.W.Frag) : List V → Hp → VK → Prop := fun vs H Q => ∃ (d : Addr) (kvs : List (List L2.Key × V)), vs = [V.ref d] ∧ Rd H d (.dT kvs) ∧ PySem.W.AllAlike (kvs.map kvDat) ∧ PySem.W.Sortable (kvs.map kvDat) ∧ kvs.length ≤ 100000 ∧ (∀ kv ∈ kvs, (kvDat kv).depth ≤ 60) ∧
  ∀ (p : Addr) (bs : List (V × PyData)), H p = none → bs.map Prod.snd = kvs.map kvDat → (∀ b ∈ bs, Dp K H b.1 b.2) → Q (.ref p) (upd H p (.lst ((bs.mergeSort (PySem.W.dataLe false Prod.snd)).map Prod.fst)))
section
variable {X : Cx}
theorem cr_sortedDT (hc : X.calm = true) (hu : X.A.units + 66 < cLine) : CallR X (.builtin "sorted") (rSortedDT X.K) := by
  intro pins s σ H vs us Q I r h
  obtain ⟨d, kvs, rfl, hd, hal, hso, hn, hdep, q⟩ := h
  rw [Vals.ref1 r]
  obtain ⟨z, hs, ks, pr, o, es, ep, ho, hx, hdt, he, hnd⟩ := (show ObjOk X.prog X.w H s.heap d (.dT kvs) from hd.ok I.hok)
  have l1 : es.size = ks.length := size_of_entries he
  have l2 : kvs.length = ks.length := Paired.length pr
  have hsz : sizeLine = 16777216 := sizeLine_eq
  refine Calls.call_function_entry kind_sorted plain_sorted entry_sorted (args_sorted1 _) ?_
  unfold Builtin.«sorted»
  refine wpAny_bind (m := checkCount "sorted" 1 1 _) (wpAny_pure ?_)
  refine wpAny_bind (PySem.W.kdu_collect (A := X.A.in1) (kdl_raw hs hx hdt) (I.ok.hd hc) ho (by omega) fun g tk got kp it => ?_)
  -- what is collected: the keys' addresses
  have ea : got.toList = ks.map fun x => Value.ref x.2.1 := by
    refine List.ext_getElem? fun j => ?_
    rw [List.getElem?_map]
    have hlen : got.toList.length = ks.length := by rw [Array.length_toList, it.1]; exact l1
    rcases Nat.lt_or_ge j ks.length with hj | hj
    · have hj2 : j < got.toList.length := by omega
      rw [List.getElem?_eq_getElem hj]
      obtain ⟨en, hen, hv⟩ := it.2 j (got.toList[j]) (by rw [← Array.getElem?_toList]; exact List.getElem?_eq_getElem hj2)
      have qe := entry_at he j
      rw [hen, List.getElem?_eq_getElem hj] at qe
      have e2 : en = entryOfKey (tupleKind (mixKind X.prog X.w)) ks[j] := Option.some.inj qe
      rw [List.getElem?_eq_getElem hj2, hv, e2]
      all_goals rfl
    · rw [List.getElem?_eq_none hj, List.getElem?_eq_none (by omega)]
      rfl
  generalize hbs : (ks.map fun x => ((V.ref x.2.1 : V), PyData.tuple (x.1.map kDat))) = bs
  have lb : bs.length = ks.length := by rw [← hbs, List.length_map]
  have hk : bs.map Prod.snd = kvs.map kvDat := by
    rw [← hbs, List.map_map]
    exact (kt_data pr).1
  have hdp : ∀ b ∈ bs, Dp X.K H b.1 b.2 := by
    rw [← hbs]
    intro b hb
    obtain ⟨x, hx, rfl⟩ := List.mem_map.mp hb
    exact dp_key ((kt_data pr).2 x hx)
  have rv : Vals (bs.map Prod.fst) got.toList := by
    rw [ea, ← hbs, List.map_map]
    have : ∀ l : List (List L2.Key × Addr × Value), Vals (l.map (Prod.fst ∘ fun x => ((V.ref x.2.1 : V), PyData.tuple (x.1.map kDat)))) (l.map fun x => Value.ref x.2.1) := fun l => by
      induction l with
      | nil => exact .nil
      | cons x r ih => exact .cons rfl ih
    exact this ks
  have J : Inv X pins σ H { s with heap := g, toks := tk } := I.kept kp
  have lg : got.toList.length ≤ sizeLine := by rw [Array.length_toList, it.1]; omega
  refine wpAny_bind (wpAny_newList ?_ (by rw [Array.length_toList] at lg; exact lg))
  have at0 : (g.push (seqObj "list" got.toList.toArray 0)).get? g.objs.size = some (seqObj "list" got.toList.toArray 0) := Heap.get?_push_size _ rfl
  have e : PySem.W.EachIs (fun u b => RelV b.1 u) got.toList bs := each_of rv fun b _ u h => h
  have er : PySem.W.EachIs (fun v b => ∃ as, Reads (PySem.W.sortingHeap (g.push (seqObj "list" got.toList.toArray 0)) g.objs.size got.toList) v b.2 as) got.toList bs := each_of rv fun b hb u h => by
    obtain ⟨as, hr⟩ := Dp.reads J b.2 b.1 u (hdp b hb) h
    exact ⟨as, PyProof.Rows.Reads.keeps (fun c oc hc => PySem.W.sortingHeap_old (Nat.ne_of_lt (Heap.lt_size hc)) (Heap.get?_push_of_some _ hc)) hr⟩
  have hal' : PySem.W.AllAlike (bs.map Prod.snd) := by rw [hk]; exact hal
  have S := PySem.W.SortsAt.data (prog := X.prog) (w := X.w) (A := X.A.in1.in1) (s := { s with heap := PySem.W.sortingHeap (g.push (seqObj "list" got.toList.toArray 0)) g.objs.size got.toList, toks := tk }) (PySem.W.each_map (R := fun v d => ∃ as, Reads _ v d as) Prod.snd er) hal' (by rw [hk]; exact hso) (fun d hd => by
    rw [hk] at hd
    obtain ⟨kv, h1, rfl⟩ := List.mem_map.mp hd
    have := hdep kv h1
    show (X.A.units + 1) + 1 + _ < cLine
    omega)
  refine wpAny_bind (wpAny_holding (wpAny_call_entry slot_list_sort ⟨_, at0, rfl⟩ entry_list_sort (PySem.W.list_sort_vals (s := { s with heap := g.push (seqObj "list" got.toList.toArray 0), toks := tk }) at0 S lg ⟨_, rfl, ?_⟩) (args_list_sort _)))
  obtain ⟨cc, hcc⟩ := sortedHeap_at (vs := got.toList) (out := (PySem.W.sortVals (PySem.W.dataKind (PySem.W.sortingHeap (g.push (seqObj "list" got.toList.toArray 0)) g.objs.size got.toList) (bs.map Prod.snd)) false got.toList got.toList).toArray) at0
  have eo := PySem.W.sortVals_data false e er hal'
  have hl : ((bs.mergeSort (PySem.W.dataLe false Prod.snd)).map Prod.fst).length ≤ sizeLine := by rw [List.length_map, List.length_mergeSort]; omega
  refine wpAny_pure ⟨_, rfl, .ref g.objs.size, upd H g.objs.size (.lst ((bs.mergeSort (PySem.W.dataLe false Prod.snd)).map Prod.fst)), J.laid (t' := tk) (fun b u e => ?_) (Nat.le_refl _) (show ObjOk X.prog X.w _ _ _ (.lst _) from ⟨hl, _, cc, of_each eo, hcc⟩), rfl, q _ _ (J.hok.fresh (Nat.le_refl _)) hk hdp⟩
  have lt1 : b < g.objs.size := Heap.lt_size e
  exact (sortedHeap_old (Nat.ne_of_lt lt1) (by rw [size_push']; exact Nat.lt_succ_of_lt lt1)).trans (Heap.get?_push_of_some _ e)
end
end Hk
end S_Rzb
section S_Rzc
/-! d.update(l) of pairs whose keys are tuples; for k in a dict keyed by tuples that nobody writes any more -/
namespace Hk
open PySem PySem.Spec PyProof.Rows L2 Tl EnL
def mergeT (kvs more : List (List L2.Key × V)) : List (List L2.Key × V) := more.foldl (fun acc kv => putK acc kv.1 kv.2) kvs
theorem mergeT_len : ∀ (more kvs : List (List L2.Key × V)), (mergeT kvs more).length ≤ kvs.length + more.length
  | [], _ => Nat.le_refl _
  | p :: r, kvs => by
    have h1 := mergeT_len r (putK kvs p.1 p.2)
    have h2 := length_putK kvs p.1 p.2
    rw [List.length_cons]
    show (mergeT (putK kvs p.1 p.2) r).length ≤ _
    omega
theorem kt_merge {H : Hp} : ∀ {more : List (List L2.Key × V)} {rs : List (List L2.Key × Addr × Value)} {kvs : List (List L2.Key × V)} {vs : List (List L2.Key × Addr × Value)}, KT H more rs → KT H kvs vs → KT H (mergeT kvs more) (storedAllH vs rs)
  | _, _, _, _, .nil, h => h
  | _, _, kvs, vs, .cons (a := p) (b := x) h t, h0 => by
    obtain ⟨h1, h2, h3⟩ := h
    have := h0.put x.1 (b := x.2.1) (by rw [← h1]; exact h2) h3
    show KT H (mergeT (putK kvs p.1 p.2) _) (storedAllH (storedH vs x.1 x.2.1 x.2.2) _)
    rw [← h1] at this ⊢
    exact kt_merge t this
section
variable {X : Cx}
/-- a pair handed over: its key a tuple -/
def PairK (K : PySem.W.Frag) (H : Hp) (p : Addr) (kv : List L2.Key × V) : Prop := ∃ b, SqT K H p [.ref b, kv.2] ∧ H b = some (.tup (kv.1.map kV))
theorem pairs_updT {pins : List (Addr × Obj)} {σ : L2.St} {H : Hp} {s : Shared} (I : Inv X pins σ H s) : ∀ {ps : List Addr} {kvs : List (List L2.Key × V)}, Paired (PairK X.K H) ps kvs →
    ∃ (prs : List (List L2.Key × Addr × Value)) (pv : List (Value × Value)), KT H kvs prs ∧ prs.length = ps.length ∧ pv.length = ps.length ∧ ∀ (j : Nat) (k v : Value), pv[j]? = some (k, v) → ∃ (b c : Addr) (key : List L2.Key), ps[j]? = some b ∧ IsTup s.heap b #[k, v] ∧ prs[j]? = some (key, c, v) ∧ k = .ref c
  | _, _, .nil => ⟨[], [], .nil, rfl, rfl, fun j k v e => by simp at e⟩
  | _, _, .cons (a := p) (b := kv) h t => by
    obtain ⟨prs, pv, r, hl, hl2, hp⟩ := pairs_updT I t
    obtain ⟨b, h, hb⟩ := h
    obtain ⟨its, rv, ht, _⟩ := I.tuple h
    obtain ⟨u, y, ei, ru, ry⟩ := vals2 rv
    subst ei
    cases (show u = Value.ref b from ru)
    refine ⟨(kv.1, b, y) :: prs, (.ref b, y) :: pv, .cons ⟨rfl, hb, ry⟩ r, by rw [List.length_cons, List.length_cons, hl], by rw [List.length_cons, List.length_cons, hl2], fun j k v e => ?_⟩
    cases j with
    | zero =>
      have e' : (Value.ref b, y) = (k, v) := Option.some.inj e
      cases e'
      exact ⟨p, b, kv.1, rfl, ht, rfl, rfl⟩
    | succ j =>
      obtain ⟨b2, c, key, e1, e2, e3, e4⟩ := hp j k v (by simpa using e)
      exact ⟨b2, c, key, by simpa using e1, e2, by simpa using e3, e4⟩
/-- d.update(l), l a list of pairs (key, value), the keys tuples -/
def rUpdT (K : PySem.W.Frag) : V → List V → Hp → VK → Prop := fun x xs H Q => ∃ (d a : Addr) (ps : List Addr) (old kvs : List (List L2.Key × V)), x = .ref d ∧ xs = [.ref a] ∧ H d = some (.dT old) ∧ SqL K H a (ps.map V.ref) ∧ Paired (PairK K H) ps kvs ∧ old.length + kvs.length ≤ 100000 ∧
  Q .non (upd H d (.dT (mergeT old kvs)))
theorem mt_updT (hu : X.A.units + 66 < cLine) (hcalm : X.calm = true) : MtR X "dict.update" (rUpdT X.K) := by
  intro pins s σ H x xs v us Q I rx rxs h
  obtain ⟨d, a, ps, old, kvs, rfl, rfl, hd, hq, hp, hsz, q⟩ := h
  cases rx
  obtain ⟨u, rfl, ru⟩ := vals1 rxs
  cases ru
  obtain ⟨its, rv, pl, hz⟩ := I.list hq
  have ei := refs_at rv
  subst ei
  obtain ⟨prs, pv, rel, hl, hl2, hpr⟩ := pairs_updT I hp
  obtain ⟨o, n, ho, hc, hdd, hdat⟩ := pl
  obtain ⟨z, lo, vs, rel0, dd⟩ := dt_of I.hok hd
  obtain ⟨od, hod, odc, _⟩ := id dd
  have lk : kvs.length = ps.length := (Paired.length rel).trans hl
  have dty : ∀ ob : Obj, s.heap.get? d = some ob → ob.cls = .type "dict" := fun ob e => by
    obtain ⟨o2, es, ep, h1, h2, _⟩ := dd
    rw [e] at h1
    cases h1
    exact h2.1
  have dne : ∀ (b : Addr) (ob : Obj), s.heap.get? b = some ob → ob.cls ≠ .type "dict" → d ≠ b := fun b ob hb hcl e => by
    subst e
    exact hcl (dty ob hb)
  refine PySem.call_update_pairsH (knd := tupleKind (mixKind X.prog X.w)) (acc := vs) (ps := prs) (d := d) (PySem.PairArg.list a (ps.map Value.ref).toArray (fun j => ps.getD j 0) pv) (I.ok.hd hcalm) (show X.A.units + 1 < cLine by omega)
    ⟨⟨o, n, ho, hc, hdd, hdat⟩, by rw [List.size_toArray, List.length_map, hl2], fun j k v e => ?_⟩ (fun hm => ?_) ⟨by rw [hl, hl2], fun i key v e => ?_⟩ (fun h' hk x hx => ?_) dd (by rw [hl2, ← lk, ← Paired.length rel0]; rw [sizeLine_eq]; omega) fun h' tk hd' kp => ?_
  · obtain ⟨b, c, key, e1, e2, e3, e4⟩ := hpr j k v e
    have eb : ps.getD j 0 = b := by rw [List.getD_eq_getElem?_getD, e1]; rfl
    refine ⟨by rw [List.getElem?_toArray, List.getElem?_map, e1]; exact congrArg (fun z => some (Value.ref z)) eb.symm, .inl ?_⟩
    show s.heap.IsTuple (ps.getD j 0) _
    rw [eb]
    exact e2
  · rcases List.mem_cons.mp hm with e | e
    · exact dne a o ho (by rw [hc]; decide) e
    · obtain ⟨j, hj, e⟩ := List.mem_map.mp e
      have hj := List.mem_range.mp hj
      obtain ⟨⟨k, v⟩, ev⟩ : ∃ p, pv[j]? = some p := ⟨_, List.getElem?_eq_getElem hj⟩
      obtain ⟨b, c, key, e1, ⟨ob, e2, e3, _⟩, _, _⟩ := hpr j k v ev
      have eb : ps.getD j 0 = b := by rw [List.getD_eq_getElem?_getD, e1]; rfl
      exact dne b ob e2 (by rw [e3]; decide) (by rw [← e, eb])
  · obtain ⟨b, c, k, e1, e2, e3, e4⟩ := hpr i key v e
    exact ⟨k, c, e3, e4⟩
  · have at0 : H x.2.1 = some (.tup (x.1.map kV)) := by
      rcases List.mem_append.mp hx with hx | hx
      · exact (kt_data rel0).2 x hx
      · exact (kt_data rel).2 x hx
    obtain ⟨ob, its, m, h1, h2, h3, h4⟩ := key_of (P := X.prog) (w := X.w) I.hok at0
    exact ⟨ob, its, m, hk _ _ (fun z => by rw [z] at h1; have := dty ob h1; rw [h2] at this; exact absurd this (by decide)) (fun z => nomatch z) h1, h2, h3, h4⟩
  · have hlen : (mergeT old kvs).length ≤ sizeLine := by
      refine Nat.le_trans (mergeT_len kvs old) ?_
      rw [sizeLine_eq]
      omega
    obtain ⟨q1, es, ep, hq1, h2, h3, h4, _, h5⟩ := id hd'
    refine ⟨.non, upd H d (.dT (mergeT old kvs)), I.write (x := d) (e := d) (t' := tk) (by rw [hd]; trivial) (.inl rfl) (fun b ob hb e => kp b ob hb (fun z => nomatch z) e) ⟨q1, hq1⟩ ⟨hlen, lo, _, (kt_merge rel rel0).keeps fun c ys ec => ?_, q1, es, ep, hq1, h2, h3, h4, h5⟩, rfl, q⟩
    rw [upd_ne (fun z => by rw [z, hd] at ec; cases ec)]
    exact ec
/-- for k in d: d a dict keyed by tuples, that stays as it is from here on -/
def iKeysF (td : TE) : TI := fun σ H R => td σ H fun x H1 => ∃ d kvs, x = .ref d ∧ H1 d = some (.dT kvs) ∧ ∀ od, R (Itkt d od kvs) (upd H1 d (.frz od (.dT kvs)))
theorem pi_keysF {tg e : Expr} {td : TE} (he : PE X e td) : PI X tg e (iKeysF td) := by
  refine ⟨fun pins s σ H R I h => ?_⟩
  refine thn (he.run pins s σ H _ I h) fun u s1 ⟨x, H1, I1, rx, d, kvs, ex, hd, q⟩ => ?_
  subst ex
  obtain rfl : u = Value.ref d := rx
  obtain ⟨od, I2⟩ := I1.lock hd trivial
  obtain ⟨hs, hgd, hx, es, ep, hdt, hsz, ent⟩ := I2.frzT upd_same
  refine iter_keys hs hgd hx hdt (pi_one (tk := s1.toks) I2 _ (turn_keysT _ hdt) ⟨_, Heap.get?_push_size _ rfl, rfl, ?_⟩ (q od))
  rw [hsz] <;> rfl
end
end Hk
end S_Rzc
section S_Ry
/-! a list comprehension of three clauses -/
namespace Hk
open PySem PySem.Spec PyProof.Rows L2
/-! ### a clause's turn -/
def OutEq (e : Expr) (d : Nat) (tg itr nx : Expr) (ifs : List Expr) : Prop := ∀ (it acc : Value) (env : Env), compTurn e d it acc env = (do
  standAt itr.pos
  match ← pyNext it with
  | none => pure (.done .next)
  | some u =>
    letOwnedTupleGo tg it u
    assign tg env u
    let mut fine := true
    for q in ifs do
      if fine then fine ← isTrue q env (eval q env)
    if fine then
      let x ← eval nx env
      standAt nx.pos
      let y ← foldedSetIterable nx env x
      let _ ← runOwn (.compStart e (d + 1) (← holding [y] (pyIter y)) acc env) env
    again (.compLoop e d it acc env))
def InEq (e elt : Expr) (d : Nat) (tg itr : Expr) (ifs : List Expr) : Prop := ∀ (it acc : Value) (env : Env), compTurn e d it acc env = (do
  standAt itr.pos
  match ← pyNext it with
  | none => pure (.done .next)
  | some u =>
    letOwnedTupleGo tg it u
    assign tg env u
    let mut fine := true
    for q in ifs do
      if fine then fine ← isTrue q env (eval q env)
    if fine then
      (do let _ ← call (.builtin "list.append") [acc, ← eval elt env])
    again (.compLoop e d it acc env))
abbrev tests (ifs : List Expr) (env : Env) : Sem Bool := forIn ifs true fun q b => if b = true then do let z ← isTrue q env (eval q env); pure (ForInStep.yield z) else pure (ForInStep.yield b)
abbrev No {α : Type} : α → Shared → Prop := fun _ _ => False
/-- what a loop of a clause comes to, by what its body does -/
def LoopBy (M : Model) (A : Around) (e : Expr) (d : Nat) (tg : Expr) (ifs : List Expr) (acc : Value) (env : Env) (BD : (Shared → Prop) → Shared → Prop) : Prop :=
  ∀ (it : Value) (R : Result → Shared → Prop) (I : Nat → Shared → Prop), (∀ n s, I n s → wpAny M A (pyNext it) (fun r s1 => match r with
      | none => R (.ok .next) s1
      | some u => wpAny M A (letOwnedTupleGo tg it u) (fun _ s2 => wpAny M A (assign tg env u) (fun _ s3 => wpAny M A (tests ifs env) (fun b s4 => if b = true then BD (fun s' => ∃ m, m < n ∧ I m s') s4 else ∃ m, m < n ∧ I m s4) No s3) No s2) No s1) No s) →
    ∀ n s, I n s → codeAny M A (.compLoop e d it acc env) R s
theorem loop_out {prog : Program} {w : World} {A : Around} {el : Expr} {gens : List Comprehension} {sc : Scope} {ps : Pos} {d : Nat} {tg itr nx : Expr} {ifs : List Expr} {acc : Value} {env : Env} (h : OutEq (.ListComp el gens sc ps) d tg itr nx ifs) (hs : ∀ x, foldedSetIterable nx env x = pure x) :
    LoopBy (model prog w) A (.ListComp el gens sc ps) d tg ifs acc env (fun K s => wpAny (model prog w) A (eval nx env) (fun x s1 => wpAny (model prog w) A (pyIter x) (fun i1 s2 => codeAny (model prog w) A (.compStart (.ListComp el gens sc ps) (d + 1) i1 acc env) (fun r s' => match r with
      | .ok _ => K s'
      | .error _ => False) s2) No s1) No s) := by
  intro it R I turn n s h0
  refine codeAny_loop rfl I (fun n s hI => ?_) n h0
  show wpAny _ A ((compTurn (.ListComp el gens sc ps) d it acc env).onRaise fun x => do noteFrame x env; theTreesLotGoes x) _ _ s
  refine wpAny_noted ?_
  rw [h]
  refine wpAny_bind (wpAny_standAt (wpAny_bind (wpAny_mono (turn n s hI) (fun r s1 k1 => ?_) fun _ _ z => z.elim)))
  cases r with
  | none => exact wpAny_pure k1
  | some u =>
    refine wpAny_bind (wpAny_mono k1 (fun _ s2 k2 => wpAny_bind (wpAny_mono k2 (fun _ s3 k3 => wpAny_bind (wpAny_mono k3 (fun b s4 k4 => ?_) fun _ _ z => z.elim)) fun _ _ z => z.elim)) fun _ _ z => z.elim)
    cases b with
    | false => exact wpAny_pure ⟨rfl, k4⟩
    | true =>
      refine wpAny_bind (wpAny_mono k4 (fun x s5 k5 => wpAny_bind (wpAny_standAt (wpAny_bind (wpAny_of_eq (hs x) (wpAny_bind (wpAny_holding (wpAny_mono k5 (fun i1 s6 k6 => ?_) fun _ _ z => z.elim))))))) fun _ _ z => z.elim)
      refine wpAny_bind (wpAny_runOwn ?_)
      rw [Around.mark_none]
      refine codeAny_mono k6 fun r s' hr => ?_
      match r, hr with
      | .error _, hr => exact hr.elim
      | .ok _, hr =>
        first
          | exact wpAny_pure ⟨rfl, hr⟩
          | exact wpAny_bind (wpAny_pure (wpAny_pure ⟨rfl, hr⟩))
theorem loop_in {prog : Program} {w : World} {A : Around} {el elt : Expr} {gens : List Comprehension} {sc : Scope} {ps : Pos} {d : Nat} {tg itr : Expr} {ifs : List Expr} {acc : Value} {env : Env} (h : InEq (.ListComp el gens sc ps) elt d tg itr ifs) :
    LoopBy (model prog w) A (.ListComp el gens sc ps) d tg ifs acc env (fun K s => wpAny (model prog w) A (eval elt env) (fun x s1 => wpAny (model prog w) A (call (.builtin "list.append") [acc, x]) (fun _ s' => K s') No s1) No s) := by
  intro it R I turn n s h0
  refine codeAny_loop rfl I (fun n s hI => ?_) n h0
  show wpAny _ A ((compTurn (.ListComp el gens sc ps) d it acc env).onRaise fun x => do noteFrame x env; theTreesLotGoes x) _ _ s
  refine wpAny_noted ?_
  rw [h]
  refine wpAny_bind (wpAny_standAt (wpAny_bind (wpAny_mono (turn n s hI) (fun r s1 k1 => ?_) fun _ _ z => z.elim)))
  cases r with
  | none => exact wpAny_pure k1
  | some u =>
    refine wpAny_bind (wpAny_mono k1 (fun _ s2 k2 => wpAny_bind (wpAny_mono k2 (fun _ s3 k3 => wpAny_bind (wpAny_mono k3 (fun b s4 k4 => ?_) fun _ _ z => z.elim)) fun _ _ z => z.elim)) fun _ _ z => z.elim)
    cases b with
    | false => exact wpAny_pure ⟨rfl, k4⟩
    | true => exact wpAny_bind (wpAny_bind (wpAny_mono k4 (fun x s5 k5 => wpAny_bind (wpAny_mono k5 (fun _ s6 k6 => wpAny_pure (wpAny_pure ⟨rfl, k6⟩)) fun _ _ z => z.elim)) fun _ _ z => z.elim))
/-! ### three clauses -/
abbrev e3 (elt t0 i0 t1 i1 t2 i2 : Expr) (f0 f1 f2 : List Expr) (scope : Scope) (pos : Pos) : Expr := .ListComp elt [⟨t0, i0, f0, 0⟩, ⟨t1, i1, f1, 0⟩, ⟨t2, i2, f2, 0⟩] scope pos
section
variable {elt t0 i0 t1 i1 t2 i2 : Expr} {f0 f1 f2 : List Expr} {scope : Scope} {pos : Pos}
theorem turn3_0 : OutEq (e3 elt t0 i0 t1 i1 t2 i2 f0 f1 f2 scope pos) 0 t0 i0 i1 f0 := fun _ _ _ => rfl
theorem turn3_1 : OutEq (e3 elt t0 i0 t1 i1 t2 i2 f0 f1 f2 scope pos) 1 t1 i1 i2 f1 := fun _ _ _ => rfl
theorem turn3_2 : InEq (e3 elt t0 i0 t1 i1 t2 i2 f0 f1 f2 scope pos) elt 2 t2 i2 f2 := fun _ _ _ => rfl
theorem start3 {prog : Program} {w : World} {A : Around} {R : Result → Shared → Prop} {s : Shared} {it acc : Value} {env : Env} {d : Nat} (hd : d = 1 ∨ d = 2)
    (h0 : codeAny (model prog w) A (.compLoop (e3 elt t0 i0 t1 i1 t2 i2 f0 f1 f2 scope pos) d it acc env) R s)
    (h : wpAny (model prog w) A (pyIter it) (fun j s' => codeAny (model prog w) A (.compLoop (e3 elt t0 i0 t1 i1 t2 i2 f0 f1 f2 scope pos) d j acc env) R s') (notedBy (model prog w) A env fun x s' => R (.error x) s') s) :
    codeAny (model prog w) A (.compStart (e3 elt t0 i0 t1 i1 t2 i2 f0 f1 f2 scope pos) d it acc env) R s := by
  refine codeAny_of_tree ?_
  show wpAny _ _ ((compStart (e3 elt t0 i0 t1 i1 t2 i2 f0 f1 f2 scope pos) d it acc env).onRaise fun x => do noteFrame x env; standAt theWindowsPlace) _ _ s
  refine wpAny_notedAt ?_
  rcases hd with rfl | rfl
  all_goals
    unfold compStart
    show wpAny _ _ (ask >>= _) _ _ s
    refine wpAny_bind (wpAny_askSetting (wpAny_ite ?_))
    split
    · first
        | exact wpAny_pure (And.intro rfl h0)
        | exact wpAny_bind (wpAny_pure (wpAny_pure (And.intro rfl h0)))
    · first
        | exact wpAny_bind (wpAny_rule (wpAny_bind (wpAny_standAt (wpAny_bind (wpAny_mono h (fun j s' k => wpAny_pure (And.intro rfl k)) fun _ _ z => z)))))
        | (refine wpAny_bind (wpAny_rule ?_); show wpAny _ _ (standAt _ >>= _) _ _ s; exact wpAny_bind (wpAny_standAt (wpAny_bind (wpAny_mono h (fun j s' k => wpAny_pure (And.intro rfl k)) fun _ _ z => z))))
end
end Hk
end S_Ry
section S_Rw
namespace Hk
open PySem PySem.Spec PyProof.Rows L2
theorem set_wipe (σ : L2.St) : ∀ {vs : List Nat} {v : Nat}, v ∈ vs → (wipe σ vs).set v none = wipe σ vs
  | u :: us, v, h => by
    show ((wipe σ us).set u none).set v none = (wipe σ us).set u none
    by_cases e : u = v
    · subst e
      rw [List.set_set]
    · rw [List.set_comm _ _ e, set_wipe σ ((List.mem_cons.mp h).resolve_left fun z => e z.symm)]
theorem wipe_sub (σ : L2.St) (vs : List Nat) : ∀ {ws : List Nat}, (∀ v ∈ ws, v ∈ vs) → wipe (wipe σ vs) ws = wipe σ vs
  | [], _ => rfl
  | v :: ws, h => by
    show (wipe (wipe σ vs) ws).set v none = wipe σ vs
    rw [wipe_sub σ vs fun u hu => h u (List.mem_cons_of_mem _ hu), set_wipe σ (h v List.mem_cons_self)]
/-- a clause's walk from σ, H: behind it Nx; body: what is done with what it lets through -/
def Walked (J : It) (g : TG) (tt : L2.TT) (vs : List Nat) (σ : L2.St) (H : Hp) (Nx : Hp → Prop) (body : L2.St → Hp → (Hp → Prop) → Prop) : Prop := ∃ W : Nat → Nat → Hp → Prop, (∃ m, W 0 m H) ∧ ∀ j k G, W j k G →
  (J.stop j G ∧ Nx G) ∨ (J.go j G ∧ ∃ Ny : Hp → Prop, (∀ G', Ny G' → ∃ k', k' < k ∧ W (j + 1) k' G') ∧ ∀ x G', J.yld j G x G' → g x (wipe σ vs) G' fun σ2 G2 => wipe σ2 vs = wipe σ vs ∧ tt σ2 G2 fun b G3 => if b = true then body σ2 G3 Ny else Ny G3)
def clW (wi : TI) (g : TG) (tt : L2.TT) (vs : List Nat) (σ : L2.St) (H : Hp) (Nx : Hp → Prop) (body : L2.St → Hp → (Hp → Prop) → Prop) : Prop := wi σ H fun J H1 => Walked J g tt vs σ H1 Nx body
section
variable {Y : Cx}
/-- what the body of a clause reaches -/
def GotC (Y : Cx) (pins : List (Addr × Obj)) (σ : L2.St) (vs : List Nat) (Ny : Hp → Prop) (s' : Shared) : Prop := ∃ σ4 H', Inv Y pins σ4 H' s' ∧ σ4.length = σ.length ∧ (∀ (j : Nat) v, σ[j]? = some (some v) → j ∉ vs → σ4[j]? = some (some v)) ∧ Ny H'
theorem clause_ok (nxe : ∀ v s, ¬Y.xe v s) (hc : Y.calm = true) {pins : List (Addr × Obj)} {σ : L2.St} {H : Hp} {s : Shared} {vs : List Nat} {tg : Expr} {ifs : List Expr} {e : Expr} {d : Nat} {acc : Value} {it : Addr} {fp : List Addr} {tn : Nat → Heap → Prop} {J : It} {g : TG} {tt : L2.TT} {Nx : Hp → Prop} {R : Result → Shared → Prop}
    {BD : (Shared → Prop) → Shared → Prop} {body : L2.St → Hp → (Hp → Prop) → Prop} (loop : LoopBy (model Y.prog Y.w) Y.A e d tg ifs acc Y.env BD) (mono : ∀ (K K' : Shared → Prop) s, (∀ s', K s' → K' s') → BD K s → BD K' s) (pg : PG Y tg g) (pt : PTs Y ifs tt)
    (T : Turn Y.prog Y.w Y.K tg J fp it tn) (stat : ∀ {σ' : L2.St} {H' : Hp} {s' : Shared}, Inv Y pins σ' H' s' → (∀ b ∈ fp, H' b = none) → ∀ b ∈ fp, FpOk Y pins H' b) (I : Inv Y pins σ H s) (st : tn 0 s.heap) (nf : ∀ b ∈ fp, H b = none) (w : Walked J g tt vs σ H Nx body)
    (hb : ∀ (pl : List (Addr × Obj)) (σ2 : L2.St) (G : Hp) (s2 : Shared) (Ny : Hp → Prop), Inv Y (pins ++ pl) σ2 G s2 → body σ2 G Ny → BD (GotC Y (pins ++ pl) σ2 vs Ny) s2)
    (hR : ∀ s' H', Inv Y pins (wipe σ vs) H' s' → tn = tn → Nx H' → R (.ok .next) s') : codeAny (model Y.prog Y.w) Y.A (.compLoop e d (.ref it) acc Y.env) R s := by
  obtain ⟨W, ⟨m0, w0⟩, turn⟩ := w
  refine loop (.ref it) R (fun n s' => ∃ j H', Inv Y pins (wipe σ vs) H' s' ∧ tn j s'.heap ∧ (∀ b ∈ fp, H' b = none) ∧ W j n H') ?_ m0 s ⟨0, H, I.weak (wipe_length _ _) (fun _ _ z => (wipe_some z).1), st, nf, w0⟩
  rintro n s1 ⟨j, H1, I1, st1, n1, w1⟩
  rcases turn j n H1 w1 with ⟨stop, nx⟩ | ⟨go, Ny, hN, step⟩
  · refine thnF (T.done Y rfl rfl rfl hc j pins s1 _ H1 No I1 (stat I1 n1) st1 stop) fun r s2 ⟨hr, I2⟩ => ?_
    subst hr
    exact hR s2 H1 I2 rfl nx
  · refine thnF (T.item Y rfl rfl rfl hc j pins s1 _ H1 No I1 (stat I1 n1) st1 go) fun r s2 ⟨u, hr, k2⟩ => ?_
    subst hr
    refine thnF k2 fun _ s3 ⟨x, H3, I3, r3, y3, st3, n3⟩ => ?_
    refine wpAny_mono (pg.run _ s3 _ H3 x u _ (I3.pinned (stat I3 n3) (T.obj _ _ st3)) r3 (step x H3 y3)) (fun _ s4 ⟨σ4, H4, I4, w4, q4⟩ => ?_) fun _ _ z => (nxe _ _ z).elim
    refine wpAny_mono (pt.run _ s4 σ4 H4 _ I4 q4) (fun b s5 ⟨H5, I5, q5⟩ => ?_) fun _ _ z => (nxe _ _ z).elim
    have fin : ∀ {s' : Shared}, GotC Y (pins ++ pinsAt fp s3.heap) σ4 vs Ny s' → ∃ m, m < n ∧ ∃ j H', Inv Y pins (wipe σ vs) H' s' ∧ tn j s'.heap ∧ (∀ b ∈ fp, H' b = none) ∧ W j m H' := fun {s'} ⟨σ6, H6, I6, l6, k6, n6⟩ => by
      obtain ⟨m, hm, w6⟩ := hN H6 n6
      have held : ∀ b ∈ fp, ∀ o, s3.heap.get? b = some o → s'.heap.get? b = some o ∧ H6 b = none := fun b hb o ho =>
        have z := I6.pin (b, o) (List.mem_append_right _ (List.mem_append_right _ (mem_pinsAt hb ho)))
        ⟨z.1, z.2.1⟩
      refine ⟨m, hm, j + 1, H6, I6.unpinned.weak (by rw [wipe_length, l6, ← wipe_length σ4 vs, w4, wipe_length]) (fun i v z => ?_), T.keep _ _ _ st3 fun b hb o ho => (held b hb o ho).1, fun b hb => ?_, w6⟩
      · rw [← w4] at z
        exact k6 i v (wipe_some z).1 (wipe_some z).2
      · obtain ⟨o, ho, _⟩ := T.obj _ _ st3 b hb
        exact (held b hb o ho).2
    cases b with
    | false =>
      rw [if_neg (by decide)] at q5 ⊢
      exact fin ⟨σ4, H5, I5, rfl, fun _ _ z _ => z, q5⟩
    | true =>
      rw [if_pos rfl] at q5 ⊢
      exact mono _ _ _ (fun s' z => fin z) (hb _ σ4 H5 s5 Ny I5 q5)
/-- the innermost: an item laid -/
def Laid (te : TE) (D : Addr) (σ : L2.St) (H : Hp) (Ny : Hp → Prop) : Prop := te σ H fun y H' => ∃ acc, H' D = some (.lst acc) ∧ acc.length < sizeLine ∧ Ny (upd H' D (.lst (acc ++ [y])))
theorem laid_ok (nxe : ∀ v s, ¬Y.xe v s) {elt : Expr} {te : TE} (pe : PE Y elt te) {D : Addr} {pins : List (Addr × Obj)} {σ : L2.St} {H : Hp} {s : Shared} {vs : List Nat} {Ny : Hp → Prop} (I : Inv Y pins σ H s) (h : Laid te D σ H Ny) :
    wpAny (model Y.prog Y.w) Y.A (eval elt Y.env) (fun x s1 => wpAny (model Y.prog Y.w) Y.A (call (.builtin "list.append") [.ref D, x]) (fun _ s' => GotC Y pins σ vs Ny s') No s1) No s :=
  wpAny_mono (pe.run _ s σ H _ I h) (fun _ _ ⟨_, _, I1, r1, _, hD, hz, ny⟩ => app_ok I1 hD hz r1 fun _ I2 => ⟨_, _, I2, rfl, fun _ _ z _ => z, ny⟩) fun _ _ z => (nxe _ _ z).elim
variable {elt t0 i0 t1 i1 t2 i2 : Expr} {f0 f1 f2 : List Expr} {scope : Scope} {pos : Pos}
/-- a clause within another -/
theorem within_ok (nxe : ∀ v s, ¬Y.xe v s) (hc : Y.calm = true) {d : Nat} {itr tg : Expr} {ifs : List Expr} {wi : TI} {g : TG} {tt : L2.TT} {D : Addr} {pins : List (Addr × Obj)} {σ : L2.St} {H : Hp} {s : Shared} {vs ws : List Nat} {Ny : Hp → Prop} {BD : (Shared → Prop) → Shared → Prop} {body : L2.St → Hp → (Hp → Prop) → Prop}
    (hd : d + 1 = 1 ∨ d + 1 = 2) (loop : LoopBy (model Y.prog Y.w) Y.A (e3 elt t0 i0 t1 i1 t2 i2 f0 f1 f2 scope pos) (d + 1) tg ifs (.ref D) Y.env BD) (mono : ∀ (K K' : Shared → Prop) s, (∀ s', K s' → K' s') → BD K s → BD K' s) (pi : PI Y tg itr wi) (pg : PG Y tg g) (pt : PTs Y ifs tt) (hw : ∀ v ∈ ws, v ∈ vs)
    (hb : ∀ (pl : List (Addr × Obj)) (σ2 : L2.St) (G : Hp) (s2 : Shared) (Nz : Hp → Prop), Inv Y (pins ++ pl) σ2 G s2 → body σ2 G Nz → BD (GotC Y (pins ++ pl) σ2 ws Nz) s2) (I : Inv Y pins σ H s) (h : clW wi g tt ws σ H Ny body) :
    wpAny (model Y.prog Y.w) Y.A (eval itr Y.env) (fun x s1 => wpAny (model Y.prog Y.w) Y.A (pyIter x) (fun j s2 => codeAny (model Y.prog Y.w) Y.A (.compStart (e3 elt t0 i0 t1 i1 t2 i2 f0 f1 f2 scope pos) (d + 1) j (.ref D) Y.env) (fun r s' => match r with
      | .ok _ => GotC Y pins σ vs Ny s'
      | .error _ => False) s2) No s1) No s := by
  refine wpAny_mono (pi.run pins s σ H _ I h) (fun xv s1 hx => wpAny_mono hx (fun j s2 k2 => ?_) fun _ _ z => (nxe _ _ z).elim) fun _ _ z => (nxe _ _ z).elim
  obtain ⟨it, fp, tn, J, H2, rfl, I2, T, st, ff, w⟩ := k2
  have lp : codeAny (model Y.prog Y.w) Y.A (.compLoop (e3 elt t0 i0 t1 i1 t2 i2 f0 f1 f2 scope pos) (d + 1) (.ref it) (.ref D) Y.env) (fun r s' => match r with
      | .ok _ => GotC Y pins σ vs Ny s'
      | .error _ => False) s2 :=
    clause_ok nxe hc loop mono pg pt T (fun _ hn b hb => ⟨hn b hb, (ff b hb).2⟩) I2 st (fun b hb => (ff b hb).1) w hb fun s' H' I' _ nx => ⟨_, H', I', wipe_length _ _, fun j v z hv => (by rw [wipe_out fun m => hv (hw j m)]; exact z), nx⟩
  exact start3 hd lp (T.self Y.A 0 _ _ _ st lp)
end
theorem out_mono {M : Model} {A : Around} {nx : Expr} {env : Env} {c : Value → Code} (K K' : Shared → Prop) (s : Shared) (h : ∀ s', K s' → K' s') (k : wpAny M A (eval nx env) (fun x s1 => wpAny M A (pyIter x) (fun j s2 => codeAny M A (c j) (fun r s' => match r with
      | .ok _ => K s'
      | .error _ => False) s2) No s1) No s) : wpAny M A (eval nx env) (fun x s1 => wpAny M A (pyIter x) (fun j s2 => codeAny M A (c j) (fun r s' => match r with
      | .ok _ => K' s'
      | .error _ => False) s2) No s1) No s :=
  wpAny_mono k (fun _ _ k1 => wpAny_mono k1 (fun _ _ k2 => codeAny_mono k2 fun r s' hr => match r, hr with
    | .ok _, hr => h s' hr
    | .error _, hr => hr.elim) fun _ _ z => z) fun _ _ z => z
theorem in_mono {M : Model} {A : Around} {elt : Expr} {env : Env} {acc : Value} (K K' : Shared → Prop) (s : Shared) (h : ∀ s', K s' → K' s') (k : wpAny M A (eval elt env) (fun x s1 => wpAny M A (call (.builtin "list.append") [acc, x]) (fun _ s' => K s') No s1) No s) : wpAny M A (eval elt env) (fun x s1 => wpAny M A (call (.builtin "list.append") [acc, x]) (fun _ s' => K' s') No s1) No s :=
  wpAny_mono k (fun _ _ k1 => wpAny_mono k1 (fun _ s' hk => h s' hk) fun _ _ z => z) fun _ _ z => z
end Hk
end S_Rw
section S_Rza
/-! a dict comprehension whose keys are tuples of ints and texts -/
namespace Hk
open PySem PySem.Spec PyProof.Rows L2
theorem loop_dict {prog : Program} {w : World} {A : Around} {kx vx tg itr : Expr} {ifs : List Expr} {scope : Scope} {pos : Pos} {D : Addr} {env : Env} :
    LoopBy (model prog w) A (.DictComp kx vx [⟨tg, itr, ifs, 0⟩] scope pos) 0 tg ifs (.ref D) env (fun K s => wpAny (model prog w) A (eval kx env) (fun x s1 => wpAny (model prog w) A (eval vx env) (fun y s2 => wpAny (model prog w) A (dictSet D x y) (fun _ s' => K s') No s2) No s1) No s) := by
  intro it R I turn n s h0
  refine compLoop_anyD I (fun n s hI => wpAny_mono (turn n s hI) (fun r s1 k1 => ?_) fun _ _ z => z.elim) n h0
  cases r with
  | none => exact k1
  | some u =>
    refine wpAny_mono k1 (fun _ s2 k2 => wpAny_mono k2 (fun _ s3 k3 => wpAny_mono k3 (fun b s4 k4 => ?_) fun _ _ z => z.elim) fun _ _ z => z.elim) fun _ _ z => z.elim
    cases b with
    | false => exact k4
    | true => exact wpAny_mono k4 (fun _ _ k5 => wpAny_mono k5 (fun _ _ k6 => wpAny_mono k6 (fun _ _ z => z) fun _ _ z => z.elim) fun _ _ z => z.elim) fun _ _ z => z.elim
theorem dict_mono {M : Model} {A : Around} {kx vx : Expr} {env : Env} {D : Addr} (K K' : Shared → Prop) (s : Shared) (h : ∀ s', K s' → K' s') (k : wpAny M A (eval kx env) (fun x s1 => wpAny M A (eval vx env) (fun y s2 => wpAny M A (dictSet D x y) (fun _ s' => K s') No s2) No s1) No s) :
    wpAny M A (eval kx env) (fun x s1 => wpAny M A (eval vx env) (fun y s2 => wpAny M A (dictSet D x y) (fun _ s' => K' s') No s2) No s1) No s :=
  wpAny_mono k (fun _ _ k1 => wpAny_mono k1 (fun _ _ k2 => wpAny_mono k2 (fun _ s' hk => h s' hk) fun _ _ z => z) fun _ _ z => z) fun _ _ z => z
/-- an entry put: the key a tuple -/
def PutT (tk tv : TE) (D : Addr) (σ : L2.St) (H : Hp) (Ny : Hp → Prop) : Prop := tk σ H fun y H1 => tv σ H1 fun z H2 => ∃ (kvs : List (List L2.Key × V)) (k : List L2.Key) (b : Addr), y = .ref b ∧ H2 D = some (.dT kvs) ∧ H2 b = some (.tup (k.map kV)) ∧ kvs.length < sizeLine ∧ Ny (upd H2 D (.dT (putK kvs k z)))
section
variable {X : Cx}
theorem set_dictT {pins : List (Addr × Obj)} {σ : L2.St} {H : Hp} {s : Shared} {E : Value → Shared → Prop} {D b : Addr} {kvs : List (List L2.Key × V)} {k : List L2.Key} {v : V} {u r : Value} {Q : Unit → Shared → Prop} (hu : X.A.units + 2 < cLine) (I : Inv X pins σ H s) (hD : H D = some (.dT kvs)) (hb : H b = some (.tup (k.map kV))) (hz : kvs.length < sizeLine)
    (ry : RelV (.ref b) u) (rv : RelV v r) (h : ∀ s', Inv X pins σ (upd H D (.dT (putK kvs k v))) s' → Q () s') : wpAny (model X.prog X.w) X.A (dictSet D u r) Q E s := by
  cases (show u = Value.ref b from ry)
  obtain ⟨z, hd, xs, rel, dd⟩ := dt_of I.hok hD
  have hz2 : xs.length ≤ sizeLine := by rw [← Paired.length rel]; exact z
  have hl : (putK kvs k v).length ≤ sizeLine := by have := length_putK kvs k v; omega
  refine wpAny_dictSet_heap (hsz := hz2) (show X.A.units < cLine by omega) (key_of I.hok hb) dd fun h' dd' hs => h _ ?_
  obtain ⟨q, es, ep, hq, h2, h3, h4, _, h5⟩ := dd'
  refine d_write I (by rw [hD]; exact True.intro) hs ⟨q, hq⟩ ⟨hl, hd, _, (rel.put k hb rv).keeps fun c ys ec => ?_, q, es, ep, hq, h2, h3, h4, h5⟩
  rw [upd_ne (fun z => by rw [z, hD] at ec; cases ec)]
  exact ec
theorem put_ok (hu : X.A.units + 2 < cLine) (nxe : ∀ v s, ¬X.xe v s) {kx vx : Expr} {tk tv : TE} (pk : PE X kx tk) (pv : PE X vx tv) {D : Addr} {pins : List (Addr × Obj)} {σ : L2.St} {H : Hp} {s : Shared} {vs : List Nat} {Ny : Hp → Prop} (I : Inv X pins σ H s) (h : PutT tk tv D σ H Ny) :
    wpAny (model X.prog X.w) X.A (eval kx X.env) (fun x s1 => wpAny (model X.prog X.w) X.A (eval vx X.env) (fun y s2 => wpAny (model X.prog X.w) X.A (dictSet D x y) (fun _ s' => GotC X pins σ vs Ny s') No s2) No s1) No s :=
  wpAny_mono (pk.run _ s σ H _ I h) (fun _ _ ⟨_, _, I1, r1, q1⟩ => wpAny_mono (pv.run _ _ σ _ _ I1 q1) (fun _ _ ⟨_, _, I2, r2, kvs, k, b, e, hD, hb, hz, ny⟩ => by
    subst e
    exact set_dictT hu I2 hD hb hz r1 r2 fun _ I3 => ⟨_, _, I3, rfl, fun _ _ z _ => z, ny⟩) fun _ _ z => (nxe _ _ z).elim) fun _ _ z => (nxe _ _ z).elim
/-- {k: v for target in iter if ..}, keys tuples: D the new dict -/
def tDcT (wi : TI) (g : TG) (tt : L2.TT) (tk tv : TE) (vs : List Nat) : TE := fun σ H Q => wi σ H fun J H1 => ∀ D, H1 D = none → Walked J g tt vs (wipe σ vs) (upd H1 D (.dT [])) (fun G => Q (.ref D) G) (PutT tk tv D)
theorem dcT_core {pins : List (Addr × Obj)} {s : Shared} {σ : L2.St} {H : Hp} {Q : VK} {kx vx t0 i0 : Expr} {f0 : List Expr} {scope : Scope} {own : List (Str × Nat)} {pos pos' : Pos} {wi : TI} {g : TG} {tt : L2.TT} {tk tv : TE} {use : Option (Value → Sem Unit)} {Qf : Value → Shared → Prop}
    (hu : X.A.units + 2 < cLine) (hc : X.calm = true) (hN : X.N.Nodup) (I : Inv X pins σ H s) (hi : PI X t0 i0 wi) (ok : BlkOk X.N X.env.scope scope own)
    (hg : ∀ (s : Shared) (H : Hp) (C : Addr) (cl : List (Str × Addr)) (fp : List Addr), PG (X.blk s H scope (compEnvC scope cl C X.env) fp) t0 g ∧ PTs (X.blk s H scope (compEnvC scope cl C X.env) fp) f0 tt)
    (he : ∀ (s : Shared) (H : Hp) (C : Addr) (cl : List (Str × Addr)) (fp : List Addr), PE (X.blk s H scope (compEnvC scope cl C X.env) fp) kx tk ∧ PE (X.blk s H scope (compEnvC scope cl C X.env) fp) vx tv)
    (hs0 : ∀ x, foldedSetIterable i0 X.env x = pure x) (h : tDcT wi g tt tk tv (own.map (·.2)) σ H Q)
    (hRR : ∀ D C s' m H', Inv X pins σ H' s' → Q (.ref D) H' → s'.heap.Ns C m → FpOk X pins H' C → compPost (model X.prog X.w) X.A X.xe use Qf (.ref D) C (.ok .next) s') :
    wpAny (model X.prog X.w) X.A (comprehension (.DictComp kx vx [⟨t0, i0, f0, 0⟩] scope pos) scope X.env pos' newDict false (eval i0 X.env) use) Qf X.xe s := by
  have bound : ∀ y ∈ scope.names, y.2 = .free → ∃ c, X.env.cells.lookup y.1 = some c := fun y hy z => (ok.free y hy z).elim (fun k => I.ok.has _ (.inl k)) fun k => I.ok.has _ (.inr k)
  refine wpAny_comprehension_free (use := use) rfl hs0 (closure_ok bound) ok.kind (fun y hy z => by rw [ok.uniq y hy, z]) (thn (hi.run pins s σ H _ I h) fun xv a1 hx => thn hx fun itv a2 k2 => ?_)
  obtain ⟨it, fp, tn, J, G, rfl, I2, T, st2, f2', q⟩ := k2
  refine wpAny_newObj_type (newEnv_comp ?_)
  generalize hD : a2.heap.objs.size = D
  have w := q D (I2.hok.fresh (Nat.le_of_eq hD))
  generalize ha3 : ({ a2 with heap := a2.heap.push { cls := .type "dict", data := .dict #[] } } : Shared) = a3
  have I3 : Inv X pins σ (upd G D (.dT [])) a3 := by
    rw [← ha3]
    refine I2.laid (t' := a2.toks) (fun _ _ z => Heap.get?_push_of_some _ z) (Nat.le_of_eq hD) ?_
    rw [← hD]
    exact dt_empty a2.heap I2.big
  have p3 : a3.heap = a2.heap.push { cls := .type "dict", data := .dict #[] } := by rw [← ha3]
  have low : ∀ b ∈ fp, b < a2.heap.objs.size := fun b hb => by
    obtain ⟨o, z, _⟩ := T.obj _ _ st2 b hb
    exact Heap.lt_size z
  have f3 : ∀ b ∈ fp, FpOk X pins (upd G D (.dT [])) b ∧ b < a3.heap.objs.size := fun b hb =>
    ⟨⟨by rw [upd_ne (by rw [← hD]; exact Nat.ne_of_lt (low b hb))]; exact (f2' b hb).1, (f2' b hb).2⟩, by rw [p3, Heap.size_push]; exact Nat.lt_succ_of_lt (low b hb)⟩
  have st3 : tn 0 a3.heap := T.keep _ _ _ st2 fun b _ o z => by rw [p3]; exact Heap.get?_push_of_some _ z
  have I4 := block_start I3 ok hN f3
  obtain ⟨pg, pt⟩ := hg a3 (upd G D (.dT [])) a3.heap.objs.size (cellsFrom (a3.heap.objs.size + 1) scope.names (cloFrom X.env.cells scope.names [])) fp
  obtain ⟨pk, pv⟩ := he a3 (upd G D (.dT [])) a3.heap.objs.size (cellsFrom (a3.heap.objs.size + 1) scope.names (cloFrom X.env.cells scope.names [])) fp
  show codeAny _ _ (.compStart (.DictComp kx vx [⟨t0, i0, f0, 0⟩] scope pos) 0 (.ref it) (.ref D) (compEnvC scope (cellsFrom (a3.heap.objs.size + 1) scope.names (cloFrom X.env.cells scope.names [])) a3.heap.objs.size X.env)) (compPost (model X.prog X.w) X.A X.xe use Qf (.ref D) a3.heap.objs.size) { a3 with heap := pushCells (a3.heap.push { cls := .type "dict", data := .dict #[] }) scope.names }
  have none_ : ∀ b ∈ fp, (upd G D (.dT [])) b = none := fun b hb => (f3 b hb).1.1
  generalize hen : compEnvC scope (cellsFrom (a3.heap.objs.size + 1) scope.names (cloFrom X.env.cells scope.names [])) a3.heap.objs.size X.env = en at I4 pg pt pk pv ⊢
  have cl : en.locals = a3.heap.objs.size := by subst hen; rfl
  generalize hG3 : upd G D (.dT []) = G3 at I3 I4 pg pt pk pv w none_ f3
  generalize ha4 : ({ a3 with heap := pushCells (a3.heap.push { cls := .type "dict", data := .dict #[] }) scope.names } : Shared) = a4 at I4 ⊢
  have st4 : tn 0 a4.heap := T.keep _ _ _ st3 fun b _ o z => by rw [← ha4]; exact pushCells_keeps _ _ _ _ (Heap.get?_push_of_some _ z)
  have nxe : ∀ (v : Value) (u : Shared), ¬(X.blk a3 G3 scope en fp).xe v u := fun _ _ z => z
  have lp : codeAny (model X.prog X.w) X.A (.compLoop (.DictComp kx vx [⟨t0, i0, f0, 0⟩] scope pos) 0 (.ref it) (.ref D) en) (compPost (model X.prog X.w) X.A X.xe use Qf (.ref D) a3.heap.objs.size) a4 := by
    refine clause_ok (Y := X.blk a3 G3 scope en fp) nxe hc loop_dict dict_mono pg pt T (fun {σ' H' s'} I' hn b hb => ⟨hn b hb, (I'.ok.exf b hb).1, I'.ok.exfs b hb, .inl hb, fun x c z => (I'.ok.exf b hb).2 x c z, fun p hp => absurd (show p ∈ ([] : List (Addr × Obj)) ++ [] from hp) (by simp)⟩) I4 st4 none_ w (fun pl σ2 H2 s2 Ny I5 h5 => put_ok (X := X.blk a3 G3 scope en fp) hu nxe pk pv I5 h5) fun s' H' I5 _ qq => ?_
    have I7 : Inv X pins σ H' s' := I3.call' (ch := fp) I5.os I5.base I5.hok I5.bare fun b hb => ⟨(f3 b hb).1.2.2.2.1, (f3 b hb).1.2.1, (f3 b hb).1.2.2.2.2.1, (f3 b hb).1.2.2.2.2.2⟩
    have nC : H' a3.heap.objs.size = none := by
      have z : H' en.locals = none := I5.free
      rw [cl] at z
      exact z
    obtain ⟨m, hn, _⟩ := I5.loc
    have hn : s'.heap.Ns en.locals m := hn
    rw [cl] at hn
    exact hRR D a3.heap.objs.size s' m H' I7 qq hn (I3.fpOk (Nat.le_refl _) nC)
  exact codeAny_compStart_dict lp (T.self X.A 0 _ _ _ st4 lp)
/-- as a value -/
theorem pe_dcT {kx vx t0 i0 : Expr} {f0 : List Expr} {scope : Scope} {own : List (Str × Nat)} {pos : Pos} {wi : TI} {g : TG} {tt : L2.TT} {tk tv : TE} (hu : X.A.units + 2 < cLine) (hc : X.calm = true) (hN : X.N.Nodup) (hi : PI X t0 i0 wi) (ok : BlkOk X.N X.env.scope scope own)
    (hg : ∀ (s : Shared) (H : Hp) (C : Addr) (cl : List (Str × Addr)) (fp : List Addr), PG (X.blk s H scope (compEnvC scope cl C X.env) fp) t0 g ∧ PTs (X.blk s H scope (compEnvC scope cl C X.env) fp) f0 tt)
    (he : ∀ (s : Shared) (H : Hp) (C : Addr) (cl : List (Str × Addr)) (fp : List Addr), PE (X.blk s H scope (compEnvC scope cl C X.env) fp) kx tk ∧ PE (X.blk s H scope (compEnvC scope cl C X.env) fp) vx tv)
    (hs0 : ∀ x, foldedSetIterable i0 X.env x = pure x := by intro _; rfl) : PE X (.DictComp kx vx [⟨t0, i0, f0, 0⟩] scope pos) (tDcT wi g tt tk tv (own.map (·.2))) := by
  refine ⟨fun pins s σ H Q I h => ?_⟩
  rw [arm_eval_DictComp]
  refine dcT_core hu hc hN I hi ok hg he hs0 h fun D C s' m H' I' q hn f => ⟨m, hn, fun _ sb => ?_⟩
  obtain ⟨z0, z1, _, z3, z4, z5⟩ := f
  exact ⟨.ref D, H', I'.turned (t' := s'.toks) (fun b o hb z => (sb.2 b hb).trans z) z0 z1 z3 z4 z5, rfl, q⟩
end
end Hk
end S_Rza
section S_Rzd
set_option maxHeartbeats 2000000
/-! zip of a tuple with a list -/
namespace Hk
section
open PySem RZ
open PySem.Sem (wp)
abbrev zr1 (h : Heap) (l : Addr) : Heap := h.push { cls := .type "tuple_iterator", data := .fields #[.ref l, .int 0 0] }
abbrev zr2 (h : Heap) (l t : Addr) : Heap := (zr1 h l).push { cls := .type "list_iterator", data := .fields #[.ref t, .int 0 0] }
abbrev zr3 (h : Heap) (l t : Addr) : Heap := (zr2 h l t).push { cls := .type "tuple", data := .seq #[.ref h.objs.size, .ref (zr1 h l).objs.size] }
abbrev zr4 (h : Heap) (l t : Addr) : Heap := (zr3 h l t).push { cls := .type "tuple", data := .seq #[.none, .none] }
abbrev zr5 (h : Heap) (l t : Addr) : Heap := (zr4 h l t).push { cls := .type "zip", data := .fields #[.none, .bool false, .bool false, .ref (zr2 h l t).objs.size, .ref (zr3 h l t).objs.size] }
theorem meets_zipTL (l t : Addr) (xs ys : Array Value) : Meets (Builtin.«zip.__new__» ⟨[.type "zip", .ref l, .ref t], []⟩) (fun _ R s => s.heap.IsTuple l xs ∧ s.heap.IsList t ys ∧ R (.ok (.ret (.ref (zr4 s.heap l t).objs.size))) { s with heap := zr5 s.heap l t }) :=
  .of_wp fun prog w A R s h => by
    obtain ⟨hp, g, d, tk, os⟩ := s
    obtain ⟨a1, a2, h⟩ := h
    have hsub := sub_zip
    have b1 : Heap.IsTuple (Shared.heap ⟨hp, g, d, tk, os⟩) l xs := a1
    have b2 : Heap.IsList (Shared.heap ⟨hp.push { cls := .type "tuple_iterator", data := .fields #[.ref l, .int 0 0] }, g, d, tk, os⟩) t ys := Heap.IsList.push a2 _
    wp_walk using wpAny_pyIter_tuple b1, wpAny_pyIter_list b2
    exact ⟨_, rfl, h⟩
theorem call_zipTL {prog : Program} {w : World} {A : Around} {E : Value → Shared → Prop} {s : Shared} {l t : Addr} {xs ys : Array Value} {Q : Value → Shared → Prop} (a1 : s.heap.IsTuple l xs) (a2 : s.heap.IsList t ys)
    (q : ∀ h', IsZip h' (s.heap.objs.size + 4) (s.heap.objs.size + 2) (s.heap.objs.size + 3) .none → IsPair h' (s.heap.objs.size + 2) (.ref s.heap.objs.size) (.ref (s.heap.objs.size + 1)) →
      IsPair h' (s.heap.objs.size + 3) .none .none → h'.IsTupleIter s.heap.objs.size l 0 → h'.IsListIter (s.heap.objs.size + 1) t 0 → (∀ c o, s.heap.get? c = some o → h'.get? c = some o) → Q (.ref (s.heap.objs.size + 4)) { s with heap := h' }) :
    wpAny (model prog w) A (call (.type "zip") [.ref l, .ref t]) Q E s := by
  refine callType_new F.called_zip (by decide) (F.typeCall_zip_2 _ _) (F.newCall_zip_2 _ _) (fun obj => F.args_object_init_3 obj _ _) F.entry_zip_new (meets_zipTL l t xs ys) ⟨a1, a2, ?_⟩
  have n1 : (zr1 s.heap l).objs.size = s.heap.objs.size + 1 := Heap.size_push ..
  have n2 : (zr2 s.heap l t).objs.size = s.heap.objs.size + 2 := by rw [Heap.size_push, n1]
  have n3 : (zr3 s.heap l t).objs.size = s.heap.objs.size + 3 := by rw [Heap.size_push, n2]
  have n4 : (zr4 s.heap l t).objs.size = s.heap.objs.size + 4 := by rw [Heap.size_push, n3]
  have up : ∀ {c o}, (zr4 s.heap l t).get? c = some o → (zr5 s.heap l t).get? c = some o := fun h => Heap.get?_push_of_some _ h
  have up3 : ∀ {c o}, (zr3 s.heap l t).get? c = some o → (zr5 s.heap l t).get? c = some o := fun h => up (Heap.get?_push_of_some _ h)
  have up2 : ∀ {c o}, (zr2 s.heap l t).get? c = some o → (zr5 s.heap l t).get? c = some o := fun h => up3 (Heap.get?_push_of_some _ h)
  have up1 : ∀ {c o}, (zr1 s.heap l).get? c = some o → (zr5 s.heap l t).get? c = some o := fun h => up2 (Heap.get?_push_of_some _ h)
  have g5 : (zr5 s.heap l t).get? (zr4 s.heap l t).objs.size = some _ := Heap.get?_push_size _ rfl
  have g4 : (zr5 s.heap l t).get? (zr3 s.heap l t).objs.size = some _ := up (Heap.get?_push_size _ rfl)
  have g3 : (zr5 s.heap l t).get? (zr2 s.heap l t).objs.size = some _ := up3 (Heap.get?_push_size _ rfl)
  have g2 : (zr5 s.heap l t).get? (zr1 s.heap l).objs.size = some _ := up2 (Heap.get?_push_size _ rfl)
  have g1 : (zr5 s.heap l t).get? s.heap.objs.size = some _ := up1 (Heap.get?_push_size _ rfl)
  show _ ∧ _
  rw [n2, n3, n4] at g5
  rw [n1, n2] at g3
  rw [n3] at g4
  rw [n1] at g2
  rw [n4]
  exact ⟨⟨_, g5, rfl⟩, q _ g5 g3 g4 ⟨_, g1, rfl, rfl⟩ ⟨_, g2, rfl, rfl⟩ fun c o h => up1 (Heap.get?_push_of_some _ h)⟩
end
open PySem PySem.Spec PyProof.Rows L2 RZ
/-- the tuple at a and the list at b as they stand at each turn, the items in new pairs -/
def ItzTL (K : PySem.W.Frag) (a b : Addr) : It :=
  ⟨fun i H => ∃ (xs ys : List V) (x y : V), SqT K H a xs ∧ SqL K H b ys ∧ xs[i]? = some x ∧ ys[i]? = some y,
    fun i H v H' => ∃ T x y, v = .ref T ∧ H T = none ∧ H' = upd H T (.tup [x, y]) ∧ (∀ xs, SqT K H a xs → xs[i]? = some x) ∧ ∀ ys, SqL K H b ys → ys[i]? = some y,
    fun i H => ∃ xs ys : List V, SqT K H a xs ∧ SqL K H b ys ∧ (xs.length ≤ i ∨ ys.length ≤ i)⟩
theorem turn_zipTL {P : Program} {w : World} {K : PySem.W.Frag} {elts : List Expr} {kk : Nat} {tpos : Pos} {a b z TI TO i1 i2 : Addr} (D : ZipApart z TI TO i1 i2 a b) :
    Turn P w K (.Tuple elts kk tpos) (ItzTL K a b) [z, TI, TO, i1, i2] z (fun i h => IsZip h z TI TO .none ∧ IsPair h TI (.ref i1) (.ref i2) ∧ (∃ x y, IsPair h TO x y) ∧ h.IsTupleIter i1 a i ∧ h.IsListIter i2 b i) where
  mem := by simp
  obj := fun i h st c hc => by
    obtain ⟨hz, hTI, ⟨x, y, hTO⟩, ⟨o1, e1, _, d1⟩, ⟨o2, e2, _, d2⟩⟩ := st
    simp only [List.mem_cons, List.not_mem_nil, or_false] at hc
    rcases hc with rfl | rfl | rfl | rfl | rfl
    · exact ⟨_, hz, fun v q => nomatch q⟩
    · exact ⟨_, hTI, fun v q => nomatch q⟩
    · exact ⟨_, hTO, fun v q => nomatch q⟩
    · exact ⟨o1, e1, fun v q => by rw [d1] at q; cases q⟩
    · exact ⟨o2, e2, fun v q => by rw [d2] at q; cases q⟩
  keep := fun i h h' st k => by
    obtain ⟨hz, hTI, ⟨x, y, hTO⟩, h1, h2⟩ := st
    exact ⟨k z (by simp) _ hz, k TI (by simp) _ hTI, ⟨x, y, k TO (by simp) _ hTO⟩, h1.at fun o q => k i1 (by simp) o q, h2.at fun o q => k i2 (by simp) o q⟩
  item := by
    intro X hP hw hK hc i pins s σ H E I hf st hg
    subst hP hw hK
    obtain ⟨hz, hTI, ⟨x0, y0, hTO⟩, h1, h2⟩ := st
    obtain ⟨xs, ys, x, y, hqx, hqy, hx, hy⟩ := hg
    obtain ⟨its, rv, p, _⟩ := I.tuple hqx
    obtain ⟨its2, rv2, p2, _⟩ := I.list hqy
    obtain ⟨u, hu, ru⟩ := rv.get hx
    obtain ⟨u2, hu2, ru2⟩ := rv2.get hy
    have zl : z < s.heap.objs.size := Heap.lt_size hz
    refine nextF_item D (feed_tup D.l1i1) (feed_lst D.l2i2) hz hTI hTO ⟨h1, p⟩ ⟨h2, p2.isList⟩ (x := u) (y := u2) (by simpa using hu) (by simpa using hu2) fun h' z' o' s1 s2 hT hk => ?_
    refine ⟨_, rfl, wpAny_letOwnedTupleGo_zip (s := { s with heap := h' }) z' fun h'' z'' sb => ?_⟩
    have hT2 : h''.get? s.heap.objs.size = some { cls := .type "tuple", data := .seq #[u, u2] } := (sb.2 _ (Nat.ne_of_gt zl)).trans hT
    have new : ObjOk X.prog X.w (upd H s.heap.objs.size (.tup [x, y])) h'' s.heap.objs.size (.tup [x, y]) := ⟨by show 2 ≤ sizeLine; decide, [u, u2], .cons ru (.cons ru2 .nil), ⟨_, hT2, rfl, _, rfl⟩⟩
    have I1 : Inv X pins σ (upd H s.heap.objs.size (.tup [x, y])) { s with heap := h'' } :=
      I.turnedNew (t' := s.toks) (ch := [z, TI, TO, i1, i2]) (fun c o hb q => (sb.2 c (fun e => hb (by simp [e]))).trans (hk c o (fun e => hb (by simp [e])) (fun e => hb (by simp [e])) (fun e => hb (by simp [e])) (fun e => hb (by simp [e])) q)) hf (Nat.le_refl _) new
    refine ⟨.ref s.heap.objs.size, _, I1, rfl, ⟨_, x, y, rfl, I.hok.fresh (Nat.le_refl _), rfl, fun l hl => by rw [I.tuple_inj hl hqx]; exact hx, fun l hl => by rw [I.list_inj hl hqy]; exact hy⟩,
      ⟨z'', (sb.2 _ D.TIz).trans (hk _ _ D.TIz D.TITO D.TIi1 D.TIi2 hTI), ⟨u, u2, (sb.2 _ D.TOz).trans o'⟩, s1.1.at fun o q => (sb.2 _ D.i1z).trans q, s2.1.at fun o q => (sb.2 _ D.i2z).trans q⟩, fun c hcm => ?_⟩
    have hlt : c < s.heap.objs.size := by
      have hcm2 := hcm
      simp only [List.mem_cons, List.not_mem_nil, or_false] at hcm2
      rcases hcm2 with rfl | rfl | rfl | rfl | rfl
      · exact zl
      · exact Heap.lt_size hTI
      · exact Heap.lt_size hTO
      · obtain ⟨_, e1, _⟩ := h1; exact Heap.lt_size e1
      · obtain ⟨_, e2, _⟩ := h2; exact Heap.lt_size e2
    rw [upd_ne (Nat.ne_of_lt hlt)]
    exact (hf c hcm).1
  done := by
    intro X hP hw hK hc i pins s σ H E I hf st hg
    subst hP hw hK
    obtain ⟨hz, hTI, ⟨x0, y0, hTO⟩, h1, h2⟩ := st
    obtain ⟨xs, ys, hqx, hqy, hend⟩ := hg
    obtain ⟨its, rv, p, _⟩ := I.tuple hqx
    obtain ⟨its2, rv2, p2, _⟩ := I.list hqy
    have l1 := rv.length
    have l2 := rv2.length
    have he : its.toArray[i]? = none ∨ its2.toArray[i]? = none := hend.imp (fun q => by simp; omega) fun q => by simp; omega
    exact nextF_end (I.ok.hd hc) D (feed_tup D.l1i1) (feed_lst D.l2i2) hz hTI hTO ⟨h1, p⟩ ⟨h2, p2.isList⟩ he fun h' hk => ⟨rfl, I.turnedL (t' := s.toks) (ch := [z, TI, TO, i1, i2]) (fun c o hb q =>
      hk c o (fun e => hb (by simp [e])) (fun e => hb (by simp [e])) (fun e => hb (by simp [e])) (fun e => hb (by simp [e])) q) hf⟩
  self := fun A i s Q E st h => wpAny_pyIter_zip st.1 h
/-- zip of a tuple with a list -/
def iZipTL (K : PySem.W.Frag) (ta : TA) : TI := fun σ H R => ta σ H fun vs H1 => ∃ a b xs ys, vs = [.ref a, .ref b] ∧ SqT K H1 a xs ∧ SqL K H1 b ys ∧ R (ItzTL K a b) H1
theorem pi_zipTL {X : Cx} {e e2 : Expr} {ta : TA} {p pos tpos : Pos} {elts : List Expr} {kk : Nat} (hg : Gl X "zip") (hm : X.mg "zip" = none) (ha : PA X [e, e2] ta)
    (hs : starEach [e, e2] X.env = (false, eval e X.env) :: starEach [e2] X.env := by rfl) (hpl : (backTo pos (starEach [e2] X.env)).any (·.1) = false := by rfl) :
    PI X (.Tuple elts kk tpos) (.Call (.Name "zip" p) [e, e2] [] pos) (iZipTL X.K ta) := by
  refine ⟨fun pins s σ H R I h => Call_ (ld_blt I hg hm PyProof.Rows.boot_zip (PyProof.Rows.callWith_type1 (thn (ha.run pos pins s σ H _ I h) fun us s1 ⟨vs, H1, I1, r1, q1⟩ => ?_) hs hpl))⟩
  obtain ⟨a, b, xs, ys, rfl, hqx, hqy, q⟩ := q1
  obtain ⟨v1, v2, rfl, r, r'⟩ : ∃ v1 v2, us = [v1, v2] ∧ RelV (.ref a) v1 ∧ RelV (.ref b) v2 := by
    cases r1 with
    | cons r rr =>
      cases rr with
      | cons r' rr => cases rr; exact ⟨_, _, rfl, r, r'⟩
  cases r
  cases r'
  have new : ∀ c, c ∈ [s1.heap.objs.size + 4, s1.heap.objs.size + 2, s1.heap.objs.size + 3, s1.heap.objs.size, s1.heap.objs.size + 1] → FpOk X pins H1 c := fun c hcm => by
    have hle : s1.heap.objs.size ≤ c := by
      simp only [List.mem_cons, List.not_mem_nil, or_false] at hcm
      omega
    exact I1.fpOk hle (I1.hok.fresh hle)
  obtain ⟨its2, rv2, p2, _⟩ := I1.list hqy
  obtain ⟨its, rv, p1, _⟩ := I1.tuple hqx
  obtain ⟨o1, ho1, _⟩ := id p1
  refine call_zipTL (show s1.heap.IsTuple a its.toArray from p1) p2.isList fun h' hz hTI hTO h1 h2 hk => wpAny_pyIter_zip hz ?_
  exact ⟨s1.heap.objs.size + 4, _, _, _, H1, rfl, I1.kept (t' := s1.toks) hk, turn_zipTL (PySem.W.ktu_apart s1.heap.objs.size a b (Heap.lt_size ho1) p2.lt), ⟨hz, hTI, ⟨_, _, hTO⟩, h1, h2⟩, new, q⟩
theorem walk_zipTL {K : PySem.W.Frag} {a b : Addr} {xs ys : List V} {n : Nat} (hn : n = min xs.length ys.length) : Walk (ItzTL K a b) n (fun H => SqT K H a xs ∧ SqL K H b ys) (YPair (fun i => xs[i]?) (fun i => ys[i]?)) := by
  subst hn
  refine ⟨fun i _ hi ⟨q1, q2⟩ => ?_, fun _ ⟨q1, q2⟩ => ⟨xs, ys, q1, q2, by omega⟩, fun i H v H' _ ⟨q1, q2⟩ ⟨T, x, z, z1, z2, z3, z4, z5⟩ => ⟨T, x, z, z1, z2, z3, z4 xs q1, z5 ys q2⟩⟩
  have l1 : i < xs.length := by omega
  have l2 : i < ys.length := by omega
  exact ⟨xs, ys, xs[i], ys[i], q1, q2, by simp [l1], by simp [l2]⟩
open Evl Tl
theorem ei_zipTL {K : PySem.W.Frag} {σ : L2.St} {H : Hp} {ta tb : TE} {a b : Addr} {xs ys : List V} {n : Nat} (hn : n = min xs.length ys.length) (h : Ev ta σ H (.ref a)) (hx : SqT K H a xs) (h2 : Ev tb σ H (.ref b)) (hy : SqL K H b ys) :
    EvI (iZipTL K (tCons ta (tCons tb tNil))) σ H n (YPair (fun i => xs[i]?) (fun i => ys[i]?)) := fun H1 e R k =>
  h H1 e _ fun H2 e2 => h2 H2 (e.trans e2) _ fun H3 e3 => by
    have e03 := (e.trans e2).trans e3
    exact ⟨a, b, xs, ys, rfl, ex_t e03 hx, ex_l e03 hy, k _ (fun H => SqT K H a xs ∧ SqL K H b ys) H3 (e2.trans e3) (walk_zipTL hn) fun A ab s => ⟨ex_t ab hx, ex_l ab hy⟩⟩
end Hk
end S_Rzd
section S_Nbb
namespace P38
open PySem PySem.Spec PyProof.Rows L2 Tl Hk RZ EnL
/-! ### pairs, in order -/
abbrev IP := Int × Int
def pD (p : IP) : PyData := .tuple [.int p.1, .int p.2]
def lx (p q : IP) : Prop := p.1 < q.1 ∨ (p.1 = q.1 ∧ p.2 < q.2)
instance (p q : IP) : Decidable (lx p q) := by unfold lx; infer_instance
def leP (p q : IP) : Bool := !decide (lx q p)
theorem lt_pD (p q : IP) : PySem.W.dataLt (pD p) (pD q) = decide (lx p q) := by
  unfold pD
  rw [PySem.W.dataLt_ii]
  exact decide_eq_decide.mpr Iff.rfl
theorem lx_asym {p q : IP} (h1 : lx p q) (h2 : lx q p) : False := by unfold lx at *; omega
theorem lx_tri {p q : IP} (h : p ≠ q) : lx p q ∨ lx q p := by
  unfold lx
  by_cases h1 : p.1 = q.1
  · by_cases h2 : p.2 = q.2
    · exact absurd (Prod.ext h1 h2) h
    · omega
  · omega
theorem eq_srt {α : Type} {r : α → α → Prop} (as : ∀ a b, r a b → r b a → False) : ∀ {l m : List α}, l.Pairwise r → m.Pairwise r → (∀ x, x ∈ l ↔ x ∈ m) → l = m
  | [], [], _, _, _ => rfl
  | [], b :: m, _, _, h => absurd ((h b).mpr List.mem_cons_self) (fun z => nomatch z)
  | a :: l, [], _, _, h => absurd ((h a).mp List.mem_cons_self) (fun z => nomatch z)
  | a :: l, b :: m, h1, h2, h => by
    obtain ⟨a1, a2⟩ := List.pairwise_cons.mp h1
    obtain ⟨b1, b2⟩ := List.pairwise_cons.mp h2
    have e : a = b := Classical.byContradiction fun z => by
      have z1 := (List.mem_cons.mp ((h a).mp List.mem_cons_self)).resolve_left z
      have z2 := (List.mem_cons.mp ((h b).mpr List.mem_cons_self)).resolve_left fun y => z y.symm
      exact as _ _ (a1 b z2) (b1 a z1)
    subst e
    refine congrArg (a :: ·) (eq_srt as a2 b2 fun x => ⟨fun hx => ?_, fun hx => ?_⟩)
    · exact (List.mem_cons.mp ((h x).mp (List.mem_cons_of_mem _ hx))).resolve_left fun z => by subst z; exact as _ _ (a1 x hx) (a1 x hx)
    · exact (List.mem_cons.mp ((h x).mpr (List.mem_cons_of_mem _ hx))).resolve_left fun z => by subst z; exact as _ _ (b1 x hx) (b1 x hx)
theorem srt_pairs (L : List IP) (hn : L.Nodup) : (L.mergeSort leP).Pairwise lx := by
  have h1 := List.pairwise_mergeSort (le := leP) (fun a b c h1 h2 => by
    unfold leP at *
    rw [Bool.not_eq_true', decide_eq_false_iff_not] at *
    unfold lx at *
    omega) (fun a b => by
    unfold leP
    rw [Bool.or_eq_true, Bool.not_eq_true', Bool.not_eq_true', decide_eq_false_iff_not, decide_eq_false_iff_not]
    by_cases h : lx b a
    · exact .inr fun z => lx_asym h z
    · exact .inl h) L
  have h2 := (List.mergeSort_perm L leP).nodup_iff.mpr hn
  exact (h1.and h2).imp fun {a b} ⟨z1, z2⟩ => (lx_tri z2).resolve_right fun z => by
    unfold leP at z1
    rw [decide_eq_true z] at z1
    cases z1
/-- sorted, told by the pairs -/
theorem sorted_pD {bs : List (V × PyData)} {L : List IP} (h : bs.map Prod.snd = L.map pD) (hn : L.Nodup) : ∃ ps : List IP, ps.Perm L ∧ ps.Pairwise lx ∧ (bs.mergeSort (PySem.W.dataLe false Prod.snd)).map Prod.snd = ps.map pD := by
  refine ⟨L.mergeSort leP, List.mergeSort_perm L leP, srt_pairs L hn, ?_⟩
  have e1 : (bs.mergeSort (PySem.W.dataLe false Prod.snd)).map Prod.snd = (bs.map Prod.snd).mergeSort (PySem.W.dataLe false id) := List.map_mergeSort fun a _ b _ => rfl
  have e2 : (L.mergeSort leP).map pD = (L.map pD).mergeSort (PySem.W.dataLe false id) := List.map_mergeSort fun a _ b _ => by
    show leP a b = !PySem.W.dataLt (pD b) (pD a)
    rw [lt_pD]
    rfl
  rw [e1, e2, h]
theorem pD_alike (L : List IP) : PySem.W.AllAlike (L.map pD) := fun d hd e he => by
  obtain ⟨p, _, rfl⟩ := List.mem_map.mp hd
  obtain ⟨q, _, rfl⟩ := List.mem_map.mp he
  rfl
theorem pD_sortable (L : List IP) : PySem.W.Sortable (L.map pD) := .inl fun d hd => by
  obtain ⟨p, _, rfl⟩ := List.mem_map.mp hd
  exact ⟨_, _, rfl⟩
/-- all pairs of pieces that stand in one bag, in order -/
def PairsOk (ps : List IP) (bs : List (List Int)) : Prop := ps.Pairwise lx ∧ ∀ p : IP, p ∈ ps ↔ p.1 < p.2 ∧ ∃ ns ∈ bs, p.1 ∈ ns ∧ p.2 ∈ ns
theorem pairs_one {ps qs : List IP} {bs : List (List Int)} (h1 : PairsOk ps bs) (h2 : PairsOk qs bs) : ps = qs := eq_srt (fun _ _ => lx_asym) h1.1 h2.1 fun p => (h1.2 p).trans (h2.2 p).symm
theorem pairs_of {ps L : List IP} {bs : List (List Int)} (hp : ps.Perm L) (hs : ps.Pairwise lx) (h : ∀ p : IP, p ∈ L ↔ p.1 < p.2 ∧ ∃ ns ∈ bs, p.1 ∈ ns ∧ p.2 ∈ ns) : PairsOk ps bs := ⟨hs, fun p => hp.mem_iff.trans (h p)⟩
/-! ### keys -/
def addP (ks : List IP) (k : IP) : List IP := if k ∈ ks then ks else ks ++ [k]
def kP (p : IP) : List L2.Key := [.inl p.1, .inl p.2]
def tgP (ks : List IP) : List (List L2.Key × V) := ks.map fun k => (kP k, V.bl true)
theorem kP_inj {p q : IP} (h : kP p = kP q) : p = q := by
  have h1 := (List.cons.inj h).1
  have h2 := (List.cons.inj (List.cons.inj h).2).1
  exact Prod.ext (Sum.inl.inj h1) (Sum.inl.inj h2)
theorem tgP_len (ks : List IP) : (tgP ks).length = ks.length := List.length_map _
theorem put_tgP (ks : List IP) (k : IP) : putK (tgP ks) (kP k) (V.bl true) = tgP (addP ks k) := by
  have ha : ((tgP ks).any fun kv => decide (kv.1 = kP k)) = decide (k ∈ ks) := by
    rw [Bool.eq_iff_iff, List.any_eq_true, decide_eq_true_iff]
    constructor
    · rintro ⟨kv, h1, h2⟩
      obtain ⟨j, hj, rfl⟩ := List.mem_map.mp h1
      have := kP_inj (of_decide_eq_true h2)
      rw [← this]
      exact hj
    · intro h
      exact ⟨_, List.mem_map.mpr ⟨k, h, rfl⟩, decide_eq_true rfl⟩
  unfold putK addP
  rw [ha]
  by_cases h : k ∈ ks
  · rw [if_pos (decide_eq_true h), if_pos h]
    unfold tgP
    rw [List.map_map]
    refine List.map_congr_left fun j _ => ?_
    show (if kP j = kP k then (kP j, V.bl true) else (kP j, V.bl true)) = _
    split <;> rfl
  · rw [if_neg (by rw [decide_eq_false h]; decide), if_neg h]
    unfold tgP
    rw [List.map_append]
    rfl
theorem merge_tgP : ∀ (ns ks : List IP), mergeT (tgP ks) (tgP ns) = tgP (ns.foldl addP ks)
  | [], _ => rfl
  | n :: r, ks => by
    show mergeT (putK (tgP ks) (kP n) (V.bl true)) (tgP r) = tgP (r.foldl addP (addP ks n))
    rw [put_tgP, merge_tgP r]
theorem addP_mem {ks : List IP} {k j : IP} : j ∈ addP ks k ↔ j ∈ ks ∨ j = k := by
  unfold addP
  split
  · exact ⟨.inl, fun h => h.elim id fun e => by subst e; assumption⟩
  · rw [List.mem_append, List.mem_singleton]
theorem addP_nd {ks : List IP} {k : IP} (h : ks.Nodup) : (addP ks k).Nodup := by
  unfold addP
  split
  · exact h
  · rename_i hk
    exact List.nodup_append.mpr ⟨h, List.nodup_cons.mpr ⟨fun z => (nomatch z), List.nodup_nil⟩, fun a ha b hb e => hk (by rw [← List.mem_singleton.mp hb, ← e]; exact ha)⟩
theorem addP_len (ks : List IP) (k : IP) : (addP ks k).length ≤ ks.length + 1 := by
  unfold addP
  split
  · omega
  · rw [List.length_append]; exact Nat.le_refl _
theorem foldP_mem : ∀ {ns ks : List IP} {j : IP}, j ∈ ns.foldl addP ks ↔ j ∈ ks ∨ j ∈ ns
  | [], ks, j => by simp
  | n :: r, ks, j => by
    rw [List.foldl_cons, foldP_mem, addP_mem, List.mem_cons]
    exact or_assoc
theorem foldP_nd : ∀ {ns ks : List IP}, ks.Nodup → (ns.foldl addP ks).Nodup
  | [], ks, h => h
  | n :: r, ks, h => foldP_nd (ns := r) (addP_nd h)
theorem foldP_len : ∀ {ns ks : List IP}, (ns.foldl addP ks).length ≤ ks.length + ns.length
  | [], ks => Nat.le_refl _
  | n :: r, ks => by
    have h1 := foldP_len (ns := r) (ks := addP ks n)
    have h2 := addP_len ks n
    rw [List.foldl_cons, List.length_cons]
    omega
theorem kvDat_tgP (ks : List IP) : (tgP ks).map kvDat = ks.map pD := by
  unfold tgP
  rw [List.map_map]
  rfl
/-! ### each pair of a bag has one that is fresh where both stand uppermost -/
def pairsZ (bs : List (List Int)) (ups : List (Option Nat)) : List IP := (List.range bs.length).flatMap fun i => ((freshL bs ups).getD i []).flatMap fun one => (bs.getD i []).map fun o => (one, o)
def kf (p : IP) : IP := (if p.2 < p.1 then p.2 else p.1, if p.2 > p.1 then p.2 else p.1)
theorem mem_pairsZ {bs : List (List Int)} {ups : List (Option Nat)} {p : IP} : p ∈ pairsZ bs ups ↔ ∃ i, i < bs.length ∧ p.1 ∈ freshAt bs ups i ∧ p.2 ∈ bs.getD i [] := by
  unfold pairsZ
  rw [List.mem_flatMap]
  constructor
  · rintro ⟨i, h1, h2⟩
    have h1 := List.mem_range.mp h1
    obtain ⟨one, h3, h4⟩ := List.mem_flatMap.mp h2
    obtain ⟨o, h5, rfl⟩ := List.mem_map.mp h4
    rw [freshL_at h1] at h3
    exact ⟨i, h1, h3, h5⟩
  · rintro ⟨i, h1, h2, h3⟩
    exact ⟨i, List.mem_range.mpr h1, List.mem_flatMap.mpr ⟨p.1, by rw [freshL_at h1]; exact h2, List.mem_map.mpr ⟨p.2, h3, rfl⟩⟩⟩
theorem both_top {bs : List (List Int)} {ups : List (Option Nat)} (hl : ups.length = bs.length) {i : Nat} (ht : Top ups i) {a b : Int} (ha : a ∈ bs.getD i []) (hb : b ∈ bs.getD i []) : (a, b) ∈ pairsZ bs ups ∨ (b, a) ∈ pairsZ bs ups := by
  have fr : ∀ {i : Nat} {p : Int}, p ∈ bs.getD i [] → frB bs (ups.getD i none) p = true → p ∈ freshAt bs ups i := fun h1 h2 => List.mem_filter.mpr ⟨h1, h2⟩
  induction ht with
  | @top i h =>
    have hi : i < bs.length := by rw [← hl]; exact (List.getElem?_eq_some_iff.mp h).1
    exact .inl (mem_pairsZ.mpr ⟨i, hi, fr ha (by rw [List.getD_eq_getElem?_getD, h]; rfl), hb⟩)
  | @up i j h t ih =>
    have hi : i < bs.length := by rw [← hl]; exact (List.getElem?_eq_some_iff.mp h).1
    have fb : ∀ {p : Int}, p ∉ bs.getD j [] → frB bs (ups.getD i none) p = true := fun {p} hp => by
      rw [List.getD_eq_getElem?_getD, h]
      show (!decide (p ∈ bs.getD j [])) = true
      rw [decide_eq_false hp]
      rfl
    by_cases h1 : a ∈ bs.getD j []
    · by_cases h2 : b ∈ bs.getD j []
      · exact ih h1 h2
      · exact .inr (mem_pairsZ.mpr ⟨i, hi, fr hb (fb h2), ha⟩)
    · exact .inl (mem_pairsZ.mpr ⟨i, hi, fr ha (fb h1), hb⟩)
def keysZ (bs : List (List Int)) (ups : List (Option Nat)) : List IP := ((pairsZ bs ups).map kf).foldl addP []
theorem fresh_inB {bs : List (List Int)} {ups : List (Option Nat)} {i : Nat} {p : Int} (h : p ∈ freshAt bs ups i) : p ∈ bs.getD i [] := (List.mem_filter.mp h).1
theorem ties_mem {bs : List (List Int)} {ups : List (Option Nat)} (hu : UpsOk bs.length ups) (p : IP) : p ∈ (keysZ bs ups).filter (fun p => decide (p.1 ≠ p.2)) ↔ p.1 < p.2 ∧ ∃ ns ∈ bs, p.1 ∈ ns ∧ p.2 ∈ ns := by
  rw [List.mem_filter, decide_eq_true_iff]
  unfold keysZ
  rw [foldP_mem]
  constructor
  · rintro ⟨h, hne⟩
    rcases h with h | h
    · cases h
    · obtain ⟨q, hq, e⟩ := List.mem_map.mp h
      obtain ⟨i, hi, h1, h2⟩ := mem_pairsZ.mp hq
      have h1 := fresh_inB h1
      have hm : bs.getD i [] ∈ bs := by
        rw [List.getD_eq_getElem?_getD, List.getElem?_eq_getElem hi]
        exact List.getElem_mem hi
      subst e
      unfold kf at hne ⊢
      dsimp only at hne ⊢
      by_cases c1 : q.2 < q.1
      · rw [if_pos c1, if_neg (by omega)] at hne ⊢
        exact ⟨c1, _, hm, h2, h1⟩
      · rw [if_neg c1] at hne ⊢
        by_cases c2 : q.2 > q.1
        · rw [if_pos c2] at hne ⊢
          exact ⟨c2, _, hm, h1, h2⟩
        · rw [if_neg c2] at hne
          exact absurd rfl hne
  · rintro ⟨hlt, ns, hn, h1, h2⟩
    obtain ⟨i, hi⟩ := List.mem_iff_getElem?.mp hn
    have hil := (List.getElem?_eq_some_iff.mp hi).1
    have eb : bs.getD i [] = ns := by rw [List.getD_eq_getElem?_getD, hi]; rfl
    refine ⟨.inr (List.mem_map.mpr ?_), by omega⟩
    rcases both_top hu.1 (hu.2.2.2 i hil) (a := p.1) (b := p.2) (by rw [eb]; exact h1) (by rw [eb]; exact h2) with h | h
    · exact ⟨_, h, by unfold kf; dsimp only; rw [if_neg (by omega), if_pos (by omega)]⟩
    · exact ⟨_, h, by unfold kf; dsimp only; rw [if_pos (by omega), if_neg (by omega)]⟩
theorem keys_nd (bs : List (List Int)) (ups : List (Option Nat)) : (keysZ bs ups).Nodup := foldP_nd List.nodup_nil
end P38
end S_Nbb
section S_Xj
namespace EnL
open PySem PySem.Spec PyProof.Rows L2 Tl Hk
/-! ### what can be shown -/
structure Sh (c k : Nat) (d : PyData) : Prop where
  ok : d.showable = true
  nd : d.hasDict = false
  deep : d.depth ≤ k
  len : d.shown.length ≤ c
theorem pile_le : ∀ {ts : List Str} {c : Nat}, (∀ t ∈ ts, t.length ≤ c) → piled ts ≤ ts.length * (c + 2)
  | [], c, _ => Nat.zero_le _
  | t :: r, c, h => by
    have h1 := h t List.mem_cons_self
    have h2 := pile_le (ts := r) (c := c) fun u hu => h u (List.mem_cons_of_mem _ hu)
    rw [List.length_cons, Nat.succ_mul]
    show t.length + 2 + piled r ≤ _
    omega
theorem tup_le {ts : List Str} {c : Nat} (h : ∀ t ∈ ts, t.length ≤ c) : (tupleText ts).length ≤ ts.length * (c + 2) + 3 := by
  unfold tupleText
  rw [strLen_append, strLen_append]
  have e1 : (("(" : String) : Str).length = 1 := rfl
  have e2 : (((if ts.length == 1 then ",)" else ")" : String)) : Str).length ≤ 2 := by split <;> decide
  have e3 : (Str.join ", " ts).length ≤ piled ts := by
    cases ts with
    | nil => exact Nat.le_refl _
    | cons t r => have := join_length_add (t :: r) (by simp); omega
  have := pile_le h
  omega
theorem show_all : ∀ {ds : List PyData}, (∀ d ∈ ds, d.showable = true) → PyData.showableAll ds = true
  | [], _ => rfl
  | d :: r, h => by
    show (d.showable && PyData.showableAll r) = true
    rw [h d List.mem_cons_self, show_all fun x hx => h x (List.mem_cons_of_mem _ hx)] <;> rfl
theorem nd_all : ∀ {ds : List PyData}, (∀ d ∈ ds, d.hasDict = false) → PyData.hasDictAll ds = false
  | [], _ => rfl
  | d :: r, h => by
    show (d.hasDict || PyData.hasDictAll r) = false
    rw [h d List.mem_cons_self, nd_all fun x hx => h x (List.mem_cons_of_mem _ hx)] <;> rfl
theorem deepAll : ∀ {ds : List PyData} {k : Nat}, (∀ d ∈ ds, d.depth ≤ k) → PyData.depthAll ds ≤ k
  | [], k, _ => Nat.zero_le _
  | d :: r, k, h => by
    unfold PyData.depthAll
    have h1 := h d List.mem_cons_self
    have h2 := deepAll (ds := r) (k := k) fun x hx => h x (List.mem_cons_of_mem _ hx)
    omega
theorem Sh.le {c k c' k' : Nat} {d : PyData} (h : Sh c k d) (h1 : c ≤ c') (h2 : k ≤ k') : Sh c' k' d := ⟨h.ok, h.nd, Nat.le_trans h.deep h2, Nat.le_trans h.len h1⟩
theorem sh_int {x : Int} (h : x.natAbs ≤ 64) : Sh 66 1 (.int x) := by
  refine ⟨decide_eq_true (Nat.lt_of_le_of_lt (Nat.log2_le_self _) (by omega)), rfl, by unfold PyData.depth; omega, ?_⟩
  have b1 := len_str_of_int x
  show (Str.ofString (toString x)).length ≤ 66
  omega
theorem sh_bl (b : Bool) : Sh 66 1 (.bool b) := by
  refine ⟨rfl, rfl, by unfold PyData.depth; omega, ?_⟩
  cases b <;> decide +kernel
theorem sh_tup {c k m C : Nat} {ds : List PyData} (h : ∀ d ∈ ds, Sh c k d) (hl : ds.length ≤ m) (hC : m * (c + 2) + 3 ≤ C) : Sh C (k + 1) (.tuple ds) := by
  refine ⟨show_all fun d hd => (h d hd).ok, nd_all fun d hd => (h d hd).nd, Nat.succ_le_succ (deepAll fun d hd => (h d hd).deep), ?_⟩
  show (tupleText (PyData.shownAll ds)).length ≤ _
  rw [shownAll_eq]
  have h2 := tup_le (ts := ds.map PyData.shown) (c := c) fun t ht => by
    obtain ⟨d, hd, rfl⟩ := List.mem_map.mp ht
    exact (h d hd).len
  rw [List.length_map] at h2
  have := Nat.mul_le_mul hl (Nat.le_refl (c + 2))
  omega
theorem sh_lst {c k m C : Nat} {ds : List PyData} (h : ∀ d ∈ ds, Sh c k d) (hl : ds.length ≤ m) (hC : m * (c + 2) + 3 ≤ C) : Sh C (k + 1) (.list ds) := by
  refine ⟨show_all fun d hd => (h d hd).ok, nd_all fun d hd => (h d hd).nd, Nat.succ_le_succ (deepAll fun d hd => (h d hd).deep), ?_⟩
  show (listText (PyData.shownAll ds)).length ≤ _
  rw [shownAll_eq]
  have h2 := listText_le (ts := ds.map PyData.shown) (c := c) fun t ht => by
    obtain ⟨d, hd, rfl⟩ := List.mem_map.mp ht
    exact (h d hd).len
  rw [List.length_map] at h2
  have := Nat.mul_le_mul hl (Nat.le_refl (c + 2))
  omega
/-- a row of small ints -/
theorem sh_row {ns : List Int} (h : ns.length ≤ 64) (h2 : ∀ x ∈ ns, x.natAbs ≤ 64) : Sh 4400 2 (.tuple (ns.map PyData.int)) := sh_tup (c := 66) (m := 64) (fun d hd => by
  obtain ⟨x, hx, rfl⟩ := List.mem_map.mp hd
  exact sh_int (h2 x hx)) (by rw [List.length_map]; exact h) (by decide)
theorem sh_rowL {ns : List Int} (h : ns.length ≤ 64) (h2 : ∀ x ∈ ns, x.natAbs ≤ 64) : Sh 4400 2 (.list (ns.map PyData.int)) := sh_lst (c := 66) (m := 64) (fun d hd => by
  obtain ⟨x, hx, rfl⟩ := List.mem_map.mp hd
  exact sh_int (h2 x hx)) (by rw [List.length_map]; exact h) (by decide)
/-! ### a value told as data -/
section
open Evl
variable {K : PySem.W.Frag} {σ : L2.St} {G : Hp} {te : TE} {ta : TA} {d : PyData} {ds : List PyData}
def EvD (K : PySem.W.Frag) (te : TE) (σ : L2.St) (G : Hp) (d : PyData) : Prop := ∀ H1, Ex G H1 → ∀ Q : VK, (∀ v H2, Ex H1 H2 → Dp K H2 v d → Q v H2) → te σ H1 Q
def EvAD (K : PySem.W.Frag) (ta : TA) (σ : L2.St) (G : Hp) (ds : List PyData) : Prop := ∀ H1, Ex G H1 → ∀ Q : List V → Hp → Prop, (∀ vs H2, Ex H1 H2 → DpAll K H2 vs ds → Q vs H2) → ta σ H1 Q
theorem dpAll_len : ∀ {H : Hp} {vs : List V} {ds : List PyData}, DpAll K H vs ds → vs.length = ds.length
  | _, _, _, .nil => rfl
  | _, _, _, .cons _ a => by rw [List.length_cons, List.length_cons, dpAll_len a]
theorem ev_up {v : V} {H : Hp} (h : Ev te σ G v) (e : Ex G H) : Ev te σ H v := fun H1 e1 => h H1 (e.trans e1)
theorem ed_nil : EvAD K tNil σ G [] := fun H1 e Q q => q [] H1 (Ex.refl H1) .nil
theorem ed_cons {tr : TA} (h : EvD K te σ G d) (hr : EvAD K tr σ G ds) : EvAD K (tCons te tr) σ G (d :: ds) := fun H1 e Q q => h H1 e _ fun v H2 e2 hv => hr H2 (e.trans e2) _ fun vs H3 e3 hs => q (v :: vs) H3 (e2.trans e3) (.cons (dp_ex e3 hv) hs)
theorem ed_v {v : V} (h : Ev te σ G v) (hd : Dp K G v d) : EvD K te σ G d := fun H1 e Q q => h H1 e Q fun H2 e2 => q v H2 e2 (dp_ex (e.trans e2) hd)
theorem ed_u {xs : List V} (h : EvU te σ G xs) (hd : DpAll K G xs ds) : EvD K te σ G (.tuple ds) := fun H1 e Q q => h H1 e Q fun p H2 hp e2 h2 => q _ H2 e2 (.tup (st_of h2) (dpa_ex (e.trans e2) hd))
theorem ed_l {xs : List V} (h : EvL te σ G xs) (hd : DpAll K G xs ds) : EvD K te σ G (.list ds) := fun H1 e Q q => h H1 e Q fun p H2 hp e2 h2 => q _ H2 e2 (.lst (sq_of h2) (dpa_ex (e.trans e2) hd))
theorem ed_lst (h : EvAD K ta σ G ds) (hn : ds.length ≤ 100000) : EvD K (tLst ta) σ G (.list ds) := fun H1 e Q q => h H1 e _ fun vs H2 e2 h2 =>
  ⟨by rw [sizeLine_eq, dpAll_len h2]; omega, fun p hp => q _ _ (e2.trans (Ex.new hp)) (.lst (sq_of upd_same) (dpa_ex (Ex.new hp) h2))⟩
theorem ed_tup (h : EvAD K ta σ G ds) (hn : ds.length ≤ 100000) : EvD K (tTup ta) σ G (.tuple ds) := fun H1 e Q q => h H1 e _ fun vs H2 e2 h2 =>
  ⟨by rw [sizeLine_eq, dpAll_len h2]; omega, fun p hp => q _ _ (e2.trans (Ex.new hp)) (.tup (st_of upd_same) (dpa_ex (Ex.new hp) h2))⟩
theorem dpa_ints {H : Hp} : ∀ ns : List Int, DpAll K H (ns.map V.int) (ns.map PyData.int)
  | [] => .nil
  | x :: r => .cons (.int x) (dpa_ints r)
theorem ev_reprV {c k : Nat} (h : EvD K te σ G d) (hr : ∀ v H, Dp K H v d → ∃ a, v = .ref a) (s : Sh c k d) (hc : c ≤ 1000000) (hk : k ≤ 20) : Ev (tCB (rReprX K) (tCons te tNil)) σ G (.str d.shown) := fun H1 e Q q => h H1 e _ fun v H2 e2 hv => by
  obtain ⟨a, rfl⟩ := hr v H2 hv
  exact .inl (.inl ⟨a, d, rfl, hv, s.ok, s.nd, Nat.le_trans s.deep hk, Nat.le_trans s.len (by rw [sizeLine_eq]; omega), q H2 e2⟩)
theorem dp_lst {v : V} {H : Hp} (h : Dp K H v (.list ds)) : ∃ a, v = .ref a := by
  cases h with
  | lst h a => exact ⟨_, rfl⟩
theorem dp_tup {v : V} {H : Hp} (h : Dp K H v (.tuple ds)) : ∃ a, v = .ref a := by
  cases h with
  | tup h a => exact ⟨_, rfl⟩
theorem ev_reprL {c k : Nat} (h : EvD K te σ G (.list ds)) (s : Sh c k (.list ds)) (hc : c ≤ 1000000) (hk : k ≤ 20) : Ev (tCB (rReprX K) (tCons te tNil)) σ G (.str (PyData.list ds).shown) := ev_reprV h (fun _ _ => dp_lst) s hc hk
theorem ev_reprU {c k : Nat} (h : EvD K te σ G (.tuple ds)) (s : Sh c k (.tuple ds)) (hc : c ≤ 1000000) (hk : k ≤ 20) : Ev (tCB (rReprX K) (tCons te tNil)) σ G (.str (PyData.tuple ds).shown) := ev_reprV h (fun _ _ => dp_tup) s hc hk
/-- [x] * 2 -/
theorem ed_two (h : EvD K te σ G d) : EvD K (tOp rRep (tLst (tCons te tNil)) (tC (.int 2))) σ G (.list [d, d]) := fun H1 e Q q => h H1 e _ fun v H2 e2 hv => by
  refine ⟨by show 1 ≤ sizeLine; decide, fun p hp => ⟨p, 2, [v], rfl, rfl, upd_same, by decide, by decide, by show 1 * 2 ≤ _; decide, fun b hb => ?_⟩⟩
  have e3 := (Ex.new (o := .lst [v]) hp).trans (Ex.new (o := .lst [v, v]) hb)
  exact q _ _ (e2.trans e3) (.lst (sq_of upd_same) (.cons (dp_ex e3 hv) (.cons (dp_ex e3 hv) .nil)))
end
end EnL
end S_Xj
section S_Xy
namespace EnL
open PySem PySem.Spec PyProof.Rows L2 Tl Hk
/-! lists and tuples made of what is new -/
section
open Evl
variable {K : PySem.W.Frag} {σ : L2.St} {G : Hp} {te : TE} {R : V → Hp → Prop} {d : PyData} {ds : List PyData}
def EvFL (te : TE) (σ : L2.St) (G : Hp) (L : List V → Hp → Prop) : Prop := ∀ H1, Ex G H1 → ∀ Q : VK, (∀ p xs H2, H1 p = none → Ex H1 H2 → H2 p = some (.lst xs) → L xs (nw H1 H2) → Q (.ref p) H2) → te σ H1 Q
theorem en_of_ef (m : Mono R) (h : EvF te σ G R) : EvN te σ G R := fun H1 e Q q => h H1 e Q fun v H2 e2 hv => q v H2 e2 fun H3 _ s => m _ _ _ (nw_by s) hv
def nwx (G : Hp) (D : Addr) (H : Hp) : Hp := fun a => if a = D then none else nw G H a
theorem nwx_le {G H : Hp} {D : Addr} : Ex (nwx G D H) (nw G H) := fun a o h => by
  unfold nwx at h
  split at h
  · cases h
  · exact h
theorem nwx_up {G H H' : Hp} {D : Addr} (h : ∀ a o, a ≠ D → H a = some o → H' a = some o) : Ex (nwx G D H) (nwx G D H') := fun a o e => by
  unfold nwx at e ⊢
  split at e
  · cases e
  · rename_i hne
    rw [if_neg hne]
    exact nw_of (nw_at e).1 (h a o hne (nw_at e).2)
theorem nwx_of {G B C : Hp} {D : Addr} {u : HO} (e : Ex G B) (hD : B D ≠ none) : Ex (nw B C) (nwx G D (upd C D u)) := fun a o h => by
  obtain ⟨h1, h2⟩ := nw_at h
  have hne : a ≠ D := fun z => hD (z ▸ h1)
  unfold nwx
  rw [if_neg hne]
  exact nw_of (fresh_back e h1) (by rw [upd_ne hne]; exact h2)
/-- a comprehension told by what is new -/
theorem ef_lc {wi : TI} {g : TG} {te : TE} {vs : List Nat} {n : Nat} {Y : Nat → Hp → V → Hp → Prop} {s : Nat → L2.St → L2.St} (hw : EvI wi σ G n Y) (aim : Aims g n Y s) (hs : ∀ i, wipe (s i (wipe σ vs)) vs = wipe σ vs) (hn : n ≤ 90000)
    (R : Nat → V → Hp → Prop) (mo : ∀ i, Mono (R i)) (he : ∀ i, i < n → EvF te (s i (wipe σ vs)) G (R i)) : EvFL (tLc wi g tYes te vs) σ G (fun xs H => xs.length = n ∧ ∀ (i : Nat) v, xs[i]? = some v → R i v H) := fun H1 e Q q =>
  hw H1 e _ fun J F H2 e2 w sG D hD => lc_it w (fun i H' => Ex H2 H' ∧ ∃ acc, H' D = some (.lst acc) ∧ acc.length = i ∧ ∀ (k : Nat) (v : V), acc[k]? = some v → R k v (nwx H1 D H'))
    ⟨Ex.new hD, [], upd_same, rfl, fun k v h => by simp at h⟩ (fun i H' _ p => sG H' ((e.trans e2).trans p.1) fun a o _ ha => p.1 _ _ ha)
    (fun i x A B hi p y => by
      obtain ⟨p1, acc, p3, p4, p5⟩ := p
      obtain ⟨ab, k⟩ := aim i (wipe σ vs) A x B hi y
      refine k _ ⟨hs i, ?_⟩
      show te (s i (wipe σ vs)) B _
      have hHB : Ex H1 B := (e2.trans p1).trans ab
      refine he i hi B (e.trans hHB) _ fun v C eC hv => ⟨acc, eC _ _ (ab _ _ p3), sz_lt (by omega), ((p1.trans ab).trans eC).mut hD, acc ++ [v], upd_same, by rw [List.length_append, p4] <;> rfl, fun j u hu => ?_⟩
      have hBD : B D ≠ none := by rw [ab _ _ p3]; intro z; cases z
      rcases Nat.lt_or_ge j acc.length with hj | hj
      · rw [List.getElem?_append_left hj] at hu
        exact mo _ _ _ _ (nwx_up fun a o hne h => by rw [upd_ne hne]; exact eC _ _ (ab _ _ h)) (p5 j u hu)
      · rw [List.getElem?_append_right hj] at hu
        have e0 : j - acc.length = 0 := by
          have := (List.getElem?_eq_some_iff.mp hu).1
          simp at this
          omega
        rw [e0] at hu
        cases hu
        obtain rfl : j = i := by omega
        exact mo _ _ _ _ (nwx_of hHB hBD) hv)
    (fun H' p => by
      obtain ⟨p1, acc, p3, p4, p5⟩ := p
      exact q D acc H' (fresh_back e2 hD) (e2.trans p1) p3 ⟨p4, fun k v h => mo _ _ _ _ nwx_le (p5 k v h)⟩)
/-- data told by what is new -/
def DpN (K : PySem.W.Frag) (d : PyData) : V → Hp → Prop := fun v H => Dp K H v d
theorem dpn_mono (d : PyData) : Mono (DpN K d) := fun _ _ _ e h => dp_ex e h
theorem dpa_of : ∀ {vs : List V} {ds : List PyData} {H : Hp}, vs.length = ds.length → (∀ (i : Nat) v, vs[i]? = some v → Dp K H v (ds.getD i .none)) → DpAll K H vs ds
  | [], [], _, _, _ => .nil
  | v :: vs, d :: ds, _, hl, h => .cons (h 0 v rfl) (dpa_of (Nat.succ.inj hl) fun i u hu => h (i + 1) u hu)
  | [], _ :: _, _, hl, _ => by cases hl
  | _ :: _, [], _, hl, _ => by cases hl
/-- tuple(a comprehension) as data -/
theorem ef_tupL {ta : TE} {L : List V → Hp → Prop} (mL : ∀ xs H H', Ex H H' → L xs H → L xs H') (h : EvFL ta σ G L) {R : V → Hp → Prop} (r : ∀ t xs H, H t = some (.tup xs) → L xs H → R (.ref t) H) : EvF (tCB (fun xs H Q => ∃ p ys, xs = [V.ref p] ∧ ((SqL K H p ys ∧ ∀ l, H l = none → Q (V.ref l) (upd H l (HO.tup ys))) ∨ (SqT K H p ys ∧ Q (V.ref p) H))) (tCons ta tNil)) σ G R := fun H1 e Q q =>
  h H1 e _ fun p xs H2 hp e2 h2 hL => ⟨p, xs, rfl, .inl ⟨sq_of h2, fun t ht => q _ _ (e2.trans (Ex.new ht)) (r t xs _ (nw_of (fresh_back e2 ht) upd_same) (mL _ _ _ (nw_up (Ex.new ht)) hL))⟩⟩
end
end EnL
end S_Xy
section S_Xz
namespace EnL
open PySem PySem.Spec PyProof.Rows L2 Tl Hk
/-! data, its lists told as tuples -/
mutual
def fixD : PyData → PyData
  | .list ds => .tuple (fixDs ds)
  | .tuple ds => .tuple (fixDs ds)
  | .none => .none
  | .bool b => .bool b
  | .int i => .int i
  | .str s => .str s
  | .dict kvs => .dict kvs
def fixDs : List PyData → List PyData
  | [] => []
  | d :: ds => fixD d :: fixDs ds
end
theorem fixDs_map : ∀ ds : List PyData, fixDs ds = ds.map fixD
  | [] => rfl
  | d :: ds => by rw [fixDs, fixDs_map ds]; rfl
def flatD : PyData → Bool
  | .list _ => false
  | .tuple _ => false
  | .dict _ => false
  | _ => true
/-- data whose lists are short, nested at most so deep -/
def Fixable : Nat → PyData → Prop
  | 0, d => flatD d = true
  | n + 1, d => flatD d = true ∨ ∃ ds, (d = .list ds ∨ d = .tuple ds) ∧ ds.length ≤ 4000 ∧ ∀ e ∈ ds, Fixable n e
theorem fixable_up : ∀ {n : Nat} {d : PyData}, Fixable n d → Fixable (n + 1) d
  | 0, _, h => .inl h
  | n + 1, _, h => h.elim .inl fun ⟨ds, h1, h2, h3⟩ => .inr ⟨ds, h1, h2, fun e he => fixable_up (h3 e he)⟩
theorem fixable_le {n m : Nat} {d : PyData} (h : Fixable n d) (l : n ≤ m) : Fixable m d := by
  induction l with
  | refl => exact h
  | step _ ih => exact fixable_up ih
theorem fix_flat {d : PyData} (h : flatD d = true) : fixD d = d := by
  cases d with
  | list _ => cases h
  | tuple _ => cases h
  | dict _ => cases h
  | none => unfold fixD; rfl
  | bool b => unfold fixD; rfl
  | int i => unfold fixD; rfl
  | str s => unfold fixD; rfl
theorem dp_flat {K : PySem.W.Frag} {H H' : Hp} {v : V} {d : PyData} (h : Dp K H v d) (f : flatD d = true) : Dp K H' v d := by
  cases h with
  | non => exact .non
  | bl b => exact .bl b
  | int i => exact .int i
  | str x => exact .str x
  | lst _ _ => cases f
  | tup _ _ => cases f
mutual
theorem dp_by {K : PySem.W.Frag} {H H' : Hp} (eL : ∀ a xs, SqL K H a xs → SqL K H' a xs) (eT : ∀ a xs, SqT K H a xs → SqT K H' a xs) : ∀ {v : V} {d : PyData}, Dp K H v d → Dp K H' v d
  | _, _, .non => .non
  | _, _, .bl b => .bl b
  | _, _, .int i => .int i
  | _, _, .str x => .str x
  | _, _, .lst h a => .lst (eL _ _ h) (dpa_by eL eT a)
  | _, _, .tup h a => .tup (eT _ _ h) (dpa_by eL eT a)
theorem dpa_by {K : PySem.W.Frag} {H H' : Hp} (eL : ∀ a xs, SqL K H a xs → SqL K H' a xs) (eT : ∀ a xs, SqT K H a xs → SqT K H' a xs) : ∀ {vs : List V} {ds : List PyData}, DpAll K H vs ds → DpAll K H' vs ds
  | _, _, .nil => .nil
  | _, _, .cons h a => .cons (dp_by eL eT h) (dpa_by eL eT a)
end
/-- all stands but the instance at x -/
def But (x : Addr) (H H' : Hp) : Prop := ∀ b o, b ≠ x → H b = some o → H' b = some o
theorem rd_but {x C dx a : Addr} {fs : List (Str × V)} {H H' : Hp} {u : HO} (e : But x H H') (hx : H x = some (.ins C dx fs)) (hu : u ≠ .ins C dx fs) (h : Rd H a u) : Rd H' a u := by
  rcases h with h | ⟨o, h⟩
  · exact .inl (e _ _ (fun z => by rw [z, hx] at h; exact hu (Option.some.inj h).symm) h)
  · exact .inr ⟨o, e _ _ (fun z => by rw [z, hx] at h; cases h) h⟩
theorem sqL_but {K : PySem.W.Frag} {x C dx : Addr} {fs : List (Str × V)} {H H' : Hp} (e : But x H H') (hx : H x = some (.ins C dx fs)) (a : Addr) (xs : List V) (h : SqL K H a xs) : SqL K H' a xs := h.elim (fun h => .inl (rd_but e hx (fun z => nomatch z) h)) .inr
theorem sqT_but {K : PySem.W.Frag} {x C dx : Addr} {fs : List (Str × V)} {H H' : Hp} (e : But x H H') (hx : H x = some (.ins C dx fs)) (a : Addr) (xs : List V) (h : SqT K H a xs) : SqT K H' a xs := h.elim (fun h => .inl (rd_but e hx (fun z => nomatch z) h)) .inr
theorem dp_but {K : PySem.W.Frag} {x C dx : Addr} {fs : List (Str × V)} {H H' : Hp} (e : But x H H') (hx : H x = some (.ins C dx fs)) {v : V} {d : PyData} (h : Dp K H v d) : Dp K H' v d := dp_by (sqL_but e hx) (sqT_but e hx) h
theorem dpa_but {K : PySem.W.Frag} {x C dx : Addr} {fs : List (Str × V)} {H H' : Hp} (e : But x H H') (hx : H x = some (.ins C dx fs)) {vs : List V} {ds : List PyData} (h : DpAll K H vs ds) : DpAll K H' vs ds := dpa_by (sqL_but e hx) (sqT_but e hx) h
end EnL
end S_Xz
section S_Sv
namespace Tl
open PySem PySem.Spec PyProof.Rows L2
section
variable {prog : Program} {w : World} {M : Model} {A : Around} {E : Value → Shared → Prop} {h : Heap} {g : Array GenState} {d : Drawn} {t : Nat} {os : OsState}
/-- super().name: what stands behind it, bound -/
theorem getAttr_super {so D x C f : Addr} {of : Obj} {l₀ l : List Value} {K : PySem.W.Frag} {name : Str} {Q : Value → Shared → Prop}
    (hso : h.get? so = some { cls := .type "super", dict := none, data := .fields #[.ref D, .ref x, .ref C], slots := #[] }) (hno : PySem.W.Looks (model prog w) h (opaqueClassAbove (.ref C)) none)
    (hC : PySem.W.Looks (model prog w) h (mroOf (.ref C)) l₀) (hl : (l₀.dropWhile (· != .ref D)).drop 1 = l) (X : K.In h)
    (hf : PySem.W.alongIn K name l = some (some (.ref f))) (hfo : h.get? f = some of) (hfc : of.cls = .type "function") (hxC : x ≠ C) (hn : (name == ("__class__" : Str)) = false)
    (hq : Q (.ref h.objs.size) ⟨h.push { cls := .type "method", data := .fields #[.ref f, .ref x] }, g, d, t + 1, os⟩) :
    wpAny (model prog w) A (getAttr (.ref so) name true) Q E ⟨h, g, d, t, os⟩ := by
  have hlk := F.ks_slot_super_ga.lookup
  have hT : ∀ t', (⟨h, g, d, t', os⟩ : Shared).TypeIs (.ref so) "super" := fun _ => ⟨_, hso, rfl⟩
  unfold getAttr getAttrBy
  refine wpAny_bind (wpAny_mkText (wpAny_holding (wpAny_bind (wpAny_typeOf (hT _) (wpAny_bind (wpAny_of_eq hlk ?_))))))
  show wpAny _ _ (getAttrByItsOwn (.ref so) (.str name t) (.type "super") (.builtin "super.__getattribute__") true true) _ _ _
  unfold getAttrByItsOwn hookBefore callGetattribute boundAndCalled
  refine wpAny_bind (wpAny_of_eq (show (if onTheHeap (.type "super") then typeLookup (.type "super") "__getattr__" else pure none) = pure none from rfl) ?_)
  refine wpAny_bind (wpAny_attempt (wpAny_holding ?_))
  show wpAny _ _ (bindSpecial (.builtin "super.__getattribute__") (.ref so) >>= _) _ _ _
  refine wpAny_bind (wpAny_of_eq (F.ks_slot_super_ga.bind _) ?_)
  refine wpAny_mono (Q := fun v s' => v = .ref h.objs.size ∧ s' = ⟨h.push { cls := .type "method", data := .fields #[.ref f, .ref x] }, g, d, t + 1, os⟩) (E := fun _ _ => False)
    (wpAny_call_entry F.ks_slot_super_ga (hT _) F.ks_entry_super_ga (ks_wpAny_super_ga hso hno hC hl X hf hfo hfc hxC hn ⟨_, rfl, rfl, rfl⟩) (F.ks_gaArgs_super _ _)) (fun v s' hv => ?_) fun _ _ z => z.elim
  obtain ⟨rfl, rfl⟩ := hv
  exact wpAny_pure hq
end
section
variable {M : Model} {A : Around} {E : Value → Shared → Prop} {s : Shared} {env : Env}
theorem starcall_at {c : Code} {o e1 e2 : Expr} {m : Str} {p apos pos : Pos} {Q : Value → Shared → Prop}
    (hst : starEach [e1, .Starred e2 p] env = [(false, eval e1 env), (true, eval e2 env)]) (hpos : methodCallPos false o env apos pos = pure pos)
    (h : PySem.wpAt M A c (attributeBase o m env (eval o env)) (fun ov s₁ => wpAny M A (getAttr ov m true) (fun f s₂ => wpAny M A (callWith pos f [] (backTo pos [(false, eval e1 env), (true, eval e2 env)]) []) Q E s₂) E s₁) E s) :
    PySem.wpAt M A c (eval (.Call (.Attribute o m apos) [e1, .Starred e2 p] [] pos) env) Q E s := by
  have hke : backToKw pos (keywordEach [] env) = [] := rfl
  have hform : methodCallForm ([e1, Expr.Starred e2 p].length + ([] : List Keyword).length) (backTo pos [(false, eval e1 env), (true, eval e2 env)]) [] = false := rfl
  have hcal : ∀ ov, calleeOf false o env ov m = (getAttr ov m true >>= fun v => pure (v, [])) := fun _ => rfl
  rw [arm_eval_Call, hst, hke]
  refine PySem.wpAt_bind (ks_wpAt_mono h (fun ov s₁ h₁ => wpAt_of_wpAny ?_) fun _ _ x => x)
  refine wpAny_bind (wpAny_standAt ?_)
  unfold methodCall
  rw [hform, hpos, hcal]
  refine wpAny_bind (wpAny_holding (wpAny_bind (wpAny_mono h₁ (fun f s₂ h₂ => wpAny_pure ?_) fun _ _ x => x)))
  exact wpAny_bind (wpAny_pure h₂)
end
section
variable {P : Program} {w : World} {K : PySem.W.Frag} {mg : Str → Option Value} {base : Heap}
/-- a def(self, .., *v) whose body begins with super().__init__(e, *y) -/
theorem fn_superS {f f2 D C cc cda : Addr} {name qual pv : Str} {params : Arguments} {scope : Scope} {dV kV doc pm ct : Value} {an : Option Addr} {N ps : List Str} {self : Str} {k : Nat} {sp sp2 : Sp} {e1 e2 : Expr} {rest : List Stmt} {p0 p1 p2 apos pos spos : Pos}
    (B : SuFacts P K f f2 D C cc cda (PySem.W.ksFn name qual params (.Expr (.Call (.Attribute (.Call (.Name "super" p0) [] [] p1) "__init__" apos) [e1, .Starred e2 p2] [] pos) spos :: rest) scope dV kV doc pm an (.ref cda) ct cc) self)
    (hcd : PySem.W.codeIn K (.ref cda) qual = true) (S : SuScope N (ps ++ [pv]) scope) (h0 : ps[0]? = some self) (ms : mg "super" = none)
    (F2 : FnR P w K mg base CX0 k f2 sp2)
    (hb : ∀ us rest' : List Value, us.length = ps.length → bindArgs (PySem.W.ksFn name qual params (.Expr (.Call (.Attribute (.Call (.Name "super" p0) [] [] p1) "__init__" apos) [e1, .Starred e2 p2] [] pos) spos :: rest) scope dV kV doc pm an (.ref cda) ct cc) ⟨us ++ rest', []⟩ = (newTuple rest' >>= fun t => pure (ps.zip us ++ [(pv, t)])))
    (hbody : ∀ (A : Around) (outer : List Env) (s : Shared) (H : Hp) (vs : List V) (Q : VK) (E : XK), Room k (A.deeper (PySem.W.ksEnv qual scope s.heap.objs.size f (.ref cda) cc)) → sp vs H Q E →
      ∃ t1 t2 t x dx fs, PE (suCx P w K mg base N qual scope f (.ref cda) cc A outer s H E) e1 t1 ∧ PE (suCx P w K mg base N qual scope f (.ref cda) cc A outer s H E) e2 t2 ∧ PSs (suCx P w K mg base N qual scope f (.ref cda) cc A outer s H E) rest t ∧ vs[0]? = some (.ref x) ∧ H x = some (.ins C dx fs) ∧
        ∀ q, H q = none → t1 (L2.start N vs) (upd H q (.met f2 x)) fun y1 H1 => t2 (L2.start N vs) H1 fun y2 H2 => ∃ b us, y2 = .ref b ∧ (SqT K H2 b us ∨ SqL K H2 b us) ∧ H2 q = some (.met f2 x) ∧ sp2 (.ref x :: y1 :: us) H2 (fun _ H3 => t { nx := fun _ H' => Q .non H', rt := Q } (L2.start N vs) H3) E0)
    (hsw : ∀ env : Env, swapsWith (.Call (.Attribute (.Call (.Name "super" p0) [] [] p1) "__init__" apos) [e1, .Starred e2 p2] [] pos) none spos.line env = pure false)
    (hst : ∀ env : Env, starEach [e1, .Starred e2 p2] env = [(false, eval e1 env), (true, eval e2 env)]) (hpos : ∀ env : Env, methodCallPos false (.Call (.Name "super" p0) [] [] p1) env apos pos = pure pos) :
    FnR P w K mg base CX0 (k + 1) f (fun vs H Q E => ∃ ws rest', vs = ws ++ rest' ∧ ws.length = ps.length ∧ rest'.length ≤ sizeLine ∧ ∀ p, H p = none → sp (ws ++ [V.ref p]) (upd H p (.tup rest')) Q E) := by
  obtain ⟨⟨oc, od, osl, lk⟩, ⟨ar, har, hself⟩, ⟨ccl, cdd, cvs, ccs, file, tf, lkc, hvs, hfile⟩, ⟨cl, cld, csl, lkcell⟩, ⟨cdD, hclsD⟩, hsub, hopq, habove, hty, hfi, htop, hnotC⟩ := B
  intro A outer s H us vs Q E hr e0 r hsp
  obtain ⟨ws, rest', ev, hl, hz, hsp⟩ := hsp
  subst ev
  obtain ⟨u1, u2, eu, r1, r2⟩ := StX.vals_split r
  subst eu
  have hn : H s.heap.objs.size = none := e0.hok.fresh (Nat.le_refl _)
  have hl1 : u1.length = ps.length := by rw [← r1.length]; exact hl
  have hl2 : u2.length ≤ sizeLine := by rw [← r2.length]; exact hz
  have kin0 : K.In s.heap := e0.mod.kin.keeps fun b o e => (e0.bs b o e).1
  have new : ObjOk P w (upd H s.heap.objs.size (.tup rest')) (s.heap.push ({ cls := .type "tuple", data := .seq u2.toArray } : Obj)) s.heap.objs.size (.tup rest') := ⟨hz, u2, r2, ⟨_, Heap.get?_push_size _ rfl, rfl, _, rfl⟩⟩
  have un := StX.un_laid (fs := frs outer) (s := s) (o := ({ cls := .type "tuple", data := .seq u2.toArray } : Obj)) (u := .tup rest') hn
  have e1' := StX.env0_laid e0 new
  have hsp2 := hsp _ hn
  have rv : Vals (ws ++ [V.ref s.heap.objs.size]) (u1 ++ [Value.ref s.heap.objs.size]) := r1.append (.cons rfl .nil)
  have hlv : (ws ++ [V.ref s.heap.objs.size]).length = (ps ++ [pv]).length := by rw [List.length_append, List.length_append, hl] <;> rfl
  have hzip : ps.zip u1 ++ [(pv, Value.ref s.heap.objs.size)] = (ps ++ [pv]).zip (u1 ++ [Value.ref s.heap.objs.size]) := by rw [List.zip_append hl1.symm] <;> rfl
  have hup : ∀ e s', (CX0 : CXT) outer (upd H s.heap.objs.size (.tup rest')) { s with heap := s.heap.push ({ cls := .type "tuple", data := .seq u2.toArray } : Obj) } E e s' → (CX0 : CXT) outer H s E e s' := fun e s' z => z
  refine codeAny_call_function hr.depth (kin0 _ _ lk) rfl S.co S.gen rfl (PySem.W.codeRec_of kin0 hcd) ?_
  rw [hb u1 u2 hl1]
  refine wpAny_bind (wpAny_newTuple (wpAny_pure ?_) hl2)
  have lim : (s.heap.push ({ cls := .type "tuple", data := .seq u2.toArray } : Obj)).NoLimit := e0.mod.nolimit.keeps fun b o e => (e1'.bs b o e).1
  rw [hzip]
  generalize hs1 : ({ s with heap := s.heap.push ({ cls := .type "tuple", data := .seq u2.toArray } : Obj) } : Shared) = s1 at e1' un ⊢
  have lim1 : s1.heap.NoLimit := by rw [← hs1]; exact lim
  have os1 : s1.os = s.os := by rw [← hs1]
  have un1 : Un (frs outer) [] H (upd H s.heap.objs.size (.tup rest')) s.heap s1.heap := by rw [← hs1]; exact un
  generalize hwv : ws ++ [V.ref s.heap.objs.size] = vs at hsp2 rv hlv
  generalize hH : upd H s.heap.objs.size (.tup rest') = H1 at hsp2 e1' un1
  clear new un hup
  refine wpAny_newFunctionEnv (fun y hy => S.nocell y hy) (fun y hy => S.par y.1 (List.of_mem_zip (a := y.1) (b := y.2) hy).1) (fun h₁ hns hsb => ⟨lim1.fresh _ hsb, ks_codeAny_funcAt ?_⟩) S.kind
  have kp : ∀ b o, s1.heap.get? b = some o → h₁.get? b = some o := fun b o e => hsb.extBut b o (Nat.ne_of_lt (Heap.lt_size e)) (Heap.get?_push_of_some _ e)
  obtain ⟨t1, t2, t, x, dx, fs, ha1, ha2, ht, hx0, hx, hq⟩ := hbody A outer s1 H1 vs Q E (hr.deeper _) hsp2
  have I := su_start S lkcell hr.hd e1' hlv rv hns kp (tk := s1.toks + ((ps ++ [pv]).zip (u1 ++ [Value.ref s.heap.objs.size])).length) (qual := qual) (f := f) (cd := .ref cda) (E := E)
  have kin1 : K.In h₁ := I.kIn
  obtain ⟨oD, hD1, hD2⟩ : ∃ oD, h₁.get? D = some oD ∧ oD.data = .cls cdD := by
    unfold PySem.W.clsIn at hclsD
    split at hclsD
    · rename_i ho
      cases hclsD
      exact ⟨_, kin1 _ _ ho, rfl⟩
    · cases hclsD
  obtain ⟨mA, O, _⟩ := ins_get I.hok hx
  obtain ⟨u0, hu0, ru0⟩ := rv.get hx0
  cases (show u0 = Value.ref x from ru0)
  have h0' : (ps ++ [pv])[0]? = some self := by
    rw [List.getElem?_append_left (List.getElem?_eq_some_iff.mp h0).1]
    exact h0
  have hsv : ((ps ++ [pv]).zip (u1 ++ [Value.ref s.heap.objs.size])).reverse.lookup ar.arg = some (.ref x) := by
    rw [hself]
    refine lookup_rev ?_ h0' hu0
    rw [← S.pre]
    exact S.nd.sublist (List.take_sublist _ _)
  have hsl : scope.names.lookup ar.arg = some .local := by
    rw [hself]
    exact S.par _ (List.mem_of_getElem? h0')
  have hxC : x ≠ C := by
    intro e
    cases hcl : PySem.W.clsIn K C with
    | none => exact hnotC hcl
    | some cdC =>
      unfold PySem.W.clsIn at hcl
      split at hcl
      · rename_i ho
        have e2 := kin1 _ _ ho
        rw [← e, O.obj] at e2
        cases e2
      · cases hcl
  obtain ⟨mb, hnb, hbb⟩ := I.ok.mod.blt
  refine ks_wpAt_execs_cons (ks_wpAt_Expr_any (starcall_at (hst _) (hpos _) (ks_wpAt_super_base (env := PySem.W.ksEnv qual scope s1.heap.objs.size f (.ref cda) cc) S.sup S.cls (by decide) rfl (kin1 _ _ lk) rfl har rfl (kin1 _ _ lkc) rfl hvs hfile htop ?_)) I.quiet (hsw _))
  refine PySem.W.ks_loadName_global S.kind S.sup (PySem.Calls.loadGlobal_builtin (env := PySem.W.ksEnv qual scope s1.heap.objs.size f (.ref cda) cc) (I.ok.mod.glob.keeps I.bk) ms (hnb.keeps I.bk) ((hbb _ (by decide +kernel)).trans (by decide +kernel)) ⟨rfl, ?_⟩)
  refine wpAny_loadName_free S.kind S.cls rfl ⟨_, kin1 _ _ lkcell, rfl⟩ ?_
  refine wpAny_loadName_local S.kind hsl hns hsv ?_
  refine ks_wpAny_isType_cls hD1 hD2 ⟨rfl, ?_⟩
  refine ks_wpAny_call_super hD1 hD2 O.obj rfl (fun c e => by cases e) (PySem.W.looks_mroIn kin1 hsub) (fun h2 e2 k2 => ?_)
  have I2 := I.kept (t' := s1.toks + ((ps ++ [pv]).zip (u1 ++ [Value.ref s.heap.objs.size])).length) k2
  have kin2 : K.In h2 := I2.kIn
  obtain ⟨of, hof, hofc⟩ : ∃ of, h2.get? f2 = some of ∧ of.cls = .type "function" := by
    have ht' : (K.lookup f2).map (·.cls) = some (.type "function") := hty
    cases z : K.lookup f2 with
    | none => rw [z] at ht'; cases ht'
    | some of => rw [z] at ht'; exact ⟨of, kin2 _ _ z, Option.some.inj ht'⟩
  cases hcl : PySem.W.clsIn K C with
  | none => exact absurd hcl hnotC
  | some cdC =>
    unfold PySem.W.ks_superIn at habove
    rw [hcl] at habove
    refine getAttr_super e2 (PySem.W.looks_opaque kin2 hopq) (l₀ := cdC.mro) (fun A Q E s k q => wpAny_bind ((PySem.W.looks_clsIn kin2 hcl) A _ E s k (wpAny_pure q))) rfl kin2 habove hof hofc hxC (by decide) ?_
    have hfree : H1 h2.objs.size = none := I2.hok.fresh (Nat.le_refl _)
    have I3 := I2.laid (a := h2.objs.size) (o := .met f2 x) (h' := h2.push { cls := .type "method", data := .fields #[.ref f2, .ref x] }) (t' := s1.toks + ((ps ++ [pv]).zip (u1 ++ [Value.ref s.heap.objs.size])).length + 1) (fun b u e => Heap.get?_push_of_some _ e) (Nat.le_refl _) (Heap.get?_push_size _ rfl)
    have hx3 := hq _ hfree
    have hr4 : Room k (suCx P w K mg base N qual scope f (.ref cda) cc A outer s1 H1 E).A := hr.deeper _
    refine PySem.W.ks_call (P := PySem.W.MethP K h2.objs.size f2 (.ref x)) rfl (PySem.W.keeps_M hfi) (Calls.evalArgs_plain (Calls.spliced_cons (wpAny_mono (ha1.run [] _ (L2.start N vs) _ _ I3 hx3) (fun v1 s3 h3 => ?_) fun _ _ z => z.elim)))
    obtain ⟨y1, H2, I4, ry1, q2⟩ := h3
    refine PySem.W.ks_spliced (wpAny_mono (ha2.run [] s3 (L2.start N vs) H2 _ I4 q2) (fun v2 s4 h4 => ?_) fun _ _ z => z.elim)
    obtain ⟨y2, H3, I5, ry2, b, us5, ey, ht5, hm5, hsp5⟩ := h4
    subst ey
    obtain rfl : v2 = Value.ref b := ry2
    refine StX.star_any I5 ht5 fun us s5 I6 rv5 => Calls.spliced_nil ?_
    show PySem.W.MethP K h2.objs.size f2 (.ref x) s5.heap ∧ wpAny (model P w) _ (call (.ref h2.objs.size) (v1 :: (us ++ [])) []) _ _ s5
    rw [List.append_nil]
    refine ⟨met_P I6 hm5, wpAny_call (PySem.W.method_call (met_P I6 hm5).1 (codeAny_mono (run_fnR (X := suCx P w K mg base N qual scope f (.ref cda) cc A outer s1 H1 E) (vs := V.ref x :: y1 :: us5) (us := Value.ref x :: v1 :: us) F2 hr4 pass0 I6 (.cons rfl (.cons ry1 rv5)) hsp5) fun r5 s6 h6 => ?_))⟩
    match r5, h6 with
    | .ok (.ret u), h6 =>
      obtain ⟨v5, H5, I7, _, q5⟩ := h6
      refine wpAt_of_wpAny (wpAny_mono (ht.run [] s6 _ H5 _ I7 q5) (fun fl s' hs => ?_) fun _ _ z => z.elim)
      cases fl with
      | ret u =>
        obtain ⟨v, σ', H', J, rv, q⟩ := hs
        exact ⟨v, H', J.os.trans os1, J.bare, un1.trans J.base, J.hok, rv, q⟩
      | next =>
        obtain ⟨σ', H', J, q⟩ := hs
        exact ⟨.non, H', J.os.trans os1, J.bare, un1.trans J.base, J.hok, rfl, q⟩
      | brk => exact hs.elim fun _ h => h.elim fun _ h => h.2.elim
      | cont => exact hs.elim fun _ h => h.elim fun _ h => h.2.elim
    | .error e, h6 => exact False.elim h6
    | .ok .next, h6 => exact False.elim h6
    | .ok .brk, h6 => exact False.elim h6
    | .ok .cont, h6 => exact False.elim h6
end
end Tl
end S_Sv
section S_Nbp
namespace P38
open PySem PySem.Spec PyProof.Rows L2 Tl Hk EnL
abbrev sPaperI : Stmt := inClass sPaperC 0
theorem scFixed : FnScope ["value", "item"] ["value"] (defScope sFixed) := ⟨rfl, rfl, rfl, by decide +kernel, rfl, by decide +kernel, by decide +kernel⟩
theorem scPaperI : FnScope ["self", "word", "parts"] ["self", "word", "parts"] (defScope sPaperI) := ⟨rfl, rfl, rfl, by decide +kernel, rfl, by decide +kernel, by decide +kernel⟩
structure TPap (K : PySem.W.Frag) (C : Addr) : Prop where
  cl : Cls K C
  nW : NoAttr K C "word"
  nP : NoAttr K C "parts"
theorem putF_len (f : Str) (v : V) : ∀ fs : List (Str × V), (putF f v fs).length ≤ fs.length + 1
  | [] => Nat.le_refl _
  | (g, y) :: r => by
    unfold putF
    split
    · simp
    · have := putF_len f v r
      simp
      omega
theorem pe_nv {X : Cx} {e : Expr} : PE X e (fun _ _ _ => False) := ⟨fun _ _ _ _ _ _ h => h.elim⟩
theorem go_elRet {r : List V → Hp → VK → Prop} {te : TE} {D : Ends} {σ : L2.St} {H : Hp} {xs : List V} (h : Evl.EvL te σ H xs) (k : ∀ p H1, H p = none → Evl.Ex H H1 → H1 p = some (.lst xs) → r [.ref p] H1 D.rt) : tRet (tCB r (tCons te tNil)) D σ H := h H (Evl.Ex.refl H) _ k
def tyD : PyData → String
  | .none => "NoneType"
  | .bool _ => "bool"
  | .int _ => "int"
  | .str _ => "str"
  | .list _ => "list"
  | .tuple _ => "tuple"
  | .dict _ => "dict"
theorem ty_dp {K : PySem.W.Frag} {H : Hp} {v : V} {d : PyData} (h : Dp K H v d) : Ty7 K H v (tyD d) := by
  cases h with
  | non => exact .non
  | bl b => exact .bl b
  | int i => exact .int i
  | str x => exact .str x
  | lst h _ => exact .lst h
  | tup h _ => exact .tup h
def spFix (K : PySem.W.Frag) (n : Nat) : Sp := fun vs H Q _ => ∃ (v : V) (d : PyData), vs = [v] ∧ Dp K H v d ∧ Fixable n d ∧ ∀ u H1, Evl.Ex H H1 → Dp K (nw H H1) u (fixD d) → Q u H1
theorem dpa_at {K : PySem.W.Frag} {H : Hp} : ∀ {xs : List V} {ds : List PyData} {i : Nat} {u : V}, DpAll K H xs ds → xs[i]? = some u → Dp K H u (ds.getD i .none)
  | _, _, 0, _, .cons h _, e => by cases e; exact h
  | _, _, i + 1, _, .cons _ t, e => dpa_at (i := i) t e
theorem ef_call {K : PySem.W.Frag} {sp : Sp} {E : XK} {ta : TA} {σ : L2.St} {G : Hp} {vs : List V} {R : V → Hp → Prop} (h : Evl.EvA ta σ G vs) (mo : Mono R) (hs : ∀ H1, Evl.Ex G H1 → ∀ Q : VK, (∀ v H2, Evl.Ex H1 H2 → R v (nw H1 H2) → Q v H2) → sp (vs ++ []) H1 Q E) : EvF (tCall sp [] E ta) σ G R := fun H1 e Q q =>
  h H1 e _ fun H2 e2 => hs H2 (e.trans e2) Q fun v H3 e3 hv => q v H3 (e2.trans e3) (mo _ _ _ (nw_back e2) hv)
section
variable {P : Program} {w : World} {K : PySem.W.Frag} {mg : Str → Option Value} {base : Heap}
theorem ok_fix {f fL : Addr} {fd fdL : FuncData} {k : Nat} (F : Fun K "fixed" "fixed" sFixed f fd) (gF : mg "fixed" = some (.ref f)) (bF : Binds K fd ["value"] [])
    (FL : Fun K "is_list" "is_list" sList fL fdL) (GL : FnOk P w K mg base CX0 k fL fdL ["value"] (spList K)) (bL : Binds K fdL ["value"] []) (gL : mg "is_list" = some (.ref fL)) (mtup : mg "tuple" = none) : ∀ n, FnOk P w K mg base CX0 (k + 1 + n) f fd ["value"] (spFix K n)
  | 0 => by
    refine F.ok scFixed (fun vs H Q E h => ?_) (fun cdv A outer s H vs Q E hr h => ?_)
    · obtain ⟨v, d, rfl, _⟩ := h
      rfl
    · obtain ⟨v, d, rfl, hd, hf, q⟩ := h
      refine ⟨_, pss_cons (ps_if (pt_val (pe_call GL hr (by rfl) gL FL.kp bL .nil pass0 (pa_cons (pv 0) pa_nil))) pss_never pss_nil) (pss_one (ps_ret (pv 0))), ?_⟩
      refine Evl.q_when (b := false) (Evl.et_is (Evl.et_B (Evl.ev_call (Evl.ea_cons (Evl.ev_var rfl) Evl.ea_nil) (spv_list (ty_dp hd)))) ?_) (fun z => nomatch z) fun _ H1 e1 => ?_
      · cases d <;> first | rfl | (exact absurd hf (by intro z; cases z))
      · refine Evl.s_ret (Evl.ev_var rfl) fun H2 e2 => q v H2 (e1.trans e2) ?_
        rw [fix_flat hf]
        exact dp_flat hd hf
  | n + 1 => by
    have ih := ok_fix F gF bF FL GL bL gL mtup n
    refine F.ok scFixed (fun vs H Q E h => ?_) (fun cdv A outer s H vs Q E hr h => ?_)
    · obtain ⟨v, d, rfl, _⟩ := h
      rfl
    · obtain ⟨v, d, rfl, hd, hf, q⟩ := h
      have nd := scFixed.nd
      have hrL : Room k (A.deeper (envOfC "fixed" (defScope sFixed) s.heap.objs.size f cdv)) := hr.mono (Nat.le_trans (Nat.le_succ k) (Nat.le_add_right _ _))
      by_cases hfl : flatD d = true
      · refine ⟨_, pss_cons (ps_if (pt_val (pe_call GL hrL (by rfl) gL FL.kp bL .nil pass0 (pa_cons (pv 0) pa_nil))) pss_never pss_nil) (pss_one (ps_ret (pv 0))), ?_⟩
        refine Evl.q_when (b := false) (Evl.et_is (Evl.et_B (Evl.ev_call (Evl.ea_cons (Evl.ev_var rfl) Evl.ea_nil) (spv_list (ty_dp hd)))) ?_) (fun z => nomatch z) fun _ H1 e1 => ?_
        · cases d <;> first | rfl | (exact absurd hfl (by intro z; cases z))
        · refine Evl.s_ret (Evl.ev_var rfl) fun H2 e2 => q v H2 (e1.trans e2) ?_
          rw [fix_flat hfl]
          exact dp_flat hd hfl
      · obtain ⟨ds, hds, hlen, hall⟩ := hf.resolve_left hfl
        have efix : fixD d = .tuple (ds.map fixD) := by
          rcases hds with rfl | rfl <;> rw [fixD, fixDs_map]
        have items : ∀ {a : Addr} {xs : List V}, v = .ref a → DpAll K H xs ds → ∀ {wi : TI} {H1 : Hp}, Evl.Ex H H1 → EvI wi (start ["value", "item"] [v]) H1 xs.length (YAt xs) →
            EvF (tCB (fun xs H Q => ∃ p ys, xs = [V.ref p] ∧ ((SqL K H p ys ∧ ∀ l, H l = none → Q (V.ref l) (upd H l (HO.tup ys))) ∨ (SqT K H p ys ∧ Q (V.ref p) H))) (tCons (tLc wi (gName 1) tYes (tCall (spFix K n) [] E0 (tCons (tVar 1) tNil)) [1]) tNil)) (start ["value", "item"] [v]) H1 (DpN K (fixD d)) := fun {a xs} hv hx {wi H1} e1 hw => by
          have hl := dpAll_len hx
          have hall2 := fun (i : Nat) (u : V) (hu : xs[i]? = some u) => dpa_at hx hu
          refine ef_tupL (K := K) (L := fun ys H => ys.length = xs.length ∧ ∀ (i : Nat) u, ys[i]? = some u → DpN K (fixD (ds.getD i .none)) u H) (fun ys H H' e h => ⟨h.1, fun i u hu => dp_ex e (h.2 i u hu)⟩) (ef_lc hw (aims_at (j := 1)) (fun _ => rfl) (by omega) _ (fun i => dpn_mono _) fun i hi => ?_) fun t ys H' ht hL => ?_
          · obtain ⟨u, hu⟩ : ∃ u, xs[i]? = some u := ⟨_, List.getElem?_eq_getElem hi⟩
            have eu : xs.getD i .non = u := by rw [List.getD_eq_getElem?_getD, hu]; rfl
            refine ef_call (K := K) (vs := [u]) (Evl.ea_cons (Evl.ev_is (Evl.ev_var rfl) eu) Evl.ea_nil) (dpn_mono _) fun H2 e2 Q' q' => ⟨u, ds.getD i .none, rfl, dp_ex (e1.trans e2) (hall2 i u hu), hall _ ?_, fun u' H3 e3 h3 => q' u' H3 e3 h3⟩
            rw [List.getD_eq_getElem?_getD, List.getElem?_eq_getElem (by omega)]
            exact List.getElem_mem _
          · show Dp K H' (.ref t) (fixD d)
            rw [efix]
            refine .tup (Evl.st_of ht) (dpa_of (by rw [hL.1, List.length_map, hl]) fun i u hu => ?_)
            have := hL.2 i u hu
            have hi : i < ds.length := by rw [← hl, ← hL.1]; exact (List.getElem?_eq_some_iff.mp hu).1
            rw [List.getD_eq_getElem?_getD, List.getElem?_map, List.getElem?_eq_getElem hi]
            rw [List.getD_eq_getElem?_getD, List.getElem?_eq_getElem hi] at this
            exact this
        cases hd with
        | @lst a xs ds' hS hx =>
          obtain rfl : ds = ds' := by rcases hds with h | h <;> cases h; rfl
          refine ⟨_, pss_cons (ps_if (pt_val (pe_call GL hrL (by rfl) gL FL.kp bL .nil pass0 (pa_cons (pv 0) pa_nil))) (pss_one (ps_ret (pe_callTy call_tuple_of (by rfl) mtup (by decide +kernel) (pa_cons
            (pe_lc (own := [("item", 1)]) (g := gName 1) (tt := tYes) rfl nd (pi_list (pv 0)) (blkOk_by (N := ["value", "item"]) (sc := defScope sFixed) (by decide +kernel)) (fun _ _ _ _ _ => pg_name (i := 1) nd rfl (Or.inl rfl)) (fun _ _ _ _ _ => pts_nil)
              (fun _ _ _ _ _ => pe_call ih hr (by rfl) gF F.kp bF .nil pass0 (pa_cons (pv 1) pa_nil))) pa_nil)))) pss_nil) pss_never, ?_⟩
          refine Evl.q_when (b := true) (Evl.et_is (Evl.et_B (Evl.ev_call (Evl.ea_cons (Evl.ev_var rfl) Evl.ea_nil) (spv_list (.lst hS)))) (by decide)) (fun _ H1 e1 => ?_) (fun z => by cases z)
          exact items rfl hx e1 (ei_list (K := K) (Evl.ev_var (i := 0) rfl) (Evl.ex_l e1 hS)) H1 (Evl.Ex.refl _) _ fun u H2 e2 h2 => q u H2 (e1.trans e2) (dp_ex (nw_back e1) h2)
        | @tup a xs ds' hS hx =>
          obtain rfl : ds = ds' := by rcases hds with h | h <;> cases h; rfl
          refine ⟨_, pss_cons (ps_if (pt_val (pe_call GL hrL (by rfl) gL FL.kp bL .nil pass0 (pa_cons (pv 0) pa_nil))) (pss_one (ps_ret (pe_callTy call_tuple_of (by rfl) mtup (by decide +kernel) (pa_cons
            (pe_lc (own := [("item", 1)]) (g := gName 1) (tt := tYes) rfl nd (pi_tup (pv 0)) (blkOk_by (N := ["value", "item"]) (sc := defScope sFixed) (by decide +kernel)) (fun _ _ _ _ _ => pg_name (i := 1) nd rfl (Or.inl rfl)) (fun _ _ _ _ _ => pts_nil)
              (fun _ _ _ _ _ => pe_call ih hr (by rfl) gF F.kp bF .nil pass0 (pa_cons (pv 1) pa_nil))) pa_nil)))) pss_nil) pss_never, ?_⟩
          refine Evl.q_when (b := true) (Evl.et_is (Evl.et_B (Evl.ev_call (Evl.ea_cons (Evl.ev_var rfl) Evl.ea_nil) (spv_list (.tup hS)))) (by decide)) (fun _ H1 e1 => ?_) (fun z => by cases z)
          exact items rfl hx e1 (ei_tup (K := K) (Evl.ev_var (i := 0) rfl) (Evl.ex_t e1 hS)) H1 (Evl.Ex.refl _) _ fun u H2 e2 h2 => q u H2 (e1.trans e2) (dp_ex (nw_back e1) h2)
        | _ => exact absurd rfl hfl
end
end P38
end S_Nbp
section S_Nbq
namespace P38
open PySem PySem.Spec PyProof.Rows L2 Tl Hk EnL
/-- what a paper's making leaves -/
def PapQ (K : PySem.W.Frag) (H : Hp) (x C dx : Addr) (w : V) (fs : List (Str × V)) (ds : List PyData) (Q : VK) : Prop := ∀ t us H', But x H H' → H' x = some (.ins C dx (putF "parts" (.ref t) (putF "word" w fs))) →
  SqT K (nw H H') t us → DpAll K (nw H H') us (ds.map fixD) → Q .non H'
def spPaper (K : PySem.W.Frag) (n : Nat) (C : Addr) : Sp := fun vs H Q _ => ∃ (x dx p : Addr) (w : V) (us : List V) (ds : List PyData) (fs : List (Str × V)), vs = [.ref x, w, .ref p] ∧ H x = some (.ins C dx fs) ∧ TPap K C ∧ fs.length < 900 ∧ H p = some (.tup us) ∧ DpAll K H us ds ∧ Fixable n (.tuple ds) ∧ PapQ K H x C dx w fs ds Q
def FnPap (P : Program) (w : World) (K : PySem.W.Frag) (mg : Str → Option Value) (base : Heap) (k n : Nat) (C f : Addr) : Prop := FnR P w K mg base CX0 k f (fun vs H Q E => ∃ ws rest, vs = ws ++ rest ∧ ws.length = 2 ∧ rest.length ≤ sizeLine ∧ ∀ p, H p = Option.none → spPaper K n C (ws ++ [V.ref p]) (upd H p (.tup rest)) Q E)
theorem dpa_len {K : PySem.W.Frag} : ∀ {H : Hp} {vs : List V} {ds : List PyData}, DpAll K H vs ds → vs.length = ds.length
  | _, _, _, .nil => rfl
  | _, _, _, .cons _ t => congrArg Nat.succ (dpa_len t)
theorem fixable_len {n : Nat} {ds : List PyData} (h : Fixable n (.tuple ds)) : ds.length ≤ 4000 := by
  cases n with
  | zero => exact absurd h (by intro z; cases z)
  | succ n =>
    rcases h with h | ⟨es, h1, h2, _⟩
    · cases h
    · rcases h1 with h1 | h1
      · cases h1
      · cases h1; exact h2
section
variable {P : Program} {w : World} {K : PySem.W.Frag} {mg : Str → Option Value} {base : Heap}
theorem ok_paperI {n : Nat} {C : Addr} {f fX oc od osl : _} {kV doc pm cdv ct : Value} {an : Option Addr} {fdX : FuncData} {k : Nat}
    (lk : K.lookup f = some ⟨oc, od, .func (PySem.W.fnOf "__init__" "Paper.__init__" (defArgs sPaperI) (defBody sPaperI) (defScope sPaperI) .none kV doc pm an cdv ct), osl⟩) (hcd : PySem.W.codeIn K cdv "Paper.__init__" = true)
    (FX : Fun K "fixed" "fixed" sFixed fX fdX) (GX : FnOk P w K mg base CX0 k fX fdX ["value"] (spFix K n)) (bX : Binds K fdX ["value"] []) (gX : mg "fixed" = some (.ref fX)) : FnPap P w K mg base (k + 1) n C f := by
  refine StX.fn_star (N := ["self", "word", "parts"]) (ps := ["self", "word"]) (pv := "parts") (sp := spPaper K n C) lk hcd scPaperI StX.cxUp_none (fun us rest hl => ?_) (fun A outer s H vs Q E hr h => ?_)
  · match us, hl, rest with
    | [_, _], _, [] => rfl
    | [_, _], _, _ :: _ => rfl
  · obtain ⟨x, dx, p, w, us, ds, fs, rfl, hx, T, hf, hp, hd, hfx, q⟩ := h
    refine ⟨_, pss_cons (ps_fld (pv 0) (pv 1) rfl) (pss_one (ps_fld (pv 0) (pe_call GX hr (by rfl) gX FX.kp bX .nil pass0 (pa_cons (pv 2) pa_nil)) rfl)), ?_⟩
    have xp : p ≠ x := fun z => by
      rw [z, hx] at hp
      cases hp
    have b1 : But x H (upd H x (.ins C dx (putF "word" w fs))) := fun b o hb h => by rw [upd_ne hb]; exact h
    have hd1 : Dp K (upd H x (.ins C dx (putF "word" w fs))) (.ref p) (.tuple ds) := dp_but b1 hx (.tup (Evl.st_of hp) hd)
    refine ⟨w, rfl, _, rfl, x, C, dx, fs, rfl, hx, T.cl, T.nW, by omega, _, rfl, .ref p, .tuple ds, rfl, hd1, hfx, fun u H1 e1 h1 => ?_⟩
    have hx1 := e1 _ _ upd_same
    have := putF_len "word" w fs
    rw [fixD, fixDs_map] at h1
    cases h1 with
    | @tup t us' _ hS hD =>
      refine ⟨_, rfl, x, C, dx, _, rfl, hx1, T.cl, T.nP, by omega, ?_⟩
      have b2 : But x H (upd H1 x (.ins C dx (putF "parts" (.ref t) (putF "word" w fs)))) := fun b o hb h => by rw [upd_ne hb]; exact e1 _ _ (b1 b o hb h)
      have le : Evl.Ex (nw (upd H x (.ins C dx (putF "word" w fs))) H1) (nw H (upd H1 x (.ins C dx (putF "parts" (.ref t) (putF "word" w fs))))) := fun b o h => by
        obtain ⟨h1, h2⟩ := nw_at h
        have bx : b ≠ x := fun z => by rw [z, upd_same] at h1; cases h1
        rw [upd_ne bx] at h1
        exact nw_of h1 (by rw [upd_ne bx]; exact h2)
      exact q t us' _ b2 upd_same (Evl.ex_t le hS) (dpa_ex le hD)
end
end P38
end S_Nbq
section S_Rk
namespace EnL
open PySem PySem.Spec PyProof.Rows L2 Tl Hk
/-! ### == by an own __eq__, against a list or a tuple -/
def AsideS (K : PySem.W.Frag) (C : Addr) (H : Hp) (y : V) : Prop := Aside K C H y ∨ (∃ b ys, y = .ref b ∧ SqL K H b ys ∧ PySem.W.subIn K (.type "list") (.ref C) = some false)
def rOwnEqS (K : PySem.W.Frag) (C : Addr) (neg : Bool) (sp : Sp) (E : XK) : R2 := fun x y H Q => ∃ a dx fs, x = .ref a ∧ H a = some (.ins C dx fs) ∧ AsideS K C H y ∧ sp [x, y] H (fun v H' => ∃ k, v = .bl k ∧ Q (.bl (k != neg)) H') E
section
variable {X : Cx} {CX : CXT} {C f : Addr} {fd : FuncData} {ps : List Str} {n : Nat} {sp : Sp} {E : XK}
theorem asideS_looks {pins : List (Addr × Obj)} {σ : L2.St} {H : Hp} {s : Shared} {y : V} {u : Value} (I : Inv X pins σ H s) (ry : RelV y u) (h : AsideS X.K C H y) : ∃ tb, PySem.W.Looks (model X.prog X.w) s.heap (typeOf u) tb ∧ PySem.W.notFirst X.K C tb = true := by
  rcases h with h | ⟨b, ys, rfl, hb, hs⟩
  · exact aside_looks I ry h
  · cases (show u = Value.ref b from ry)
    obtain ⟨its, _, ⟨o, n, e, ec, _⟩, _⟩ := I.list hb
    refine ⟨.type "list", ?_, by simp [PySem.W.notFirst, hs]⟩
    intro A Q E s' k q
    refine wpAny_typeOf_ref (k _ _ (by assumption)) ?_
    rw [ec]
    exact q
theorem op_ownEqS (hs : PySem.W.findIn X.K (.ref C) "__eq__" = some (some (.ref f))) (hf : PySem.W.isFn X.K (.ref f) = true) (F : FnOk X.prog X.w X.K X.mg X.base CX n f fd ps sp) (hb : Binds X.K fd ps [])
    (hr : Room n X.A) (hx : Passes CX X E) : OpR X (compareOp .Eq) (rOwnEqS X.K C false sp E) := by
  intro pins s σ H x y v u Q I rx ry h
  obtain ⟨a, dx, fs, rfl, ha, hy, q⟩ := h
  cases (show v = Value.ref a from rx)
  obtain ⟨mA, J, _⟩ := ins_get I.hok ha
  obtain ⟨od, J, _⟩ := J.look
  obtain ⟨m, hF⟩ := I.fr
  obtain ⟨tb, L, hn⟩ := asideS_looks I ry hy
  show wpAny (model X.prog X.w) X.A (richCompare .Eq (.ref a) u) (EP X pins σ Q) X.xe s
  refine PySem.W.cmp_K (op := .Eq) hr.units0 hF I.ok.mod.kin J L hn hs hf ?_
  refine wpAny_mono (run_fn (us := [.ref a, u]) (vs := [.ref a, y]) F hr hb .nil hx I (.cons rfl (.cons ry .nil)) q) (fun w s' z => ?_) fun _ _ x => x
  obtain ⟨z', H', I', rz, k, ez, qz⟩ := z
  subst ez
  cases (show w = Value.bool k from rz)
  refine ⟨.bl k, H', I', rfl, ?_⟩
  cases k <;> exact qz
end
end EnL
end S_Rk
section S_Nca
namespace P38
open PySem PySem.Spec PyProof.Rows L2 Tl Hk RZ EnL
/-- a tuple of tuples of ints -/
def TTu (K : PySem.W.Frag) (H : Hp) (t : Addr) (bs : List (List Int)) : Prop := ∃ as : List Addr, SqT K H t (as.map V.ref) ∧ as.length = bs.length ∧ ∀ (i : Nat) (a : Addr) (ns : List Int), as[i]? = some a → bs[i]? = some ns → SqT K H a (ns.map V.int)
theorem TTu.ex {K : PySem.W.Frag} {A B : Hp} {t : Addr} {bs : List (List Int)} (h : TTu K A t bs) (e : Evl.Ex A B) : TTu K B t bs := by
  obtain ⟨as, h1, h2, h3⟩ := h
  exact ⟨as, Evl.ex_t e h1, h2, fun i a ns h4 h5 => Evl.ex_t e (h3 i a ns h4 h5)⟩
abbrev Rz (C : Addr) (H : Hp) (E : XK) (part : Str) : Prop := ∀ H1 d, Evl.Ex H H1 → H1 d = none → E (.ref C) (some d) (upd H1 d (.xd [(("part" : Str), .str part)]))
def dT (ts : List (List Int)) : PyData := .tuple (ts.map fun ns => .tuple (ns.map PyData.int))
theorem dT_lay : ∀ ts : List (List Int), PyData.canLayAll0 (ts.map fun ns => .tuple (ns.map PyData.int)) = true
  | [] => rfl
  | ns :: r => by
    show (PyData.canLay0 (.tuple (ns.map PyData.int)) && PyData.canLayAll0 (r.map fun ns => .tuple (ns.map PyData.int))) = true
    rw [dT_lay r, Bool.and_true]
    exact PySem.W.ke_canLayAll0 ns
theorem dT_deep : ∀ ts : List (List Int), PyData.depthAll (ts.map fun ns => .tuple (ns.map PyData.int)) ≤ 1
  | [] => Nat.zero_le _
  | ns :: r => by
    show max (PyData.depth (.tuple (ns.map PyData.int))) (PyData.depthAll (r.map fun ns => .tuple (ns.map PyData.int))) ≤ 1
    have h1 : PyData.depth (.tuple (ns.map PyData.int)) = 1 := by
      show PyData.depthAll (ns.map PyData.int) + 1 = 1
      rw [PySem.W.ke_depthAll]
    have := dT_deep r
    omega
theorem dT_shaped (ts : List (List Int)) : SeqAt.shaped (dT ts) = true := by
  unfold SeqAt.shaped
  rw [Bool.and_eq_true_iff]
  refine ⟨dT_lay ts, decide_eq_true ?_⟩
  show PyData.depthAll (ts.map fun ns => .tuple (ns.map PyData.int)) + 1 ≤ 64
  have := dT_deep ts
  omega
theorem dpAll_of {K : PySem.W.Frag} {H : Hp} : ∀ {vs : List V} {ds : List PyData}, vs.length = ds.length → (∀ (i : Nat) (v : V) (d : PyData), vs[i]? = some v → ds[i]? = some d → Dp K H v d) → DpAll K H vs ds
  | [], [], _, _ => .nil
  | v :: vs, d :: ds, hl, h => .cons (h 0 v d rfl rfl) (dpAll_of (by simpa using hl) fun i v d h1 h2 => h (i + 1) v d (by simpa using h1) (by simpa using h2))
theorem dpa_ints {K : PySem.W.Frag} {H : Hp} : ∀ ns : List Int, DpAll K H (ns.map V.int) (ns.map PyData.int)
  | [] => .nil
  | n :: r => .cons (.int n) (dpa_ints r)
theorem TTu.dp {K : PySem.W.Frag} {H : Hp} {t : Addr} {ts : List (List Int)} (h : TTu K H t ts) : Dp K H (.ref t) (dT ts) := by
  obtain ⟨as, h1, h2, h3⟩ := h
  refine .tup h1 (dpAll_of (by simp [h2]) fun i v d hv hd => ?_)
  rw [List.getElem?_map] at hv hd
  cases ha : as[i]? with
  | none => rw [ha] at hv; cases hv
  | some a =>
    cases hn : ts[i]? with
    | none => rw [hn] at hd; cases hd
    | some ns =>
      rw [ha] at hv
      rw [hn] at hd
      cases hv
      cases hd
      exact .tup (h3 i a ns ha hn) (dpa_ints ns)
/-- what is above, as data -/
def uD : Option Nat → PyData
  | none => .none
  | some j => .int (j : Int)
def dU (us : List (Option Nat)) : PyData := .tuple (us.map uD)
theorem dU_lay : ∀ us : List (Option Nat), PyData.canLayAll0 (us.map uD) = true
  | [] => rfl
  | none :: r => by
    show (true && PyData.canLayAll0 (r.map uD)) = true
    rw [dU_lay r]
    rfl
  | some j :: r => by
    show (true && PyData.canLayAll0 (r.map uD)) = true
    rw [dU_lay r]
    rfl
theorem dU_deep : ∀ us : List (Option Nat), PyData.depthAll (us.map uD) = 0
  | [] => rfl
  | none :: r => by
    show max 0 (PyData.depthAll (r.map uD)) = 0
    rw [dU_deep r]
    rfl
  | some j :: r => by
    show max 0 (PyData.depthAll (r.map uD)) = 0
    rw [dU_deep r]
    rfl
theorem dU_shaped (us : List (Option Nat)) : SeqAt.shaped (dU us) = true := by
  unfold SeqAt.shaped
  rw [Bool.and_eq_true_iff]
  refine ⟨dU_lay us, decide_eq_true ?_⟩
  show PyData.depthAll (us.map uD) + 1 ≤ 64
  rw [dU_deep us]
  omega
theorem dpa_us {K : PySem.W.Frag} {H : Hp} : ∀ us : List (Option Nat), DpAll K H (us.map uv) (us.map uD)
  | [] => .nil
  | none :: r => .cons .non (dpa_us r)
  | some j :: r => .cons (.int (j : Int)) (dpa_us r)
theorem Rz.ex {C : Addr} {H H' : Hp} {E : XK} {part : Str} (h : Rz C H E part) (e : Evl.Ex H H') : Rz C H' E part := fun H1 d e1 hd => h H1 d (e.trans e1) hd
theorem callS_go {sp : Sp} {vs : List V} {E : L2.St → XK} {ta : TA} {σ : L2.St} {H : Hp} {Q : VK} (h : Evl.EvA ta σ H vs) (k : ∀ H1, Evl.Ex H H1 → sp vs H1 Q (E σ)) : tCallS sp E ta σ H Q := h H (Evl.Ex.refl H) _ k
theorem TTu.rows {K : PySem.W.Frag} {H : Hp} {t : Addr} {bs : List (List Int)} (h : TTu K H t bs) : ∃ as : List Addr, SqT K H t (as.map V.ref) ∧ as.length = bs.length ∧ RowsB K H (as.map V.ref) bs := by
  obtain ⟨as, h1, h2, h3⟩ := h
  refine ⟨as, h1, h2, by rw [List.length_map, h2], fun i ns hn => ?_⟩
  have ha := List.getElem?_eq_getElem (show i < as.length by rw [h2]; exact (List.getElem?_eq_some_iff.mp hn).1)
  exact ⟨_, by rw [List.getElem?_map, ha]; rfl, .inr (h3 i _ ns ha hn)⟩

/-- a value, and its items if it is a list or a tuple -/
inductive ValR (K : PySem.W.Frag) (H : Hp) : V → Option (List V) → Prop where
  | no {x : V} {n : String} (h : Ty7 K H x n) (h1 : n ≠ "list") (h2 : n ≠ "tuple") : ValR K H x none
  | lst {a : Addr} {xs : List V} (h : SqL K H a xs) (hl : xs.length ≤ 4000) (hi : ∀ v ∈ xs, ∃ n, Ty7 K H v n) : ValR K H (.ref a) (some xs)
  | tup {a : Addr} {xs : List V} (h : SqT K H a xs) (hl : xs.length ≤ 4000) (hi : ∀ v ∈ xs, ∃ n, Ty7 K H v n) : ValR K H (.ref a) (some xs)
theorem ValR.ex {K : PySem.W.Frag} {H H' : Hp} {x : V} {o : Option (List V)} (h : ValR K H x o) (e : Evl.Ex H H') : ValR K H' x o := by
  cases h with
  | no h h1 h2 => exact .no (h.ex e) h1 h2
  | lst h hl hi => exact .lst (Evl.ex_l e h) hl fun v hv => (hi v hv).imp fun n hn => hn.ex e
  | tup h hl hi => exact .tup (Evl.ex_t e h) hl fun v hv => (hi v hv).imp fun n hn => hn.ex e
theorem ValR.sq {K : PySem.W.Frag} {H : Hp} {x : V} {xs : List V} (h : ValR K H x (some xs)) : ∃ a, x = .ref a ∧ SqS K H a xs ∧ xs.length ≤ 4000 ∧ ∀ v ∈ xs, ∃ n, Ty7 K H v n := by
  cases h with
  | lst h hl hi => exact ⟨_, rfl, .inl h, hl, hi⟩
  | tup h hl hi => exact ⟨_, rfl, .inr h, hl, hi⟩
theorem ValR.isList {K : PySem.W.Frag} {H : Hp} {x : V} {o : Option (List V)} (h : ValR K H x o) : Evl.SpV (spList K) [x] H (.bl o.isSome) := by
  cases h with
  | @no x n h h1 h2 =>
    have := spv_list h
    have e : (decide (n = "list") || decide (n = "tuple")) = (none : Option (List V)).isSome := by rw [decide_eq_false h1, decide_eq_false h2] <;> rfl
    rw [e] at this
    exact this
  | lst h hl hi => exact spv_list (.lst h)
  | tup h hl hi => exact spv_list (.tup h)
def rowB : Option (List V) → Bool
  | none => false
  | some xs => xs.all fun v => wi v (.int 0) .non
theorem ValR.row {K : PySem.W.Frag} {H : Hp} {x : V} {o : Option (List V)} (h : ValR K H x o) : RowR K H (.int 0) .non x (rowB o) := by
  cases h with
  | no h h1 h2 => exact .no h h1 h2
  | lst h hl hi => exact .lst h hl hi
  | tup h hl hi => exact .tup h hl hi
def seatIs (p l n : Nat) : Option (List V) := some [.int (p : Int), .int (l : Int), .int (n : Int)]
def SeatP (o : Option (List V)) : Prop := ∃ p l n : Nat, o = seatIs p l n ∧ n < 3
theorem wi0 {v : V} (h : wi v (.int 0) .non = true) : ∃ n : Nat, v = .int (n : Int) := by
  cases v with
  | int i =>
    have h : (decide ((0 : Int) ≤ i) && true) = true := h
    rw [Bool.and_true] at h
    exact ⟨i.toNat, by rw [Int.toNat_of_nonneg (of_decide_eq_true h)]⟩
  | _ => cases h
theorem wi0' (n : Nat) : wi (.int (n : Int)) (.int 0) .non = true := by
  show (decide ((0 : Int) ≤ (n : Int)) && true) = true
  rw [decide_eq_true (by omega)]
  rfl
theorem row3 {xs : List V} (h : rowB (some xs) = true) (h3 : xs.length = 3) : ∃ p l n : Nat, some xs = seatIs p l n := by
  match xs, h3 with
  | [a, b, c], _ =>
    have h : (wi a (.int 0) .non && (wi b (.int 0) .non && (wi c (.int 0) .non && true))) = true := h
    rw [Bool.and_eq_true_iff, Bool.and_eq_true_iff, Bool.and_eq_true_iff] at h
    obtain ⟨p, rfl⟩ := wi0 h.1
    obtain ⟨l, rfl⟩ := wi0 h.2.1
    obtain ⟨n, rfl⟩ := wi0 h.2.2.1
    exact ⟨p, l, n, rfl⟩
theorem scIsSeat : FnScope ["value"] ["value"] (defScope sIsSeat) := ⟨rfl, rfl, rfl, by decide +kernel, rfl, by decide +kernel, by decide +kernel⟩
def spSeat (K : PySem.W.Frag) (R : Option (List V) → Prop) : Sp := fun vs H Q _ => ∃ (x : V) (o : Option (List V)), vs = [x] ∧ ValR K H x o ∧ ∀ H1, Evl.Ex H H1 → Q (.bl (pd (R o))) H1
theorem spv_seat {K : PySem.W.Frag} {H : Hp} {R : Option (List V) → Prop} {x : V} {o : Option (List V)} (h : ValR K H x o) : Evl.SpV (spSeat K R) [x] H (.bl (pd (R o))) := fun H1 e Q q E => ⟨x, o, rfl, h.ex e, q⟩
theorem seat_eq {p l n p' l' n' : Nat} (h : seatIs p l n = seatIs p' l' n') : p = p' ∧ l = l' ∧ n = n' := by
  unfold seatIs at h
  simp only [Option.some.injEq, List.cons.injEq, V.int.injEq, and_true] at h
  omega

theorem scWantS : FnScope ["value", "part"] ["value", "part"] (defScope sWantSeat) := ⟨rfl, rfl, rfl, by decide +kernel, rfl, by decide +kernel, by decide +kernel⟩
theorem scNarrow : FnScope ["bags", "above"] ["bags", "above"] (defScope sNarrow) := ⟨rfl, rfl, rfl, by decide +kernel, rfl, by decide +kernel, by decide +kernel⟩
theorem scMay : FnScope ["pairs", "one", "other"] ["pairs", "one", "other"] (defScope sMayTie) := ⟨rfl, rfl, rfl, by decide +kernel, rfl, by decide +kernel, by decide +kernel⟩
def spWantS (K : PySem.W.Frag) (C : Addr) : Sp := fun vs H Q E => ∃ (x : V) (o : Option (List V)) (pt : Str), vs = [x, .str pt] ∧ ValR K H x o ∧ (SeatP o → ∀ H1, Evl.Ex H H1 → Q .non H1) ∧ (¬ SeatP o → Rz C H E pt)
/-- a narrow tree of bags -/
structure NarOk (bs : List (List Int)) (us : List (Option Nat)) : Prop where
  ok : BagsOk bs
  ln : ∀ ns ∈ bs, 1 ≤ ns.length ∧ ns.length ≤ 4
  up : UpsOk bs.length us
  hg : (freshL bs us).flatten.Nodup
def NarP (rb : Option (List (Option (List V)))) (ru : Option (List V)) : Prop := ∃ bs us, rb = some (bs.map rowV) ∧ ru = some (us.map uv) ∧ NarOk bs us
def spNarrow (K : PySem.W.Frag) : Sp := fun vs H Q _ => ∃ (b u : V) (rb : Option (List (Option (List V)))) (ru : Option (List V)), vs = [b, u] ∧ In2 K H b u rb ru ∧ ∀ H1, Evl.Ex H H1 → Q (.bl (pd (NarP rb ru))) H1
theorem spv_narrow {K : PySem.W.Frag} {H : Hp} {b u : V} {rb : Option (List (Option (List V)))} {ru : Option (List V)} (h : In2 K H b u rb ru) : Evl.SpV (spNarrow K) [b, u] H (.bl (pd (NarP rb ru))) := fun H1 e Q q E => ⟨b, u, rb, ru, rfl, h.ex e, q⟩
theorem bags4 : ∀ {rs : List (Option (List V))}, rs.all (bagV (.int 1) (.int 4)) = true → ∃ bs : List (List Int), rs = bs.map rowV ∧ BagsOk bs ∧ ∀ ns ∈ bs, 1 ≤ ns.length ∧ ns.length ≤ 4
  | [], _ => ⟨[], rfl, ⟨fun _ h => (nomatch h), fun _ h => (nomatch h)⟩, fun _ h => (nomatch h)⟩
  | r :: rs, h => by
    rw [List.all_cons, Bool.and_eq_true_iff] at h
    obtain ⟨bs, rfl, hb, hl⟩ := bags4 h.2
    have hr := h.1
    cases r with
    | none => cases hr
    | some xs =>
      unfold bagV at hr
      dsimp only at hr
      rw [Bool.and_eq_true_iff, Bool.and_eq_true_iff] at hr
      obtain ⟨ns, rfl, hn⟩ := wi0_ints hr.1.1
      rw [intsOf_map] at hr
      have hw : (decide ((1 : Int) ≤ ((ns.map V.int).length : Int)) && decide (((ns.map V.int).length : Int) ≤ 4)) = true := hr.1.2
      rw [Bool.and_eq_true_iff, decide_eq_true_iff, decide_eq_true_iff, List.length_map] at hw
      refine ⟨ns :: bs, rfl, ⟨fun ms hm => ?_, fun ms hm => ?_⟩, fun ms hm => ?_⟩
      · rcases List.mem_cons.mp hm with rfl | hm
        · exact hr.2
        · exact hb.asc ms hm
      · rcases List.mem_cons.mp hm with rfl | hm
        · exact hn
        · exact hb.pos ms hm
      · rcases List.mem_cons.mp hm with rfl | hm
        · omega
        · exact hl ms hm
theorem bags4_all {bs : List (List Int)} (h : BagsOk bs) (hl : ∀ ns ∈ bs, 1 ≤ ns.length ∧ ns.length ≤ 4) : (bs.map rowV).all (bagV (.int 1) (.int 4)) = true := List.all_eq_true.mpr fun r hr => by
  obtain ⟨ns, hn, rfl⟩ := List.mem_map.mp hr
  unfold bagV rowV
  dsimp only
  rw [wi0_all (h.pos ns hn), intsOf_map]
  show (true && (decide ((1 : Int) ≤ ((ns.map V.int).length : Int)) && decide (((ns.map V.int).length : Int) ≤ 4)) && ascI ns) = true
  have := hl ns hn
  rw [List.length_map, decide_eq_true (by omega), decide_eq_true (by omega), h.asc ns hn]
  rfl
/-- whether two seats may be tied, where these pairs of pieces are -/
def tieB (ks : List IP) (p l p2 l2 : Nat) : Bool := !decide (1 < ((l : Int) - l2).natAbs) && (decide (p = p2) || decide (kf ((p : Int), (p2 : Int)) ∈ ks))
theorem valV_tgP (ks : List IP) (p : IP) : (valV (tgP ks) (kP p)).isSome = decide (p ∈ ks) := by
  unfold valV tgP
  rw [Option.isSome_map, Bool.eq_iff_iff, List.find?_isSome, decide_eq_true_iff]
  constructor
  · rintro ⟨x, hx, hk⟩
    obtain ⟨k, hk1, rfl⟩ := List.mem_map.mp hx
    have : kP k = kP p := of_decide_eq_true hk
    rw [← kP_inj this]
    exact hk1
  · exact fun h => ⟨(kP p, V.bl true), List.mem_map.mpr ⟨p, h, rfl⟩, decide_eq_true rfl⟩
theorem sort2 {ns : List Int} {x y : Int} (h : ns.Perm [x, y]) (hs : ns.Pairwise (· ≤ ·)) : ns = [(kf (x, y)).1, (kf (x, y)).2] := by
  match ns, h.length_eq with
  | [a, b], _ =>
    have h1 : a = x ∨ a = y := by have := h.mem_iff.mp (List.mem_cons_self (a := a) (l := [b])); simpa using this
    have h2 : b = x ∨ b = y := by have := h.mem_iff.mp (List.mem_cons_of_mem a (List.mem_cons_self (a := b) (l := []))); simpa using this
    have h3 : x = a ∨ x = b := by have := h.mem_iff.mpr (List.mem_cons_self (a := x) (l := [y])); simpa using this
    have h4 : y = a ∨ y = b := by have := h.mem_iff.mpr (List.mem_cons_of_mem x (List.mem_cons_self (a := y) (l := []))); simpa using this
    have h5 : a ≤ b := (List.pairwise_cons.mp hs).1 b List.mem_cons_self
    unfold kf
    dsimp only
    congr 1
    · split <;> omega
    · congr 1
      split <;> omega
def spMay (K : PySem.W.Frag) : Sp := fun vs H Q _ => ∃ (D a b : Addr) (ks : List IP) (p l n p2 l2 n2 : Nat), vs = [.ref D, .ref a, .ref b] ∧ H D = some (.dT (tgP ks)) ∧ SqS K H a [.int (p : Int), .int (l : Int), .int (n : Int)] ∧ SqS K H b [.int (p2 : Int), .int (l2 : Int), .int (n2 : Int)] ∧ ∀ H1, Evl.Ex H H1 → Q (.bl (tieB ks p l p2 l2)) H1
abbrev rTup (K : PySem.W.Frag) : List V → Hp → VK → Prop := fun xs H Q => ∃ p ys, xs = [V.ref p] ∧ ((SqL K H p ys ∧ ∀ l, H l = none → Q (V.ref l) (upd H l (HO.tup ys))) ∨ (SqT K H p ys ∧ Q (V.ref p) H))
abbrev tKey (K : PySem.W.Frag) (tx ty : TE) : TE := tCB (rTup K) (tCons (tCB (rSorted K) (tCons (tLst (tCons tx (tCons ty tNil))) tNil)) tNil)
theorem ev_din {K : PySem.W.Frag} {σ : L2.St} {H : Hp} {tx ty td : TE} {D : Addr} {ks : List IP} {x y : Int} (hx : Evl.Ev tx σ H (.int x)) (hy : Evl.Ev ty σ H (.int y)) (h2 : Evl.Ev td σ H (.ref D)) (hd : H D = some (.dT (tgP ks))) : Evl.Ev (tDIn (tKey K tx ty) td) σ H (.bl (decide (kf (x, y) ∈ ks))) := fun H1 e Q q =>
  Go.cb_go (Go.cons_any (Go.cb_go (Go.cons_any ((Evl.el_lst (vs := [.int x, .int y]) (Evl.ea_cons hx (Evl.ea_cons hy Evl.ea_nil)) (by show 2 ≤ 100000; decide)) H1 e _ fun p H2 hp e2 h2' => ⟨p, [x, y], rfl, Evl.sq_of h2', by show 2 < 64; decide, fun ns r hperm hs hr => by
    have hn := sort2 hperm hs
    subst hn
    refine ⟨r, _, rfl, .inl ⟨Evl.sq_of upd_same, fun t ht => ?_⟩⟩
    have eN := (Evl.Ex.new (o := .lst (([(kf (x, y)).1, (kf (x, y)).2] : List Int).map V.int)) hr).trans (Evl.Ex.new (o := .tup (([(kf (x, y)).1, (kf (x, y)).2] : List Int).map V.int)) ht)
    refine h2 _ ((e.trans e2).trans eN) _ fun H3 e3 => ⟨D, _, rfl, DGet.t (k := kP (kf (x, y))) (((e.trans (e2.trans eN)).trans e3) _ _ hd) (e3 _ _ upd_same), ?_⟩
    rw [valV_tgP]
    exact q H3 ((e2.trans eN).trans e3)⟩))))
section
variable {P : Program} {w : World} {K : PySem.W.Frag} {mg : Str → Option Value} {base : Heap}
theorem ok_isSeat {f fR : Addr} {fd fdR : FuncData} {k : Nat} (F : Fun K "is_seat" "is_seat" sIsSeat f fd)
    (FR : Fun K "is_row" "is_row" sRow fR fdR) (GR : FnOk P w K mg base CX0 k fR fdR ["value", "least", "most"] (spRow K)) (bR : Binds K fdR ["value", "least", "most"] []) (gR : mg "is_row" = some (.ref fR))
    {tM : Tok} (gM : mg "LANES" = some (.int 3 tM)) (mlen : mg "len" = none) : FnOk P w K mg base CX0 (k + 1) f fd ["value"] (spSeat K SeatP) := by
  refine F.ok scIsSeat (fun vs H Q E h => ?_) (fun cdv A outer s H vs Q E hr h => ?_)
  · obtain ⟨x, o, rfl, _⟩ := h
    rfl
  · obtain ⟨x, o, rfl, hx, q⟩ := h
    refine ⟨_, pss_one (ps_ret (pe_and (pe_call GR hr (by rfl) gR FR.kp bR .nil pass0 (pa_cons (pv 0) (pa_cons pe_int (pa_cons pe_non pa_nil)))) (pe_and (pe_cmpR op_eq (pe_callB call_len_seq (by rfl) mlen PySem.boot_len (pa_cons (pv 0) pa_nil)) pe_int (nomark _))
      (pe_one (pe_cmpR op_lt (pe_ix ix_any2 (pv 0) pe_int (fun _ _ => rfl)) (pe_glob (v := .int 3) (by rfl) gM ⟨_, rfl⟩) (nomark _)))))), ?_⟩
    have hrow : Evl.SpV (spRow K) [x, .int 0, .non] H (.bl (rowB o)) := fun H1 e Q q E => ⟨x, .int 0, .non, _, rfl, (hx.ex e).row, trivial, trivial, q⟩
    have e1 : Evl.Ev (tCall (spRow K) [] E0 (tCons (tVar 0) (tCons (tC (.int 0)) (tCons (tC .non) tNil)))) (start ["value"] [x]) H (.bl (rowB o)) := Evl.ev_call (Evl.ea_cons (Evl.ev_var rfl) (Evl.ea_cons Evl.ev_c (Evl.ea_cons Evl.ev_c Evl.ea_nil))) hrow
    cases ho : o with
    | none =>
      rw [ho] at e1
      refine Evl.s_ret (v := .bl (pd (SeatP none))) (Evl.ev_is (Evl.ev_andV (a := false) (b := false) e1 fun z => nomatch z) (congrArg V.bl (pd_false fun ⟨_, _, _, z, _⟩ => nomatch z).symm)) (ho ▸ q)
    | some xs =>
      rw [ho] at e1 hx
      obtain ⟨a, rfl, hs, hl, hi⟩ := hx.sq
      refine Evl.s_ret (v := .bl (pd (SeatP (some xs)))) (Evl.ev_is (Evl.ev_andV (b := decide (xs.length = 3) && pd (SeatP (some xs))) e1 fun hr1 => Evl.ev_andV (a := decide (xs.length = 3)) (Evl.ev_is (Evl.ev_op (ev_lenB (Evl.ev_var rfl) hs) Evl.ev_c (Evl.rv_eq rfl)) (congrArg V.bl (decide_eq_decide.mpr ⟨fun z => by have := V.int.inj z; omega, fun z => by rw [z]; rfl⟩))) fun h3 => ?_) ?_) (ho ▸ q)
      · obtain ⟨p, l, n, e⟩ := row3 hr1 (of_decide_eq_true h3)
        obtain rfl := Option.some.inj e
        refine Evl.ev_is (Evl.ev_op (ev_ixB (j := 2) (Evl.ev_var rfl) hs rfl) Evl.ev_c Evl.rv_I0) (congrArg V.bl ?_)
        refine (pd_is (Iff.intro ?_ fun h' => ⟨p, l, n, rfl, ?_⟩)).symm
        · rintro ⟨p', l', n', e', h'⟩
          obtain ⟨_, _, rfl⟩ := seat_eq e'
          exact decide_eq_true (by omega)
        · have := of_decide_eq_true h'
          omega
      · congr 1
        cases hb : pd (SeatP (some xs)) with
        | false => rw [Bool.and_false, Bool.and_false]
        | true =>
          obtain ⟨p, l, n, e, _⟩ := pd_of hb
          obtain rfl := Option.some.inj e
          have : rowB (some [V.int (p : Int), .int (l : Int), .int (n : Int)]) = true := by
            simp only [rowB, List.all_cons, List.all_nil, wi0', Bool.and_true]
          rw [this]
          rfl

theorem ok_wantS {qI : Str} {f C fT fI : Addr} {fd fdI : FuncData} {k : Nat} (F : Fun K "want_seat" "want_seat" sWantSeat f fd)
    (FI : Fun K "is_seat" "is_seat" sIsSeat fI fdI) (GI : FnOk P w K mg base CX0 (k + 2) fI fdI ["value"] (spSeat K SeatP)) (bI : Binds K fdI ["value"] []) (gI : mg "is_seat" = some (.ref fI))
    (T : PySem.PartX.PartTxt K mg "BadSeats" qI C fT) : FnOk P w K mg base (L2.CX P w) (k + 3) f fd ["value", "part"] (spWantS K C) := by
  refine F.okX scWantS (fun vs H Q E h => ?_) (fun cdv A outer s H vs Q E hr h => ?_)
  · obtain ⟨x, o, pt, rfl, _⟩ := h
    rfl
  · obtain ⟨x, o, pt, rfl, hx, hy, hn⟩ := h
    refine ⟨_, pss_one (ps_if (pt_not (pt_val (pe_call GI hr (by rfl) gI FI.kp bI .nil pass0 (pa_cons (pv 0) (pa_nil))))) (pss_one (ps_raisePart rfl T (k := k + 2) hr (takes_of rfl rfl rfl rfl) (pa_cons (pv 1) (pa_nil)) (by rfl) (by decide))) (pss_nil)), ?_⟩
    refine Evl.s_when (Evl.et_not (Evl.et_B (Evl.ev_call (Evl.ea_cons (Evl.ev_var rfl) Evl.ea_nil) (spv_seat hx)))) (fun hb H1 e1 => ?_) (fun hb H1 e1 => ?_)
    · rw [Bool.not_eq_true'] at hb
      exact ⟨.str pt, rfl, .str pt, rfl, fun d hd => hn (fun z => by rw [pd_true z] at hb; cases hb) H1 d e1 hd⟩
    · rw [Bool.not_eq_false'] at hb
      exact hy (pd_of hb) H1 e1
set_option maxHeartbeats 2000000 in
theorem ok_narrow {f fB fT fG : Addr} {fd fdB fdT fdG : FuncData} {k : Nat} (F : Fun K "is_narrow_tree" "is_narrow_tree" sNarrow f fd)
    (FB : Fun K "are_bags" "are_bags" sAreBags fB fdB) (GB : FnOk P w K mg base CX0 k fB fdB ["value", "least", "most"] (spAreBags K)) (bB : Binds K fdB ["value", "least", "most"] []) (gB : mg "are_bags" = some (.ref fB))
    (FT : Fun K "tells_above" "tells_above" sTells fT fdT) (GT : FnOk P w K mg base CX0 k fT fdT ["value", "many"] (spTells K)) (bT : Binds K fdT ["value", "many"] []) (gT : mg "tells_above" = some (.ref fT))
    (FG : Fun K "hang_together" "hang_together" sHang fG fdG) (GG : FnOk P w K mg base CX0 k fG fdG ["bags", "above"] (spHang K)) (bG : Binds K fdG ["bags", "above"] []) (gG : mg "hang_together" = some (.ref fG))
    {tM : Tok} (gM : mg "MOST_IN_BAG" = some (.int 4 tM)) (mlen : mg "len" = none) : FnOk P w K mg base CX0 (k + 1) f fd ["bags", "above"] (spNarrow K) := by
  refine F.ok scNarrow (fun vs H Q E h => ?_) (fun cdv A0 outer s H vs Q E hr h => ?_)
  · obtain ⟨b, u, rb, ru, rfl, _⟩ := h
    rfl
  · obtain ⟨b, u, rb, ru, rfl, h, q⟩ := h
    have nd := scNarrow.nd
    refine ⟨_, pss_one (ps_ret (pe_and (pe_call GB hr (by rfl) gB FB.kp bB .nil pass0 (pa_cons (pv 0) (pa_cons (pe_int) (pa_cons (pe_glob (v := .int 4) (by rfl) gM ⟨_, rfl⟩) (pa_nil))))) (pe_and (pe_call GT hr (by rfl) gT FT.kp bT .nil pass0 (pa_cons (pv 1) (pa_cons (pe_callB call_len_seq (by rfl) mlen PySem.boot_len (pa_cons (pv 0) (pa_nil))) (pa_nil)))) (pe_one (pe_call GG hr (by rfl) gG FG.kp bG .nil pass0 (pa_cons (pv 0) (pa_cons (pv 1) (pa_nil)))))))), ?_⟩
    have t1 : Evl.Ev (tCall (spAreBags K) [] E0 (tCons (tVar 0) (tCons (tC (.int 1)) (tCons (tC (.int 4)) tNil)))) (start ["bags", "above"] [b, u]) H (.bl (bagsV (.int 1) (.int 4) rb)) := Evl.ev_call (Evl.ea_cons (Evl.ev_var rfl) (Evl.ea_cons Evl.ev_c (Evl.ea_cons Evl.ev_c Evl.ea_nil))) (spv_areBags h.hb trivial trivial)
    refine Evl.s_ret (Evl.ev_is (Evl.ev_andV (a := bagsV (.int 1) (.int 4) rb) (b := pd (NarP rb ru)) t1 fun hb => ?_) ?_) q
    · cases rb with
      | none => cases hb
      | some rs =>
        obtain ⟨a, xs, rfl, hS, hn, hl⟩ := h.hb.sq
        obtain ⟨bs, rfl, hbo, hb4⟩ := bags4 (rs := rs) hb
        rw [List.length_map] at hn
        refine Evl.ev_is (Evl.ev_andV (a := pd (TellsP bs.length ru)) (b := pd (NarP (some (bs.map rowV)) ru)) (Evl.ev_call (vs := [u, .int (bs.length : Int)]) (Evl.ea_cons (Evl.ev_var rfl) (Evl.ea_cons (Evl.ev_is (ev_lenB (K := K) (Evl.ev_var rfl) hS) (by rw [hn])) Evl.ea_nil)) (spv_tells h.hu (by omega))) fun ht => ?_) ?_
        · obtain ⟨us, rfl, hu⟩ := pd_of ht
          obtain ⟨hu1, hu2, hu3, hu4⟩ := id hu
          have hne : 1 ≤ bs.length := by
            cases bs with
            | nil => exact absurd (show (0 : Nat) = 1 from hu3) (by decide)
            | cons _ _ => simp
          obtain ⟨A, U, ys, b1, b2, b3, b4, b5⟩ := h.rows hne
          cases b1
          subst b2
          have ep : pd (NarP (some (bs.map rowV)) (some (us.map uv))) = decide (freshL bs us).flatten.Nodup := pd_is (by
            rw [decide_eq_true_iff]
            constructor
            · rintro ⟨bs', us', z1, z2, z3⟩
              rw [rowV_inj (Option.some.inj z1), uvs_inj (Option.some.inj z2)]
              exact z3.hg
            · exact fun z => ⟨bs, us, rfl, rfl, hbo, hb4, hu, z⟩)
          rw [ep]
          exact Evl.ev_call (vs := [.ref a, .ref U]) (Evl.ea_cons (Evl.ev_var rfl) (Evl.ea_cons (Evl.ev_var rfl) Evl.ea_nil)) fun H3 e3 Q3 q3 E3 => ⟨a, U, ys, bs, us, rfl, b4.ex e3, b3.ex e3, hu1, by omega, hu2, b5, q3⟩
        · congr 1
          cases ht : pd (TellsP bs.length ru) with
          | true => rw [Bool.true_and]
          | false =>
            rw [Bool.false_and]
            refine (pd_false ?_).symm
            rintro ⟨bs', us', z1, z2, z3⟩
            have := rowV_inj (Option.some.inj z1)
            subst this
            have : TellsP bs.length ru := ⟨us', z2, z3.up⟩
            rw [pd_true this] at ht
            cases ht
    · congr 1
      cases hb : bagsV (.int 1) (.int 4) rb with
      | true => rw [Bool.true_and]
      | false =>
        rw [Bool.false_and]
        refine (pd_false ?_).symm
        rintro ⟨bs, us, rfl, rfl, z⟩
        have : bagsV (.int 1) (.int 4) (some (bs.map rowV)) = true := bags4_all z.ok z.ln
        rw [this] at hb
        cases hb
set_option maxHeartbeats 2000000 in
theorem ok_may {f : Addr} {fd : FuncData} {k : Nat} (F : Fun K "may_be_tied" "may_be_tied" sMayTie f fd) (mtup : mg "tuple" = none) (msorted : mg "sorted" = none) (mabs : mg "abs" = none) : FnOk P w K mg base CX0 (k + 1) f fd ["pairs", "one", "other"] (spMay K) := by
  refine F.ok scMay (fun vs H Q E h => ?_) (fun cdv A0 outer s H vs Q E hr h => ?_)
  · obtain ⟨D, a, b, ks, p, l, n, p2, l2, n2, rfl, _⟩ := h
    rfl
  · obtain ⟨D, a, b, ks, p, l, n, p2, l2, n2, rfl, hD, ha, hb, q⟩ := h
    have nd := scMay.nd
    refine ⟨_, pss_cons (ps_if (pt_cmpR op_gt (pe_callB call_abs (by rfl) mabs (by decide +kernel) (pa_cons (pe_op op_sub (pe_ix ix_any2 (pv 1) pe_int (fun _ _ => rfl)) (pe_ix ix_any2 (pv 2) pe_int (fun _ _ => rfl))) (pa_nil))) (pe_int) (nomark _)) (pss_one (ps_ret (pe_bl))) (pss_nil)) (pss_one (ps_ret (pe_or (pe_cmpR op_eq (pe_ix ix_any2 (pv 1) pe_int (fun _ _ => rfl)) (pe_ix ix_any2 (pv 2) pe_int (fun _ _ => rfl)) (nomark _)) (pe_one (pe_cmp (pc_din (hu_of hr) (pe_callTy call_tuple_of (by rfl) mtup (by decide +kernel) (pa_cons (pe_callB cr_sorted (by rfl) msorted (by decide +kernel) (pa_cons (pe_lst (pa_cons (pe_ix ix_any2 (pv 1) pe_int (fun _ _ => rfl)) (pa_cons (pe_ix ix_any2 (pv 2) pe_int (fun _ _ => rfl)) (pa_nil)))) (pa_nil))) (pa_nil))) (pv 0))))))), ?_⟩
    have i1 : ∀ {H1 : Hp} {j : Nat} {v : V}, Evl.Ex H H1 → [V.int (p : Int), .int (l : Int), .int (n : Int)][j]? = some v → Evl.Ev (tOp (rIxB K) (tVar 1) (tC (.int (j : Int)))) (start ["pairs", "one", "other"] [.ref D, .ref a, .ref b]) H1 v := fun e hv => ev_ixB (Evl.ev_var rfl) (ha.ex e) hv
    have i2 : ∀ {H1 : Hp} {j : Nat} {v : V}, Evl.Ex H H1 → [V.int (p2 : Int), .int (l2 : Int), .int (n2 : Int)][j]? = some v → Evl.Ev (tOp (rIxB K) (tVar 2) (tC (.int (j : Int)))) (start ["pairs", "one", "other"] [.ref D, .ref a, .ref b]) H1 v := fun e hv => ev_ixB (Evl.ev_var rfl) (hb.ex e) hv
    refine Evl.q_when (b := decide (1 < ((l : Int) - l2).natAbs)) (Evl.et_is (Evl.et_test (Evl.ev_op (ev_abs (Evl.ev_op (i1 (j := 1) (Evl.Ex.refl _) rfl) (i2 (j := 1) (Evl.Ex.refl _) rfl) Evl.rv_I0)) Evl.ev_c Evl.rv_I0)) ?_) (fun hb1 H1 e1 => Evl.s_ret Evl.ev_c fun H2 e2 => ?_) fun hb1 H1 e1 => ?_
    · refine decide_eq_decide.mpr ?_
      split <;> omega
    · have := q H2 (e1.trans e2)
      unfold tieB at this
      rwa [hb1] at this
    · refine Evl.s_ret (v := .bl (decide (p = p2) || decide (kf ((p : Int), (p2 : Int)) ∈ ks))) (Evl.ev_orV (Evl.ev_is (Evl.ev_op (i1 (j := 0) e1 rfl) (i2 (j := 0) e1 rfl) (Evl.rv_eq rfl)) (congrArg V.bl (decide_eq_decide.mpr ⟨fun z => by have := V.int.inj z; omega, fun z => by rw [z]⟩))) fun _ => ev_din (i1 (j := 0) e1 rfl) (i2 (j := 0) e1 rfl) (Evl.ev_var rfl) (e1 _ _ hD)) fun H2 e2 => ?_
      have := q H2 (e1.trans e2)
      unfold tieB at this
      rwa [hb1, Bool.not_false, Bool.true_and] at this
end
end P38
end S_Nca
section S_Xn
namespace EnL
open PySem PySem.Spec PyProof.Rows L2 Tl Hk
/-! ### a walk over what stands at B: the body may write whatever is not of B -/
def EvB (wi : TI) (σ : L2.St) (B : Hp) (n : Nat) (Y : Nat → Hp → V → Hp → Prop) : Prop := ∀ H1, Evl.Ex B H1 → ∀ R : It → Hp → Prop,
  (∀ (J : It) (G : Hp → Prop) H2, Evl.Ex H1 H2 → Walk J n G Y → (∀ A, Evl.Ex B A → G A) → R J H2) → wi σ H1 R
theorem eb_enum {K : PySem.W.Frag} {σ : L2.St} {B : Hp} {a : Addr} {xs : List V} {ta : TA} (h : Evl.EvA ta σ B [.ref a]) (hx : SqL K B a xs) : EvB (iEnum K ta) σ B xs.length (YPair (fun i => some (.int (i : Nat))) (fun i => xs[i]?)) := fun H1 e R k =>
  h H1 e _ fun H2 e2 => ⟨a, xs, rfl, Evl.ex_l (e.trans e2) hx, k _ _ H2 e2 walk_enum fun A ab => Evl.ex_l ab hx⟩
theorem s_forB {wi : TI} {g : TG} {tb : TS} {D : Ends} {σ : L2.St} {H B : Hp} {n : Nat} {Y : Nat → Hp → V → Hp → Prop} {s : Nat → L2.St → L2.St} (hw : EvB wi σ B n Y) (aim : Aims g n Y s) (e : Evl.Ex B H) (Pv : Nat → L2.St → Hp → Prop) (h0 : ∀ H2, Evl.Ex H H2 → Pv 0 σ H2)
    (hk : ∀ i σ' H', i ≤ n → Pv i σ' H' → Evl.Ex B H') (hs : ∀ i σ' H' H'', i < n → Pv i σ' H' → Evl.Ex H' H'' → tb { D with nx := Pv (i + 1), ct := Pv (i + 1), bk := D.nx } (s i σ') H'')
    (hd : ∀ σ' H', Pv n σ' H' → D.nx σ' H') : tFor wi g tb D σ H :=
  hw H e _ fun J G H2 e2 w sG => for_it w Pv (h0 H2 e2) (fun i σ' H' hi p => sG H' (hk i σ' H' hi p))
    (fun i x σ' H' H'' hi p y => by
      obtain ⟨ab, k⟩ := aim i σ' H' x H'' hi y
      exact k _ (hs i σ' H' H'' hi p ab)) (fun σ' H' p => hd σ' H' p)
theorem q_forB {wi : TI} {g : TG} {tb tz : TS} {D : Ends} {σ : L2.St} {H B : Hp} {n : Nat} {Y : Nat → Hp → V → Hp → Prop} {s : Nat → L2.St → L2.St} (hw : EvB wi σ B n Y) (aim : Aims g n Y s) (e : Evl.Ex B H) (Pv : Nat → L2.St → Hp → Prop) (h0 : ∀ H2, Evl.Ex H H2 → Pv 0 σ H2)
    (hk : ∀ i σ' H', i ≤ n → Pv i σ' H' → Evl.Ex B H') (hs : ∀ i σ' H' H'', i < n → Pv i σ' H' → Evl.Ex H' H'' → tb { D with nx := Pv (i + 1), ct := Pv (i + 1), bk := tz D } (s i σ') H'')
    (hd : ∀ σ' H', Pv n σ' H' → tz D σ' H') : tSeq (tFor wi g tb) tz D σ H := s_forB (D := { D with nx := tz D }) hw aim e Pv h0 hk hs hd
/-! ### a new list of new lists of ints, all unlike -/
structure Tw (H0 H : Hp) (A : Addr) (as : List Addr) (ts : List (List Int)) : Prop where
  ex : Evl.Ex H0 H
  lst : H A = some (.lst (as.map V.ref))
  nA : H0 A = none
  len : as.length = ts.length
  nd : as.Nodup
  row : ∀ (i : Nat) (a : Addr) (ns : List Int), as[i]? = some a → ts[i]? = some ns → a ≠ A ∧ H0 a = none ∧ H a = some (.lst (ns.map V.int))
variable {H0 H H' : Hp} {A a : Addr} {as : List Addr} {ts : List (List Int)} {i : Nat} {ns : List Int}
theorem Tw.up (w : Tw H0 H A as ts) (e : Evl.Ex H H') : Tw H0 H' A as ts := ⟨w.ex.trans e, e _ _ w.lst, w.nA, w.len, w.nd, fun i a ns p q => by
  obtain ⟨r1, r2, r3⟩ := w.row i a ns p q
  exact ⟨r1, r2, e _ _ r3⟩⟩
theorem Tw.set (w : Tw H0 H A as ts) (ha : as[i]? = some a) (hi : i < ts.length) : Tw H0 (upd H a (.lst (ns.map V.int))) A as (ts.set i ns) := by
  obtain ⟨r1, r2, r3⟩ := w.row i a _ ha (List.getElem?_eq_getElem hi)
  refine ⟨fun b o h => ?_, by rw [upd_ne r1.symm]; exact w.lst, w.nA, by rw [w.len, List.length_set], w.nd, fun j b ms hj hm => ?_⟩
  · rw [upd_ne (fun z => by rw [z, r2] at h; cases h)]
    exact w.ex b o h
  · by_cases z : j = i
    · subst z
      rw [ha] at hj
      cases hj
      rw [List.getElem?_set_self hi] at hm
      cases hm
      exact ⟨r1, r2, upd_same⟩
    · rw [List.getElem?_set_ne (Ne.symm z)] at hm
      obtain ⟨q1, q2, q3⟩ := w.row j b ms hj hm
      refine ⟨q1, q2, ?_⟩
      rw [upd_ne (fun e => z ?_)]
      · exact q3
      · subst e
        obtain ⟨l1, e1⟩ := List.getElem?_eq_some_iff.mp hj
        obtain ⟨l2, e2⟩ := List.getElem?_eq_some_iff.mp ha
        exact (List.getElem_inj w.nd).mp (e1.trans e2.symm)
/-- a row that stands is put behind -/
theorem Tw.put (w : Tw H0 H A as ts) (ha : H a = some (.lst (ns.map V.int))) (h0 : H0 a = none) (hA : a ≠ A) (hn : a ∉ as) : Tw H0 (upd H A (.lst (as.map V.ref ++ [.ref a]))) A (as ++ [a]) (ts ++ [ns]) := by
  refine ⟨fun b o h => ?_, by rw [upd_same, List.map_append]; rfl, w.nA, by rw [List.length_append, List.length_append, w.len]; rfl, ?_, fun j b ms hj hm => ?_⟩
  · rw [upd_ne (fun z => by rw [z, w.nA] at h; cases h)]
    exact w.ex b o h
  · rw [List.nodup_append]
    refine ⟨w.nd, by simp, fun x hx y hy e => ?_⟩
    rw [List.mem_singleton.mp hy] at e
    subst e
    exact hn hx
  · rcases Nat.lt_or_ge j as.length with z | z
    · rw [List.getElem?_append_left z] at hj
      rw [List.getElem?_append_left (by rw [← w.len]; exact z)] at hm
      obtain ⟨q1, q2, q3⟩ := w.row j b ms hj hm
      exact ⟨q1, q2, by rw [upd_ne q1]; exact q3⟩
    · rw [List.getElem?_append_right z] at hj
      rw [List.getElem?_append_right (by rw [← w.len]; exact z), ← w.len] at hm
      have : j - as.length = 0 := by
        have := (List.getElem?_eq_some_iff.mp hj).1
        simp at this
        omega
      rw [this] at hj hm
      cases hj
      cases hm
      exact ⟨hA, h0, by rw [upd_ne hA]; exact ha⟩
theorem Tw.notin (w : Tw H0 H A as ts) (ha : H a = none) : a ≠ A ∧ a ∉ as := ⟨(fun z => by rw [z, w.lst] at ha; cases ha), fun hm => by
  obtain ⟨i, hi, rfl⟩ := List.mem_iff_getElem.mp hm
  have := (w.row i _ _ (List.getElem?_eq_getElem hi) (List.getElem?_eq_getElem (by rw [← w.len]; exact hi))).2.2
  rw [this] at ha
  cases ha⟩
theorem Tw.app (w : Tw H0 H A as ts) (ha : H a = none) : Tw H0 (upd (upd H a (.lst [])) A (.lst (as.map V.ref ++ [.ref a]))) A (as ++ [a]) (ts ++ [[]]) := by
  obtain ⟨n1, n2⟩ := w.notin ha
  exact (w.up (Evl.Ex.new (o := .lst []) ha)).put (ns := []) upd_same (Evl.fresh_back w.ex ha) n1 n2
end EnL
end S_Xn
section S_Rze
/-! walks of a comprehension's clauses -/
namespace Hk
open PySem PySem.Spec PyProof.Rows L2 Tl EnL
theorem walked_it {J : It} {n : Nat} {G : Hp → Prop} {Y : Nat → Hp → V → Hp → Prop} (w : Walk J n G Y) {g : TG} {tt : L2.TT} {vs : List Nat} {σ : L2.St} {H : Hp} {Nx : Hp → Prop} {body : L2.St → Hp → (Hp → Prop) → Prop} {s : Nat → L2.St → L2.St} (aim : Aims g n Y s) (hs : ∀ i, wipe (s i (wipe σ vs)) vs = wipe σ vs)
    (Pv : Nat → Hp → Prop) (h0 : Pv 0 H) (hG : ∀ i A, i ≤ n → Pv i A → G A) (step : ∀ i A B, i < n → Pv i A → Evl.Ex A B → tt (s i (wipe σ vs)) B fun b C => if b = true then body (s i (wipe σ vs)) C (Pv (i + 1)) else Pv (i + 1) C) (hd : ∀ A, Pv n A → Nx A) : Walked J g tt vs σ H Nx body := by
  refine ⟨fun j k A => k = n - j ∧ j ≤ n ∧ Pv j A, ⟨n, by omega, Nat.zero_le _, h0⟩, ?_⟩
  rintro j k A ⟨rfl, hj, p⟩
  by_cases hlt : j < n
  · refine .inr ⟨w.goes j A hlt (hG j A hj p), Pv (j + 1), fun G' p' => ⟨n - (j + 1), by omega, rfl, hlt, p'⟩, fun x B y => ?_⟩
    obtain ⟨ab, k⟩ := aim j (wipe σ vs) A x B hlt (w.yields j A x B hlt (hG j A hj p) y)
    exact k _ ⟨hs j, step j A B hlt p ab⟩
  · have e : j = n := by omega
    subst e
    exact .inl ⟨w.stops A (hG _ A hj p), hd A p⟩
theorem clW_go {wi : TI} {g : TG} {tt : L2.TT} {vs : List Nat} {σ : L2.St} {H B : Hp} {n : Nat} {Y : Nat → Hp → V → Hp → Prop} {Nx : Hp → Prop} {body : L2.St → Hp → (Hp → Prop) → Prop} {s : Nat → L2.St → L2.St} (hw : EvB wi σ B n Y) (e : Evl.Ex B H) (aim : Aims g n Y s) (hs : ∀ i, wipe (s i (wipe σ vs)) vs = wipe σ vs)
    (Pv : Nat → Hp → Prop) (h0 : ∀ A, Evl.Ex H A → Pv 0 A) (hk : ∀ i A, Pv i A → Evl.Ex B A) (step : ∀ i A B, i < n → Pv i A → Evl.Ex A B → tt (s i (wipe σ vs)) B fun b C => if b = true then body (s i (wipe σ vs)) C (Pv (i + 1)) else Pv (i + 1) C) (hd : ∀ A, Pv n A → Nx A) : clW wi g tt vs σ H Nx body :=
  hw H e _ fun J G H2 e2 w sG => walked_it w aim hs Pv (h0 H2 e2) (fun i A _ p => sG A (hk i A p)) step hd
theorem yes_go {σ : L2.St} {B : Hp} {P R : Hp → Prop} (h : P B) : tYes σ B fun b C => if b = true then P C else R C := by
  show (if true = true then P B else R B)
  rw [if_pos rfl]
  exact h
/-- pairs of ints at D, as a list of tuples; what stood at B0 stands -/
structure PvP (B0 : Hp) (D : Addr) (L : List (Int × Int)) (A : Hp) : Prop where
  new : B0 D = none
  ex : Evl.Ex B0 A
  rows : ∃ as : List Addr, A D = some (.lst (as.map V.ref)) ∧ as.length = L.length ∧ ∀ (i : Nat) (a : Addr) (p : Int × Int), as[i]? = some a → L[i]? = some p → A a = some (.tup [.int p.1, .int p.2])
theorem PvP.on {B0 A A' : Hp} {D : Addr} {L : List (Int × Int)} (h : PvP B0 D L A) (e : Evl.Ex A A') : PvP B0 D L A' := by
  obtain ⟨n, x, as, h1, h2, h3⟩ := h
  exact ⟨n, x.trans e, as, e _ _ h1, h2, fun i a p q1 q2 => e _ _ (h3 i a p q1 q2)⟩
theorem PvP.start {B0 : Hp} {D : Addr} (h : B0 D = none) : PvP B0 D [] (upd B0 D (.lst [])) := ⟨h, Evl.Ex.new h, [], upd_same, rfl, fun i a p z => by simp at z⟩
theorem PvP.add {B0 A : Hp} {D a : Addr} {L : List (Int × Int)} (h : PvP B0 D L A) {p : Int × Int} (ha : A a = some (.tup [.int p.1, .int p.2])) (hl : L.length < 1000000) : ∃ acc, A D = some (.lst acc) ∧ acc.length < sizeLine ∧ PvP B0 D (L ++ [p]) (upd A D (.lst (acc ++ [.ref a]))) := by
  obtain ⟨n, x, as, h1, h2, h3⟩ := h
  have ne : ∀ {b : Addr} {xs : List V}, A b = some (.tup xs) → b ≠ D := fun hb z => by rw [z, h1] at hb; cases hb
  refine ⟨_, h1, by rw [List.length_map, h2, sizeLine_eq]; omega, n, fun b o hb => ?_, as ++ [a], by rw [upd_same, List.map_append]; rfl, by rw [List.length_append, List.length_append, h2]; rfl, fun i c q q1 q2 => ?_⟩
  · rw [upd_ne (fun z => by rw [z, n] at hb; cases hb)]
    exact x _ _ hb
  · rcases Nat.lt_or_ge i as.length with hi | hi
    · rw [List.getElem?_append_left hi] at q1
      rw [List.getElem?_append_left (by omega)] at q2
      have := h3 i c q q1 q2
      rw [upd_ne (ne this)]
      exact this
    · rw [List.getElem?_append_right hi] at q1
      rw [List.getElem?_append_right (by omega)] at q2
      have hz := (List.getElem?_eq_some_iff.mp q1).1
      rw [List.length_singleton] at hz
      rw [show i - as.length = 0 by omega] at q1
      rw [show i - L.length = 0 by omega] at q2
      cases q1
      cases q2
      rw [upd_ne (ne ha)]
      exact ha
end Hk
end S_Rze
section S_Rx
namespace Hk
open PySem PySem.Spec PyProof.Rows L2
section
variable {X : Cx}
/-- [elt for .. for .. for ..]: D the new list; vs: the block's names, vs1: those of the second and the third target, vs2: of the third -/
def tLc3 (wi : TI) (g : TG) (tt : L2.TT) (wi1 : TI) (g1 : TG) (tt1 : L2.TT) (wi2 : TI) (g2 : TG) (tt2 : L2.TT) (te : TE) (vs vs1 vs2 : List Nat) : TE := fun σ H Q => wi σ H fun J H1 => ∀ D, H1 D = none →
  Walked J g tt vs (wipe σ vs) (upd H1 D (.lst [])) (fun G => Q (.ref D) G) fun σ2 G2 Ny => clW wi1 g1 tt1 vs1 σ2 G2 Ny fun σ3 G3 Nz => clW wi2 g2 tt2 vs2 σ3 G3 Nz (Laid te D)
abbrev BkC := ∀ (s : Shared) (H : Hp) (C : Addr) (cl : List (Str × Addr)) (fp : List Addr), Prop
theorem lc3_core {pins : List (Addr × Obj)} {s : Shared} {σ : L2.St} {H : Hp} {Q : VK} {elt t0 i0 t1 i1 t2 i2 : Expr} {f0 f1 f2 : List Expr} {scope : Scope} {own : List (Str × Nat)} {vs1 vs2 : List Nat} {pos pos' : Pos} {wi wi1 wi2 : TI} {g g1 g2 : TG} {tt tt1 tt2 : L2.TT} {te : TE} {use : Option (Value → Sem Unit)} {Qf : Value → Shared → Prop}
    (hc : X.calm = true) (hN : X.N.Nodup) (I : Inv X pins σ H s) (hi : PI X t0 i0 wi) (ok : BlkOk X.N X.env.scope scope own) (hv1 : ∀ i ∈ vs1, i ∈ own.map (·.2)) (hv2 : ∀ i ∈ vs2, i ∈ vs1)
    (hg : ∀ (s : Shared) (H : Hp) (C : Addr) (cl : List (Str × Addr)) (fp : List Addr), PG (X.blk s H scope (compEnvC scope cl C X.env) fp) t0 g ∧ PTs (X.blk s H scope (compEnvC scope cl C X.env) fp) f0 tt)
    (hg1 : ∀ (s : Shared) (H : Hp) (C : Addr) (cl : List (Str × Addr)) (fp : List Addr), PI (X.blk s H scope (compEnvC scope cl C X.env) fp) t1 i1 wi1 ∧ PG (X.blk s H scope (compEnvC scope cl C X.env) fp) t1 g1 ∧ PTs (X.blk s H scope (compEnvC scope cl C X.env) fp) f1 tt1)
    (hg2 : ∀ (s : Shared) (H : Hp) (C : Addr) (cl : List (Str × Addr)) (fp : List Addr), PI (X.blk s H scope (compEnvC scope cl C X.env) fp) t2 i2 wi2 ∧ PG (X.blk s H scope (compEnvC scope cl C X.env) fp) t2 g2 ∧ PTs (X.blk s H scope (compEnvC scope cl C X.env) fp) f2 tt2)
    (he : ∀ (s : Shared) (H : Hp) (C : Addr) (cl : List (Str × Addr)) (fp : List Addr), PE (X.blk s H scope (compEnvC scope cl C X.env) fp) elt te)
    (hs0 : ∀ x, foldedSetIterable i0 X.env x = pure x) (hs1 : ∀ env x, foldedSetIterable i1 env x = pure x) (hs2 : ∀ env x, foldedSetIterable i2 env x = pure x)
    (h : tLc3 wi g tt wi1 g1 tt1 wi2 g2 tt2 te (own.map (·.2)) vs1 vs2 σ H Q)
    (hRR : ∀ D C s' m H', Inv X pins σ H' s' → Q (.ref D) H' → s'.heap.Ns C m → FpOk X pins H' C → compPost (model X.prog X.w) X.A X.xe use Qf (.ref D) C (.ok .next) s') :
    wpAny (model X.prog X.w) X.A (comprehension (e3 elt t0 i0 t1 i1 t2 i2 f0 f1 f2 scope pos) scope X.env pos' (newList []) false (eval i0 X.env) use) Qf X.xe s := by
  have bound : ∀ y ∈ scope.names, y.2 = .free → ∃ c, X.env.cells.lookup y.1 = some c := fun y hy z => (ok.free y hy z).elim (fun k => I.ok.has _ (.inl k)) fun k => I.ok.has _ (.inr k)
  refine wpAny_comprehension_free (use := use) rfl hs0 (closure_ok bound) ok.kind (fun y hy z => by rw [ok.uniq y hy, z]) (thn (hi.run pins s σ H _ I h) fun xv a1 hx => thn hx fun itv a2 k2 => ?_)
  obtain ⟨it, fp, tn, J, G, rfl, I2, T, st2, f2', q⟩ := k2
  refine wpAny_newObj_type (newEnv_comp ?_) (by show 0 ≤ sizeLine; decide)
  generalize hD : a2.heap.objs.size = D
  have w := q D (I2.hok.fresh (Nat.le_of_eq hD))
  generalize ha3 : ({ a2 with heap := a2.heap.push { cls := .type "list", data := .seq ([] : List Value).toArray } } : Shared) = a3
  have I3 : Inv X pins σ (upd G D (.lst [])) a3 := by
    rw [← ha3]
    refine I2.laid (t' := a2.toks) (fun _ _ z => Heap.get?_push_of_some _ z) (Nat.le_of_eq hD) ⟨Nat.zero_le _, [], 0, .nil, ?_⟩
    rw [← hD]
    exact Heap.get?_push_size _ rfl
  have p3 : a3.heap = a2.heap.push { cls := .type "list", data := .seq ([] : List Value).toArray } := by rw [← ha3]
  have low : ∀ b ∈ fp, b < a2.heap.objs.size := fun b hb => by
    obtain ⟨o, z, _⟩ := T.obj _ _ st2 b hb
    exact Heap.lt_size z
  have f3 : ∀ b ∈ fp, FpOk X pins (upd G D (.lst [])) b ∧ b < a3.heap.objs.size := fun b hb =>
    ⟨⟨by rw [upd_ne (by rw [← hD]; exact Nat.ne_of_lt (low b hb))]; exact (f2' b hb).1, (f2' b hb).2⟩, by rw [p3, Heap.size_push]; exact Nat.lt_succ_of_lt (low b hb)⟩
  have st3 : tn 0 a3.heap := T.keep _ _ _ st2 fun b _ o z => by rw [p3]; exact Heap.get?_push_of_some _ z
  have I4 := block_start I3 ok hN f3
  obtain ⟨pg, pt⟩ := hg a3 (upd G D (.lst [])) a3.heap.objs.size (cellsFrom (a3.heap.objs.size + 1) scope.names (cloFrom X.env.cells scope.names [])) fp
  obtain ⟨pi1, pg1, pt1⟩ := hg1 a3 (upd G D (.lst [])) a3.heap.objs.size (cellsFrom (a3.heap.objs.size + 1) scope.names (cloFrom X.env.cells scope.names [])) fp
  obtain ⟨pi2, pg2, pt2⟩ := hg2 a3 (upd G D (.lst [])) a3.heap.objs.size (cellsFrom (a3.heap.objs.size + 1) scope.names (cloFrom X.env.cells scope.names [])) fp
  have pe := he a3 (upd G D (.lst [])) a3.heap.objs.size (cellsFrom (a3.heap.objs.size + 1) scope.names (cloFrom X.env.cells scope.names [])) fp
  show codeAny _ _ (.compStart (e3 elt t0 i0 t1 i1 t2 i2 f0 f1 f2 scope pos) 0 (.ref it) (.ref D) (compEnvC scope (cellsFrom (a3.heap.objs.size + 1) scope.names (cloFrom X.env.cells scope.names [])) a3.heap.objs.size X.env)) (compPost (model X.prog X.w) X.A X.xe use Qf (.ref D) a3.heap.objs.size) { a3 with heap := pushCells (a3.heap.push { cls := .type "dict", data := .dict #[] }) scope.names }
  have none_ : ∀ b ∈ fp, (upd G D (.lst [])) b = none := fun b hb => (f3 b hb).1.1
  generalize hen : compEnvC scope (cellsFrom (a3.heap.objs.size + 1) scope.names (cloFrom X.env.cells scope.names [])) a3.heap.objs.size X.env = en at I4 pg pt pi1 pg1 pt1 pi2 pg2 pt2 pe ⊢
  have cl : en.locals = a3.heap.objs.size := by subst hen; rfl
  generalize hG3 : upd G D (.lst []) = G3 at I3 I4 pg pt pi1 pg1 pt1 pi2 pg2 pt2 pe w none_ f3
  generalize ha4 : ({ a3 with heap := pushCells (a3.heap.push { cls := .type "dict", data := .dict #[] }) scope.names } : Shared) = a4 at I4 ⊢
  have st4 : tn 0 a4.heap := T.keep _ _ _ st3 fun b _ o z => by rw [← ha4]; exact pushCells_keeps _ _ _ _ (Heap.get?_push_of_some _ z)
  have nxe : ∀ (v : Value) (u : Shared), ¬(X.blk a3 G3 scope en fp).xe v u := fun _ _ z => z
  have lp : codeAny (model X.prog X.w) X.A (.compLoop (e3 elt t0 i0 t1 i1 t2 i2 f0 f1 f2 scope pos) 0 (.ref it) (.ref D) en) (compPost (model X.prog X.w) X.A X.xe use Qf (.ref D) a3.heap.objs.size) a4 := by
    refine clause_ok (Y := X.blk a3 G3 scope en fp) nxe hc (loop_out turn3_0 (hs1 en)) (out_mono (c := fun j => .compStart _ 1 j (.ref D) en)) pg pt T (fun {σ' H' s'} I' hn b hb => ⟨hn b hb, (I'.ok.exf b hb).1, I'.ok.exfs b hb, .inl hb, fun x c z => (I'.ok.exf b hb).2 x c z, fun p hp => absurd (show p ∈ ([] : List (Addr × Obj)) ++ [] from hp) (by simp)⟩) I4 st4 none_ w (fun pl σ2 H2 s2 Ny I5 h5 => ?_) fun s' H' I5 _ qq => ?_
    · refine within_ok (Y := X.blk a3 G3 scope en fp) nxe hc (d := 0) (.inl rfl) (loop_out turn3_1 (hs2 en)) (out_mono (c := fun j => .compStart _ 2 j (.ref D) en)) pi1 pg1 pt1 hv1 (fun pl' σ3 H3 s3 Nz I6 h6 => ?_) I5 h5
      exact within_ok (Y := X.blk a3 G3 scope en fp) nxe hc (d := 1) (.inr rfl) (loop_in turn3_2) in_mono pi2 pg2 pt2 hv2 (fun pl2 σ4 H4 s4 Nw I7 h7 => laid_ok nxe pe I7 h7) I6 h6
    · have I7 : Inv X pins σ H' s' := I3.call' (ch := fp) I5.os I5.base I5.hok I5.bare fun b hb => ⟨(f3 b hb).1.2.2.2.1, (f3 b hb).1.2.1, (f3 b hb).1.2.2.2.2.1, (f3 b hb).1.2.2.2.2.2⟩
      have nC : H' a3.heap.objs.size = none := by
        have z : H' en.locals = none := I5.free
        rw [cl] at z
        exact z
      obtain ⟨m, hn, _⟩ := I5.loc
      have hn : s'.heap.Ns en.locals m := hn
      rw [cl] at hn
      exact hRR D a3.heap.objs.size s' m H' I7 qq hn (I3.fpOk (Nat.le_refl _) nC)
  exact codeAny_compStart_list lp (T.self X.A 0 _ _ _ st4 lp)
/-- as a value -/
theorem pe_lc3 {elt t0 i0 t1 i1 t2 i2 : Expr} {f0 f1 f2 : List Expr} {scope : Scope} {own : List (Str × Nat)} {vs1 vs2 : List Nat} {pos : Pos} {wi wi1 wi2 : TI} {g g1 g2 : TG} {tt tt1 tt2 : L2.TT} {te : TE} (hc : X.calm = true) (hN : X.N.Nodup) (hi : PI X t0 i0 wi) (ok : BlkOk X.N X.env.scope scope own) (hv1 : ∀ i ∈ vs1, i ∈ own.map (·.2)) (hv2 : ∀ i ∈ vs2, i ∈ vs1)
    (hg : ∀ (s : Shared) (H : Hp) (C : Addr) (cl : List (Str × Addr)) (fp : List Addr), PG (X.blk s H scope (compEnvC scope cl C X.env) fp) t0 g ∧ PTs (X.blk s H scope (compEnvC scope cl C X.env) fp) f0 tt)
    (hg1 : ∀ (s : Shared) (H : Hp) (C : Addr) (cl : List (Str × Addr)) (fp : List Addr), PI (X.blk s H scope (compEnvC scope cl C X.env) fp) t1 i1 wi1 ∧ PG (X.blk s H scope (compEnvC scope cl C X.env) fp) t1 g1 ∧ PTs (X.blk s H scope (compEnvC scope cl C X.env) fp) f1 tt1)
    (hg2 : ∀ (s : Shared) (H : Hp) (C : Addr) (cl : List (Str × Addr)) (fp : List Addr), PI (X.blk s H scope (compEnvC scope cl C X.env) fp) t2 i2 wi2 ∧ PG (X.blk s H scope (compEnvC scope cl C X.env) fp) t2 g2 ∧ PTs (X.blk s H scope (compEnvC scope cl C X.env) fp) f2 tt2)
    (he : ∀ (s : Shared) (H : Hp) (C : Addr) (cl : List (Str × Addr)) (fp : List Addr), PE (X.blk s H scope (compEnvC scope cl C X.env) fp) elt te)
    (hs0 : ∀ x, foldedSetIterable i0 X.env x = pure x := by intro _; rfl) (hs1 : ∀ env x, foldedSetIterable i1 env x = pure x := by intro _ _; rfl) (hs2 : ∀ env x, foldedSetIterable i2 env x = pure x := by intro _ _; rfl) :
    PE X (e3 elt t0 i0 t1 i1 t2 i2 f0 f1 f2 scope pos) (tLc3 wi g tt wi1 g1 tt1 wi2 g2 tt2 te (own.map (·.2)) vs1 vs2) := by
  refine ⟨fun pins s σ H Q I h => ?_⟩
  rw [eval_ListComp]
  refine lc3_core hc hN I hi ok hv1 hv2 hg hg1 hg2 he hs0 hs1 hs2 h fun D C s' m H' I' q hn f => ⟨m, hn, fun _ sb => ?_⟩
  obtain ⟨z0, z1, _, z3, z4, z5⟩ := f
  exact ⟨.ref D, H', I'.turned (t' := s'.toks) (fun b o hb z => (sb.2 b hb).trans z) z0 z1 z3 z4 z5, rfl, q⟩
end
end Hk
end S_Rx
section S_Rzf
/-! x = [.. for .. for .. for ..] -/
namespace Hk
open PySem PySem.Spec PyProof.Rows L2
section
variable {X : Cx}
theorem ps_setLc3 {i : Nat} {y : Str} {py : Pos} {elt t0 i0 t1 i1 t2 i2 : Expr} {f0 f1 f2 : List Expr} {scope : Scope} {own : List (Str × Nat)} {vs1 vs2 : List Nat} {pos spos : Pos} {wi wi1 wi2 : TI} {g g1 g2 : TG} {tt tt1 tt2 : L2.TT} {te : TE} (hc : X.calm = true) (hN : X.N.Nodup) (hy : X.N[i]? = some y) (hyl : X.env.scope.names.lookup y = some .local)
    (hsw : swapsWith (e3 elt t0 i0 t1 i1 t2 i2 f0 f1 f2 scope pos) (some (.Name y py)) spos.line X.env = pure true) (hi : PI X t0 i0 wi) (ok : BlkOk X.N X.env.scope scope own) (hv1 : ∀ i ∈ vs1, i ∈ own.map (·.2)) (hv2 : ∀ i ∈ vs2, i ∈ vs1)
    (hg : ∀ (s : Shared) (H : Hp) (C : Addr) (cl : List (Str × Addr)) (fp : List Addr), PG (X.blk s H scope (compEnvC scope cl C X.env) fp) t0 g ∧ PTs (X.blk s H scope (compEnvC scope cl C X.env) fp) f0 tt)
    (hg1 : ∀ (s : Shared) (H : Hp) (C : Addr) (cl : List (Str × Addr)) (fp : List Addr), PI (X.blk s H scope (compEnvC scope cl C X.env) fp) t1 i1 wi1 ∧ PG (X.blk s H scope (compEnvC scope cl C X.env) fp) t1 g1 ∧ PTs (X.blk s H scope (compEnvC scope cl C X.env) fp) f1 tt1)
    (hg2 : ∀ (s : Shared) (H : Hp) (C : Addr) (cl : List (Str × Addr)) (fp : List Addr), PI (X.blk s H scope (compEnvC scope cl C X.env) fp) t2 i2 wi2 ∧ PG (X.blk s H scope (compEnvC scope cl C X.env) fp) t2 g2 ∧ PTs (X.blk s H scope (compEnvC scope cl C X.env) fp) f2 tt2)
    (he : ∀ (s : Shared) (H : Hp) (C : Addr) (cl : List (Str × Addr)) (fp : List Addr), PE (X.blk s H scope (compEnvC scope cl C X.env) fp) elt te)
    (hs0 : ∀ x, foldedSetIterable i0 X.env x = pure x := by intro _; rfl) (hs1 : ∀ env x, foldedSetIterable i1 env x = pure x := by intro _ _; rfl) (hs2 : ∀ env x, foldedSetIterable i2 env x = pure x := by intro _ _; rfl) :
    PS X (.Assign [.Name y py] (e3 elt t0 i0 t1 i1 t2 i2 f0 f1 f2 scope pos) spos) (tAsg (tLc3 wi g tt wi1 g1 tt1 wi2 g2 tt2 te (own.map (·.2)) vs1 vs2) (gName i)) := by
  refine ⟨fun pins s σ H D I h => ?_⟩
  rw [exec_Assign_Name_used _ _ _ _ hsw]
  refine wpAny_bind (wpAny_standAt (wpAny_bind ?_))
  show wpAny _ X.A (do let _ ← comprehension (e3 elt t0 i0 t1 i1 t2 i2 f0 f1 f2 scope pos) scope X.env (firstIterPos _ pos) (newList []) false (eval i0 X.env) (some (assign (.Name y py) X.env))) _ _ s
  have h : tLc3 wi g tt wi1 g1 tt1 wi2 g2 tt2 te (own.map (·.2)) vs1 vs2 σ H (fun x H1 => gName i x σ H1 D.nx) := h
  refine wpAny_bind (thn (lc3_core (Qf := fun _ s' => SP X pins D .next s') hc hN I hi ok hv1 hv2 hg hg1 hg2 he hs0 hs1 hs2 h fun L C s' m H' I' q hn f => ?_) fun _ s' hq => wpAny_pure (wpAny_pure hq))
  show wpAny _ _ (assign (.Name y py) X.env (.ref L)) _ _ _
  refine wpAny_assign_Name (store_ok2 (v := V.ref L) I' hN hy (.inl hyl) rfl (fun s2 I2 ⟨a, sb, ha⟩ => ?_) (.inr hyl))
  obtain ⟨z0, z1, _, z3, z4, z5⟩ := f
  have na : C ≠ a := ha.elim (fun z => by rw [z]; exact z1) fun z e => z4 y a z e.symm
  exact ⟨m, hn.sameBut sb na, fun _ sb2 => ⟨_, H', I2.turned (t' := s2.toks) (fun b o hb z => (sb2.2 b hb).trans z) z0 z1 z3 z4 z5, q⟩⟩
end
end Hk
end S_Rzf
section S_Nbc
namespace P38
open PySem PySem.Spec PyProof.Rows L2 Tl Hk RZ EnL
/-! ### pairs of pieces -/
theorem eb_ei {K : PySem.W.Frag} {σ : L2.St} {B : Hp} {te : TE} {a : Addr} {xs : List V} (h : Evl.Ev te σ B (.ref a)) (hs : SqS K B a xs) : EvB (iEi K te) σ B xs.length (YAt xs) := fun H1 e R k =>
  hs.elim (fun hs => .inl (h H1 e _ fun H2 e2 => ⟨a, rfl, ⟨xs, Evl.ex_l (e.trans e2) hs⟩, k _ _ H2 e2 walk_list fun A ab => Evl.ex_l ab hs⟩))
    fun hs => .inr (h H1 e _ fun H2 e2 => ⟨a, rfl, ⟨xs, Evl.ex_t (e.trans e2) hs⟩, k _ _ H2 e2 walk_tup fun A ab => Evl.ex_t ab hs⟩)
abbrev nPi : List Str := ["bags", "above", "fresh", "pairs", "bag", "row", "one", "other"]
theorem scPairsIn : FnScope nPi ["bags", "above"] (defScope sPairsIn) := ⟨rfl, rfl, rfl, by decide +kernel, rfl, by decide +kernel, by decide +kernel⟩
/-- a dict of pairs -/
def DtP (B0 : Hp) (D : Addr) (ks : List IP) (A : Hp) : Prop := B0 D = none ∧ Evl.Ex B0 A ∧ A D = some (.dT (tgP ks))
theorem DtP.on {B0 A A' : Hp} {D : Addr} {ks : List IP} (h : DtP B0 D ks A) (e : Evl.Ex A A') : DtP B0 D ks A' := ⟨h.1, h.2.1.trans e, e _ _ h.2.2⟩
def spPairsIn (K : PySem.W.Frag) : Sp := fun vs H Q _ => ∃ (A U : Addr) (xs : List V) (bs : List (List Int)) (ups : List (Option Nat)), vs = [.ref A, .ref U] ∧ RowsB K H xs bs ∧ SqT K H A xs ∧ SqT K H U (ups.map uv) ∧ ups.length = bs.length ∧ bs.length ≤ 3000 ∧ (∀ (i j : Nat), ups[i]? = some (some j) → j < bs.length) ∧ (∀ ns ∈ bs, ns.length ≤ 3000) ∧ (pairsZ bs ups).length ≤ 30000 ∧
  ∀ D H', DtP H D (keysZ bs ups) H' → Q (.ref D) H'
theorem take_flat {α β : Type} (f : α → List β) (d : α) (l : List α) (i : Nat) (h : i < l.length) : (l.take (i + 1)).flatMap f = (l.take i).flatMap f ++ f (l.getD i d) := by
  rw [List.take_succ_eq_append_getElem h, List.flatMap_append]
  have : l.getD i d = l[i] := by rw [List.getD_eq_getElem?_getD, List.getElem?_eq_getElem h]; rfl
  rw [this, List.flatMap_cons, List.flatMap_nil, List.append_nil]
theorem pre_le {α β : Type} (f : α → List β) (l : List α) (i : Nat) : ((l.take i).flatMap f).length ≤ (l.flatMap f).length := by
  conv => rhs; rw [← List.take_append_drop i l, List.flatMap_append, List.length_append]
  omega
def fZ (bs : List (List Int)) (ups : List (Option Nat)) (i : Nat) : List IP := ((freshL bs ups).getD i []).flatMap fun one => (bs.getD i []).map fun o => (one, o)
abbrev rMn : List V → Hp → VK → Prop := fun xs H Q => ∃ i j, xs = [.int i, .int j] ∧ Q (.int (if j < i then j else i)) H
abbrev rMx : List V → Hp → VK → Prop := fun xs H Q => ∃ i j, xs = [.int i, .int j] ∧ Q (.int (if j > i then j else i)) H
section
variable {P : Program} {w : World} {K : PySem.W.Frag} {mg : Str → Option Value} {base : Heap}
set_option maxHeartbeats 2000000 in
theorem ok_pairsIn {f fF : Addr} {fd fdF : FuncData} {k : Nat} (F : Fun K "pairs_in" "pairs_in" sPairsIn f fd) (FF : Fun K "fresh_in" "fresh_in" sFresh fF fdF) (GF : FnOk P w K mg base CX0 k fF fdF ["bags", "above"] (spFresh K)) (bF : Binds K fdF ["bags", "above"] []) (gF : mg "fresh_in" = some (.ref fF))
    (mzip : mg "zip" = none) (mmin : mg "min" = none) (mmax : mg "max" = none) : FnOk P w K mg base CX0 (k + 1) f fd ["bags", "above"] (spPairsIn K) := by
  refine F.ok scPairsIn (fun vs H Q E h => ?_) (fun cdv A0 outer s H vs Q E hr h => ?_)
  · obtain ⟨A, U, xs, bs, ups, rfl, _⟩ := h
    rfl
  · obtain ⟨A, U, xs, bs, ups, rfl, hR, hA, hU, hul, hl, hin, hsz, hp, q⟩ := h
    have nd := scPairsIn.nd
    have hxl := hR.1
    have hu2 : (A0.deeper (envOfC "pairs_in" (defScope sPairsIn) s.heap.objs.size f cdv)).units + 2 < cLine := by have := hr.units; omega
    refine ⟨_, pss_cons (ps_set (i := 2) nd rfl (.inl rfl) (pe_call GF hr (by rfl) gF FF.kp bF .nil pass0 (pa_cons (pv 0) (pa_cons (pv 1) (pa_nil))))) (pss_cons (ps_setLc3 (i := 3) (own := [("bag", 4), ("row", 5), ("one", 6), ("other", 7)]) (vs1 := [6, 7]) (vs2 := [7]) (g := gTup K 2 (gCons (gName 4) (gCons (gName 5) gNil))) (g1 := gName 6) (g2 := gName 7) (tt := tYes) (tt1 := tYes) (tt2 := tYes) (te := tTup (tCons (tVar 6) (tCons (tVar 7) tNil))) (wi1 := iEi K (tVar 5)) (wi2 := iEi K (tVar 4)) rfl nd rfl rfl (sw_true rfl rfl rfl (by decide +kernel)) (pi_zipTL (by rfl) mzip (pa_cons (pv 0) (pa_cons (pv 2) (pa_nil)))) (blkOk_by (N := nPi) (sc := defScope sPairsIn) (by decide +kernel)) (by decide) (by decide) (fun _ _ _ _ _ => ⟨pg_tup (by rfl) (pgs_cons (pg_name (i := 4) nd rfl (Or.inl rfl)) (pgs_cons (pg_name (i := 5) nd rfl (Or.inl rfl)) pgs_nil)), pts_nil⟩) (fun _ _ _ _ _ => ⟨pi_ei (pv 5), pg_name (i := 6) nd rfl (Or.inl rfl), pts_nil⟩) (fun _ _ _ _ _ => ⟨pi_ei (pv 4), pg_name (i := 7) nd rfl (Or.inl rfl), pts_nil⟩) (fun _ _ _ _ _ => pe_tup (pa_cons (pv 6) (pa_cons (pv 7) (pa_nil))))) (pss_one (ps_ret (pe_dcT (own := [("one", 6), ("other", 7)]) (g := gTup K 2 (gCons (gName 6) (gCons (gName 7) gNil))) (tt := tYes) (wi := iList K (tVar 3)) (tk := tTup (tCons (tCB rMn (tCons (tVar 6) (tCons (tVar 7) tNil))) (tCons (tCB rMx (tCons (tVar 6) (tCons (tVar 7) tNil))) tNil))) (tv := tC (.bl true)) hu2 rfl nd (pi_list (pv 3)) (blkOk_by (N := nPi) (sc := defScope sPairsIn) (by decide +kernel)) (fun _ _ _ _ _ => ⟨pg_tup (by rfl) (pgs_cons (pg_name (i := 6) nd rfl (Or.inl rfl)) (pgs_cons (pg_name (i := 7) nd rfl (Or.inl rfl)) pgs_nil)), pts_nil⟩) (fun _ _ _ _ _ => ⟨pe_tup (pa_cons (pe_callB (call_min2 rfl) (by rfl) mmin (by decide +kernel) (pa_cons (pv 6) (pa_cons (pv 7) (pa_nil)))) (pa_cons (pe_callB (call_max2 rfl) (by rfl) mmax (by decide +kernel) (pa_cons (pv 6) (pa_cons (pv 7) (pa_nil)))) (pa_nil))), pe_bl⟩))))), ?_⟩
    have rl : ∀ _ : Nat, (freshL bs ups).length = bs.length := fun _ => by unfold freshL; rw [List.length_map, List.length_range]
    refine Go.asg_go (Go.call_go (vs := [.ref A, .ref U]) (Evl.ea_cons (Evl.ev_var rfl) (Evl.ea_cons (Evl.ev_var rfl) Evl.ea_nil)) fun H1 e1 => ⟨A, U, xs, bs, ups, rfl, hR.ex e1, .inr ⟨.inr (Evl.ex_t e1 hA), Evl.ex_t e1 hU⟩, hul, hl, hin, hsz, fun Rr fa H2 e2 hRr hfa => ?_⟩)
    try dsimp only [List.set_cons_zero, List.set_cons_succ]
    have hR2 := hR.ex (e1.trans e2)
    have hA2 := Evl.ex_t (e1.trans e2) hA
    have eH2 := e1.trans e2
    have fal : fa.length = bs.length := by rw [hfa.1, rl 0]
    refine Go.asg_go ((ei_zipTL (K := K) (n := bs.length) (σ := [some (.ref A), some (.ref U), some (.ref Rr), none, none, none, none, none]) (H := H2) (by rw [List.length_map]; omega) (Evl.ev_var (i := 0) rfl) hA2 (Evl.ev_var (i := 2) rfl) (Evl.sq_of hRr)) H2 (Evl.Ex.refl _) _ fun J G H3 e3 wk sG D hD => ?_)
    refine walked_it wk (aims_pair (K := K) (j1 := 4) (j2 := 5)) (fun _ => rfl) (fun i A' => PvP H3 D ((List.range i).flatMap (fZ bs ups)) A') (PvP.start hD) (fun i A' _ p => sG A' (e3.trans p.ex) fun a o _ h => p.ex _ _ h) (fun i A' B hi p eB => ?_) fun A' p => ?_
    · obtain ⟨a, ha, hs⟩ := hR2.2 i _ (List.getElem?_eq_getElem hi)
      have hf := List.getElem?_eq_getElem (show i < fa.length by omega)
      have hrow := hfa.2 i _ ((freshL bs ups).getD i []) hf (by rw [List.getD_eq_getElem?_getD, List.getElem?_eq_getElem (show i < (freshL bs ups).length by rw [rl 0]; exact hi)]; rfl)
      generalize fa[i] = ra at hf hrow
      have ex1 : xs.getD i .non = .ref a := by rw [List.getD_eq_getElem?_getD, ha]; rfl
      have ex2 : (fa.map V.ref).getD i .non = .ref ra := by rw [List.getD_eq_getElem?_getD, List.getElem?_map, hf]; rfl
      have eb : bs.getD i [] = bs[i] := by rw [List.getD_eq_getElem?_getD, List.getElem?_eq_getElem hi]; rfl
      rw [← eb] at hs
      rw [ex1, ex2]
      have eZ : (List.range (i + 1)).flatMap (fZ bs ups) = (List.range i).flatMap (fZ bs ups) ++ fZ bs ups i := by rw [List.range_succ, List.flatMap_append, List.flatMap_cons, List.flatMap_nil, List.append_nil]
      have zle : ((List.range i).flatMap (fZ bs ups)).length + (fZ bs ups i).length ≤ 30000 := by
        have h1 := pre_le (fZ bs ups) (List.range bs.length) (i + 1)
        rw [List.take_range, show min (i + 1) bs.length = i + 1 by omega, eZ, List.length_append] at h1
        have : ((List.range bs.length).flatMap (fZ bs ups)).length = (pairsZ bs ups).length := rfl
        omega
      have p := p.on eB
      refine yes_go ?_
      have hs3 := hs.ex e3
      have hrow3 := Evl.sq_of (K := K) (e3 _ _ hrow)
      generalize hrw : (freshL bs ups).getD i [] = row at hrow3
      generalize hbg : bs.getD i [] = bag at hs3
      have eF : fZ bs ups i = row.flatMap fun one => bag.map fun o => (one, o) := by unfold fZ; rw [hrw, hbg]
      rw [eF] at zle
      show clW _ _ _ _ [some (.ref A), some (.ref U), some (.ref Rr), none, some (.ref a), some (.ref ra), none, none] _ _ _
      refine clW_go (eb_ei (K := K) (Evl.ev_var rfl) (.inl hrow3)) p.ex (aims_at (j := 6)) (fun _ => rfl) (fun j A2 => PvP H3 D ((List.range i).flatMap (fZ bs ups) ++ (row.take j).flatMap fun one => bag.map fun o => (one, o)) A2) (fun A2 eA => by rw [List.take_zero, List.flatMap_nil, List.append_nil]; exact p.on eA) (fun _ _ p => p.ex) (fun j A2 B2 hj p2 eB2 => ?_) fun A2 p2 => ?_
      · rw [List.length_map] at hj
        rw [gd_int hj]
        have p2 := p2.on eB2
        have ej := take_flat (fun one => bag.map fun o => (one, o)) 0 row j hj
        have jle := pre_le (fun one => bag.map fun o => ((one, o) : IP)) row (j + 1)
        rw [ej, List.length_append] at jle
        refine yes_go ?_
        show clW _ _ _ _ [some (.ref A), some (.ref U), some (.ref Rr), none, some (.ref a), some (.ref ra), some (.int (row.getD j 0)), none] _ _ _
        refine clW_go (eb_ei (K := K) (Evl.ev_var rfl) hs3) p2.ex (aims_at (j := 7)) (fun _ => rfl) (fun m A3 => PvP H3 D (((List.range i).flatMap (fZ bs ups) ++ (row.take j).flatMap fun one => bag.map fun o => (one, o)) ++ (bag.take m).map fun o => (row.getD j 0, o)) A3) (fun A3 eA => by rw [List.take_zero, List.map_nil, List.append_nil]; exact p2.on eA) (fun _ _ p => p.ex) (fun m A3 B3 hm p3 eB3 => ?_) fun A3 p3 => ?_
        · rw [List.length_map] at hm
          rw [gd_int hm]
          have p3 := p3.on eB3
          refine yes_go ((Evl.eu_tup (vs := [.int (row.getD j 0), .int (bag.getD m 0)]) (Evl.ea_cons (Evl.ev_var rfl) (Evl.ea_cons (Evl.ev_var rfl) Evl.ea_nil)) (by show 2 ≤ 100000; decide)) B3 (Evl.Ex.refl _) _ fun t B4 ht e4 h4 => ?_)
          obtain ⟨acc, z1, z2, z3⟩ := (p3.on e4).add (p := (row.getD j 0, bag.getD m 0)) h4 (by
            rw [List.length_append, List.length_append, List.length_map, List.length_take]
            rw [List.length_map] at jle
            omega)
          refine ⟨acc, z1, z2, ?_⟩
          rw [List.take_succ_eq_append_getElem hm, List.map_append]
          have em : bag.getD m 0 = bag[m] := by rw [List.getD_eq_getElem?_getD, List.getElem?_eq_getElem hm]; rfl
          rw [em, List.append_assoc] at z3
          exact z3
        · rw [List.length_map, List.take_length] at p3
          rw [ej, ← List.append_assoc]
          exact p3
      · rw [List.length_map, List.take_length] at p2
        rw [eZ, eF]
        exact p2
    · have p : PvP H3 D (pairsZ bs ups) A' := p
      obtain ⟨hD0, eA, as, h1, h2, h3⟩ := p
      try dsimp only [List.set_cons_zero, List.set_cons_succ]
      have x3 := (eH2.trans e3).trans eA
      generalize hL : pairsZ bs ups = L at h2 h3 hp
      have hK : keysZ bs ups = (L.map kf).foldl addP [] := by unfold keysZ; rw [hL]
      rw [hK] at q
      refine Go.ret_go ((ei_rowsL (K := K) (n := L.length) (W := fun A => ∀ i v, i < L.length → (as.map V.ref)[i]? = some v → ∃ r, v = .ref r ∧ A r = some (.tup [.int (L.getD i (0, 0)).1, .int (L.getD i (0, 0)).2])) (σ := [some (.ref A), some (.ref U), some (.ref Rr), some (.ref D), none, none, none, none]) (H := A') (Evl.ev_var (i := 3) rfl) (Evl.sq_of h1) (by rw [List.length_map, h2]) fun A2 eA2 i v hi hv => ?_) A' (Evl.Ex.refl _) _ fun J2 G2 H4 e4 wk2 sG2 E hE => ?_)
      · rw [List.getElem?_map] at hv
        have hai := List.getElem?_eq_getElem (show i < as.length by omega)
        rw [hai] at hv
        cases hv
        have hLi := List.getElem?_eq_getElem hi
        have eL : L.getD i (0, 0) = L[i] := by rw [List.getD_eq_getElem?_getD, hLi]; rfl
        rw [eL]
        exact ⟨_, rfl, eA2 _ _ (h3 i _ _ hai hLi)⟩
      · refine walked_it wk2 (aims_rowT2 (K := K) (j1 := 6) (j2 := 7) (c := fun i => (.int (L.getD i (0, 0)).1, .int (L.getD i (0, 0)).2))) (fun _ => rfl) (fun i A2 => DtP H4 E (((L.take i).map kf).foldl addP []) A2) ⟨hE, Evl.Ex.new hE, upd_same⟩ (fun i A2 _ p => sG2 A2 (e4.trans p.2.1) fun a o _ h => p.2.1 _ _ h) (fun i A2 B hi p eB => ?_) fun A2 p => ?_
        · have p := p.on eB
          refine yes_go ?_
          have hLi := List.getElem?_eq_getElem hi
          have eL : L.getD i (0, 0) = L[i] := by rw [List.getD_eq_getElem?_getD, hLi]; rfl
          rw [eL]
          generalize hpi : L[i] = pr
          have hkp : kf pr = kf pr := rfl
          show PutT _ _ _ [some (.ref A), some (.ref U), some (.ref Rr), some (.ref D), none, none, some (.int pr.1), some (.int pr.2)] _ _
          have k1 : (kf pr).1 = if pr.2 < pr.1 then pr.2 else pr.1 := rfl
          have k2 : (kf pr).2 = if pr.2 > pr.1 then pr.2 else pr.1 := rfl
          generalize hkq : kf pr = kp at k1 k2
          refine (Evl.eu_tup (vs := [.int kp.1, .int kp.2]) (Evl.ea_cons (fun G1 e1' Q1 q1 => ⟨.int pr.1, rfl, .int pr.2, rfl, _, _, rfl, by rw [← k1]; exact q1 G1 (Evl.Ex.refl _)⟩) (Evl.ea_cons (fun G1 e1' Q1 q1 => ⟨.int pr.1, rfl, .int pr.2, rfl, _, _, rfl, by rw [← k2]; exact q1 G1 (Evl.Ex.refl _)⟩) Evl.ea_nil)) (by show 2 ≤ 100000; decide)) B (Evl.Ex.refl _) _ fun t B4 ht e4' h4 => ?_
          have p4 := p.on e4'
          refine ⟨_, kP kp, t, rfl, p4.2.2, h4, ?_, ?_⟩
          · rw [tgP_len, sizeLine_eq]
            have := foldP_len (ns := (L.take i).map kf) (ks := [])
            rw [List.length_map, List.length_take, List.length_nil] at this
            omega
          · rw [put_tgP]
            have eS : ((L.take (i + 1)).map kf).foldl addP [] = addP (((L.take i).map kf).foldl addP []) kp := by
              rw [List.take_succ_eq_append_getElem hi, List.map_append, List.foldl_append, hpi, ← hkq]
              rfl
            rw [eS]
            refine ⟨hE, fun a o ha => ?_, upd_same⟩
            rw [upd_ne (fun z => by rw [z, hE] at ha; cases ha)]
            exact p4.2.1 _ _ ha
        · rw [List.take_length] at p
          exact q E A2 ⟨Evl.fresh_back (x3.trans e4) p.1, (x3.trans e4).trans p.2.1, p.2.2⟩
end
end P38
end S_Nbc
section S_On
namespace PySem.W
open Lean Elab Tactic Meta PySem PySem.Calls PyProof.Rows Builtin Builtin.ObjectAttr Builtin.Getset_descriptor
section
variable {prog : Program} {w : World} {A : Around} {E : Value → Shared → Prop} {s : Shared} {K : Frag} {R : Result → Shared → Prop} {h₀ : Heap} {L C : Addr} {m : Str → Option Value} {o : Obj} {v : Value}
/-- the name of an own class: kept in its third slot -/
theorem cnm_get {tp : Value} (X : K.In s.heap) (ht : typeIn K (.ref C) = some (.type "type")) (ho : s.heap.get? C = some o) (hv : o.slots[2]? = some (some v)) (h : R (.ok (.ret v)) s) :
    codeAny (model prog w) A (.call (.builtin "getset_descriptor.__get__") ⟨[.builtin "type.__name__", .ref C, tp], []⟩) R s := by
  have L0 := looks_typeIn (M := model prog w) X ht
  obtain ⟨hh, g, dr, t, os⟩ := s
  have L1 : Looks (model prog w) hh (isSubtype (.type "type") (.type "type")) true := Looks.of_pure (by rw [isSubtype_type]; kernel_rfl)
  refine codeAny_call_builtin KF.slot_gs.plain KF.entry_gs (KF.slot_gs.check _ _ _ _ _ _ _ _ ktyn_type (KF.args_gs _ _ _) ?_)
  unfold Builtin.«getset_descriptor.__get__» descrGet
  rw [dga_obj]
  refine wpAny_bind (wpAny_pure ?_)
  unfold descrGetter descrCheckInstance descrNameAndClass isInstance
  simp only [ktyn_owner]
  repeat lk
  refine ⟨Code.quiet_builtin _ (by decide +kernel), codeAny_builtin ktyn_entry ?_⟩
  unfold Builtin.«type.__name__»
  dsimp only
  unfold keptObject slotAt
  dsimp only
  refine wpAny_bind (wpAny_bind (wpAny_loadPart ho (wpAny_pure ?_)))
  rw [hv]
  exact wpAny_pure h
end
end PySem.W
namespace PySem.W
open Lean Elab Tactic Meta PySem PySem.Calls PyProof.Rows Builtin Builtin.ObjectAttr Builtin.Getset_descriptor
section
variable {prog : Program} {w : World} {A : Around} {E : Value → Shared → Prop} {s : Shared} {K : Frag} {C : Addr} {o : Obj}
theorem cnm_attr {expr : Bool} {Q : Value → Shared → Prop} {nm : Str} {tk : Tok} (X : K.In s.heap) (hr : readsIn K C (.type "type") = true) (ht : typeIn K (.ref C) = some (.type "type"))
    (e : findCls K (.ref C) (.type "type") "__name__" = some (.get (.builtin "getset_descriptor.__get__") (.builtin "type.__name__") (.ref C) (.type "type"))) (ho : s.heap.get? C = some o) (hv : o.slots[2]? = some (some (.str nm tk)))
    (h : Q (.str nm tk) { s with toks := s.toks + 1 }) : wpAny (model prog w) A (getAttr (.ref C) "__name__" expr) Q E s := by
  refine cls_read X hr e ?_
  show wpAny _ _ (do ret (← holding [Value.builtin "type.__name__"] (call (.builtin "getset_descriptor.__get__") [.builtin "type.__name__", .ref C, .type "type"]))) _ _ _
  refine wpAny_bind (wpAny_holding (wpAny_call (cnm_get (s := { s with toks := s.toks + 1 }) X ht ho hv ?_)))
  exact wpAny_pure (handed_on rfl h)
end
end PySem.W
end S_On
section S_Oo
namespace Tl
open PySem PySem.Spec PyProof.Rows L2
/-- an own class, its name to be read -/
structure ClsN (K : PySem.W.Frag) (C : Addr) (nm : Str) : Prop where
  cl : Cls K C
  ha : PySem.W.findIn K (.ref C) "__class__" = some (some (.builtin "object.__class__"))
  hn : PySem.W.specialIn K (.builtin "object.__class__") "__get__" = some (some (.builtin "getset_descriptor.__get__"))
  ht : PySem.W.takesIn K (.builtin "object.__class__") = some true
  hm : PySem.W.mroIn K C (.type "object") = some true
  rd : PySem.W.readsIn K C (.type "type") = true
  ty : PySem.W.typeIn K (.ref C) = some (.type "type")
  find : PySem.W.findCls K (.ref C) (.type "type") "__name__" = some (.get (.builtin "getset_descriptor.__get__") (.builtin "type.__name__") (.ref C) (.type "type"))
  obj : ∃ (o : Obj) (tk : Tok), K.lookup C = some o ∧ o.slots[2]? = some (some (.str nm tk))
section
variable {X : Cx} {e : Expr} {te : TE} {pos p2 : Pos}
/-- e.__class__ -/
def tCls (K : PySem.W.Frag) (te : TE) : TE := fun σ H Q => te σ H fun x H1 => ∃ a C dx fs nm, x = .ref a ∧ H1 a = some (.ins C dx fs) ∧ ClsN K C nm ∧ Q (.ref C) H1
theorem pe_class (he : PE X e te) (hb : attributeBase e "__class__" X.env (eval e X.env) = eval e X.env := by rfl) : PE X (.Attribute e "__class__" pos) (tCls X.K te) := by
  refine ⟨fun pins s σ H Q I h => ?_⟩
  refine attr_of hb (thn (he.run pins s σ H _ I h) fun u s1 ⟨x, H1, I1, rx, a, C, dx, fs, nm, ex, ea, c, q⟩ => ?_)
  subst ex
  obtain rfl : u = Value.ref a := rx
  obtain ⟨mA, O, _⟩ := ins_get I1.hok ea
  obtain ⟨od, J, _⟩ := O.look
  obtain ⟨m, hF⟩ := I1.fr
  exact PySem.W.get_class hF I1.ok.mod.kin J (c.cl.get _) c.cl.hd c.ha c.hn c.ht c.hm ⟨.ref C, H1, I1.tok _, rfl, q⟩
/-- C.__name__, C an own class -/
def tNameC (K : PySem.W.Frag) (te : TE) : TE := fun σ H Q => te σ H fun x H1 => ∃ C nm, x = .ref C ∧ ClsN K C nm ∧ Q (.str nm) H1
theorem pe_nameC (he : PE X e te) (hb : attributeBase e "__name__" X.env (eval e X.env) = eval e X.env := by rfl) : PE X (.Attribute e "__name__" pos) (tNameC X.K te) := by
  refine ⟨fun pins s σ H Q I h => ?_⟩
  refine attr_of hb (thn (he.run pins s σ H _ I h) fun u s1 ⟨x, H1, I1, rx, C, nm, ex, c, q⟩ => ?_)
  subst ex
  obtain rfl : u = Value.ref C := rx
  obtain ⟨o, tk, ho, hv⟩ := c.obj
  exact PySem.W.cnm_attr I1.kIn c.rd c.ty c.find (I1.kIn C o ho) hv ⟨.str nm, H1, I1.tok _, ⟨_, rfl⟩, q⟩
end
section
open Evl
variable {K : PySem.W.Frag} {σ : L2.St} {H : Hp} {te : TE} {a C dx : Addr} {fs : List (Str × V)} {nm : Str}
theorem ev_className (h : Ev te σ H (.ref a)) (ha : H a = some (.ins C dx fs)) (c : ClsN K C nm) : Ev (tNameC K (tCls K te)) σ H (.str nm) := fun H1 e Q q =>
  h H1 e _ fun H2 e2 => ⟨a, C, dx, fs, nm, rfl, e2 _ _ (e _ _ ha), c, C, nm, rfl, c, q H2 e2⟩
end
end Tl
end S_Oo
section S_Or
namespace Tl
open PySem PySem.Spec PyProof.Rows L2
section
variable {X : Cx} {o : Expr} {f : Str} {pos : Pos} {ta : TE}
/-- e.f = .., as a target among others -/
def gFld (K : PySem.W.Frag) (ta : TE) (f : Str) : TG := fun v σ H Q => ta σ H fun x H1 => ∃ a C dx fs, x = .ref a ∧ H1 a = some (.ins C dx fs) ∧ Cls K C ∧ NoAttr K C f ∧ fs.length < 1000 ∧ Q σ (upd H1 a (.ins C dx (putF f v fs)))
theorem pg_fld (ho : PE X o ta) : PG X (.Attribute o f pos) (gFld X.K ta f) := by
  refine ⟨fun pins s σ H v u Q I r h => ?_⟩
  rw [arm_assign_Attribute]
  refine wpAny_bind (wpAny_holding (thn (ho.run pins s σ H _ I h) fun ov s1 ⟨x, H1, I1, rx, a, C, dx, fs, ex, ea, c, n, l, q⟩ => ?_))
  subst ex
  obtain rfl : ov = Value.ref a := rx
  refine wpAny_bind (wpAny_standAt (wpAny_bind (wpAny_holding (setattr_ok I1 ea c n l r fun s3 I3 => ?_))))
  exact wpAny_release ⟨σ, _, I3, q⟩
end
end Tl
end S_Or
section S_Ncb
namespace P38
open PySem PySem.Spec PyProof.Rows L2 Tl Hk RZ EnL
section
variable {K : PySem.W.Frag} {σ : L2.St} {H : Hp}
theorem ed_tupS {te : TE} {a : Addr} {vs : List V} {ds : List PyData} (h : Evl.Ev te σ H (.ref a)) (hs : SqS K H a vs) (hd : DpAll K H vs ds) : EvD K (tCB (rTup K) (tCons te tNil)) σ H (.tuple ds) := fun H1 e Q q =>
  Go.cb_go (Go.cons_any (h H1 e _ fun H2 e2 => hs.elim (fun hs => ⟨a, vs, rfl, .inl ⟨Evl.ex_l (e.trans e2) hs, fun t ht => q _ _ (e2.trans (Evl.Ex.new ht)) (.tup (Evl.st_of upd_same) (dpa_ex ((e.trans e2).trans (Evl.Ex.new ht)) hd))⟩⟩)
    fun hs => ⟨a, vs, rfl, .inr ⟨Evl.ex_t (e.trans e2) hs, q _ _ e2 (.tup (Evl.ex_t (e.trans e2) hs) (dpa_ex (e.trans e2) hd))⟩⟩))

end
section
variable {K : PySem.W.Frag} {σ : L2.St} {H : Hp}
theorem ev_fld {ta : TE} {C x dx : Addr} {fs : List (Str × V)} {f : Str} {v : V} (h : Evl.Ev ta σ H (.ref x)) (hx : H x = some (.ins C dx fs)) (cl : Cls K C) (na : NoAttr K C f) (hl : fs.lookup f = some v) : Evl.Ev (tFld K ta f) σ H v := fun H1 e Q q =>
  h H1 e _ fun H2 e2 => ⟨x, C, dx, fs, v, rfl, e2 _ _ (e _ _ hx), cl, na, hl, q H2 e2⟩
theorem ev_neDD {ta tb : TE} {d1 d2 : PyData} (h1 : EvD K ta σ H d1) (h2 : EvD K tb σ H d2) (s1 : SeqAt.shaped d1 = true) (s2 : SeqAt.shaped d2 = true) : Evl.Ev (tOp (rNeD K) ta tb) σ H (.bl (!PyData.eqv d1 d2)) := fun G1 e1 Q q => Go.op_go (h1 G1 e1 _ fun v G2 e2 hv => h2 G2 (e1.trans e2) _ fun u G3 e3 hu => ⟨d1, d2, dp_ex e3 hv, hu, s1, s2, q G3 (e2.trans e3)⟩)
end
theorem flat_le {α β : Type} {f : α → List β} {m : Nat} : ∀ {l : List α}, (∀ a ∈ l, (f a).length ≤ m) → (l.flatMap f).length ≤ l.length * m
  | [], _ => Nat.zero_le _
  | a :: r, h => by
    have h1 := h a List.mem_cons_self
    have h2 := flat_le (l := r) fun b hb => h b (List.mem_cons_of_mem _ hb)
    rw [List.flatMap_cons, List.length_append, List.length_cons, Nat.succ_mul]
    omega

/-! ### the class of seats -/
abbrev sSeatsI : Stmt := inClass sSeatsC 0
abbrev nSI : List Str := ["self", "seats", "bags", "above"]
theorem scSeatsI : SuScope nSI nSI (defScope sSeatsI) := ⟨rfl, rfl, rfl, by decide +kernel, rfl, by decide +kernel, by decide +kernel, by decide +kernel, by decide +kernel, by decide +kernel⟩
def tys : List String := ["NoneType", "bool", "int", "str", "list", "tuple", "dict"]
theorem Ty7.mem {K : PySem.W.Frag} {H : Hp} {x : V} {n : String} (h : Ty7 K H x n) : n ∈ tys := by cases h <;> decide
structure InsC (K : PySem.W.Frag) (C : Addr) : Prop where
  cl : Cls K C
  ha : PySem.W.findIn K (.ref C) "__class__" = some (some (.builtin "object.__class__"))
  hn : PySem.W.specialIn K (.builtin "object.__class__") "__get__" = some (some (.builtin "getset_descriptor.__get__"))
  ht : PySem.W.takesIn K (.builtin "object.__class__") = some true
  hm : PySem.W.mroIn K C (.type "object") = some true
structure TSe (K : PySem.W.Frag) (mg : Str → Option Value) (C CP : Addr) : Prop where
  pap : TPap K C
  nS : NoAttr K C "seats"
  nB : NoAttr K C "bags"
  nA : NoAttr K C "above"
  iC : InsC K C
  iP : InsC K CP
  kC : PySem.W.kitOne K (.ref C) (.ref C) = some true
  kP : PySem.W.kitOne K (.ref CP) (.ref C) = some false
  kT : ∀ n ∈ tys, PySem.W.kitOne K (.type n) (.ref C) = some false
  mgC : mg "Seats" = some (.ref C)
abbrev OT := Option (List (List Int) × List (Option Nat))
/-- bags and what is above them: tuples of ints, or None both -/
inductive BgD (K : PySem.W.Frag) (H : Hp) : V → V → OT → Prop where
  | no : BgD K H .non .non none
  | yes {tb tu : Addr} {bs : List (List Int)} {us : List (Option Nat)} (h1 : TTu K H tb bs) (h2 : SqT K H tu (us.map uv)) (h3 : bs.length ≤ 300) (h4 : us.length ≤ 300) (h5 : ∀ ns ∈ bs, ns.length ≤ 10) : BgD K H (.ref tb) (.ref tu) (some (bs, us))
theorem BgD.ex {K : PySem.W.Frag} {H H' : Hp} {b u : V} {r : OT} (h : BgD K H b u r) (e : Evl.Ex H H') : BgD K H' b u r := by
  cases h with
  | no => exact .no
  | yes h1 h2 h3 h4 h5 => exact .yes (h1.ex e) (Evl.ex_t e h2) h3 h4 h5
/-- a value that is no seats, or seats -/
inductive SeV (K : PySem.W.Frag) (C CP : Addr) (H : Hp) : V → OT → Prop where
  | no {v : V} {n : String} (h : Ty7 K H v n) : SeV K C CP H v none
  | pap {x dx : Addr} {fs : List (Str × V)} (h : H x = some (.ins CP dx fs)) : SeV K C CP H (.ref x) none
  | se {x dx : Addr} {fs : List (Str × V)} {b u : V} {r : OT} (h : H x = some (.ins C dx fs)) (hb : fs.lookup ("bags" : Str) = some b) (hu : fs.lookup ("above" : Str) = some u) (hr : BgD K H b u r) : SeV K C CP H (.ref x) r
theorem SeV.ex {K : PySem.W.Frag} {C CP : Addr} {H H' : Hp} {v : V} {r : OT} (h : SeV K C CP H v r) (e : Evl.Ex H H') : SeV K C CP H' v r := by
  cases h with
  | no h => exact .no (h.ex e)
  | pap h => exact .pap (e _ _ h)
  | se h hb hu hr => exact .se (e _ _ h) hb hu (hr.ex e)
/-- what it is for the judge of narrow trees -/
def rbO : OT → Option (List (Option (List V)))
  | none => none
  | some (bs, _) => some (bs.map rowV)
def ruO : OT → Option (List V)
  | none => none
  | some (_, us) => some (us.map uv)
theorem ty_uv {K : PySem.W.Frag} {H : Hp} : ∀ {us : List (Option Nat)}, ∀ v ∈ us.map uv, ∃ n, Ty7 K H v n := fun {us} v hv => by
  obtain ⟨u, _, rfl⟩ := List.mem_map.mp hv
  cases u with
  | none => exact ⟨_, .non⟩
  | some j => exact ⟨_, .int _⟩
theorem ty_ints {K : PySem.W.Frag} {H : Hp} {ns : List Int} : ∀ v ∈ ns.map V.int, ∃ n, Ty7 K H v n := fun v hv => by
  obtain ⟨i, _, rfl⟩ := List.mem_map.mp hv
  exact ⟨_, .int i⟩
theorem sum_le {l : List (List Int)} (h : ∀ ns ∈ l, ns.length ≤ 10) : (l.map List.length).sum ≤ l.length * 10 := by
  induction l with
  | nil => exact Nat.le_refl _
  | cons a r ih =>
    have h1 := h a List.mem_cons_self
    have h2 := ih fun ns hn => h ns (List.mem_cons_of_mem _ hn)
    rw [List.map_cons, List.sum_cons, List.length_cons, Nat.succ_mul]
    omega
theorem BgD.in2 {K : PySem.W.Frag} {H : Hp} {b u : V} {r : OT} (h : BgD K H b u r) : In2 K H b u (rbO r) (ruO r) := by
  cases h with
  | no => exact ⟨.no .non (by decide) (by decide), .no .non (by decide) (by decide), fun rs ys e => (nomatch e), fun rs e => nomatch e⟩
  | @yes tb tu bs us h1 h2 h3 h4 h5 =>
    obtain ⟨as, ha, hl, hR⟩ := h1.rows
    have hi : ∀ (i : Nat) (v : V) (r : Option (List V)), (as.map V.ref)[i]? = some v → (bs.map rowV)[i]? = some r → BagD K H v r := fun i v r hv hr => by
      rw [List.getElem?_map] at hr
      cases hb : bs[i]? with
      | none => rw [hb] at hr; cases hr
      | some ns =>
        rw [hb] at hr
        cases hr
        obtain ⟨a, e1, e2⟩ := hR.2 i ns hb
        rw [e1] at hv
        cases hv
        have l10 := h5 ns (List.mem_of_getElem? hb)
        exact e2.elim (fun h => .lst h (by rw [List.length_map]; omega) ty_ints) fun h => .tup h (by rw [List.length_map]; omega) ty_ints
    refine ⟨.seq (.inr ha) (by rw [List.length_map, List.length_map]; exact hl) (by rw [List.length_map]; omega) hi, .tup h2 (by rw [List.length_map]; omega) ty_uv, fun rs ys e1 e2 _ => ?_, fun rs e => ?_⟩
    · cases e1
      cases e2
      exact ⟨tb, tu, _, rfl, rfl, .inr ⟨.inr ha, h2⟩, by rw [List.length_map, List.length_map]; exact hl, hi⟩
    · cases e
      rw [List.map_map, show ((fun r : Option (List V) => (r.getD []).length) ∘ rowV) = List.length from funext fun ns => List.length_map _]
      have := sum_le h5
      omega
theorem nar_iff {r : OT} : NarP (rbO r) (ruO r) ↔ ∃ bs us, r = some (bs, us) ∧ NarOk bs us := by
  constructor
  · rintro ⟨bs, us, e1, e2, h⟩
    match r, e1, e2 with
    | some (bs', us'), e1, e2 =>
      have := rowV_inj (Option.some.inj e1)
      have := uvs_inj (Option.some.inj e2)
      subst_vars
      exact ⟨_, _, rfl, h⟩
  · rintro ⟨bs, us, rfl, h⟩
    exact ⟨bs, us, rfl, rfl, h⟩
theorem rc_sev {K : PySem.W.Frag} {mg : Str → Option Value} {C CP : Addr} {H : Hp} {v : V} {r : OT} (T : TSe K mg C CP) (h : SeV K C CP H v r) : (∃ x dx fs b u, v = .ref x ∧ H x = some (.ins C dx fs) ∧ fs.lookup ("bags" : Str) = some b ∧ fs.lookup ("above" : Str) = some u ∧ BgD K H b u r ∧ Evl.RC (rIsi K) [v, .ref C] H (.bl true)) ∨ r = none ∧ Evl.RC (rIsi K) [v, .ref C] H (.bl false) := by
  cases h with
  | @no v n h => exact .inr ⟨rfl, fun H1 e _ q => ⟨v, .ref C, .type n, .ref C, false, rfl, .own C, (h.ex e).tyx, T.kT n h.mem, q H1 (Evl.Ex.refl H1)⟩⟩
  | @pap x dx fs h => exact .inr ⟨rfl, fun H1 e _ q => ⟨.ref x, .ref C, .ref CP, .ref C, false, rfl, .own C, .base (.ins (e _ _ h) T.iP.cl T.iP.ha T.iP.hn T.iP.ht T.iP.hm), T.kP, q H1 (Evl.Ex.refl H1)⟩⟩
  | @se x dx fs b u r h hb hu hr => exact .inl ⟨x, dx, fs, b, u, rfl, h, hb, hu, hr, fun H1 e _ q => ⟨.ref x, .ref C, .ref C, .ref C, true, rfl, .own C, .base (.ins (e _ _ h) T.iC.cl T.iC.ha T.iC.hn T.iC.ht T.iC.hm), T.kC, q H1 (Evl.Ex.refl H1)⟩⟩
def spSeatsI (K : PySem.W.Frag) (n : Nat) (C : Addr) : Sp := fun vs H Q _ => ∃ (x dx : Addr) (s b u : V) (ds db du : PyData), vs = [.ref x, s, b, u] ∧ H x = some (.ins C dx []) ∧ Dp K H s ds ∧ Dp K H b db ∧ Dp K H u du ∧ Fixable n ds ∧ Fixable n db ∧ Fixable n du ∧
  ∀ H' fs vb vu, But x H H' → H' x = some (.ins C dx fs) → fs.lookup ("bags" : Str) = some vb → fs.lookup ("above" : Str) = some vu → Dp K (nw H H') vb (fixD db) → Dp K (nw H H') vu (fixD du) → Q .non H'
def spNear (K : PySem.W.Frag) (C CP CE CS : Addr) : Sp := fun vs H Q E => ∃ (v x y : V) (r : OT) (ox oy : Option (List V)), vs = [v, x, y] ∧ SeV K C CP H v r ∧ ValR K H x ox ∧ ValR K H y oy ∧
  ((¬ ∃ bs us, r = some (bs, us) ∧ NarOk bs us) → Rz CE H E "value") ∧
  (∀ bs us, r = some (bs, us) → NarOk bs us → (¬ SeatP ox → Rz CS H E "one") ∧ (SeatP ox → ¬ SeatP oy → Rz CS H E "other") ∧
    ∀ p l n p2 l2 n2 : Nat, ox = seatIs p l n → oy = seatIs p2 l2 n2 → n < 3 → n2 < 3 → ∀ H1, Evl.Ex H H1 → Q (.bl (!decide (p = p2 ∧ l = l2 ∧ n = n2) && tieB (keysZ bs us) p l p2 l2)) H1)
theorem scNear : FnScope ["value", "one", "other"] ["value", "one", "other"] (defScope sAreNear) := ⟨rfl, rfl, rfl, by decide +kernel, rfl, by decide +kernel, by decide +kernel⟩
theorem nar_pairs {bs : List (List Int)} {us : List (Option Nat)} (h : NarOk bs us) (hl : bs.length ≤ 300) : (pairsZ bs us).length ≤ 30000 := by
  have hr : ∀ i, (bs.getD i []).length ≤ 4 := fun i => by
    rw [List.getD_eq_getElem?_getD]
    cases hq : bs[i]? with
    | none => exact Nat.zero_le _
    | some ns => exact (h.ln ns (List.mem_of_getElem? hq)).2
  have h1 : (pairsZ bs us).length ≤ (List.range bs.length).length * 16 := flat_le fun i hi => by
    have hi := List.mem_range.mp hi
    have h2 : ((freshL bs us).getD i []).length ≤ 4 := by
      rw [freshL_at hi]
      exact Nat.le_trans (List.length_filter_le _ _) (hr i)
    have h3 := flat_le (f := fun one : Int => (bs.getD i []).map fun o => ((one, o) : IP)) (l := (freshL bs us).getD i []) (m := 4) fun one _ => by rw [List.length_map]; exact hr i
    have h4 : ((freshL bs us).getD i []).length * 4 ≤ 4 * 4 := Nat.mul_le_mul_right _ h2
    omega
  rw [List.length_range] at h1
  omega
section
variable {P : Program} {w : World} {K : PySem.W.Frag} {mg : Str → Option Value} {base : Heap}
set_option maxHeartbeats 2000000 in
theorem ok_seatsI {f f2 C cc cda : Addr} {kV doc pm ct : Value} {an : Option Addr} {k n : Nat}
    (B : SuFacts P K f f2 C C cc cda (PySem.W.ksFn "__init__" "Seats.__init__" (defArgs sSeatsI) (defBody sSeatsI) (defScope sSeatsI) .none kV doc pm an (.ref cda) ct cc) "self")
    (hcd : PySem.W.codeIn K (.ref cda) "Seats.__init__" = true) (ms : mg "super" = none) (T : TPap K C) (nS : NoAttr K C "seats") (nB : NoAttr K C "bags") (nA : NoAttr K C "above") (F2 : FnPap P w K mg base k (n + 1) C f2) :
    FnOk P w K mg base CX0 (k + 1) f (PySem.W.ksFn "__init__" "Seats.__init__" (defArgs sSeatsI) (defBody sSeatsI) (defScope sSeatsI) .none kV doc pm an (.ref cda) ct cc) nSI (spSeatsI K n C) := by
  refine fn_super (N := nSI) (sp := spSeatsI K n C) B hcd scSeatsI rfl ms F2 (fun {vs H Q E} h => ?_) (fun A outer s H vs Q E hr h => ?_) (pl := pure false) ?_ ?_ ?_ ?_
  · obtain ⟨x, dx, s, b, u, ds, db, du, rfl, _⟩ := h
    rfl
  · obtain ⟨x, dx, sv, b, u, ds, db, du, rfl, hx, hs, hb, hu, fs1, fb1, fu1, q⟩ := h
    refine ⟨_, _, x, dx, [], pa_cons pe_str (pa_cons (pv 1) (pa_cons (pv 2) (pa_cons (pv 3) pa_nil))), pss_one (ps_asg (pe_fld (pv 0) rfl) (pg_tup (by rfl) (pgs_cons (Tl.pg_fld (pv 0)) (pgs_cons (Tl.pg_fld (pv 0)) (pgs_cons (Tl.pg_fld (pv 0)) pgs_nil))))), rfl, hx, fun m hm => ?_⟩
    refine ⟨sv, rfl, b, rfl, u, rfl, upd_same, [.ref x, .str "seats"], [sv, b, u], rfl, rfl, by show 3 ≤ sizeLine; decide, fun p hp => ?_⟩
    have e1 : Evl.Ex H (upd (upd H m (.met f2 x)) p (.tup [sv, b, u])) := (Evl.Ex.new hm).trans (Evl.Ex.new hp)
    refine ⟨x, dx, p, .str "seats", [sv, b, u], [ds, db, du], [], rfl, e1 _ _ hx, T, by show 0 < 900; omega, upd_same, .cons (dp_ex e1 hs) (.cons (dp_ex e1 hb) (.cons (dp_ex e1 hu) .nil)), .inr ⟨[ds, db, du], .inr rfl, by show 3 ≤ 4000; omega, fun e he => by
      simp only [List.mem_cons, List.not_mem_nil, or_false] at he
      rcases he with rfl | rfl | rfl
      · exact fs1
      · exact fb1
      · exact fu1⟩, fun t us H' b' hx' hS hD => ?_⟩
    cases hD with
    | @cons v1 r1 _ _ h1 hD1 =>
    cases hD1 with
    | @cons v2 r2 _ _ h2 hD2 =>
    cases hD2 with
    | @cons v3 r3 _ _ h3 hD3 =>
      cases hD3
      have b2 : But x H H' := fun b o hb h => b' b o hb (e1 _ _ h)
      have l1 := putF_len "word" (V.str "seats") []
      have l2 := putF_len "parts" (V.ref t) (putF "word" (V.str "seats") [])
      have l3 := putF_len "seats" v1 (putF "parts" (V.ref t) (putF "word" (V.str "seats") []))
      have l4 := putF_len "bags" v2 (putF "seats" v1 (putF "parts" (V.ref t) (putF "word" (V.str "seats") [])))
      have l0 : ([] : List (Str × V)).length = 0 := rfl
      refine ⟨.ref x, rfl, x, C, dx, _, .ref t, rfl, hx', T.cl, T.nP, by rw [lookup_putF, if_pos rfl], t, [v1, v2, v3], rfl, Evl.ex_t nw_ex hS, rfl, v1, [v2, v3], rfl, ?_⟩
      refine ⟨.ref x, rfl, x, C, dx, _, rfl, hx', T.cl, nS, by omega, v2, [v3], rfl, ?_⟩
      refine ⟨.ref x, rfl, x, C, dx, _, rfl, upd_same, T.cl, nB, by omega, v3, [], rfl, ?_⟩
      refine ⟨.ref x, rfl, x, C, dx, _, rfl, upd_same, T.cl, nA, by omega, rfl, ?_⟩
      have le : ∀ {o1 o2 o3 : HO}, Evl.Ex (nw (upd (upd H m (.met f2 x)) p (.tup [sv, b, u])) H') (nw H (upd (upd (upd H' x o1) x o2) x o3)) := fun {o1 o2 o3} b o h => by
        obtain ⟨h1, h2⟩ := nw_at h
        have hb1 : H b = none := Evl.fresh_back e1 h1
        have bx : b ≠ x := fun z => by rw [z, hx] at hb1; cases hb1
        exact nw_of hb1 (by rw [upd_ne bx, upd_ne bx, upd_ne bx]; exact h2)
      exact q _ _ v2 v3 (fun b o hb h => by rw [upd_ne hb, upd_ne hb, upd_ne hb]; exact b2 b o hb h) upd_same (by rw [lookup_putF, if_neg (by decide), lookup_putF, if_pos rfl]) (by rw [lookup_putF, if_pos rfl]) (dp_ex le h2) (dp_ex le h3)
  · exact fun env => rfl
  · exact fun env => rfl
  · exact fun env => rfl
  · exact fun env => rfl
set_option maxHeartbeats 2000000 in
theorem ok_near {qI : Str} {f fN fW fM fP fT C CP CE CS : Addr} {fd fdN fdW fdM fdP : FuncData} {k : Nat} (F : Fun K "are_near" "are_near" sAreNear f fd) (T : TSe K mg C CP)
    (FN : Fun K "is_narrow_tree" "is_narrow_tree" sNarrow fN fdN) (GN : FnOk P w K mg base CX0 (k + 2) fN fdN ["bags", "above"] (spNarrow K)) (bN : Binds K fdN ["bags", "above"] []) (gN : mg "is_narrow_tree" = some (.ref fN))
    (FW : Fun K "want_seat" "want_seat" sWantSeat fW fdW) (GW : FnOk P w K mg base (L2.CX P w) (k + 2) fW fdW ["value", "part"] (spWantS K CS)) (bW : Binds K fdW ["value", "part"] []) (gW : mg "want_seat" = some (.ref fW))
    (FM : Fun K "may_be_tied" "may_be_tied" sMayTie fM fdM) (GM : FnOk P w K mg base CX0 (k + 2) fM fdM ["pairs", "one", "other"] (spMay K)) (bM : Binds K fdM ["pairs", "one", "other"] []) (gM : mg "may_be_tied" = some (.ref fM))
    (FP : Fun K "pairs_in" "pairs_in" sPairsIn fP fdP) (GP : FnOk P w K mg base CX0 (k + 2) fP fdP ["bags", "above"] (spPairsIn K)) (bP : Binds K fdP ["bags", "above"] []) (gP : mg "pairs_in" = some (.ref fP))
    (TP : PySem.PartX.PartTxt K mg "BadPaper" qI CE fT) (mi : mg "isinstance" = none) (mtup : mg "tuple" = none) : FnOk P w K mg base (L2.CX P w) (k + 3) f fd ["value", "one", "other"] (spNear K C CP CE CS) := by
  refine F.okX scNear (fun vs H Q E h => ?_) (fun cdv A0 outer s H vs Q E hr h => ?_)
  · obtain ⟨v, x, y, r, ox, oy, rfl, _⟩ := h
    rfl
  · obtain ⟨v, x, y, r, ox, oy, rfl, hv, hx, hy, hno, hyes⟩ := h
    have nd := scNear.nd
    refine ⟨_, pss_cons (ps_if (PW.pt (pw_or (pt_not (pt_val (pe_callB call_isi (by rfl) mi (by decide +kernel) (pa_cons (pv 0) (pa_cons (pe_glob (v := .ref C) (by rfl) T.mgC rfl) pa_nil))))) (pw_or1 (pt_not (pt_val (pe_call GN hr (by rfl) gN FN.kp bN .nil pass0 (pa_cons (pe_fld (pv 0) rfl) (pa_cons (pe_fld (pv 0) rfl) (pa_nil))))))))) (pss_one (ps_raisePart rfl TP (k := k + 2) hr (takes_of rfl rfl rfl rfl) (pa_cons (pe_str) (pa_nil)) (by rfl) (by decide))) (pss_nil)) (pss_cons (ps_expr (pe_callS GW hr (by rfl) gW FW.kp bW (fun σ => passAt (takes_of rfl rfl rfl rfl) σ) (pa_cons (pv 1) (pa_cons (pe_str) (pa_nil))))) (pss_cons (ps_expr (pe_callS GW hr (by rfl) gW FW.kp bW (fun σ => passAt (takes_of rfl rfl rfl rfl) σ) (pa_cons (pv 2) (pa_cons (pe_str) (pa_nil))))) (pss_one (ps_ret (pe_and (pe_cmpR (op_neD hr.units) (pe_callTy call_tuple_of (by rfl) mtup (by decide +kernel) (pa_cons (pv 1) (pa_nil))) (pe_callTy call_tuple_of (by rfl) mtup (by decide +kernel) (pa_cons (pv 2) (pa_nil))) (nomark _)) (pe_one (pe_call GM hr (by rfl) gM FM.kp bM .nil pass0 (pa_cons (pe_call GP hr (by rfl) gP FP.kp bP .nil pass0 (pa_cons (pe_fld (pv 0) rfl) (pa_cons (pe_fld (pv 0) rfl) (pa_nil)))) (pa_cons (pv 1) (pa_cons (pv 2) (pa_nil))))))))))), ?_⟩
    rcases rc_sev T hv with ⟨xa, dx, fs, b, u, rfl, hins, hb, hu, hr, isT⟩ | ⟨rfl, isF⟩
    · have fb : ∀ {G : Hp}, Evl.Ex H G → Evl.Ev (tFld K (tVar 0) "bags") (start ["value", "one", "other"] [.ref xa, x, y]) G b := fun e => ev_fld (Evl.ev_var rfl) (e _ _ hins) T.iC.cl T.nB hb
      have fa : ∀ {G : Hp}, Evl.Ex H G → Evl.Ev (tFld K (tVar 0) "above") (start ["value", "one", "other"] [.ref xa, x, y]) G u := fun e => ev_fld (Evl.ev_var rfl) (e _ _ hins) T.iC.cl T.nA hu
      refine Evl.q_when (b := !pd (NarP (rbO r) (ruO r))) (Evl.et_is (Evl.et_or (a := false) (Evl.et_is (Evl.et_not (Evl.et_B (Evl.ev_cb (Evl.ea_cons (Evl.ev_var rfl) (Evl.ea_cons Evl.ev_c Evl.ea_nil)) isT))) rfl) fun _ => Evl.et_not (Evl.et_B (Evl.ev_call (Evl.ea_cons (fb (Evl.Ex.refl _)) (Evl.ea_cons (fa (Evl.Ex.refl _)) Evl.ea_nil)) (spv_narrow hr.in2)))) (Bool.false_or _)) (fun hc H1 e1 => ?_) fun hc H1 e1 => ?_
      · rw [Bool.not_eq_true'] at hc
        exact ⟨.str "value", rfl, fun d hd => hno (fun z => by rw [pd_true (nar_iff.mpr z)] at hc; cases hc) H1 d e1 hd⟩
      · rw [Bool.not_eq_false'] at hc
        obtain ⟨bs, us, rfl, nar⟩ := nar_iff.mp (pd_of hc)
        obtain ⟨q1, q2, q3⟩ := hyes bs us rfl nar
        cases hr with
        | @yes tb tu _ _ g1 g2 g3 g4 g5 =>
        refine callS_go (vs := [x, .str "one"]) (Evl.ea_cons (Evl.ev_var rfl) (Evl.ea_cons Evl.ev_c Evl.ea_nil)) fun H2 e2 => ⟨x, ox, "one", rfl, hx.ex (e1.trans e2), fun so H3 e3 => ?_, fun nso => Rz.ex (q1 nso) (e1.trans e2)⟩
        refine callS_go (vs := [y, .str "other"]) (Evl.ea_cons (Evl.ev_var rfl) (Evl.ea_cons Evl.ev_c Evl.ea_nil)) fun H4 e4 => ⟨y, oy, "other", rfl, hy.ex (((e1.trans e2).trans e3).trans e4), fun so2 H5 e5 => ?_, fun nso => Rz.ex (q2 so nso) (((e1.trans e2).trans e3).trans e4)⟩
        have e15 := (((e1.trans e2).trans e3).trans e4).trans e5
        obtain ⟨p, l, n, rfl, hn⟩ := so
        obtain ⟨p2, l2, n2, rfl, hn2⟩ := so2
        obtain ⟨a, rfl, ha, _⟩ := (hx.ex e15).sq
        obtain ⟨a2, rfl, ha2, _⟩ := (hy.ex e15).sq
        dsimp only
        refine Evl.s_ret (v := .bl (!decide (p = p2 ∧ l = l2 ∧ n = n2) && tieB (keysZ bs us) p l p2 l2)) (Evl.ev_andV ?_ fun hne => ?_) fun H6 e6 => by exact q3 p l n p2 l2 n2 rfl rfl hn hn2 H6 (e15.trans e6)
        · refine Evl.ev_is (ev_neDD (ed_tupS (ds := [.int (p : Int), .int (l : Int), .int (n : Int)]) (Evl.ev_var rfl) ha (.cons (.int _) (.cons (.int _) (.cons (.int _) .nil)))) (ed_tupS (ds := [.int (p2 : Int), .int (l2 : Int), .int (n2 : Int)]) (Evl.ev_var rfl) ha2 (.cons (.int _) (.cons (.int _) (.cons (.int _) .nil)))) rfl rfl) (congrArg (fun z => V.bl (!z)) ?_)
          show (decide ((p : Int) = p2) && (decide ((l : Int) = l2) && (decide ((n : Int) = n2) && true))) = _
          rw [Bool.and_true, ← Bool.decide_and, ← Bool.decide_and]
          exact decide_eq_decide.mpr (by omega)
        · intro G e Q' q'
          obtain ⟨as, ha1, hal, hR⟩ := g1.rows
          have eG := e15.trans e
          exact Go.cons_any ((Evl.ea_cons (fb eG) (Evl.ea_cons (fa eG) Evl.ea_nil)) G (Evl.Ex.refl _) _ fun G2 eg2 => ⟨tb, tu, as.map V.ref, bs, us, rfl, hR.ex (eG.trans eg2), Evl.ex_t (eG.trans eg2) ha1, Evl.ex_t (eG.trans eg2) g2, nar.up.1, by omega, nar.up.2.1, fun ns hns => by have := g5 ns hns; omega, nar_pairs nar g3, fun D G3 hD => ⟨.ref a, rfl, .ref a2, rfl, D, a, a2, keysZ bs us, p, l, n, p2, l2, n2, rfl, hD.2.2, ha.ex ((e.trans eg2).trans hD.2.1), ha2.ex ((e.trans eg2).trans hD.2.1), fun G4 eg4 => q' G4 ((eg2.trans hD.2.1).trans eg4)⟩⟩)
    · refine Evl.q_when (b := true) (Evl.et_is (Evl.et_or (a := true) (b := true) (Evl.et_is (Evl.et_not (Evl.et_B (Evl.ev_cb (Evl.ea_cons (Evl.ev_var rfl) (Evl.ea_cons Evl.ev_c Evl.ea_nil)) isF))) rfl) fun z => nomatch z) rfl) (fun _ H1 e1 => ?_) fun z => nomatch z
      exact ⟨.str "value", rfl, fun d hd => hno (fun ⟨_, _, z, _⟩ => nomatch z) H1 d e1 hd⟩
end
end P38
end S_Ncb
section S_Rm
namespace Hk
open PySem PySem.Spec PyProof.Rows L2 Tl PySem.SeqAt
/-! ### a list of whatever items, against [] -/
def rNil (K : PySem.W.Frag) (neg : Bool) : R2 := fun x y H Q => ∃ a b xs, x = .ref a ∧ y = .ref b ∧ SqL K H a xs ∧ SqL K H b [] ∧ Q (.bl (xs.isEmpty != neg)) H
section
variable {X : Cx}
theorem op_eqNil (hu : X.A.units + 64 < cLine) : OpR X (compareOp .Eq) (rNil X.K false) := by
  intro pins s σ H x y v u Q I rx ry h
  obtain ⟨a, b, xs, rfl, rfl, ha, hb, q⟩ := h
  cases (show v = Value.ref a from rx)
  cases (show u = Value.ref b from ry)
  obtain ⟨its, r, pl, _⟩ := I.list ha
  obtain ⟨its2, r2, pl2, _⟩ := I.list hb
  cases r2
  show wpAny (model X.prog X.w) X.A (richCompare .Eq (.ref a) (.ref b)) (EP X pins σ Q) X.xe s
  cases r with
  | nil => exact RcAt.lists (e := fun _ => true) pl.isList pl2.isList rfl (by omega) (fun j h1 _ => absurd h1 (Nat.not_lt_zero _)) X.prog X.w X.xe _ ⟨.bl _, H, I, rfl, q⟩
  | cons h t => exact RcAt.lists_lengths pl.isList pl2.isList (by simp) (by omega) X.prog X.w X.xe _ ⟨.bl _, H, I, rfl, q⟩
theorem op_neNil (hu : X.A.units + 64 < cLine) : OpR X (compareOp .NotEq) (rNil X.K true) := by
  intro pins s σ H x y v u Q I rx ry h
  obtain ⟨a, b, xs, rfl, rfl, ha, hb, q⟩ := h
  cases (show v = Value.ref a from rx)
  cases (show u = Value.ref b from ry)
  obtain ⟨its, r, pl, _⟩ := I.list ha
  obtain ⟨its2, r2, pl2, _⟩ := I.list hb
  cases r2
  show wpAny (model X.prog X.w) X.A (richCompare .NotEq (.ref a) (.ref b)) (EP X pins σ Q) X.xe s
  cases r with
  | nil => exact RcNeAt.lists (e := fun _ => true) pl.isList pl2.isList rfl (by omega) (fun j h1 _ => absurd h1 (Nat.not_lt_zero _)) X.prog X.w X.xe _ ⟨.bl _, H, I, rfl, q⟩
  | cons h t => exact RcNeAt.lists_lengths pl.isList pl2.isList (by simp) (by omega) X.prog X.w X.xe _ ⟨.bl _, H, I, rfl, q⟩
end
section
open Evl
variable {K : PySem.W.Frag} {σ : L2.St} {H : Hp} {ta tb : TE}
theorem ev_nil {xs : List V} {neg : Bool} (ha : EvL ta σ H xs) : Ev (tOp (rNil K neg) ta (tLst tNil)) σ H (.bl (xs.isEmpty != neg)) := fun H1 e Q q =>
  ha H1 e _ fun p H2 _ e2 h2 => (el_lst (vs := []) ea_nil (Nat.zero_le _)) H2 (e.trans e2) _ fun z H4 hz e4 h4 => ⟨p, z, xs, rfl, rfl, sq_of (e4 _ _ h2), sq_of h4, q H4 (e2.trans e4)⟩

end
end Hk
end S_Rm
section S_Nda
namespace P38
open PySem PySem.Spec PyProof.Rows L2 Tl Hk RZ EnL LamX
theorem scHeard : FnScope nAsk ["ask"] (defScope sLHeard) := ⟨rfl, rfl, rfl, by decide +kernel, rfl, by decide +kernel, by decide +kernel⟩
abbrev isA (K : PySem.W.Frag) (C : Addr) : TE := tCB (fun xs H Q => rIsi K xs H Q ∨ rIsK K xs H Q) (tCons (tVar 1) (tCons (tC (.ref C)) tNil))
abbrev isAT (K : PySem.W.Frag) (C D : Addr) : TE := tCB (fun xs H Q => rIsiT K xs H Q ∨ rIsKT K xs H Q) (tCons (tVar 1) (tCons (tTup (tCons (tC (.ref C)) (tCons (tC (.ref D)) tNil))) tNil))
abbrev trH (K : PySem.W.Frag) (CL CS : Addr) : TS := tSeq (tIfS (tB (isAT K CL CS)) (tRet (tTup (tCons (tIf (tB (isA K CL)) (tC (.str "paper")) (tC (.str "seats"))) (tCons (tKeptF K "part" (tVar 1)) tNil)))) tNext)
  (tRet (tIf (tTest (tOp (fun x y H Q => y = V.non ∧ Q (.bl (decide (x = .non))) H) (tVar 1) (tC .non))) (tC .non) (tTup (tCons (tC (.str "other")) (tCons (tC .non) tNil)))))
theorem gives_heard {X : Cx} {fH CL CS CE : Addr} {cdv : Value} {q : Str} (mi : X.mg "isinstance" = none) (gL : X.mg "BadPaper" = some (.ref CL)) (gS : X.mg "BadSeats" = some (.ref CS)) (gE : X.mg "LaneError" = some (.ref CE)) :
    GivesTo X nAsk "_law_heard" (defScope sLHeard) fH cdv (defBody sLHeard) "ask" q (THeardS X.K CE (trH X.K CL CS)) := by
  refine heard_givesS (e := "LaneError") scHeard (by rfl) (by rfl) (by rfl) gE (by decide) fun A s H => ?_
  have v1 : ∀ {p : Pos}, PE (cxA X "_law_heard" (defScope sLHeard) fH cdv A s H) (.Name "caught" p) (tVar 1) := pe_var (i := 1) rfl (Or.inl (by rfl))
  have is : ∀ {x : Str} {C : Addr} {p1 p2 p3 p4 : Pos}, X.mg x = some (.ref C) → (defScope sLHeard).names.lookup x = some .globalImplicit → (x == ("__debug__" : Str)) = false → PE (cxA X "_law_heard" (defScope sLHeard) fH cdv A s H) (.Call (.Name "isinstance" p1) [.Name "caught" p2, .Name x p3] [] p4) (isA X.K C) := fun {x C p1 p2 p3 p4} h1 h2 h3 =>
    pe_callB call_isAny (by rfl) mi (by decide +kernel) (pa_cons v1 (pa_cons (pe_glob (v := .ref C) h2 h1 rfl h3) pa_nil))
  exact pss_cons (ps_if (pt_val (pe_callB call_isAnyT (by rfl) mi (by decide +kernel) (pa_cons v1 (pa_cons (pe_tup (pa_cons (pe_glob (v := .ref CL) (by rfl) gL rfl (by decide)) (pa_cons (pe_glob (v := .ref CS) (by rfl) gS rfl (by decide)) pa_nil))) pa_nil))))
      (pss_one (ps_ret (pe_tup (pa_cons (pe_ifExp (pt_val (is gL (by rfl) (by decide))) pe_str pe_str) (pa_cons (pe_keptF v1) pa_nil))))) pss_nil)
    (pss_one (ps_ret (pe_ifExp (pt_cmpR op_isN v1 pe_non (nomark _)) pe_non (pe_tup (pa_cons pe_str (pa_cons pe_non pa_nil))))))
/-- what is known of the error classes -/
structure TE38 (K : PySem.W.Frag) (mg : Str → Option Value) (CL CS CE : Addr) : Prop where
  gL : mg "BadPaper" = some (.ref CL)
  gS : mg "BadSeats" = some (.ref CS)
  gE : mg "LaneError" = some (.ref CE)
  eL : ErrC K CL
  eS : ErrC K CS
  nL : PySem.W.findIn K (.ref CL) "part" = some none
  nS : PySem.W.findIn K (.ref CS) "part" = some none
  xL : PySem.W.exmOne K (.ref CL) (.ref CE) = some true
  xS : PySem.W.exmOne K (.ref CS) (.ref CE) = some true
  kLL : PySem.W.kitOne K (.ref CL) (.ref CL) = some true
  kSL : PySem.W.kitOne K (.ref CS) (.ref CL) = some false
  kSS : PySem.W.kitOne K (.ref CS) (.ref CS) = some true
section
variable {K : PySem.W.Frag} {mg : Str → Option Value} {CL CS CE : Addr}
theorem rd_L (E : TE38 K mg CL CS CE) {s : Str} (G : Hp) (a d : Addr) (σ' : L2.St) (D' : Ends) (ha : G a = some (ErrAt (.ref CL) (some d) a)) (hd : DictAt G (some d) [(("part" : Str), .str s)]) (hσ : σ'[1]? = some (some (.ref a)))
    (k : ∀ p G', G p = none → Evl.Ex G G' → G' p = some (.tup [.str "paper", .str s]) → D'.rt (.ref p) G') : trH K CL CS D' σ' G := by
  refine Evl.q_when (b := true) (Evl.et_B (ev_isKT2 hσ ha hd E.eL (kitAny_cons E.kLL (fun z => nomatch z) fun _ => rfl))) (fun _ H1 e1 => ?_) (fun z => nomatch z)
  have hd1 : DictAt H1 (some d) [(("part" : Str), .str s)] := hd.imp fun x ⟨y, z⟩ => ⟨y, e1 _ _ z⟩
  refine Evl.s_retU (Evl.eu_tup (Evl.ea_cons (Evl.ev_if (b := true) (Evl.et_B (ev_isK hσ (e1 _ _ ha) hd1 E.eL E.kLL)) (fun _ => Evl.ev_c) (fun z => nomatch z)) (Evl.ea_cons (ev_keptF hσ (e1 _ _ ha) hd1 E.eL E.nL (by simp [List.lookup])) Evl.ea_nil)) (by show 2 ≤ 100000; decide)) fun p H2 hp e2 h2 => k p H2 (Evl.fresh_back e1 hp) (e1.trans e2) h2
theorem rd_S (E : TE38 K mg CL CS CE) {s : Str} (G : Hp) (a d : Addr) (σ' : L2.St) (D' : Ends) (ha : G a = some (ErrAt (.ref CS) (some d) a)) (hd : DictAt G (some d) [(("part" : Str), .str s)]) (hσ : σ'[1]? = some (some (.ref a)))
    (k : ∀ p G', G p = none → Evl.Ex G G' → G' p = some (.tup [.str "seats", .str s]) → D'.rt (.ref p) G') : trH K CL CS D' σ' G := by
  refine Evl.q_when (b := true) (Evl.et_B (ev_isKT2 hσ ha hd E.eS (kitAny_cons E.kSL (fun _ => kitAny_cons E.kSS (fun z => nomatch z) fun _ => rfl) fun z => nomatch z))) (fun _ H1 e1 => ?_) (fun z => nomatch z)
  have hd1 : DictAt H1 (some d) [(("part" : Str), .str s)] := hd.imp fun x ⟨y, z⟩ => ⟨y, e1 _ _ z⟩
  refine Evl.s_retU (Evl.eu_tup (Evl.ea_cons (Evl.ev_if (b := false) (Evl.et_B (ev_isK hσ (e1 _ _ ha) hd1 E.eS E.kSL)) (fun z => nomatch z) (fun _ => Evl.ev_c)) (Evl.ea_cons (ev_keptF hσ (e1 _ _ ha) hd1 E.eS E.nS (by simp [List.lookup])) Evl.ea_nil)) (by show 2 ≤ 100000; decide)) fun p H2 hp e2 h2 => k p H2 (Evl.fresh_back e1 hp) (e1.trans e2) h2
end

/-! ### the law's own look at two seats -/
section
open Evl
variable {K : PySem.W.Frag} {σ : L2.St} {H : Hp} {ta tb : TE}
theorem et_inI {x : Int} {a : Addr} {ns : List Int} (h1 : Ev ta σ H (.int x)) (h2 : Ev tb σ H (.ref a)) (hs : SqS K H a (ns.map V.int)) : EvT (tTest (tOp (rIn K false) ta tb)) σ H (decide (x ∈ ns)) := Evl.et_test fun H1 e Q q =>
  h1 H1 e _ fun H2 e2 => h2 H2 (e.trans e2) _ fun H3 e3 => ⟨a, _, rfl, hs.ex ((e.trans e2).trans e3), rfl, flat_ints ns, by
    show Q (.bl (inV (.int x) (ns.map V.int))) H3
    rw [in_ints]
    exact q H3 (e2.trans e3)⟩
theorem et_ninI {x : Int} {a : Addr} {ns : List Int} (h1 : Ev ta σ H (.int x)) (h2 : Ev tb σ H (.ref a)) (hs : SqS K H a (ns.map V.int)) : EvT (tTest (tOp (rIn K true) ta tb)) σ H (!decide (x ∈ ns)) := Evl.et_test fun H1 e Q q =>
  h1 H1 e _ fun H2 e2 => h2 H2 (e.trans e2) _ fun H3 e3 => ⟨a, _, rfl, hs.ex ((e.trans e2).trans e3), rfl, flat_ints ns, by
    show Q (.bl !(inV (.int x) (ns.map V.int))) H3
    rw [in_ints]
    exact q H3 (e2.trans e3)⟩

end
abbrev nLN : List Str := ["bags", "one", "other", "bag"]
theorem scLNear : FnScope nLN ["bags", "one", "other"] (defScope sLNear) := ⟨rfl, rfl, rfl, by decide +kernel, rfl, by decide +kernel, by decide +kernel⟩
def bothB (bs : List (List Int)) (p p2 : Nat) (m : Nat) : Bool := decide ((p : Int) ∈ bs.getD m []) && decide ((p2 : Int) ∈ bs.getD m [])
def nearB (bs : List (List Int)) (p l p2 l2 : Nat) : Bool := !decide (1 < ((l : Int) - l2).natAbs) && (decide (p = p2) || decide (∃ m, m < bs.length ∧ bothB bs p p2 m = true))
def spLNear (K : PySem.W.Frag) : Sp := fun vs H Q _ => ∃ (B a b : Addr) (xs : List V) (bs : List (List Int)) (p l n p2 l2 n2 : Nat), vs = [.ref B, .ref a, .ref b] ∧ SqS K H B xs ∧ RowsB K H xs bs ∧ bs.length ≤ 300 ∧ SqS K H a [.int (p : Int), .int (l : Int), .int (n : Int)] ∧ SqS K H b [.int (p2 : Int), .int (l2 : Int), .int (n2 : Int)] ∧ ∀ H1, Evl.Ex H H1 → Q (.bl (nearB bs p l p2 l2)) H1
section
variable {P : Program} {w : World} {K : PySem.W.Frag} {mg : Str → Option Value} {base : Heap}
set_option maxHeartbeats 2000000 in
theorem ok_lNear {f : Addr} {fd : FuncData} {k : Nat} (F : Fun K "_law_near" "_law_near" sLNear f fd) (mabs : mg "abs" = none) : FnOk P w K mg base CX0 (k + 1) f fd ["bags", "one", "other"] (spLNear K) := by
  refine F.ok scLNear (fun vs H Q E h => ?_) (fun cdv A0 outer s H vs Q E hr h => ?_)
  · obtain ⟨B, a, b, xs, bs, p, l, n, p2, l2, n2, rfl, _⟩ := h
    rfl
  · obtain ⟨B, a, b, xs, bs, p, l, n, p2, l2, n2, rfl, hS, hR, hl, ha, hb, q⟩ := h
    have nd := scLNear.nd
    refine ⟨_, pss_cons (ps_if (pt_cmpR op_gt (pe_callB call_abs (by rfl) mabs (by decide +kernel) (pa_cons (pe_op op_sub (pe_ix ix_any2 (pv 1) pe_int (fun _ _ => rfl)) (pe_ix ix_any2 (pv 2) pe_int (fun _ _ => rfl))) (pa_nil))) (pe_int) (nomark _)) (pss_one (ps_ret (pe_bl))) (pss_nil)) (pss_one (ps_ret (pe_or (pe_cmpR op_eq (pe_ix ix_any2 (pv 1) pe_int (fun _ _ => rfl)) (pe_ix ix_any2 (pv 2) pe_int (fun _ _ => rfl)) (nomark _)) (pe_one (pe_cmpR (op_neNil hr.units) (pe_lc (own := [("bag", 3)]) (g := gName 3) (tt := tAnd (tTest (tOp (rIn K false) (tOp (rIxB K) (tVar 1) (tC (.int 0))) (tVar 3))) (tTest (tOp (rIn K false) (tOp (rIxB K) (tVar 2) (tC (.int 0))) (tVar 3)))) (te := tVar 3) rfl nd (pi_ei (pv 0)) (blkOk_by (N := nLN) (sc := defScope sLNear) (by decide +kernel)) (fun _ _ _ _ _ => pg_name (i := 3) nd rfl (Or.inl rfl)) (fun _ _ _ _ _ => pts_one (PW.pt (pw_and (pt_cmpR op_in_seq (pe_ix ix_any2 (pv 1) pe_int (fun _ _ => rfl)) (pv 3) (by with_unfolding_all rfl)) (pw_and1 (pt_cmpR op_in_seq (pe_ix ix_any2 (pv 2) pe_int (fun _ _ => rfl)) (pv 3) (by with_unfolding_all rfl)))))) (fun _ _ _ _ _ => pv 3)) (pe_lst pa_nil) (nomark _)))))), ?_⟩
    have i1 : ∀ {σ : L2.St} {H1 : Hp} {j : Nat} {v : V}, σ[1]? = some (some (.ref a)) → Evl.Ex H H1 → [V.int (p : Int), .int (l : Int), .int (n : Int)][j]? = some v → Evl.Ev (tOp (rIxB K) (tVar 1) (tC (.int (j : Int)))) σ H1 v := fun hσ e hv => ev_ixB (Evl.ev_var hσ) (ha.ex e) hv
    have i2 : ∀ {σ : L2.St} {H1 : Hp} {j : Nat} {v : V}, σ[2]? = some (some (.ref b)) → Evl.Ex H H1 → [V.int (p2 : Int), .int (l2 : Int), .int (n2 : Int)][j]? = some v → Evl.Ev (tOp (rIxB K) (tVar 2) (tC (.int (j : Int)))) σ H1 v := fun hσ e hv => ev_ixB (Evl.ev_var hσ) (hb.ex e) hv
    refine Evl.q_when (b := decide (1 < ((l : Int) - l2).natAbs)) (Evl.et_is (Evl.et_test (Evl.ev_op (ev_abs (Evl.ev_op (i1 (j := 1) rfl (Evl.Ex.refl _) rfl) (i2 (j := 1) rfl (Evl.Ex.refl _) rfl) Evl.rv_I0)) Evl.ev_c Evl.rv_I0)) ?_) (fun hb1 H1 e1 => Evl.s_ret Evl.ev_c fun H2 e2 => ?_) fun hb1 H1 e1 => ?_
    · refine decide_eq_decide.mpr ?_
      split <;> omega
    · have := q H2 (e1.trans e2)
      unfold nearB at this
      rwa [hb1] at this
    · have bags := el_lcI (te := tVar 3) (t := tAnd (tTest (tOp (rIn K false) (tOp (rIxB K) (tVar 1) (tC (.int 0))) (tVar 3))) (tTest (tOp (rIn K false) (tOp (rIxB K) (tVar 2) (tC (.int 0))) (tVar 3)))) (σ := start nLN [.ref B, .ref a, .ref b]) (H := H1) (vs := [3]) (bothB bs p p2) (fun m => xs.getD m .non) (ei_ei (K := K) (Evl.ev_var (i := 0) rfl) (hS.ex e1)) (aims_at (j := 3)) (fun _ => rfl) (by have := hR.1; omega) (fun m A eA hm => by
        obtain ⟨r, hr1, hr2⟩ := hR.2 m _ (List.getElem?_eq_getElem (by have := hR.1; omega))
        have exr : xs.getD m .non = .ref r := by rw [List.getD_eq_getElem?_getD, hr1]; rfl
        have eb : bs.getD m [] = bs[m]'(by have := hR.1; omega) := by rw [List.getD_eq_getElem?_getD, List.getElem?_eq_getElem (by have := hR.1; omega)]; rfl
        rw [exr]
        unfold bothB
        rw [eb]
        exact Evl.et_and (et_inI (i1 (j := 0) rfl (e1.trans eA) rfl) (Evl.ev_var rfl) (hr2.ex (e1.trans eA))) fun _ => et_inI (i2 (j := 0) rfl (e1.trans eA) rfl) (Evl.ev_var rfl) (hr2.ex (e1.trans eA))) (fun m A eA hm _ => Evl.ev_var rfl)
      refine Evl.s_ret (v := .bl (decide (p = p2) || decide (∃ m, m < bs.length ∧ bothB bs p p2 m = true))) (Evl.ev_orV (Evl.ev_is (Evl.ev_op (i1 (j := 0) rfl e1 rfl) (i2 (j := 0) rfl e1 rfl) (Evl.rv_eq rfl)) (congrArg V.bl (decide_eq_decide.mpr ⟨fun z => by have := V.int.inj z; omega, fun z => by rw [z]⟩))) fun _ => Evl.ev_is (ev_nil (neg := true) (K := K) bags) (congrArg V.bl ?_)) fun H2 e2 => ?_
      · unfold Evl.given
        rw [hR.1]
        rw [List.isEmpty_map, Bool.bne_true, Bool.eq_iff_iff, Bool.not_eq_true', decide_eq_true_iff, List.isEmpty_eq_false_iff_exists_mem]
        exact ⟨fun ⟨m, hm⟩ => ⟨m, List.mem_range.mp (List.mem_filter.mp hm).1, (List.mem_filter.mp hm).2⟩, fun ⟨m, h1, h2⟩ => ⟨m, List.mem_filter.mpr ⟨List.mem_range.mpr h1, h2⟩⟩⟩
      · have := q H2 (e1.trans e2)
        unfold nearB at this
        rwa [hb1, Bool.not_false, Bool.true_and] at this
end
/-- two pieces tied, and two that a bag has -/
theorem tie_near {bs : List (List Int)} {us : List (Option Nat)} (h : NarOk bs us) (p l p2 l2 : Nat) : tieB (keysZ bs us) p l p2 l2 = nearB bs p l p2 l2 := by
  unfold tieB nearB
  congr 1
  by_cases hp : p = p2
  · rw [decide_eq_true hp, Bool.true_or, Bool.true_or]
  · rw [decide_eq_false hp, Bool.false_or, Bool.false_or]
    refine decide_eq_decide.mpr ?_
    have hne : (kf ((p : Int), (p2 : Int))).1 ≠ (kf ((p : Int), (p2 : Int))).2 := by
      unfold kf
      dsimp only
      split <;> split <;> omega
    have key := ties_mem h.up (kf ((p : Int), (p2 : Int)))
    rw [List.mem_filter, decide_eq_true_iff] at key
    have hk : (kf ((p : Int), (p2 : Int))) ∈ keysZ bs us ↔ (kf ((p : Int), (p2 : Int))).1 < (kf ((p : Int), (p2 : Int))).2 ∧ ∃ ns ∈ bs, (kf ((p : Int), (p2 : Int))).1 ∈ ns ∧ (kf ((p : Int), (p2 : Int))).2 ∈ ns := ⟨fun z => key.mp ⟨z, hne⟩, fun z => (key.mpr z).1⟩
    rw [hk]
    have e : ((kf ((p : Int), (p2 : Int))) = ((p : Int), (p2 : Int)) ∧ (p : Int) < p2) ∨ ((kf ((p : Int), (p2 : Int))) = ((p2 : Int), (p : Int)) ∧ (p2 : Int) < p) := by
      unfold kf
      dsimp only
      rcases Nat.lt_or_gt_of_ne hp with h | h
      · exact .inl ⟨by rw [if_neg (by omega), if_pos (by omega)], by omega⟩
      · exact .inr ⟨by rw [if_pos (by omega), if_neg (by omega)], by omega⟩
    have hb : (∃ m, m < bs.length ∧ bothB bs p p2 m = true) ↔ ∃ ns ∈ bs, (p : Int) ∈ ns ∧ (p2 : Int) ∈ ns := by
      constructor
      · rintro ⟨m, h1, h2⟩
        unfold bothB at h2
        rw [Bool.and_eq_true_iff, decide_eq_true_iff, decide_eq_true_iff, List.getD_eq_getElem?_getD, List.getElem?_eq_getElem h1] at h2
        exact ⟨_, List.getElem_mem h1, h2⟩
      · rintro ⟨ns, h1, h2⟩
        obtain ⟨m, hm, rfl⟩ := List.mem_iff_getElem.mp h1
        refine ⟨m, hm, ?_⟩
        unfold bothB
        rw [Bool.and_eq_true_iff, decide_eq_true_iff, decide_eq_true_iff, List.getD_eq_getElem?_getD, List.getElem?_eq_getElem hm]
        exact h2
    rw [hb]
    rcases e with ⟨e, hlt⟩ | ⟨e, hlt⟩
    · rw [e]
      exact ⟨fun z => z.2, fun z => ⟨hlt, z⟩⟩
    · rw [e]
      exact ⟨fun ⟨_, ns, h1, h2, h3⟩ => ⟨ns, h1, h3, h2⟩, fun ⟨ns, h1, h2, h3⟩ => ⟨hlt, ns, h1, h3, h2⟩⟩
theorem near_sym (bs : List (List Int)) (p l p2 l2 : Nat) : nearB bs p2 l2 p l = nearB bs p l p2 l2 := by
  unfold nearB
  congr 1
  · congr 1
    exact decide_eq_decide.mpr (by omega)
  · congr 1
    · exact decide_eq_decide.mpr (by omega)
    · refine decide_eq_decide.mpr ⟨fun ⟨m, h1, h2⟩ => ⟨m, h1, ?_⟩, fun ⟨m, h1, h2⟩ => ⟨m, h1, ?_⟩⟩ <;>
      · unfold bothB at h2 ⊢
        rwa [Bool.and_comm]
end P38
end S_Nda
section S_Xa
namespace EnL
open PySem PySem.Spec PySem.Calls PyProof.Rows
section
variable {M : Model} {A : Around} {E : Value → Shared → Prop} {s : Shared} {env : Env}
theorem callWith_typeB {pos : Pos} {T : String} {first : List Value} {args : List (Bool × Sem Value)} {keywords : List (Option Str × Sem Value)} {Q : Value → Shared → Prop}
    (hplain : args.any (·.1) = false) (hkw : keywords.any (·.1.isNone) = false)
    (h : wpAny M A (evalArgs (.type T) true args keywords) (fun a s₁ => wpAny M A (call (.type T) (first ++ a.pos) a.kw) Q E s₁) E s) :
    wpAny M A (callWith pos (.type T) first args keywords) Q E s := by
  unfold callWith
  refine wpAny_bind (wpAny_holding (wpAny_mono h (fun a s₁ h₁ => wpAny_bind (wpAny_standAt ?_)) fun _ _ x => x))
  simp only [hplain, hkw, Bool.or_false]
  refine wpAny_bind (wpAny_pure ?_)
  exact wpAny_bind (wpAny_mono h₁ (fun r s₂ hr => wpAny_bind (wpAny_holding (wpAny_point (wpAny_pure hr)))) fun _ _ x => x)
theorem callWith_typeKw {pos : Pos} {T : String} {e : Expr} {rest : List Expr} {kws : List Keyword} {Q : Value → Shared → Prop}
    (h : wpAny M A (spliced (backTo pos (starEach (e :: rest) env))) (fun vs s₁ => wpAny M A (evalAll ((backToKw pos (keywordEach kws env)).map (·.2)))
      (fun kvs s₂ => wpAny M A (call (.type T) vs (((backToKw pos (keywordEach kws env)).filterMap (·.1)).zip kvs)) Q E s₂) E s₁) E s)
    (he : backTo pos (starEach (e :: rest) env) = (false, eval e env) :: backTo pos (starEach rest env) := by rfl)
    (hplain : (backTo pos (starEach (e :: rest) env)).any (·.1) = false := by rfl)
    (hall : (backToKw pos (keywordEach kws env)).all (·.1.isSome) = true := by rfl)
    (hkw : (backToKw pos (keywordEach kws env)).any (·.1.isNone) = false := by rfl) :
    wpAny M A (callWith pos (.type T) [] (backTo pos (starEach (e :: rest) env)) (backToKw pos (keywordEach kws env))) Q E s := by
  refine callWith_typeB hplain hkw ?_
  rw [he] at h ⊢
  exact evalArgs_kwB hall h
end
/-- the counter's result tuple is held by another -/
abbrev EnOut (h : Heap) (e it : Addr) (c : Int) (old : Value) (a : Addr) (f : Bool) : Prop :=
  h.get? e = some { cls := .type "enumerate", dict := none, data := .fields #[rawInt a, .bool f, .ref it, rawInt c, .none, old], slots := #[] }
section
variable {prog : Program} {w : World} {A : Around} {E : Value → Shared → Prop} {s : Shared}
theorem next_out0 {e it l a : Addr} {oa : Obj} {i : Nat} {c : Int} {items : Array Value} {x old : Value} {f : Bool} {Q : Value → Shared → Prop}
    (he : EnOut s.heap e it c old a f) (ha : s.heap.get? a = some oa) (hae : a ≠ e) (hai : a ≠ it) (hit : s.heap.IsListIter it l i) (hl : s.heap.IsList l items) (hx : items[i]? = some x) (hne : e ≠ it)
    (hQ : ∀ h', EnOut h' e it (c + 1) old a true → h'.IsListIter it l (i + 1) →
      h'.get? s.heap.objs.size = some { cls := .type "tuple", data := .seq #[.int c s.toks, x] } → h'.objs.size = s.heap.objs.size + 1 →
      (∀ b o, b ≠ e → b ≠ it → s.heap.get? b = some o → h'.get? b = some o) → Q (.ref s.heap.objs.size) { s with heap := h', toks := s.toks + 1 }) :
    wpAny (model prog w) A (Builtin.«enumerate.__next__» ⟨[.ref e], []⟩) (fun fin s' => ∃ v, fin = .done (.ret v) ∧ Q v s') E s := by
  obtain ⟨hp, g, d, tk, os⟩ := s
  show wpAny _ _ (field (.ref e) 2 >>= _) _ _ _
  refine wpAny_bind (wpAny_field he rfl (x := .ref it) rfl ?_)
  refine wpAny_bind (wpAny_nextOf_list_item hit hl hx fun h₁ hit₁ hs₁ => ?_)
  replace hs₁ : Heap.SameBut it hp h₁ := hs₁
  have he₁ : EnOut h₁ e it c old a f := (hs₁.2 e hne).trans he
  show wpAny _ _ (field (.ref e) 3 >>= _) _ _ ⟨h₁, g, d, tk, os⟩
  refine wpAny_bind (wpAny_field he₁ rfl (x := rawInt c) rfl ?_)
  show wpAny _ _ (field (.ref e) 4 >>= _) _ _ ⟨h₁, g, d, tk, os⟩
  refine wpAny_bind (wpAny_field he₁ rfl (x := .none) rfl ?_)
  show wpAny _ _ (mkInt c >>= _) _ _ ⟨h₁, g, d, tk, os⟩
  refine wpAny_bind (wpAny_mkInt ?_)
  show wpAny _ _ (setField (.ref e) 3 (rawInt (c + 1)) >>= _) _ _ ⟨h₁, g, d, tk + 1, os⟩
  refine wpAny_bind (wpAny_setField_rec he₁ (by simp) fun h₂ he₂ hs₂ => ?_)
  replace hs₂ : Heap.SameBut e h₁ h₂ := hs₂
  replace he₂ : EnOut h₂ e it (c + 1) old a f := he₂
  show wpAny _ _ (setField (.ref e) 4 .none >>= _) _ _ ⟨h₂, g, d, tk + 1, os⟩
  refine wpAny_bind (wpAny_setField_rec he₂ (by simp) fun h₃ he₃ hs₃ => ?_)
  replace hs₃ : Heap.SameBut e h₂ h₃ := hs₃
  replace he₃ : EnOut h₃ e it (c + 1) old a f := he₃
  show wpAny _ _ (newTuple [.int c tk, x] >>= _) _ _ ⟨h₃, g, d, tk + 1, os⟩
  refine wpAny_bind (wpAny_newTuple ?_)
  have he₄ : EnOut (h₃.push { cls := .type "tuple", data := .seq #[.int c tk, x] }) e it (c + 1) old a f := Heap.get?_push_of_some _ he₃
  generalize hh₄ : h₃.push { cls := .type "tuple", data := .seq #[.int c tk, x] } = h₄ at he₄
  have hsz : h₃.objs.size = hp.objs.size := by rw [hs₃.1, hs₂.1, hs₁.1]
  have hel : e < hp.objs.size := Heap.lt_size he
  have ht₄ : h₄.get? hp.objs.size = some { cls := .type "tuple", data := .seq #[.int c tk, x] } := by rw [← hh₄, ← hsz]; exact Heap.get?_push_size _ rfl
  have hz₄ : h₄.objs.size = hp.objs.size + 1 := by rw [← hh₄, Heap.size_push, hsz]
  have hk₄ : ∀ b o, b ≠ e → b ≠ it → hp.get? b = some o → h₄.get? b = some o := fun b o hbe hbi hb => by
    rw [← hh₄]; exact Heap.get?_push_of_some _ (hs₃.extBut b o hbe (hs₂.extBut b o hbe (hs₁.extBut b o hbi hb)))
  have hit₄ : h₄.IsListIter it l (i + 1) := by
    rw [← hh₄]; obtain ⟨o, ho, r⟩ := (hit₁.extBut hs₂.extBut (Ne.symm hne)).extBut hs₃.extBut (Ne.symm hne); exact ⟨o, Heap.get?_push_of_some _ ho, r⟩
  have ha₄ := hk₄ a oa hae hai ha
  show wpAny _ _ (Builtin.SmallTypes.ownedTupleIsFree (.ref e) >>= _) _ _ ⟨h₄, g, d, tk + 1, os⟩
  rw [hsz]
  clear hh₄ he₃ hs₃ he₂ hs₂ he₁ hs₁ hit₁ hsz h₃ h₂ h₁
  refine wpAny_bind ?_
  unfold Builtin.SmallTypes.ownedTupleIsFree
  refine wpAny_bind (wpAny_field he₄ rfl (x := rawInt a) rfl ?_)
  show wpAny _ _ (loadIfAlive ((a : Int).toNat) >>= _) _ _ _
  rw [Int.toNat_natCast]
  refine wpAny_bind (PySem.W.kdx_alive ha₄ ?_)
  simp only [Option.isNone_some, Bool.false_eq_true, if_false]
  refine wpAny_bind (wpAny_field he₄ rfl (x := .bool f) rfl ?_)
  have fin : ∀ h₅ : Heap, EnOut h₅ e it (c + 1) old a true → Heap.SameBut e h₄ h₅ → Q (.ref hp.objs.size) ⟨h₅, g, d, tk + 1, os⟩ := fun h₅ he₅ hs₅ =>
    hQ h₅ he₅ (hit₄.extBut hs₅.extBut (Ne.symm hne)) (hs₅.extBut _ _ (Nat.ne_of_gt hel) ht₄) (by show h₅.objs.size = hp.objs.size + 1; rw [hs₅.1, hz₄]) fun b o hbe hbi hb => hs₅.extBut b o hbe (hk₄ b o hbe hbi hb)
  cases f with
  | true =>
    rw [if_neg (show ¬ ((Value.bool true != Value.bool true) = true) from Bool.false_ne_true)]
    refine wpAny_pure ?_
    simp only [Bool.false_eq_true, if_false]
    exact wpAny_pure ⟨_, rfl, fin h₄ he₄ (Heap.SameBut.refl _ _)⟩
  | false =>
    rw [if_pos (show (Value.bool false != Value.bool true) = true from rfl)]
    refine wpAny_bind (wpAny_setField_rec he₄ (by simp) fun h₅ he₅ hs₅ => ?_)
    replace hs₅ : Heap.SameBut e h₄ h₅ := hs₅
    replace he₅ : EnOut h₅ e it (c + 1) old a true := he₅
    refine wpAny_pure ?_
    simp only [Bool.false_eq_true, if_false]
    exact wpAny_pure ⟨_, rfl, fin h₅ he₅ hs₅⟩
theorem next_out {e it l a : Addr} {oa : Obj} {i : Nat} {c : Int} {items : Array Value} {x old : Value} {f : Bool} {Q : Option Value → Shared → Prop}
    (he : EnOut s.heap e it c old a f) (ha : s.heap.get? a = some oa) (hae : a ≠ e) (hai : a ≠ it) (hit : s.heap.IsListIter it l i) (hl : s.heap.IsList l items) (hx : items[i]? = some x) (hne : e ≠ it)
    (hQ : ∀ h', EnOut h' e it (c + 1) old a true → h'.IsListIter it l (i + 1) →
      h'.get? s.heap.objs.size = some { cls := .type "tuple", data := .seq #[.int c s.toks, x] } → h'.objs.size = s.heap.objs.size + 1 →
      (∀ b o, b ≠ e → b ≠ it → s.heap.get? b = some o → h'.get? b = some o) → Q (some (.ref s.heap.objs.size)) { s with heap := h', toks := s.toks + 1 }) :
    wpAny (model prog w) A (pyNext (.ref e)) Q E s := by
  have hT : s.TypeIs (.ref e) "enumerate" := ⟨_, he, rfl⟩
  unfold pyNext
  exact wpAny_bind (wpAny_attempt (wpAny_callSpecial?_slot (name := Str.ofString "__next__") hT F.slot_enumerate_next
    (wpAny_call_entry F.slot_enumerate_next hT F.entry_enumerate_next
      (next_out0 he ha hae hai hit hl hx hne fun h' p q r t k => wpAny_pure (hQ h' p q r t k)) (F.args_enumerate_next_1 _))))
theorem end_out {e it l : Addr} {i : Nat} {items : Array Value} {Q : Option Value → Shared → Prop} {d : Array Value} (hh : A.handled = none)
    (he : s.heap.get? e = some { cls := .type "enumerate", dict := none, data := .fields d, slots := #[] }) (hd : d[2]? = some (.ref it)) (hit : s.heap.IsListIter it l i) (hl : s.heap.IsList l items) (hx : items[i]? = none)
    (hQ : ∀ h', Heap.ExtBut it s.heap h' → Q none { s with heap := h' }) : wpAny (model prog w) A (pyNext (.ref e)) Q E s := by
  have hT : s.TypeIs (.ref e) "enumerate" := ⟨_, he, rfl⟩
  unfold pyNext
  refine wpAny_bind (wpAny_attempt (wpAny_callSpecial?_slot (name := Str.ofString "__next__") hT F.slot_enumerate_next
    (wpAny_call_entry F.slot_enumerate_next hT F.entry_enumerate_next ?_ (F.args_enumerate_next_1 _))))
  show wpAny _ _ (field (.ref e) 2 >>= _) _ _ _
  refine wpAny_bind (wpAny_field he rfl (x := .ref it) hd ?_)
  refine wpAny_bind (wpAny_nextOf_list_end hh hit hl hx fun h' x he' hx' => ?_)
  obtain ⟨o, ho, hc⟩ := hx'
  refine wpAny_bind (wpAny_isInstance (T := "StopIteration") (b := true) ⟨o, ho, hc⟩ isSubtype_stop ?_)
  exact wpAny_pure (hQ _ he')
end
end EnL
end S_Xa
section S_Xb
namespace EnL
open PySem PySem.Spec PySem.Calls PyProof.Rows
section
variable {prog : Program} {w : World} {A : Around} {E : Value → Shared → Prop} {s : Shared}
def EnSt (h : Heap) (e it S : Addr) (i : Nat) (c : Int) : Prop := (i = 0 ∧ IsEnum h e it c .none) ∨ ∃ old a f oa, EnOut h e it (c + i) old a f ∧ h.get? a = some oa ∧ a ≠ e ∧ a ≠ it ∧ a ≠ S
theorem EnSt.keep {h h' : Heap} {e it S : Addr} {i : Nat} {c : Int} (x : EnSt h e it S i c) (hk : ∀ b o, b ≠ S → h.get? b = some o → h'.get? b = some o) (he : e ≠ S) : EnSt h' e it S i c := by
  rcases x with ⟨z, q⟩ | ⟨old, a, f, oa, q, ha, h1, h2, h3⟩
  · exact .inl ⟨z, hk _ _ he q⟩
  · exact .inr ⟨old, a, f, oa, hk _ _ he q, hk _ _ h3 ha, h1, h2, h3⟩
theorem list_ne {h : Heap} {l e : Addr} {items : Array Value} {o : Obj} (p : h.IsList l items) (q : h.get? e = some o) (hc : o.cls ≠ .type "list") : l ≠ e := fun z => by
  obtain ⟨u, hu, hcu, _⟩ := p
  rw [z, q] at hu
  cases hu
  exact hc hcu
theorem EnSt.obj {h : Heap} {e it S : Addr} {i : Nat} {c : Int} (x : EnSt h e it S i c) : ∃ o, h.get? e = some o ∧ o.cls = .type "enumerate" := by
  rcases x with ⟨z, q⟩ | ⟨old, a, f, oa, q, _⟩
  · exact ⟨_, q, rfl⟩
  · exact ⟨_, q, rfl⟩
theorem en_item {e it l S : Addr} {i : Nat} {c : Int} {items : Array Value} {x : Value} {Q : Option Value → Shared → Prop} (hh : A.handled = none) (hst : EnSt s.heap e it S i c) (hS : S < s.heap.objs.size)
    (hit : s.heap.IsListIter it l i) (hl : s.heap.IsList l items) (hx : items[i]? = some x) (hne : e ≠ it) (hli : l ≠ it)
    (hQ : ∀ h' tk, EnSt h' e it S (i + 1) c → h'.IsListIter it l (i + 1) → h'.get? s.heap.objs.size = some { cls := .type "tuple", data := .seq #[.int (c + i) tk, x] } → h'.objs.size = s.heap.objs.size + 1 →
      (∀ b o, b ≠ e → b ≠ it → s.heap.get? b = some o → h'.get? b = some o) → Q (some (.ref s.heap.objs.size)) { s with heap := h', toks := tk + 1 }) :
    wpAny (model prog w) A (pyNext (.ref e)) Q E s := by
  have e1 : c + ((i + 1 : Nat) : Int) = c + (i : Int) + 1 := by omega
  have iti : it < s.heap.objs.size := by obtain ⟨o, ho, _⟩ := hit; exact Heap.lt_size ho
  rcases hst with ⟨rfl, q⟩ | ⟨old, a, f, oa, q, ha, h1, h2, h3⟩
  · have hle : l ≠ e := list_ne hl q fun z => absurd (Value.type.inj z) (by decide)
    have hlt : 0 < items.size := by
      have := (Array.getElem?_eq_some_iff.mp hx).1
      exact this
    refine wpAny_pyNext_enum_itemC (Draws.list (show A.in1.handled = none from hh) it l hli items) q ⟨hit, hl⟩ hlt hne (by simp [hne, Ne.symm hle]) fun y g tk hy ho hst' ht hz hk => ?_
    have hy : y = x := by
      rw [hx] at hy
      exact (Option.some.inj hy).symm
    subst hy
    have e0 : c + ((0 : Nat) : Int) = c := by omega
    refine hQ g tk (.inr ⟨y, s.heap.objs.size, false, _, ?_, ht, Nat.ne_of_gt (Heap.lt_size q), Nat.ne_of_gt iti, Nat.ne_of_gt hS⟩) hst'.1 (by rw [e0]; exact ht) hz hk
    rw [e1, e0]
    exact ho
  · refine next_out q ha h1 h2 hit hl hx hne fun g hg hit' ht hz hk => ?_
    refine hQ g s.toks (.inr ⟨old, a, true, oa, ?_, hk a oa h1 h2 ha, h1, h2, h3⟩) hit' ht hz hk
    rw [e1]
    exact hg
theorem en_done {e it l S : Addr} {i : Nat} {c : Int} {items : Array Value} {Q : Option Value → Shared → Prop} (hh : A.handled = none) (hst : EnSt s.heap e it S i c) (hit : s.heap.IsListIter it l i) (hl : s.heap.IsList l items) (hx : items[i]? = none)
    (hQ : ∀ h', Heap.ExtBut it s.heap h' → Q none { s with heap := h' }) : wpAny (model prog w) A (pyNext (.ref e)) Q E s := by
  rcases hst with ⟨rfl, q⟩ | ⟨old, a, f, oa, q, _⟩
  · exact end_out hh q rfl hit hl hx hQ
  · exact end_out hh q rfl hit hl hx hQ
structure EnG (c : Int) (items : Array Value) (lo : Addr) (h : Heap) (as : List Addr) : Prop where
  rise : as.Pairwise (· < ·)
  above : ∀ a ∈ as, lo < a
  pairs : ∀ (j : Nat) (a : Addr), as[j]? = some a → ∃ t x, items[j]? = some x ∧ h.get? a = some { cls := .type "tuple", data := .seq #[.int (c + j) t, x] }
theorem EnG.there {c : Int} {items : Array Value} {lo : Addr} {h : Heap} {as : List Addr} (g : EnG c items lo h as) {a : Addr} (ha : a ∈ as) : a < h.objs.size := by
  obtain ⟨j, hj⟩ := List.mem_iff_getElem?.mp ha
  obtain ⟨_, _, _, e⟩ := g.pairs j a hj
  exact Heap.lt_size e
end
section
variable {prog : Program} {w : World} {A : Around} {s : Shared} {R : Result → Shared → Prop}
theorem en_loop {S e it l : Addr} {c : Int} {items : Array Value} (hh : A.handled = none) (heS : e < S) (hiS : it < S) (hlS : l < S) (hne : e ≠ it) (hli : l ≠ it) (hle : l ≠ e) (hn : items.size ≤ sizeLine) (res : Value) {h₁ : Heap}
    (hR : ∀ h' tk acc k as, (∀ b o, b ≠ S → b ≠ e → b ≠ it → h₁.get? b = some o → h'.get? b = some o) → h'.get? S = some { cls := .type "list", dict := none, data := .seq acc k, slots := #[] } → as.length = items.size → EnG c items S h' as →
      acc.toList = as.map Value.ref → R (.ok (.ret res)) { s with heap := h', toks := tk }) :
    ∀ (m i : Nat) (h : Heap) (tk k : Nat) (acc : Array Value) (as : List Addr), items.size - i = m → i ≤ items.size → EnSt h e it S i c → h.IsListIter it l i → h.IsList l items → (∀ b o, b ≠ S → b ≠ e → b ≠ it → h₁.get? b = some o → h.get? b = some o) →
      h.get? S = some { cls := .type "list", dict := none, data := .seq acc k, slots := #[] } → acc.toList = as.map Value.ref → as.length = i → EnG c items S h as →
      codeAny (model prog w) A (.builtin "list.extend.loop" ⟨[.ref S, .ref e, res], []⟩) R { s with heap := h, toks := tk } := by
  intro m
  induction m with
  | zero =>
    intro i h tk k acc as hk hi hst hit hL hkeep hS hacc hal hG
    have hin : i = items.size := by omega
    refine codeAny_builtin PySem.F.entry_extend_loop ?_
    rw [Around.under_plainId PySem.F.plain_extend_loop _]
    show wpAny _ A.in1 (pyNext (.ref e) >>= _) _ _ _
    refine wpAny_bind (en_done (s := { s with heap := h, toks := tk }) (A := A.in1) hh hst hit hL (Array.getElem?_eq_none (by omega)) fun h' he => ?_)
    refine wpAny_pure (hR h' tk acc k as (fun b o h1 h2 h3 e => he b o h3 (hkeep b o h1 h2 h3 e)) (he S _ (Nat.ne_of_gt hiS) hS) (by omega) ⟨hG.rise, hG.above, fun j a hj => ?_⟩ hacc)
    obtain ⟨t, x, e1, e3⟩ := hG.pairs j a hj
    exact ⟨t, x, e1, he a _ (Nat.ne_of_gt (Nat.lt_trans hiS (hG.above a (List.mem_of_getElem? hj)))) e3⟩
  | succ m ih =>
    intro i h tk k acc as hk hi hst hit hL hkeep hS hacc hal hG
    have hlt : i < items.size := by omega
    obtain ⟨x, hx⟩ : ∃ p, items[i]? = some p := ⟨items[i], by simp [hlt]⟩
    have hsz : acc.size = i := by rw [← Array.length_toList, hacc, List.length_map, hal]
    refine codeAny_builtin PySem.F.entry_extend_loop ?_
    rw [Around.under_plainId PySem.F.plain_extend_loop _]
    show wpAny _ A.in1 (pyNext (.ref e) >>= _) _ _ _
    refine wpAny_bind (en_item (s := { s with heap := h, toks := tk }) (A := A.in1) (S := S) hh hst (Heap.lt_size hS) hit hL hx hne hli fun h' tk' hst' hit' ht hz hkp => ?_)
    dsimp only at ht hz hkp ⊢
    have hSl : S < h.objs.size := Heap.lt_size hS
    have hS' := hkp S _ (Nat.ne_of_gt heS) (Nat.ne_of_gt hiS) hS
    have up : ∀ b o, b ≠ S → h'.get? b = some o → (h'.update S (Obj.mapSeq (·.push (Value.ref h.objs.size)))).get? b = some o := fun b o hb e => (Heap.get?_update_other _ _ (Ne.symm hb)).trans e
    show wpAny _ A.in1 (updateSeq S (·.push (Value.ref h.objs.size)) >>= _) _ _ _
    refine wpAny_bind ?_
    refine wpAny_updateSeq hS' rfl (wpAny_pure ⟨plainId_quiet PySem.F.plain_extend_loop _, ih (i + 1) _ (tk' + 1) _ (acc.push (Value.ref h.objs.size)) (as ++ [h.objs.size]) (by omega) hlt (hst'.keep up (Nat.ne_of_lt heS)) (hit'.at fun o e => up it o (Nat.ne_of_lt hiS) e)
      (let ⟨o, ho, r⟩ := hL; ⟨o, up l o (Nat.ne_of_lt hlS) (hkp l o hle hli ho), r⟩) (fun b o h1 h2 h3 e => up b o h1 (hkp b o h2 h3 (hkeep b o h1 h2 h3 e))) (Heap.get?_update_self _ hS' rfl) (by rw [Array.toList_push, hacc, List.map_append]; rfl) (by rw [List.length_append, hal]; rfl) ⟨?_, ?_, ?_⟩⟩) (by rw [hsz]; omega) (by show (acc.push (Value.ref h.objs.size)).size ≤ sizeLine + 1; rw [Array.size_push, hsz]; omega)
    · refine List.pairwise_append.mpr ⟨hG.rise, List.pairwise_singleton _ _, fun a ha b hb => ?_⟩
      rw [List.mem_singleton.mp hb]
      exact hG.there ha
    · intro a ha
      rcases List.mem_append.mp ha with ha | ha
      · exact hG.above a ha
      · rw [List.mem_singleton.mp ha]; exact hSl
    · intro j b hj
      rcases Nat.lt_trichotomy j as.length with h1 | h1 | h1
      · rw [List.getElem?_append_left h1] at hj
        obtain ⟨t, x', e1, e3⟩ := hG.pairs j b hj
        have hb := hG.above b (List.mem_of_getElem? hj)
        exact ⟨t, x', e1, up b _ (Nat.ne_of_gt hb) (hkp b _ (Nat.ne_of_gt (Nat.lt_trans heS hb)) (Nat.ne_of_gt (Nat.lt_trans hiS hb)) e3)⟩
      · subst h1
        have hb : h.objs.size = b := by simpa using hj
        subst hb
        exact ⟨tk', x, by rw [hal]; exact hx, up _ _ (Nat.ne_of_gt hSl) (by rw [hal]; exact ht)⟩
      · have hnone : (as ++ [h.objs.size])[j]? = none := List.getElem?_eq_none (by rw [List.length_append, List.length_singleton]; omega)
        rw [hnone] at hj; cases hj
end
theorem en_no_len : typeLookup (.type "enumerate") "__len__" = pure none := by rw [typeLookup_type, builtinLookup_eq_fast]; kernel_rfl
theorem en_no_hint : typeLookup (.type "enumerate") "__length_hint__" = pure none := by rw [typeLookup_type, builtinLookup_eq_fast]; kernel_rfl
end EnL
end S_Xb
section S_Xc
namespace EnL
open PySem PySem.Spec PySem.Calls PyProof.Rows
section
variable {prog : Program} {w : World} {A : Around} {E : Value → Shared → Prop} {s : Shared}
theorem en_extend {R : Result → Shared → Prop} {S e it l : Addr} {c : Int} {items : Array Value} (hh : A.handled = none) (heS : e < S) (hiS : it < S) (hlS : l < S) (hne : e ≠ it) (hli : l ≠ it) (hle : l ≠ e) (hn : items.size ≤ sizeLine) (res : Value) (c₀ : Nat)
    (he : IsEnum s.heap e it c .none) (hit : s.heap.IsListIter it l 0) (hl : s.heap.IsList l items) (hS : s.heap.get? S = some { cls := .type "list", data := .seq #[] c₀ })
    (hR : ∀ h' tk acc k as, (∀ b o, b ≠ S → b ≠ e → b ≠ it → s.heap.get? b = some o → h'.get? b = some o) → h'.get? S = some { cls := .type "list", dict := none, data := .seq acc k, slots := #[] } → as.length = items.size → EnG c items S h' as →
      acc.toList = as.map Value.ref → R (.ok (.ret res)) { s with heap := h', toks := tk }) :
    wpAny (model prog w) A.in1 (Builtin.List.listExtendWith (.ref S) (.ref e) res)
      (fun fin s' => match fin with | .done f => R (.ok f) s' | .again c' => c'.quiet = true ∧ codeAny (model prog w) A c' R s') (fun e s' => R (.error e) s') s := by
  have hT : s.TypeIs (.ref e) "enumerate" := ⟨_, he, rfl⟩
  unfold Builtin.List.listExtendWith
  refine wpAny_bind (wpAny_typeOf hT ?_)
  have h1 : Builtin.List.listSameRef (.ref S) (.ref e) = false := by simp [Builtin.List.listSameRef, Nat.ne_of_gt heS]
  have h2 : (Value.type "enumerate" == Value.type "list") = false := by decide
  have h3 : (Value.type "enumerate" == Value.type "tuple") = false := by decide
  simp only [h1, h2, h3, Bool.or_false, Bool.false_eq_true, if_false]
  refine wpAny_bind (wpAny_pyIter_enum he ?_)
  refine wpAny_bind (wpAny_holding ?_)
  unfold Builtin.List.listLengthHint
  refine wpAny_bind (wpAny_specialOf hT en_no_len ?_)
  show wpAny _ A.in1 (specialOf (Value.ref e) (Str.ofString "__length_hint__") >>= _) _ _ _
  refine wpAny_bind (wpAny_specialOf hT en_no_hint ?_)
  refine wpAny_pure ?_
  show wpAny _ A.in1 (rule "list.extend.makes-room" >>= fun _ => Builtin.List.listTouch (.ref S) >>= fun _ =>
    again (.builtin "list.extend.loop" ⟨[.ref S, .ref e, res], []⟩)) _ _ _
  refine wpAny_bind (wpAny_rule ?_)
  refine wpAny_bind ?_
  show wpAny _ A.in1 (updateSeq S (·.push .none) >>= fun _ => updateSeq S (·.pop)) _ _ _
  refine wpAny_bind (wpAny_updateSeq hS rfl ?_)
  have hS₂ := Heap.get?_update_self (Obj.mapSeq (·.push Value.none)) hS rfl
  refine wpAny_updateSeq (hz := by seq_fits) hS₂ rfl ?_
  have hS₃ := Heap.get?_update_self (Obj.mapSeq (·.pop)) hS₂ rfl
  have oth : ∀ b o, b ≠ S → s.heap.get? b = some o → ((s.heap.update S (Obj.mapSeq (·.push Value.none))).update S (Obj.mapSeq (·.pop))).get? b = some o :=
    fun b o hb e => (Heap.get?_update_other _ _ (Ne.symm hb)).trans ((Heap.get?_update_other _ _ (Ne.symm hb)).trans e)
  refine wpAny_pure ⟨plainId_quiet PySem.F.plain_extend_loop _, en_loop (s := s) (h₁ := s.heap) hh heS hiS hlS hne hli hle hn res hR items.size 0 _ _ _ #[] [] (Nat.sub_zero _) (Nat.zero_le _) (.inl ⟨rfl, oth _ _ (Nat.ne_of_lt heS) he⟩)
    (hit.at fun o e => oth it o (Nat.ne_of_lt hiS) e) (let ⟨o, ho, r⟩ := hl; ⟨o, oth l o (Nat.ne_of_lt hlS) ho, r⟩) (fun b o hb _ _ e => oth b o hb e) hS₃ rfl rfl ⟨List.Pairwise.nil, (fun _ ha => nomatch ha), (fun j a hj => by simp at hj)⟩⟩
theorem en_init {R : Result → Shared → Prop} {S e it l : Addr} {c : Int} {items : Array Value} (hh : A.handled = none) (heS : e < S) (hiS : it < S) (hlS : l < S) (hne : e ≠ it) (hli : l ≠ it) (hle : l ≠ e) (hn : items.size ≤ sizeLine)
    (he : IsEnum s.heap e it c .none) (hit : s.heap.IsListIter it l 0) (hl : s.heap.IsList l items) (hS : s.heap.get? S = some { cls := .type "list", data := .seq #[] })
    (hR : ∀ h' tk acc k as, (∀ b o, b ≠ S → b ≠ e → b ≠ it → s.heap.get? b = some o → h'.get? b = some o) → h'.get? S = some { cls := .type "list", dict := none, data := .seq acc k, slots := #[] } → as.length = items.size → EnG c items S h' as →
      acc.toList = as.map Value.ref → R (.ok (.ret .none)) { s with heap := h', toks := tk }) :
    wpAny (model prog w) A.in1 (Builtin.«list.__init__» ⟨[.ref S, .ref e], []⟩)
      (fun fin s' => match fin with | .done f => R (.ok f) s' | .again c' => c'.quiet = true ∧ codeAny (model prog w) A c' R s') (fun e s' => R (.error e) s') s := by
  show wpAny _ _ (do let old ← Builtin.List.listItems (.ref S); Builtin.List.listUpdate (.ref S) (fun _ => #[]); letGo old.toList.reverse; Builtin.List.listExtendWith (.ref S) (.ref e) .none) _ _ s
  refine wpAny_bind ?_
  unfold Builtin.List.listItems
  refine wpAny_bind (wpAny_seqItems hS rfl (wpAny_pure ?_))
  show wpAny _ _ (updateSeq S (fun _ => #[]) >>= fun _ => letGo (#[] : Array Value).toList.reverse >>= fun _ => Builtin.List.listExtendWith (.ref S) (.ref e) .none) _ _ s
  refine wpAny_bind (wpAny_updateSeq hS rfl ?_)
  have hS₂ := Heap.get?_update_self (Obj.mapSeq (fun _ => (#[] : Array Value))) hS rfl
  have oth : ∀ b o, b ≠ S → s.heap.get? b = some o → (s.heap.update S (Obj.mapSeq (fun _ => (#[] : Array Value)))).get? b = some o :=
    fun b o hb e => (Heap.get?_update_other _ _ (Ne.symm hb)).trans e
  refine wpAny_bind (wpAny_letGo ?_)
  refine en_extend (c := c) hh heS hiS hlS hne hli hle hn .none _ (oth _ _ (Nat.ne_of_lt heS) he) (hit.at fun o e => oth it o (Nat.ne_of_lt hiS) e) (let ⟨o, ho, r⟩ := hl; ⟨o, oth l o (Nat.ne_of_lt hlS) ho, r⟩) hS₂ fun h' tk acc k as hk hS' hl' hG hacc => ?_
  exact hR h' tk acc k as (fun b o hb h2 h3 e => hk b o hb h2 h3 (oth b o hb e)) hS' hl' hG hacc
theorem en_call {Q : Value → Shared → Prop} {e it l : Addr} {c : Int} {items : Array Value} (hh : A.handled = none) (hne : e ≠ it) (hli : l ≠ it) (hle : l ≠ e) (hn : items.size ≤ sizeLine)
    (he : IsEnum s.heap e it c .none) (hit : s.heap.IsListIter it l 0) (hl : s.heap.IsList l items)
    (hQ : ∀ h' tk acc k as, (∀ b o, b ≠ e → b ≠ it → s.heap.get? b = some o → h'.get? b = some o) → h'.get? s.heap.objs.size = some { cls := .type "list", dict := none, data := .seq acc k, slots := #[] } → as.length = items.size → EnG c items s.heap.objs.size h' as →
      acc.toList = as.map Value.ref → Q (.ref s.heap.objs.size) { s with heap := h', toks := tk }) :
    wpAny (model prog w) A (call (.type "list") [.ref e]) Q E s := by
  refine callType_codes (Q₁ := fun obj s₁ => obj = .ref s.heap.objs.size ∧ s₁ = { s with heap := s.heap.push { cls := .type "list", data := .seq #[] } }) PySem.F.called_list (PySem.F.typeCall_list_1 _) PySem.F.entry_list_init
    (code_list_new _ ⟨rfl, rfl⟩) fun obj s₁ h₁ => ?_
  obtain ⟨rfl, rfl⟩ := h₁
  have hS : (s.heap.push { cls := .type "list", data := .seq #[] }).get? s.heap.objs.size = some { cls := .type "list", data := .seq #[] } := Heap.get?_push_size _ rfl
  have le : e < s.heap.objs.size := Heap.lt_size he
  have li : it < s.heap.objs.size := let ⟨_, ho, _⟩ := hit; Heap.lt_size ho
  have ll : l < s.heap.objs.size := let ⟨_, ho, _⟩ := hl; Heap.lt_size ho
  refine ⟨⟨_, hS, rfl⟩, PySem.F.args_list_init_2 _ _, en_init (c := c) (A := A.in1) hh le li ll hne hli hle hn (Heap.get?_push_of_some _ he) (hit.at fun o e => Heap.get?_push_of_some _ e) (let ⟨o, ho, r⟩ := hl; ⟨o, Heap.get?_push_of_some _ ho, r⟩) hS (fun h' tk acc k as hk hS' hl' hG hacc => ?_)⟩
  exact ⟨rfl, hQ h' tk acc k as (fun b o h2 h3 e => hk b o (Nat.ne_of_lt (Heap.lt_size e)) h2 h3 (Heap.get?_push_of_some _ e)) hS' hl' hG hacc⟩
end
end EnL
end S_Xc
section S_Xd
namespace EnL
open PySem PySem.Spec PyProof.Rows L2 LiI
theorem laidS {X : Cx} {pins : List (Addr × Obj)} {σ : L2.St} {H : Hp} {s : Shared} {h' : Heap} {tk : Nat} {kvs : List (L2.Key × V)} {acc : Array Value} {c S : Nat} {as : List Addr} (I : Inv X pins σ H s) (hz : kvs.length ≤ sizeLine) (hS0 : s.heap.objs.size ≤ S)
    (hk : ∀ b o, s.heap.get? b = some o → h'.get? b = some o) (hS : h'.get? S = some { cls := .type "list", dict := none, data := .seq acc c, slots := #[] }) (hl : as.length = kvs.length) (rise : as.Pairwise (· < ·)) (above : ∀ a ∈ as, S < a)
    (hG : ∀ (j : Nat) (a : Addr), as[j]? = some a → ∃ pk key x, kvs[j]? = some pk ∧ RelV (kV pk.1) key ∧ RelV pk.2 x ∧ h'.get? a = some { cls := .type "tuple", data := .seq #[key, x] }) (hacc : acc.toList = as.map Value.ref) :
    ∃ H' : Hp, (∀ b o, H b = some o → H' b = some o) ∧ H S = none ∧ (∀ t ∈ as, H t = none) ∧ S ∉ as ∧ H' S = some (.lst (as.map V.ref)) ∧ Paired (fun (t : Addr) (q : L2.Key × V) => H' t = some (.tup [kV q.1, q.2])) as kvs ∧ Inv X pins σ H' { s with heap := h', toks := tk } := by
  have hSn : S ∉ as := fun z => Nat.lt_irrefl _ (above _ z)
  have nd : as.Nodup := List.Pairwise.imp (fun {a b} (h : a < b) => Nat.ne_of_lt h) rise
  have new : ∀ t ∈ as, H t = none := fun t ht => I.hok.fresh (Nat.le_trans hS0 (Nat.le_of_lt (above t ht)))
  have newS : H S = none := I.hok.fresh hS0
  have atP := putT_at as kvs (upd H S (.lst (as.map V.ref))) hl nd
  have off : ∀ b, b ∉ as → b ≠ S → putT (upd H S (.lst (as.map V.ref))) as kvs b = H b := fun b h1 h2 => by rw [putT_off as kvs _ h1, upd_ne h2]
  have low : ∀ b o, s.heap.get? b = some o → b ∉ as ∧ b ≠ S := fun b o e => ⟨fun z => absurd (Heap.lt_size e) (Nat.not_lt.mpr (Nat.le_trans hS0 (Nat.le_of_lt (above b z)))), Nat.ne_of_lt (Nat.lt_of_lt_of_le (Heap.lt_size e) hS0)⟩
  have kp : ∀ b u, H b = some u → (putT (upd H S (.lst (as.map V.ref))) as kvs) b = some u := fun b u e => by
    rw [off b (fun z => by rw [new b z] at e; cases e) (fun z => by rw [z, newS] at e; cases e)]
    exact e
  have eS : putT (upd H S (.lst (as.map V.ref))) as kvs S = some (.lst (as.map V.ref)) := by rw [putT_off as kvs _ hSn, upd_same]
  refine ⟨putT (upd H S (.lst (as.map V.ref))) as kvs, kp, newS, new, hSn, eS, atP, ?_⟩
  refine I.call' (ch := []) rfl ⟨fun b o q _ _ _ => hk b o q, fun b o q _ _ _ => ⟨o.slots, hk b o q⟩, fun b o q n _ => ?_, fun b o q _ => ⟨o, hk b o q⟩, fun b xs q => kp b _ q, fun b o u q => kp b _ q, fun b ps q => ⟨#[], by rw [kp b _ q]; simp⟩⟩ (fun b u q => ?_) I.bare fun b z => by simp at z
  · obtain ⟨z1, z2⟩ := low b o q
    rw [off b z1 z2]
    exact n
  · by_cases hb : b ∈ as
    · obtain ⟨j, pk, e1, e2, e3⟩ := paired_ix atP hb
      rw [e3] at q
      cases q
      obtain ⟨pk', key, x, f1, f2, f4, f3⟩ := hG j b e1
      rw [f1] at e2
      cases e2
      exact ⟨by show 2 ≤ sizeLine; decide, [key, x], .cons f2 (.cons f4 .nil), ⟨_, f3, rfl, _, rfl⟩⟩
    · by_cases hb2 : b = S
      · rw [hb2] at q ⊢
        rw [eS] at q
        cases q
        refine ⟨by rw [List.length_map]; omega, acc.toList, c, by rw [hacc]; exact LiI.vals_refs as, ?_⟩
        rw [Array.toArray_toList]
        exact hS
      · rw [off b hb hb2] at q
        exact (I.hok b u q).stay (fun d v _ y => hk d v y) (fun d y => kp d _ y) fun d xs y => kp d _ y
/-- the items with their numbers from c on -/
def enK (c : Int) (xs : List V) : List (L2.Key × V) := (List.range xs.length).map fun i => (Sum.inl (c + (i : Nat)), xs.getD i .non)
def tListEn (K : PySem.W.Frag) (ta tk : TA) : TE := fun σ H Q => ta σ H fun vs H1 => tk σ H1 fun zs H2 => ∃ (a : Addr) (xs : List V) (c : Int), vs = [.ref a] ∧ zs = [.int c] ∧ -1000000 ≤ c ∧ c ≤ 1000000 ∧ SqL K H2 a xs ∧
  ∀ (H' : Hp) (p : Addr) (ts : List Addr), (∀ b o, H2 b = some o → H' b = some o) → H2 p = none → H' p = some (.lst (ts.map V.ref)) → Paired (fun (t : Addr) (q : L2.Key × V) => H' t = some (.tup [kV q.1, q.2])) ts (enK c xs) → Q (.ref p) H'
section
variable {X : Cx} {e : Expr} {ta tk : TA} {p p2 pos pos2 : Pos} {kws : List Keyword}
theorem pe_listEn (hc : X.calm = true) (ha : PA X [e] ta) (hk : PK X kws tk) (hg : Gl X "list") (hm : X.mg "list" = none) (hv : bootBuiltins "list" = some (.type "list")) (hg2 : Gl X "enumerate") (hm2 : X.mg "enumerate" = none)
    (hks : (backToKw pos2 (keywordEach kws X.env)).filterMap (·.1) = [Str.ofString "start"] := by rfl)
    (he : backTo pos2 (starEach [e] X.env) = (false, eval e X.env) :: backTo pos2 (starEach [] X.env) := by rfl) (hpl : (backTo pos2 (starEach [e] X.env)).any (·.1) = false := by rfl)
    (hall : (backToKw pos2 (keywordEach kws X.env)).all (·.1.isSome) = true := by rfl) (hnone : (backToKw pos2 (keywordEach kws X.env)).any (·.1.isNone) = false := by rfl)
    (hs : starEach [.Call (.Name "enumerate" p2) [e] kws pos2] X.env = (false, eval (.Call (.Name "enumerate" p2) [e] kws pos2) X.env) :: starEach [] X.env := by rfl) :
    PE X (.Call (.Name "list" p) [.Call (.Name "enumerate" p2) [e] kws pos2] [] pos) (tListEn X.K ta tk) := by
  refine ⟨fun pins s σ H Q I hq => ?_⟩
  refine wpAny_Call_Name_kw (ld_blt I hg hm hv ?_)
  refine PyProof.Rows.callWith_type1 ?_ hs rfl
  rw [hs]
  show wpAny _ _ (spliced ((false, eval (.Call (.Name "enumerate" p2) [e] kws pos2) X.env) :: backTo pos (starEach [] X.env))) _ _ s
  refine Calls.spliced_cons ?_
  refine wpAny_Call_Name_kw (ld_blt I hg2 hm2 boot_enumerate ?_)
  refine callWith_typeKw (thn (ha.run pos2 pins s σ H _ I hq) fun us s1 ⟨vs, H1, I1, r1, q1⟩ => thn (hk.run pos2 pins s1 σ H1 _ I1 q1) fun ws s2 ⟨zs, H2, I2, r2, q2⟩ => ?_) he hpl hall hnone
  rw [hks]
  obtain ⟨a, xs, c, rfl, rfl, c0, c1, hq', q⟩ := q2
  obtain rfl := Vals.ref1 r1
  obtain ⟨w1, rfl, t1, rfl⟩ := vals1 r2
  obtain ⟨its, rv, pl, hz⟩ := I2.list hq'
  refine PySem.enum_begins_start (begins_list a its.toArray) pl.isList (by omega) (by omega) fun h1 hen hit0 hsz hk1 => ?_
  refine Calls.spliced_nil ?_
  have hit : h1.IsListIter s2.heap.objs.size a 0 := ⟨_, hit0, rfl, rfl⟩
  have pl1 : h1.IsList a its.toArray := let ⟨o, ho, r⟩ := pl.isList; ⟨o, hk1 a o ho, r⟩
  have la : a < s2.heap.objs.size := let ⟨o, ho, _⟩ := pl.isList; Heap.lt_size ho
  refine en_call (s := { s2 with heap := h1 }) (c := c) (I2.ok.hd hc) (Nat.succ_ne_self _) (Nat.ne_of_lt la) (Nat.ne_of_lt (Nat.lt_succ_of_lt la)) (by rw [List.size_toArray, ← rv.length]; exact hz) hen hit pl1 fun h' tk' acc k as hkp hS' hl' hG hacc => ?_
  have hlen : as.length = (enK c xs).length := by
    rw [hl', List.size_toArray, ← rv.length]
    unfold enK
    rw [List.length_map, List.length_range]
  obtain ⟨H', k1, k2, k3, k4, k5, k6, J⟩ := laidS (X := X) (tk := tk') (kvs := enK c xs) (S := h1.objs.size) (as := as) I2 (by rw [← hlen, hl', List.size_toArray, ← rv.length]; exact hz) (by rw [hsz]; exact Nat.le_add_right _ _)
    (fun b o e => hkp b o (Nat.ne_of_lt (Nat.lt_succ_of_lt (Heap.lt_size e))) (Nat.ne_of_lt (Heap.lt_size e)) (hk1 b o e)) hS' hlen hG.rise hG.above (fun j b hj => by
      obtain ⟨t, x, e1, e2⟩ := hG.pairs j b hj
      have e1 : its[j]? = some x := by simpa using e1
      have hjn : j < xs.length := by
        have := (List.getElem?_eq_some_iff.mp e1).1
        rw [rv.length]
        exact this
      obtain ⟨u, hu, ru⟩ := rv.get (List.getElem?_eq_getElem hjn)
      rw [e1] at hu
      cases hu
      refine ⟨(Sum.inl (c + (j : Nat)), xs[j]), _, _, ?_, ⟨t, rfl⟩, ru, e2⟩
      unfold enK
      rw [List.getElem?_map, List.getElem?_range hjn, Option.map_some, List.getD_eq_getElem?_getD, List.getElem?_eq_getElem hjn]
      rfl) hacc
  exact ⟨.ref _, H', J, rfl, q H' _ as k1 k2 k5 k6⟩
end
end EnL
end S_Xd
section S_Xe
namespace EnL
open PySem PySem.Spec PyProof.Rows L2 Tl
/-- the tuple at a as it stands at each turn, each item in a new pair with its number, c the first -/
def IteS (K : PySem.W.Frag) (a : Addr) (c : Int) : It :=
  ⟨fun i H => ∃ (xs : List V) (x : V), SqT K H a xs ∧ xs[i]? = some x, fun i H v H' => ∃ T x, v = .ref T ∧ H T = none ∧ H' = upd H T (.tup [.int (c + (i : Nat)), x]) ∧ ∀ xs, SqT K H a xs → xs[i]? = some x, fun i H => ∃ xs : List V, SqT K H a xs ∧ xs.length ≤ i⟩
abbrev EnS (a e it : Addr) (c : Int) (i : Nat) (h : Heap) : Prop := (∃ old, IsEnum h e it (c + (i : Nat)) old) ∧ h.IsTupleIter it a i ∧ e ≠ it
theorem turn_enumS {P : Program} {w : World} {K : PySem.W.Frag} {elts : List Expr} {kk : Nat} {tpos : Pos} (a e it : Addr) (c : Int) : Turn P w K (.Tuple elts kk tpos) (IteS K a c) [e, it] e (EnS a e it c) where
  mem := List.mem_cons_self
  obj := fun i h st b hb => by
    obtain ⟨⟨old, he⟩, ⟨o, ho, hc, hd⟩, _⟩ := st
    rcases List.mem_cons.mp hb with z | z
    · rw [z]; exact ⟨_, he, fun v q => nomatch q⟩
    · rw [List.mem_singleton.mp z]; exact ⟨o, ho, fun v q => by rw [hd] at q; cases q⟩
  keep := fun i h h' st k => ⟨st.1.imp fun old he => k e (by simp) _ he, st.2.1.at fun o q => k it (by simp) o q, st.2.2⟩
  item := by
    intro X hP hw hK hc i pins s σ H E I hf st hg
    subst hP hw hK
    obtain ⟨⟨old, he⟩, hit, hne⟩ := st
    obtain ⟨xs, x, hq, hx⟩ := hg
    obtain ⟨its, rv, p, hz⟩ := I.tuple hq
    obtain ⟨u, hu, ru⟩ := rv.get hx
    have hai : a ≠ it := tup_ne p hit
    have hae : a ≠ e := tup_ne2 p he
    have le : e < s.heap.objs.size := Heap.lt_size he
    have li : it < s.heap.objs.size := by obtain ⟨_, q, _⟩ := hit; exact Heap.lt_size q
    have isz : i < its.toArray.size := by simpa using (List.getElem?_eq_some_iff.mp hu).1
    refine wpAny_pyNext_enum_itemC (Draws.tuple (show X.A.in1.handled = none from I.ok.hd hc) it a hai its.toArray) he ⟨hit, p⟩ isz hne (by simp [hne, Ne.symm hae]) fun y g tk hy ho hst hT hsz hk => ?_
    have ey : y = u := by
      rw [show its.toArray[i]? = its[i]? by simp, hu] at hy
      exact (Option.some.inj hy).symm
    subst ey
    refine ⟨_, rfl, wpAny_letOwnedTupleGo_enum (s := { s with heap := g, toks := tk + 1 }) ho fun g2 he' sb => ?_⟩
    have at2 : g2.get? s.heap.objs.size = some { cls := .type "tuple", data := .seq #[.int (c + (i : Nat)) tk, y] } := (sb.2 _ (Nat.ne_of_gt le)).trans hT
    have new : ObjOk X.prog X.w (upd H s.heap.objs.size (.tup [.int (c + (i : Nat)), x])) g2 s.heap.objs.size (.tup [.int (c + (i : Nat)), x]) :=
      ⟨by show 2 ≤ sizeLine; decide, [.int (c + (i : Nat)) tk, y], .cons ⟨_, rfl⟩ (.cons ru .nil), ⟨_, at2, rfl, _, rfl⟩⟩
    have old2 : ∀ b ob, b ∉ [e, it] → s.heap.get? b = some ob → g2.get? b = some ob := fun b ob hb q =>
      (sb.2 b fun z => hb (by simp [z])).trans (hk b ob (fun z => hb (by simp [z])) (fun z => hb (by simp [z])) q)
    have I1 : Inv X pins σ (upd H s.heap.objs.size (.tup [.int (c + (i : Nat)), x])) { s with heap := g2, toks := tk + 1 } := I.turnedNew (ch := [e, it]) old2 hf (Nat.le_refl _) new
    refine ⟨.ref s.heap.objs.size, _, I1, rfl, ⟨_, x, rfl, I.hok.fresh (Nat.le_refl _), rfl, fun ys hy => by rw [I.tuple_inj hy hq]; exact hx⟩, ⟨⟨y, ?_⟩, hst.1.at fun o q => (sb.2 it (Ne.symm hne)).trans q, hne⟩, fun b hb => ?_⟩
    · show IsEnum g2 e it (c + ((i + 1 : Nat) : Int)) y
      rw [show c + ((i + 1 : Nat) : Int) = c + (i : Int) + 1 by omega]
      exact he'
    · have lb : b < s.heap.objs.size := by
        rcases List.mem_cons.mp hb with z | z
        · rw [z]; exact le
        · rw [List.mem_singleton.mp z]; exact li
      rw [upd_ne (Nat.ne_of_lt lb)]
      exact (hf b hb).1
  done := by
    intro X hP hw hK hc i pins s σ H E I hf st hg
    subst hP hw hK
    obtain ⟨⟨old, he⟩, hit, hne⟩ := st
    obtain ⟨xs, hq, hx⟩ := hg
    obtain ⟨its, rv, p, hz⟩ := I.tuple hq
    obtain ⟨f0, f1, f2, f3, f4, f5⟩ := hf it (by simp)
    have hn := rv.length
    have hai : a ≠ it := tup_ne p hit
    have D : Draws X.prog X.w X.A.in1 it [it, a] i (fun _ _ => False) (fun j h => h.IsTupleIter it a j ∧ h.IsTuple a its.toArray ∧ j = i) :=
      { live := fun _ _ st => let ⟨o, ho, _⟩ := st.1; ⟨o, ho⟩
        frame := fun _ _ _ st hk => ⟨st.1.at fun o e => hk it (by simp) o e, st.2.1.at fun o e => hk a (by simp) o e, st.2.2⟩
        item := fun j s Q E hj st _ => absurd st.2.2 (Nat.ne_of_lt hj)
        done := fun s Q E st hE => RZ.nextOf_tuple_end (show X.A.in1.handled = none from I.ok.hd hc) st.1 st.2.1 (by simp; omega) hE }
    exact wpAny_pyNext_enum_endD D he ⟨hit, p, rfl⟩ fun g eb => ⟨rfl, I.turned (t' := s.toks) (fun b o hb q => eb b o hb q) f0 f1 f3 f4 f5⟩
  self := fun A i s Q E st h => let ⟨⟨_, he⟩, _⟩ := st; wpAny_pyIter_enum he h
def iEnumS (K : PySem.W.Frag) (ta tk : TA) : TI := fun σ H R => ta σ H fun vs H1 => tk σ H1 fun zs H2 => ∃ a xs c, vs = [.ref a] ∧ zs = [.int c] ∧ -1000000 ≤ c ∧ c ≤ 1000000 ∧ SqT K H2 a xs ∧ R (IteS K a c) H2
theorem pi_enumS {X : Cx} {e : Expr} {ta tk : TA} {p pos tpos : Pos} {elts : List Expr} {kk : Nat} {kws : List Keyword} (hg : Gl X "enumerate") (hm : X.mg "enumerate" = none) (ha : PA X [e] ta) (hk : PK X kws tk)
    (hks : (backToKw pos (keywordEach kws X.env)).filterMap (·.1) = [Str.ofString "start"] := by rfl)
    (he : backTo pos (starEach [e] X.env) = (false, eval e X.env) :: backTo pos (starEach [] X.env) := by rfl) (hpl : (backTo pos (starEach [e] X.env)).any (·.1) = false := by rfl)
    (hall : (backToKw pos (keywordEach kws X.env)).all (·.1.isSome) = true := by rfl) (hnone : (backToKw pos (keywordEach kws X.env)).any (·.1.isNone) = false := by rfl) :
    PI X (.Tuple elts kk tpos) (.Call (.Name "enumerate" p) [e] kws pos) (iEnumS X.K ta tk) := by
  refine ⟨fun pins s σ H R I h => ?_⟩
  refine wpAny_Call_Name_kw (ld_blt I hg hm boot_enumerate ?_)
  refine callWith_typeKw (thn (ha.run pos pins s σ H _ I h) fun us s1 ⟨vs, H1, I1, r1, q1⟩ => thn (hk.run pos pins s1 σ H1 _ I1 q1) fun ws s2 ⟨zs, H2, I2, r2, q2⟩ => ?_) he hpl hall hnone
  rw [hks]
  obtain ⟨a, xs, c, rfl, rfl, c0, c1, hq, q⟩ := q2
  obtain rfl := Vals.ref1 r1
  obtain ⟨w1, rfl, t1, rfl⟩ := vals1 r2
  obtain ⟨its, rv, p', hz⟩ := I2.tuple hq
  refine PySem.enum_begins_start (begins_tuple a its.toArray) p' (by omega) (by omega) fun g he hit hsz hk => wpAny_pyIter_enum he ?_
  have e0 : c + ((0 : Nat) : Int) = c := by omega
  refine ⟨s2.heap.objs.size + 1, [s2.heap.objs.size + 1, s2.heap.objs.size], _, _, H2, rfl, I2.kept (t' := s2.toks) hk, turn_enumS a (s2.heap.objs.size + 1) s2.heap.objs.size c, ⟨⟨.none, by rw [e0]; exact he⟩, ⟨_, hit, rfl, rfl⟩, Nat.succ_ne_self _⟩, fun b hb => ?_, q⟩
  have le : s2.heap.objs.size ≤ b := by
    rcases List.mem_cons.mp hb with z | z
    · rw [z]; exact Nat.le_add_right _ _
    · rw [List.mem_singleton.mp z]; exact Nat.le_refl _
  exact I2.fpOk le (I2.hok.fresh le)
theorem walk_enumS {K : PySem.W.Frag} {a : Addr} {c : Int} {xs : List V} : Walk (IteS K a c) xs.length (fun H => SqT K H a xs) (YPair (fun i => some (.int (c + (i : Nat)))) (fun i => xs[i]?)) := by
  refine ⟨fun i _ hi q => ⟨xs, xs[i], q, by simp [hi]⟩, fun _ q => ⟨xs, q, Nat.le_refl _⟩, fun i H v H' _ q y => ?_⟩
  obtain ⟨T, x, h1, h2, h3, h4⟩ := y
  exact ⟨T, .int (c + (i : Nat)), x, h1, h2, h3, rfl, h4 xs q⟩
theorem ei_enumS {K : PySem.W.Frag} {σ : L2.St} {H : Hp} {a : Addr} {xs : List V} {ta tk : TA} {c : Int} (h : Evl.EvA ta σ H [.ref a]) (h2 : Evl.EvA tk σ H [.int c]) (hx : SqT K H a xs) (c0 : -1000000 ≤ c) (c1 : c ≤ 1000000) : EvI (iEnumS K ta tk) σ H xs.length (YPair (fun i => some (.int (c + (i : Nat)))) (fun i => xs[i]?)) := fun H1 e R k =>
  h H1 e _ fun H2 e2 => h2 H2 (e.trans e2) _ fun H3 e3 => ⟨a, xs, c, rfl, rfl, c0, c1, Evl.ex_t ((e.trans e2).trans e3) hx, k _ _ H3 (e2.trans e3) walk_enumS fun A ab _ => Evl.ex_t ab hx⟩
theorem aims_enumS {K : PySem.W.Frag} {xs : List V} {j1 j2 : Nat} {c : Int} : Aims (gTup K 2 (gCons (gName j1) (gCons (gName j2) gNil))) xs.length (YPair (fun i => some (.int (c + (i : Nat)))) (fun i => xs[i]?))
    (fun i σ => (σ.set j1 (some (.int (c + (i : Nat))))).set j2 (some (xs.getD i .non))) := fun i σ H v H' hi y => by
  obtain ⟨T, x, y, rfl, hT, rfl, h1, h2⟩ := y
  cases h1
  have h3 : xs[i]? = some y := h2
  obtain rfl : xs.getD i .non = y := by rw [List.getD_eq_getElem?_getD, h3]; rfl
  exact ⟨Evl.Ex.new hT, fun Q q => ⟨T, _, rfl, Evl.st_of upd_same, rfl, _, _, rfl, _, _, rfl, rfl, q⟩⟩
/-! ### a call by keywords alone, which may raise -/
def tCallSN (m : Nat) (sp : Sp) (gV : List V → List V → List V) (E : L2.St → XK) (tk : TA) : TE := fun σ H Q => tk σ H fun zs H2 => zs.length = m ∧ sp (gV [] zs) H2 Q (E σ)
theorem run_fnSN {X : Cx} {CX : CXT} {k n : Nat} {f : Addr} {fd : FuncData} {ps ks : List Str} {sp : Sp} {E : L2.St → XK} {g : List Value → List Value → List Value} {gV : List V → List V → List V} {pins : List (Addr × Obj)} {σ : L2.St} {H : Hp} {s : Shared} {Q : VK} {us ws : List Value} {vs zs : List V} (F : FnOk X.prog X.w X.K X.mg X.base CX k f fd ps sp) (hr : Room k X.A) (hb : KBn X.K fd ps n ks g gV) (hx : PassesAt CX X σ (E σ))
    (I : Inv X pins σ H s) (r : Vals vs us) (rz : Vals zs ws) (l1 : vs.length = n) (l2 : zs.length = ks.length) (h : sp (gV vs zs) H Q (E σ)) : wpAny (model X.prog X.w) X.A (call (.ref f) us (ks.zip ws)) (EP X pins σ Q) X.xe s := by
  have r2 := hb.rel r rz
  refine wpAny_call (codeAny_mono (F.run X.A X.stack s H ⟨us, ks.zip ws⟩ (g us ws) (gV vs zs) Q (E σ) hr I.env0 (hb.to s us ws I.kIn (r.length.symm.trans l1) (rz.length.symm.trans l2)) r2 h) fun r s' hq => ?_)
  cases r with
  | error e => exact hx pins H s e s' I hq
  | ok fl =>
    cases fl with
    | ret u => exact I.after hq
    | next => exact False.elim hq
    | brk => exact False.elim hq
    | cont => exact False.elim hq
theorem pe_callSN {X : Cx} {CX : CXT} {k : Nat} {f : Addr} {fd : FuncData} {ps ks : List Str} {sp : Sp} {E : L2.St → XK} {x : Str} {p pos : Pos} {kws : List Keyword} {tk : TA} {g : List Value → List Value → List Value} {gV : List V → List V → List V}
    (F : FnOk X.prog X.w X.K X.mg X.base CX k f fd ps sp) (hr : Room k X.A) (hg : Gl X x) (hm : X.mg x = some (.ref f)) (hk : PySem.W.keepIn X.K (.ref f) = true) (hb : KBn X.K fd ps 0 ks g gV) (hx : ∀ σ, PassesAt CX X σ (E σ))
    (hkw : PK X kws tk) (hall : (backToKw pos (keywordEach kws X.env)).all (·.1.isSome) = true := by rfl) (hks : (backToKw pos (keywordEach kws X.env)).filterMap (·.1) = ks := by rfl) (hdb : (x == ("__debug__" : Str)) = false := by decide)
    (hpl : ((backTo pos (starEach [] X.env)).any (·.1) || (backToKw pos (keywordEach kws X.env)).any (·.1.isNone)) = false := by rfl) :
    PE X (.Call (.Name x p) [] kws pos) (tCallSN ks.length sp gV E tk) := by
  constructor
  intro pins s σ H Q I h
  refine wpAny_Call_Name_kw (ld_glob I hg hm (PySem.W.callWith_KW0 (h₀ := X.base) I.ok.mod.kin hk hall (thn (hkw.run pos pins s σ H _ I h) fun ws s2 hv => ?_) hpl) hdb)
  obtain ⟨zs, H2, I2, rz, l2, q2⟩ := hv
  refine ⟨I2.kIn, ?_⟩
  rw [hks]
  exact run_fnSN (us := []) (vs := []) F hr hb (hx σ) I2 .nil rz rfl l2 q2
/-! ### str of an instance that has its own -/
def rStrIns (C : Addr) (sp : Sp) (E : XK) : List V → Hp → VK → Prop := fun xs H Q => ∃ (a : Addr) (dx : Addr) (fs : List (Str × V)), xs = [.ref a] ∧ H a = some (.ins C dx fs) ∧ sp [.ref a] H (fun v H' => (∃ z, v = .str z) ∧ Q v H') E
theorem call_strIns {X : Cx} {CX : CXT} {k : Nat} {C f : Addr} {fd : FuncData} {ps : List Str} {sp : Sp} {E : XK} (F : FnOk X.prog X.w X.K X.mg X.base CX k f fd ps sp) (hr : Room (k + 2) X.A)
    (hs : PySem.W.findIn X.K (.ref C) "__str__" = some (some (.ref f))) (hf : PySem.W.isFn X.K (.ref f) = true) (hb : Binds X.K fd ps []) (hx : Passes CX X E) : CallR X (.type "str") (rStrIns C sp E) := by
  intro pins s σ H xs us Q I r h
  obtain ⟨a, dx, fs, rfl, ha, hsp⟩ := h
  obtain rfl := Vals.ref1 r
  obtain ⟨mA, J, _⟩ := ins_get I.hok ha
  obtain ⟨od, J, _⟩ := J.look
  refine PySem.W.kso_call (A := X.A) (by have := hr.un; show X.A.units + 1 + 1 < _; omega) I.kIn J hs hf ?_
  have e0 : Env0 X.prog X.w X.K X.mg X.base X.A.in1.in1 X.stack s H := by
    have e := I.env0
    exact ⟨e.frames, e.mod, e.bs, e.bsz, e.funs, e.frf, e.hok, e.bare⟩
  have hl := F.len _ _ _ _ hsp
  have r2 : Vals [V.ref a] [Value.ref a] := .cons rfl .nil
  refine wpAny_call (codeAny_mono (F.run X.A.in1.in1 X.stack s H ⟨[.ref a], []⟩ [.ref a] [.ref a] _ E (Room.in1 (Room.in1 hr)) e0 (by
    have := hb s [.ref a] I.kIn (by simpa using hl)
    simpa using this) r2 hsp) fun r s' hq => ?_)
  cases r with
  | error e => exact hx pins σ H s e s' I hq
  | ok fl =>
    cases fl with
    | ret w =>
      obtain ⟨z, H', I', rz, ⟨x, ez⟩, q⟩ := I.after hq
      subst ez
      obtain ⟨t, rfl⟩ := rz
      exact ⟨.str x, H', I', ⟨t, rfl⟩, q⟩
    | next => exact False.elim hq
    | brk => exact False.elim hq
    | cont => exact False.elim hq
end EnL
end S_Xe
section S_Ndb
namespace P38
open PySem PySem.Spec PyProof.Rows L2 Tl Hk RZ EnL LamX
/-! ### a drawn tree of bags -/
def rngI (f m : Nat) : List Int := (List.range m).map fun i : Nat => ((f + i : Nat) : Int)
theorem rngI_mem {f m : Nat} {x : Int} : x ∈ rngI f m ↔ (f : Int) ≤ x ∧ x < ((f + m : Nat) : Int) := by
  unfold rngI
  rw [List.mem_map]
  constructor
  · rintro ⟨i, hi, rfl⟩
    have := List.mem_range.mp hi
    omega
  · rintro ⟨h1, h2⟩
    exact ⟨(x - f).toNat, List.mem_range.mpr (by omega), by omega⟩
theorem rngI_nd (f m : Nat) : (rngI f m).Nodup := by
  refine List.Pairwise.map _ (R := (· < ·)) (fun a b h => ?_) List.pairwise_lt_range
  omega
/-- a raw tree: the first bag on top, each other below an earlier one -/
structure Wd (B : List (List Int)) (U : List (Option Nat)) (fresh : Nat) : Prop where
  len : U.length = B.length
  pos : 1 ≤ B.length
  top : U[0]? = some none
  up : ∀ (i j : Nat), U[i]? = some (some j) → j < i
  one : ∀ i : Nat, U[i]? = some none → i = 0
  nd : ∀ ns ∈ B, ns.Nodup
  rng : ∀ ns ∈ B, ∀ k ∈ ns, (0 : Int) ≤ k ∧ k < (fresh : Int)
  fr : (freshL B U).flatten.Nodup
theorem Wd.lt {B : List (List Int)} {U : List (Option Nat)} {fresh : Nat} (w : Wd B U fresh) {i j : Nat} (h : U[i]? = some (some j)) : j < B.length := by
  have := w.up i j h
  have := (List.getElem?_eq_some_iff.mp h).1
  have := w.len
  omega
theorem wd_start (m : Nat) : Wd [rngI 0 m] [none] m := by
  refine ⟨rfl, Nat.le_refl _, rfl, fun i j h => ?_, fun i h => ?_, fun ns h => ?_, fun ns h k hk => ?_, ?_⟩
  · cases i with
    | zero => cases h
    | succ i => cases h
  · cases i with
    | zero => rfl
    | succ i => cases h
  · rw [List.mem_singleton.mp h]
    exact rngI_nd _ _
  · rw [List.mem_singleton.mp h] at hk
    have := rngI_mem.mp hk
    omega
  · show ((rngI 0 m).filter _ ++ []).Nodup
    rw [List.append_nil]
    exact List.Pairwise.filter _ (rngI_nd _ _)
theorem fresh_sub {B : List (List Int)} {U : List (Option Nat)} {p : Int} (h : p ∈ (freshL B U).flatten) : ∃ ns ∈ B, p ∈ ns := by
  obtain ⟨r, h1, h2⟩ := List.mem_flatten.mp h
  obtain ⟨i, hi, rfl⟩ := List.mem_map.mp h1
  have hi := List.mem_range.mp hi
  have h3 := (List.mem_filter.mp h2).1
  rw [List.getD_eq_getElem?_getD, List.getElem?_eq_getElem hi] at h3
  exact ⟨_, List.getElem_mem hi, h3⟩
theorem fresh_snoc {B : List (List Int)} {U : List (Option Nat)} {b : List Int} {j : Nat} (hl : U.length = B.length) (hin : ∀ (i j : Nat), U[i]? = some (some j) → j < B.length) (hj : j < B.length) : freshL (B ++ [b]) (U ++ [some j]) = freshL B U ++ [b.filter (frB B (some j))] := by
  unfold freshL
  rw [List.length_append, List.length_singleton, List.range_succ, List.map_append, List.map_singleton]
  have old : ∀ k, k < B.length → (B ++ [b]).getD k [] = B.getD k [] := fun k hk => by
    rw [List.getD_eq_getElem?_getD, List.getD_eq_getElem?_getD, List.getElem?_append_left hk]
  have frO : ∀ o : Option Nat, (∀ j, o = some j → j < B.length) → frB (B ++ [b]) o = frB B o := fun o ho => by
    cases o with
    | none => rfl
    | some j =>
      funext p
      show (!decide (p ∈ (B ++ [b]).getD j [])) = !decide (p ∈ B.getD j [])
      rw [old j (ho j rfl)]
  congr 1
  · refine List.map_congr_left fun i hi => ?_
    have hi := List.mem_range.mp hi
    unfold freshAt
    have eu : (U ++ [some j]).getD i none = U.getD i none := by rw [List.getD_eq_getElem?_getD, List.getD_eq_getElem?_getD, List.getElem?_append_left (by omega)]
    rw [old i hi, eu, frO _ fun k hk => ?_]
    rw [List.getD_eq_getElem?_getD, List.getElem?_eq_getElem (show i < U.length by omega)] at hk
    exact hin i k (by rw [List.getElem?_eq_getElem (show i < U.length by omega)]; exact congrArg some hk)
  · unfold freshAt
    have e1 : (B ++ [b]).getD B.length [] = b := by rw [List.getD_eq_getElem?_getD, List.getElem?_append_right (Nat.le_refl _), Nat.sub_self]; rfl
    have e2 : (U ++ [some j]).getD B.length none = some j := by rw [List.getD_eq_getElem?_getD, ← hl, List.getElem?_append_right (Nat.le_refl _), Nat.sub_self]; rfl
    rw [e1, e2, frO _ fun k hk => by cases hk; exact hj]
theorem wd_step {B : List (List Int)} {U : List (Option Nat)} {f m j : Nat} {kept : List Int} (w : Wd B U f) (hj : j < B.length) (hs : ∀ k ∈ kept, k ∈ B.getD j []) (hn : kept.Nodup) : Wd (B ++ [kept ++ rngI f m]) (U ++ [some j]) (f + m) := by
  have hjm : B.getD j [] ∈ B := by
    rw [List.getD_eq_getElem?_getD, List.getElem?_eq_getElem hj]
    exact List.getElem_mem hj
  have lt : ∀ k ∈ kept, (0 : Int) ≤ k ∧ k < (f : Int) := fun k hk => w.rng _ hjm k (hs k hk)
  have ndn : (kept ++ rngI f m).Nodup := List.nodup_append.mpr ⟨hn, rngI_nd _ _, fun a ha b hb e => by
    have h1 := (lt a ha).2
    have h2 := (rngI_mem.mp hb).1
    omega⟩
  have snoc : ∀ {α : Type} (l : List α) (x : α) (i : Nat) (y : α), (l ++ [x])[i]? = some y → (i < l.length ∧ l[i]? = some y) ∨ (i = l.length ∧ x = y) := fun l x i y h => by
    rcases Nat.lt_or_ge i l.length with hi | hi
    · rw [List.getElem?_append_left hi] at h
      exact .inl ⟨hi, h⟩
    · rw [List.getElem?_append_right hi] at h
      have hz := (List.getElem?_eq_some_iff.mp h).1
      rw [List.length_singleton] at hz
      have e : i = l.length := by omega
      subst e
      rw [Nat.sub_self] at h
      exact .inr ⟨rfl, by simpa using h⟩
  refine ⟨by rw [List.length_append, List.length_append, w.len]; rfl, by rw [List.length_append]; have := w.pos; omega, ?_, fun i k h => ?_, fun i h => ?_, fun ns h => ?_, fun ns h k hk => ?_, ?_⟩
  · rw [List.getElem?_append_left (by have := w.len; have := w.pos; omega)]
    exact w.top
  · rcases snoc _ _ _ _ h with ⟨h1, h2⟩ | ⟨h1, h2⟩
    · exact w.up i k h2
    · cases h2
      rw [h1, w.len]
      exact hj
  · rcases snoc _ _ _ _ h with ⟨h1, h2⟩ | ⟨h1, h2⟩
    · exact w.one i h2
    · cases h2
  · rcases List.mem_append.mp h with h | h
    · exact w.nd ns h
    · rw [List.mem_singleton.mp h]
      exact ndn
  · rcases List.mem_append.mp h with h | h
    · have := w.rng ns h k hk
      omega
    · rw [List.mem_singleton.mp h] at hk
      rcases List.mem_append.mp hk with hk | hk
      · have := lt k hk
        omega
      · have := rngI_mem.mp hk
        omega
  · rw [fresh_snoc w.len (fun i j h => w.lt h) hj, List.flatten_append, List.flatten_singleton]
    refine List.nodup_append.mpr ⟨w.fr, List.Pairwise.filter _ ndn, fun a ha b hb e => ?_⟩
    subst e
    obtain ⟨ns, h1, h2⟩ := fresh_sub ha
    have h3 := (w.rng ns h1 a h2).2
    obtain ⟨h4, h5⟩ := List.mem_filter.mp hb
    rcases List.mem_append.mp h4 with h4 | h4
    · have h5 : (!decide (a ∈ B.getD j [])) = true := h5
      rw [decide_eq_true (hs a h4)] at h5
      cases h5
    · have := (rngI_mem.mp h4).1
      omega
theorem wd_top {B : List (List Int)} {U : List (Option Nat)} {f : Nat} (w : Wd B U f) : ∀ i, i < B.length → Top U i := by
  intro i
  induction i using Nat.strongRecOn with
  | _ i ih =>
    intro hi
    have hu := List.getElem?_eq_getElem (show i < U.length by have := w.len; omega)
    cases hc : U[i]'(by have := w.len; omega) with
    | none => exact .top (by rw [hu, hc])
    | some j =>
      have h : U[i]? = some (some j) := by rw [hu, hc]
      exact .up h (ih j (w.up i j h) (w.lt h))
theorem asc_of : ∀ {ns : List Int}, ns.Pairwise (· < ·) → ascI ns = true
  | [], _ => rfl
  | [_], _ => rfl
  | a :: b :: r, h => by
    show (decide (a < b) && ascI (b :: r)) = true
    rw [asc_of (List.pairwise_cons.mp h).2, decide_eq_true ((List.pairwise_cons.mp h).1 b List.mem_cons_self)]
    rfl
theorem one_len {l : List Nat} {a : Nat} (hn : l.Nodup) (h : ∀ x, x ∈ l ↔ x = a) : l.length = 1 := by
  cases l with
  | nil => exact absurd ((h a).mpr rfl) (fun z => nomatch z)
  | cons x r =>
    cases r with
    | nil => rfl
    | cons y r =>
      have h1 := (h x).mp List.mem_cons_self
      have h2 := (h y).mp (List.mem_cons_of_mem _ List.mem_cons_self)
      have := (List.nodup_cons.mp hn).1
      rw [h1, h2] at this
      exact absurd List.mem_cons_self this
def srtI (l : List Int) : List Int := l.mergeSort (fun a b => decide (a ≤ b))
theorem srtI_perm (l : List Int) : (srtI l).Perm l := List.mergeSort_perm _ _
theorem srtI_le (l : List Int) : (srtI l).Pairwise (· ≤ ·) := by
  have := List.pairwise_mergeSort (le := fun (a b : Int) => decide (a ≤ b)) (fun a b c h1 h2 => by
    have := of_decide_eq_true h1
    have := of_decide_eq_true h2
    exact decide_eq_true (by omega)) (fun a b => by
    rw [Bool.or_eq_true, decide_eq_true_iff, decide_eq_true_iff]
    omega) l
  exact this.imp fun h => of_decide_eq_true h
theorem srtI_of {a b : List Int} (p : a.Perm b) (h : a.Pairwise (· ≤ ·)) : a = srtI b := by
  unfold srtI
  exact PySem.W.os_sorted_mergeSort p h

theorem Wd.mono {B : List (List Int)} {U : List (Option Nat)} {f g : Nat} (w : Wd B U f) (h : f ≤ g) : Wd B U g := ⟨w.len, w.pos, w.top, w.up, w.one, w.nd, fun ns hn k hk => by have := w.rng ns hn k hk; omega, w.fr⟩
def W4 (B : List (List Int)) : Prop := ∀ ns ∈ B, ns.Pairwise (· < ·) ∧ 1 ≤ ns.length ∧ ns.length ≤ 4
/-- a drawn tree is narrow -/
theorem nar_of {B : List (List Int)} {U : List (Option Nat)} {f : Nat} (w : Wd B U f) (h : W4 B) : NarOk B U := by
  refine ⟨⟨fun ns hn => asc_of (h ns hn).1, fun ns hn k hk => (w.rng ns hn k hk).1⟩, fun ns hn => (h ns hn).2, ⟨w.len, fun i j e => w.lt e, one_len (a := 0) (List.nodup_range.filter _) fun x => ?_, fun x hx => wd_top w x hx⟩, w.fr⟩
  rw [tops_mem]
  exact ⟨fun z => w.one x z.2, fun z => by subst z; exact ⟨w.pos, w.top⟩⟩
theorem rng_asc (f m : Nat) : (rngI f m).Pairwise (· < ·) := by
  refine List.Pairwise.map _ (R := (· < ·)) (fun a b h => ?_) List.pairwise_lt_range
  omega
theorem rng_len (f m : Nat) : (rngI f m).length = m := by unfold rngI; rw [List.length_map, List.length_range]
theorem rng_snoc (f m : Nat) : rngI f m ++ [((f + m : Nat) : Int)] = rngI f (m + 1) := by
  unfold rngI
  rw [List.range_succ, List.map_append]
  rfl
/-- a bag, and fresh pieces behind it: sorted it is itself -/
theorem bag_asc {ks : List Int} {f m : Nat} (h : ks.Pairwise (· < ·)) (hf : ∀ k ∈ ks, k < (f : Int)) : (ks ++ rngI f m).Pairwise (· < ·) := List.pairwise_append.mpr ⟨h, rng_asc f m, fun a ha b hb => by
  have h1 := hf a ha
  have h2 := (rngI_mem.mp hb).1
  omega⟩
theorem same_sort {l ns : List Int} (h : l.Pairwise (· < ·)) (p : ns.Perm l) (hs : ns.Pairwise (· ≤ ·)) : ns = l := by
  rw [srtI_of p hs, ← srtI_of (List.Perm.refl l) (h.imp fun z => by omega)]
section
variable {K : PySem.W.Frag} {σ : L2.St} {H : Hp}
theorem ifs_go {t : L2.TT} {tu tw tz : TS} {D : Ends} (h : t σ H fun b H1 => if b = true then tu { D with nx := tz D } σ H1 else tw { D with nx := tz D } σ H1) : tSeq (tIfS t tu tw) tz D σ H := h
theorem test_go {te : TE} {Q : Bool → Hp → Prop} (h : te σ H fun v H1 => ∃ k, v = .bl k ∧ Q k H1) : tTest te σ H Q := h
theorem scoop_goJ {j : Nat} {t c : Addr} {n : Nat} {many : Int} {te : TE} {E : XK} {Q : VK} (h0 : σ[j]? = some (some (.ref t))) (he : Evl.Ev te σ H (.int many)) (T : Tub H t c n) (hn : n ≤ 1000000) (h1 : 1 ≤ many) (h2 : many ≤ 100000)
    (k : ∀ (r : Nat) H', (r : Int) < many → Kept t H H' → Tub H' t c (n + 1) → Q (.int (r : Int)) H') : tCall spScoop [] E (tCons (tVar j) (tCons te tNil)) σ H Q :=
  ⟨.ref t, h0, he H (Evl.Ex.refl _) _ fun H1 e1 => ⟨t, c, many, n, rfl, T.ex e1, hn, h1, h2, fun r H' r0 r1 k1 T1 => by
    have := k r.toNat H' (by omega) ((kept_ex e1).trans k1) T1
    rwa [Int.toNat_of_nonneg r0] at this⟩⟩

end
theorem fldc_go {K : PySem.W.Frag} {ta : TE} {f : Str} {σ : L2.St} {H : Hp} {Q : VK} (h : ta σ H fun x H1 => ∃ a C dx fs v, x = .ref a ∧ H1 a = some (.ins C dx fs) ∧ Cls K C ∧ NoAttr K C f ∧ fs.lookup f = some v ∧ Q v H1) : tFld K ta f σ H Q := h
theorem nil_goJ {σ : L2.St} {H : Hp} {Q : List V → Hp → Prop} (h : Q [] H) : tNil σ H Q := h
theorem or_goJ {t u : L2.TT} {σ : L2.St} {H : Hp} {Q : Bool → Hp → Prop} (h : t σ H fun c H1 => if c = true then Q true H1 else u σ H1 Q) : tOr t u σ H Q := h
theorem not_goJ {t : L2.TT} {σ : L2.St} {H : Hp} {Q : Bool → Hp → Prop} (h : t σ H fun c H1 => Q (!c) H1) : tNot t σ H Q := h
theorem tB_goJ {t : TE} {σ : L2.St} {H : Hp} {Q : Bool → Hp → Prop} (h : t σ H fun x H1 => ∃ c, x = .bl c ∧ Q c H1) : tB t σ H Q := h
theorem ifl_goJ {t : L2.TT} {tu tw : TS} {D : Ends} {σ : L2.St} {H : Hp} (h : t σ H fun b H1 => if b = true then tu D σ H1 else tw D σ H1) : tIfS t tu tw D σ H := h

section
variable {P : Program} {w : World} {K : PySem.W.Frag} {mg : Str → Option Value} {base : Heap}
/-- the tree as it grows: bags at BA, rows at rs, above at UA -/
structure Wo (K : PySem.W.Frag) (H : Hp) (t c BA UA : Addr) (B : List (List Int)) (U : List (Option Nat)) (rs : List Addr) (n : Nat) (H' : Hp) : Prop where
  kp : Kept t H H'
  T : Tub H' t c n
  hB : H' BA = some (.lst (rs.map V.ref))
  hU : H' UA = some (.lst (U.map uv))
  nB : H BA = none
  nU : H UA = none
  BU : BA ≠ UA
  Bt : BA ≠ t ∧ BA ≠ c
  Ut : UA ≠ t ∧ UA ≠ c
  len : rs.length = B.length
  row : ∀ (i : Nat) (a : Addr) (ns : List Int), rs[i]? = some a → B[i]? = some ns → H' a = some (.lst (ns.map V.int)) ∧ a ≠ t ∧ a ≠ BA ∧ a ≠ UA
theorem Wo.kept {K : PySem.W.Frag} {H H' H'' : Hp} {t c BA UA : Addr} {B : List (List Int)} {U : List (Option Nat)} {rs : List Addr} {n m : Nat} (w : Wo K H t c BA UA B U rs n H') (k : Kept t H' H'') (T : Tub H'' t c m) : Wo K H t c BA UA B U rs m H'' :=
  ⟨w.kp.trans k, T, k _ _ w.Bt.1 w.hB, k _ _ w.Ut.1 w.hU, w.nB, w.nU, w.BU, w.Bt, w.Ut, w.len, fun i a ns h1 h2 => ⟨k _ _ (w.row i a ns h1 h2).2.1 (w.row i a ns h1 h2).1, (w.row i a ns h1 h2).2⟩⟩
theorem Wo.ex {K : PySem.W.Frag} {H H' H'' : Hp} {t c BA UA : Addr} {B : List (List Int)} {U : List (Option Nat)} {rs : List Addr} {n : Nat} (w : Wo K H t c BA UA B U rs n H') (e : Evl.Ex H' H'') : Wo K H t c BA UA B U rs n H'' := w.kept (kept_ex e) (w.T.ex e)
theorem Wo.mono {K : PySem.W.Frag} {H H' : Hp} {t c BA UA : Addr} {B : List (List Int)} {U : List (Option Nat)} {rs : List Addr} {n m : Nat} (w : Wo K H t c BA UA B U rs n H') (h : n ≤ m) : Wo K H t c BA UA B U rs m H' := ⟨w.kp, w.T.mono h, w.hB, w.hU, w.nB, w.nU, w.BU, w.Bt, w.Ut, w.len, w.row⟩
theorem Wo.bag {K : PySem.W.Frag} {H H' : Hp} {t c BA UA : Addr} {B : List (List Int)} {U : List (Option Nat)} {rs : List Addr} {n : Nat} (w : Wo K H t c BA UA B U rs n H') {i : Nat} (hi : i < B.length) : ∃ a, rs[i]? = some a ∧ (rs.map V.ref)[i]? = some (.ref a) ∧ H' a = some (.lst ((B.getD i []).map V.int)) ∧ a ≠ t ∧ a ≠ BA ∧ a ≠ UA := by
  have h1 := List.getElem?_eq_getElem (show i < rs.length by rw [w.len]; exact hi)
  have h2 := List.getElem?_eq_getElem hi
  refine ⟨_, h1, by rw [List.getElem?_map, h1]; rfl, ?_⟩
  rw [List.getD_eq_getElem?_getD, h2]
  exact w.row i _ _ h1 h2
theorem c_go {v : V} {σ : L2.St} {H : Hp} {Q : VK} (h : Q v H) : tC v σ H Q := h

theorem and_goJ {t u : L2.TT} {σ : L2.St} {H : Hp} {Q : Bool → Hp → Prop} (h : t σ H fun c H1 => if c = true then u σ H1 Q else Q false H1) : tAnd t u σ H Q := h
theorem par3_go {i j l : Nat} {ta : TA} {tz : TS} {D : Ends} {σ : L2.St} {H : Hp} (h : ta σ H fun vs H1 => ∃ u v w, vs = [u, v, w] ∧ tz D (((σ.set i (some u)).set j (some v)).set l (some w)) H1) : tSeq (tPar3 i j l ta) tz D σ H := h
theorem rngA_go {ta : TA} {g : TG} {tb tz : TS} {D : Ends} {σ : L2.St} {H : Hp} (h : ta σ H fun vs H' => tSeq (tFor (iRng2 (fun _ H2 Q => Q vs H2)) g tb) tz D σ H') : tSeq (tFor (iRng2 ta) g tb) tz D σ H := h
theorem eb_rng2 {σ : L2.St} {B : Hp} {a b : Int} (h0 : 0 ≤ a) (h1 : a ≤ 100000) (h2 : 0 ≤ b) (h3 : b ≤ 100000) : EvB (iRng2 (fun _ H2 Q => Q [.int a, .int b] H2)) σ B (b - a).toNat (YFn fun i => .int (a + i)) := fun H1 e R k =>
  ⟨a, b, rfl, by omega, k _ _ H1 (Evl.Ex.refl _) walk_range fun _ _ => trivial⟩
abbrev nLT : List Str := ["tub", "bags", "above", "fresh", "at", "elder", "bag", "piece"]
theorem scLT : FnScope nLT ["tub"] (defScope sLTree) := ⟨rfl, rfl, rfl, by decide +kernel, rfl, by decide +kernel, by decide +kernel⟩
abbrev ttKept : L2.TT := tTest (tOp L2.rEq (tCall spScoop [] E0 (tCons (tVar 0) (tCons (tC (.int 2)) tNil))) (tC (.int 0)))
abbrev ttGrow (K : PySem.W.Frag) : L2.TT := tAnd (tTest (tOp (rI0 fun i j => V.bl (decide (i < j))) (tCB (Evl.rLenS K) (tCons (tVar 6) tNil)) (tC (.int 4)))) (tOr (tTest (tOp (rNil K false) (tVar 6) (tLst tNil))) (tTest (tOp L2.rEq (tCall spScoop [] E0 (tCons (tVar 0) (tCons (tC (.int 2)) tNil))) (tC (.int 0)))))
theorem grow_test {t c E : Addr} {n : Nat} {xs : List Int} {σ : L2.St} {A : Hp} {Q : Bool → Hp → Prop} (h0 : σ[0]? = some (some (.ref t))) (h6 : σ[6]? = some (some (.ref E))) (T : Tub A t c n) (hn : n ≤ 900000) (hE : A E = some (.lst (xs.map V.int)))
    (h1 : ∀ A', Kept t A A' → Tub A' t c (n + 1) → xs.length < 4 → Q true A') (h2 : ∀ A', Kept t A A' → Tub A' t c (n + 1) → 1 ≤ xs.length → Q false A') : ttGrow K σ A Q := by
  refine and_goJ (Evl.et_test (Evl.ev_op (Evl.ev_len (K := K) (Evl.ev_var h6) (Evl.sq_of hE)) Evl.ev_c Evl.rv_I0) A (Evl.Ex.refl _) _ fun A1 e1 => if_go (fun hc => ?_) fun hc => ?_)
  · have hc := of_decide_eq_true hc
    rw [List.length_map] at hc
    refine or_goJ (test_go (Go.op_go ⟨.ref E, h6, Go.lst_go (nil_goJ ⟨by show 0 ≤ sizeLine; decide, fun l nl => ⟨E, l, xs.map V.int, rfl, rfl, Evl.sq_of (Evl.Ex.new nl _ _ (e1 _ _ hE)), Evl.sq_of upd_same, _, rfl, if_go (fun hb => ?_) fun hb => ?_⟩⟩)⟩))
    · exact h1 _ (kept_ex (e1.trans (Evl.Ex.new nl))) ((T.ex (e1.trans (Evl.Ex.new nl))).mono (by omega)) (by omega)
    · refine test_go (Go.op_go (scoop_goJ (j := 0) (c := c) h0 Evl.ev_c (T.ex (e1.trans (Evl.Ex.new nl))) (by omega) (by decide) (by decide) fun r A2 hr k2 T2 => c_go ⟨rfl, _, rfl, ?_⟩))
      have kk := (kept_ex (t := t) (e1.trans (Evl.Ex.new nl))).trans k2
      cases decide (V.int (r : Int) = V.int 0) with
      | true => exact h1 _ kk T2 (by omega)
      | false =>
        refine h2 _ kk T2 ?_
        cases xs with
        | nil => cases hb
        | cons _ _ => simp
  · have hc := of_decide_eq_false hc
    rw [List.length_map] at hc
    exact h2 _ (kept_ex e1) ((T.ex e1).mono (by omega)) (by omega)
theorem parl_go {i j : Nat} {ta : TA} {D : Ends} {σ : L2.St} {H : Hp} (h : ta σ H fun vs H1 => ∃ v w, vs = [v, w] ∧ D.nx ((σ.set i (some v)).set j (some w)) H1) : tPar i j ta D σ H := h
theorem el_sorted {σ : L2.St} {H : Hp} {i : Nat} {E : Addr} {xs : List Int} (h0 : σ[i]? = some (some (.ref E))) (hE : H E = some (.lst (xs.map V.int))) (ha : xs.Pairwise (· < ·)) (hl : xs.length < 64) : Evl.EvL (tCB (rSorted K) (tCons (tVar i) tNil)) σ H (xs.map V.int) := fun H1 e Q q =>
  Go.cb_go (Go.cons_any ⟨.ref E, h0, E, xs, rfl, Evl.sq_of (e _ _ hE), hl, fun ns p hp hs hz => by
    rw [same_sort ha hp hs]
    exact q p _ hz (Evl.Ex.new hz) upd_same⟩)
def spLTree (K : PySem.W.Frag) : Sp := fun vs H Q _ => ∃ (t c : Addr) (n : Nat), vs = [.ref t] ∧ Tub H t c n ∧ n ≤ 800000 ∧
  ∀ (T A U : Addr) (as : List Addr) (bs : List (List Int)) (us : List (Option Nat)) (f : Nat) (H' : Hp), Kept t H H' → Tub H' t c (n + 100) → H' T = some (.tup [.ref A, .ref U]) → H' A = some (.lst (as.map V.ref)) → H' U = some (.lst (us.map uv)) → as.length = bs.length →
    (∀ (i : Nat) (a : Addr) (ns : List Int), as[i]? = some a → bs[i]? = some ns → H' a = some (.lst (ns.map V.int)) ∧ a ≠ t) → T ≠ t → A ≠ t → U ≠ t → Wd bs us f → W4 bs → bs.length ≤ 7 → Q (.ref T) H'
set_option maxHeartbeats 4000000 in
theorem ok_lTree {f fS : Addr} {fd fdS : FuncData} {k : Nat} (F : Fun K "_law_tree" "_law_tree" sLTree f fd)
    (FS : Fun K "_law_scoop" "_law_scoop" sScoop fS fdS) (GS : FnOk P w K mg base CX0 k fS fdS ["tub", "many"] spScoop) (bS : Binds K fdS ["tub", "many"] []) (gS : mg "_law_scoop" = some (.ref fS))
    (mlen : mg "len" = none) (mrange : mg "range" = none) (msorted : mg "sorted" = none) : FnOk P w K mg base CX0 (k + 1) f fd ["tub"] (spLTree K) := by
  refine F.ok scLT (fun vs H Q E h => ?_) (fun cdv A0 outer s H vs Q E hr h => ?_)
  · obtain ⟨t, c, n, rfl, _⟩ := h
    rfl
  · obtain ⟨t, c, n, rfl, T0, hn, q⟩ := h
    have nd := scLT.nd
    refine ⟨_, pss_cons (ps_par3 (i := 1) (j := 2) (l := 3) (by rfl) nd rfl rfl rfl (by decide) (by decide) (by decide) rfl rfl rfl (pa_cons (pe_lst (pa_cons (pe_op op_cat (pe_lst (pa_cons (pe_int) (pa_nil))) (pe_op op_rep (pe_lst (pa_cons (pe_int) (pa_nil))) (pe_call GS hr (by rfl) gS FS.kp bS .nil pass0 (pa_cons (pv 0) (pa_cons (pe_int) (pa_nil)))))) (pa_nil))) (pa_cons (pe_lst (pa_cons (pe_non) (pa_nil))) (pa_cons (pe_int) (pa_nil)))) (by rfl)) (pss_cons (ps_for PassesOwn.never rfl (pi_range2 (by rfl) mrange (pa_cons (pe_int) (pa_cons (pe_op op_add (pe_int) (pe_call GS hr (by rfl) gS FS.kp bS .nil pass0 (pa_cons (pv 0) (pa_cons (pe_int) (pa_nil))))) (pa_nil)))) (pg_name (i := 4) nd rfl (Or.inl rfl)) (pss_cons (ps_set (i := 5) nd rfl (.inl rfl) (pe_call GS hr (by rfl) gS FS.kp bS .nil pass0 (pa_cons (pv 0) (pa_cons (pv 4) (pa_nil))))) (pss_cons (ps_setLc (i := 6) (own := [("piece", 7)]) (g := gName 7) (tt := ttKept) (te := tVar 7) rfl nd rfl rfl (sw_true rfl rfl rfl (by decide +kernel)) (pi_list (pe_ix ix_list (pv 1) (pv 5) (fun _ _ => rfl))) (blkOk_by (N := nLT) (sc := defScope sLTree) (by decide +kernel)) (fun _ _ _ _ _ => pg_name (i := 7) nd rfl (Or.inl rfl)) (fun _ _ _ _ _ => pts_one (pt_cmpR op_eq (pe_call GS hr (by rfl) gS FS.kp bS .nil pass0 (pa_cons (pv 0) (pa_cons (pe_int) (pa_nil)))) (pe_int) (nomark _))) (fun _ _ _ _ _ => pv 7)) (pss_cons (ps_while PassesOwn.never (PW.pt (pw_and (pt_cmpR op_lt (pe_callB call_len_seq (by rfl) mlen PySem.boot_len (pa_cons (pv 6) (pa_nil))) (pe_int) (nomark _)) (pw_and1 (PW.pt (pw_or (pt_cmpR (op_eqNil hr.units) (pv 6) (pe_lst pa_nil) (nomark _)) (pw_or1 (pt_cmpR op_eq (pe_call GS hr (by rfl) gS FS.kp bS .nil pass0 (pa_cons (pv 0) (pa_cons (pe_int) (pa_nil)))) (pe_int) (nomark _)))))))) (pss_one (ps_par (i := 6) (j := 3) (by rfl) nd rfl rfl (by decide) rfl rfl (pa_cons (pe_op op_cat (pv 6) (pe_lst (pa_cons (pv 3) (pa_nil)))) (pa_cons (pe_op op_add (pv 3) (pe_int)) (pa_nil))) (by rfl)))) (pss_cons (ps_expr (pe_bm PySem.F.plainAttrs_list PySem.F.slot_list_append PySem.F.type_list_append mt_append (pv 1) (pa_cons (pe_callB cr_sorted (by rfl) msorted (by decide +kernel) (pa_cons (pv 6) (pa_nil))) (pa_nil)))) (pss_one (ps_expr (pe_bm PySem.F.plainAttrs_list PySem.F.slot_list_append PySem.F.type_list_append mt_append (pv 2) (pa_cons (pv 5) (pa_nil)))))))))) (pss_one (ps_ret (pe_tup (pa_cons (pv 1) (pa_cons (pv 2) (pa_nil))))))), ?_⟩
    -- bags, above, fresh
    refine par3_go (Go.cons_any (Go.lst_go (Go.cons_any (Go.op_go (Go.lst_go (Go.cons_c ⟨by show 1 ≤ sizeLine; decide, fun Z nZ => Go.op_go (Go.lst_go (Go.cons_c ⟨by show 1 ≤ sizeLine; decide, fun O nO => ?_⟩))⟩))))))
    have eZ := Evl.Ex.new (o := .lst [V.int 0]) nZ
    have eO := Evl.Ex.new (o := .lst [V.int 1]) nO
    refine scoop_goJ (j := 0) (c := c) rfl Evl.ev_c ((T0.ex eZ).ex eO) (by omega) (by decide) (by decide) fun r H1 hr1 k1 T1 => ?_
    have Zt : Z ≠ t := (T0.ne nZ).1
    have Ot : O ≠ t := ((T0.ex eZ).ne nO).1
    have hO1 := k1 _ _ Ot upd_same
    have hZ1 := k1 _ _ Zt (eO _ _ upd_same)
    have r01 : r = 0 ∨ r = 1 := by omega
    refine ⟨O, (r : Int), [.int 1], rfl, rfl, hO1, by omega, by omega, by rw [sizeLine_eq]; show 1 * _ ≤ _; omega, fun R nR => ⟨Z, R, [.int 0], _, rfl, rfl, Evl.Ex.new nR _ _ hZ1, upd_same, by rw [sizeLine_eq]; rcases r01 with rfl | rfl <;> decide, fun S nS => ?_⟩⟩
    have e0 : [V.int 0] ++ (List.replicate (r : Int).toNat [V.int 1]).flatten = (rngI 0 (1 + r)).map V.int := by
      rcases r01 with rfl | rfl <;> rfl
    rw [e0]
    refine ⟨by show 1 ≤ sizeLine; decide, fun BA nBA => Go.cons_any (Go.lst_go (Go.cons_c ⟨by show 1 ≤ sizeLine; decide, fun UA nUA => ⟨_, _, _, rfl, ?_⟩⟩))⟩
    try dsimp only [List.set_cons_zero, List.set_cons_succ]
    have kH : Kept t H H1 := ((kept_ex eZ).trans (kept_ex eO)).trans k1
    have hk : ∀ a : Addr, H1 a = none → H a = none := fun a ha => by
      cases hz : H a with
      | none => rfl
      | some o =>
        by_cases e : a = t
        · subst e
          obtain ⟨_, _, _, hz1, _⟩ := id T1
          rw [hz1] at ha; cases ha
        · rw [kH _ _ e hz] at ha; cases ha
    have eR := Evl.Ex.new (o := .lst (List.replicate (r : Int).toNat [V.int 1]).flatten) nR
    have w0 : Wo K H t c BA UA [rngI 0 (1 + r)] [none] [S] (n + 1) (upd (upd (upd (upd H1 R (.lst (List.replicate (r : Int).toNat [V.int 1]).flatten)) S (.lst ((rngI 0 (1 + r)).map V.int))) BA (.lst [.ref S])) UA (.lst [.non])) := by
      have eS := Evl.Ex.new (o := .lst ((rngI 0 (1 + r)).map V.int)) nS
      have eB := Evl.Ex.new (o := .lst [V.ref S]) nBA
      have eU := Evl.Ex.new (o := .lst [V.non]) nUA
      have nS1 := Evl.fresh_back eR nS
      have nB1 := Evl.fresh_back (eR.trans eS) nBA
      have nU1 := Evl.fresh_back ((eR.trans eS).trans eB) nUA
      obtain ⟨r1, r2⟩ := T1.ne nS1
      obtain ⟨b1, b2⟩ := T1.ne nB1
      obtain ⟨u1, u2⟩ := T1.ne nU1
      refine ⟨kH.trans (kept_ex (((eR.trans eS).trans eB).trans eU)), T1.ex (((eR.trans eS).trans eB).trans eU), eU _ _ upd_same, upd_same, hk _ nB1, hk _ nU1, fun z => ?_, ⟨b1, b2⟩, ⟨u1, u2⟩, rfl, fun i a ns h1 h2 => ?_⟩
      · rw [← z, upd_same] at nUA; cases nUA
      · cases i with
        | succ i => cases h1
        | zero =>
          cases h1
          cases h2
          refine ⟨eU _ _ (eB _ _ upd_same), r1, fun z => ?_, fun z => ?_⟩
          · rw [← z, upd_same] at nBA; cases nBA
          · rw [← z, eB _ _ upd_same] at nUA; cases nUA
    generalize (upd (upd (upd (upd H1 R (.lst (List.replicate (r : Int).toNat [V.int 1]).flatten)) S (.lst ((rngI 0 (1 + r)).map V.int))) BA (.lst [.ref S])) UA (.lst [.non])) = H2 at w0 ⊢
    clear nR nS nBA nUA eR hk kH hO1 hZ1 k1 T1 eZ eO nZ nO e0
    refine rngA_go (Go.cons_c (Go.cons_any (Go.op_go (c_go (scoop_goJ (j := 0) (c := c) rfl Evl.ev_c w0.T (by omega) (by decide) (by decide) fun turns H4 htn k4 T4 => ⟨1, (turns : Int), rfl, rfl, nil_goJ ?_⟩)))))
    have w4 := w0.kept k4 T4
    have heb : EvB (iRng2 (fun _ H2 Q => Q [.int 1, .int (1 + (turns : Int))] H2)) [some (.ref t), some (.ref BA), some (.ref UA), some (.int 2), none, none, none, none] (fun _ => none) turns (YFn fun i => .int (1 + i)) := by
      have := eb_rng2 (σ := [some (.ref t), some (.ref BA), some (.ref UA), some (.int 2), none, none, none, none]) (B := fun _ => none) (a := 1) (b := 1 + (turns : Int)) (by omega) (by omega) (by omega) (by omega)
      rwa [show ((1 : Int) + turns - 1).toNat = turns by omega] at this
    refine q_forB (B := fun _ => none) (n := turns) (s := fun i σ => σ.set 4 (some (.int (1 + i)))) heb aims_fn (fun _ _ h => nomatch h) (fun i σ' H' => ∃ (B : List (List Int)) (U : List (Option Nat)) (rs : List Addr) (f : Nat) (x4 x5 x6 : Option V), σ' = [some (.ref t), some (.ref BA), some (.ref UA), some (.int (f : Int)), x4, x5, x6, none] ∧ Wo K H t c BA UA B U rs (n + 2 + 10 * i) H' ∧ Wd B U f ∧ W4 B ∧ B.length = 1 + i)
      (fun G eG => ⟨_, _, _, 2, _, _, _, rfl, w4.ex eG, (wd_start (1 + r)).mono (by omega), fun ns hn => by rw [List.mem_singleton.mp hn]; exact ⟨rng_asc _ _, by rw [rng_len]; omega⟩, rfl⟩) (fun _ _ _ _ _ _ _ h => nomatch h) (fun i σ' H' G hi p eG => ?_) fun σ' H' p => ?_
    · obtain ⟨B, U, rs, f, x4, x5, x6, rfl, w, wd, w44, hBl⟩ := p
      have w := w.ex eG
      have hrl := w.len
      try dsimp only [List.set_cons_zero, List.set_cons_succ]
      refine Go.asg_go (scoop_goJ (j := 0) (c := c) (n := n + 2 + 10 * i) (many := 1 + (i : Int)) rfl (Evl.ev_var rfl) w.T (by omega) (by omega) (by omega) fun j H6 hj k6 T6 => ?_)
      try dsimp only [List.set_cons_zero, List.set_cons_succ]
      have w6 := w.kept k6 T6
      obtain ⟨a, ha1, ha2, ha3, ha4, ha5, ha6⟩ := w6.bag (show j < B.length by omega)
      generalize hns : B.getD j [] = ns at ha3
      have hnsm : ns ∈ B := by
        rw [← hns, List.getD_eq_getElem?_getD, List.getElem?_eq_getElem (show j < B.length by omega)]
        exact List.getElem_mem _
      obtain ⟨nsa, nsl1, nsl2⟩ := w44 ns hnsm
      obtain ⟨cs, tn, rt, ht6, hc6, hct6, _⟩ := id w6.T
      have bt : ∀ {z : Addr} {o : HO}, H6 z = some o → z ≠ t → but t H6 z = some o := fun h hz => by
        unfold but
        rw [if_neg hz]
        exact h
      refine Go.asg_go (go_lcT (t := t) ht6 (n := (ns.map V.int).length) (s := fun i σ => σ.set 7 (some ((ns.map V.int).getD i .non))) (ei_list (K := K) (xs := ns.map V.int) (Evl.ev_op (x := .ref BA) (y := .int (j : Int)) (Evl.ev_var rfl) (Evl.ev_var rfl) (Evl.rv_ixL (Evl.sq_of (bt w6.hB w6.Bt.1)) (atI_nat ha2))) (Evl.sq_of (bt ha3 ha4))) (aims_at (j := 7)) (fun _ => rfl) (by rw [List.length_map]; omega)
        (fun k acc A => (∃ ks : List Int, acc = ks.map V.int ∧ ks.Sublist (ns.take k)) ∧ Tub A t c (n + 2 + 10 * i + 1 + k)) (fun A eA => ⟨⟨[], rfl, List.nil_sublist _⟩, w6.T.ex eA⟩) (fun k acc A A' p e => ⟨p.1, p.2.ex e⟩)
        (fun k acc A D l l' nD hD _ p => ⟨p.1, p.2.upd hD fun z => by rw [z, hc6] at nD; cases nD⟩) (fun k acc A F1 F2 hk kp _ p k1' k2' => ?_) fun D acc A nD hDt hD hal kp p => ?_)
      · obtain ⟨⟨ks, rfl, hs⟩, Tk⟩ := p
        rw [List.length_map] at hk
        refine test_go (Go.op_go (scoop_goJ (j := 0) (c := c) rfl Evl.ev_c Tk (by omega) (by decide) (by decide) fun r A2 hr kk TT => c_go ⟨rfl, _, rfl, if_go (fun _ => ?_) fun _ => ?_⟩))
        · rw [gd_int hk]
          refine ⟨_, rfl, k1' _ _ kk ⟨⟨ks ++ [ns.getD k 0], by rw [List.map_append]; rfl, ?_⟩, TT⟩⟩
          rw [List.take_succ_eq_append_getElem hk, List.getD_eq_getElem?_getD, List.getElem?_eq_getElem hk]
          exact List.Sublist.append hs (List.Sublist.refl _)
        · refine k2' _ kk ⟨⟨ks, rfl, hs.trans ?_⟩, TT⟩
          rw [List.take_succ_eq_append_getElem hk]
          exact List.sublist_append_left _ _
      · obtain ⟨⟨ks, rfl, hs⟩, TA⟩ := p
        rw [List.length_map] at hs TA
        rw [List.take_length] at hs
        have hkn := hs.length_le
        have wA := w6.kept kp TA
        have ksa : ks.Pairwise (· < ·) := nsa.sublist hs
        have ksf : ∀ k ∈ ks, k < (f : Int) := fun k hk => (wd.rng ns hnsm k (hs.subset hk)).2
        try dsimp only [List.set_cons_zero, List.set_cons_succ]
        have DB : D ≠ BA := fun z => by rw [z, w6.hB] at nD; cases nD
        have DU : D ≠ UA := fun z => by rw [z, w6.hU] at nD; cases nD
        refine ⟨fun m σ' A => ∃ (D : Addr) (g : Nat), σ' = [some (.ref t), some (.ref BA), some (.ref UA), some (.int ((f + g : Nat) : Int)), some (.int (1 + (i : Int))), some (.int (j : Int)), some (.ref D), none] ∧ Wo K H t c BA UA B U rs (n + 2 + 10 * i + 5 + g) A ∧ A D = some (.lst ((ks ++ rngI f g).map V.int)) ∧ ks.length + g ≤ 4 ∧ m = 4 - (ks.length + g), ⟨_, D, 0, rfl, wA.mono (by omega), by rw [hD]; rw [show rngI f 0 = [] from rfl, List.append_nil], by omega, rfl⟩, fun m σ' A2 p => ?_⟩
        obtain ⟨E, g, rfl, w2, hE, hg, rfl⟩ := p
        have hEl : (ks ++ rngI f g).length = ks.length + g := by rw [List.length_append, rng_len]
        have Et : E ≠ t := fun z => by
          obtain ⟨_, _, _, hz, _⟩ := id w2.T
          rw [z, hz] at hE
          have h := congrArg (fun o => match o with | some (HO.lst l) => l | _ => []) hE
          have h : [V.ref c, V.int _, V.int _] = (ks ++ rngI f g).map V.int := h
          have h2 : V.ref c ∈ (ks ++ rngI f g).map V.int := h ▸ List.mem_cons_self
          obtain ⟨_, _, e⟩ := List.mem_map.mp h2
          cases e
        refine grow_test (c := c) rfl rfl w2.T (by omega) hE (fun A3 k3 T3 hlt => ?_) fun A3 k3 T3 hge => ?_
        · rw [if_pos rfl]
          have w3 := w2.kept k3 T3
          have hE3 := k3 _ _ Et hE
          refine ⟨fun σ' A => ∃ (D : Addr), σ' = [some (.ref t), some (.ref BA), some (.ref UA), some (.int ((f + (g + 1) : Nat) : Int)), some (.int (1 + (i : Int))), some (.int (j : Int)), some (.ref D), none] ∧ Wo K H t c BA UA B U rs (n + 2 + 10 * i + 5 + (g + 1)) A ∧ A D = some (.lst ((ks ++ rngI f (g + 1)).map V.int)), fun σ2 A4 ⟨D2, h1, h2, h3⟩ => ⟨4 - (ks.length + (g + 1)), by omega, D2, g + 1, h1, h2, h3, by omega, rfl⟩, ?_⟩
          refine parl_go (Go.cons_any (Go.op_go ⟨.ref E, rfl, Go.lst_go (Go.cons_any ⟨_, rfl, nil_goJ ⟨by show 1 ≤ sizeLine; decide, fun l nl => ⟨E, l, _, _, rfl, rfl, Evl.Ex.new nl _ _ hE3, upd_same, by rw [List.length_map, sizeLine_eq]; show _ + 1 ≤ _; omega, fun E2 nE2 => Go.cons_any (Go.op_go ⟨_, rfl, c_go ⟨_, 1, rfl, rfl, nil_goJ ⟨_, _, rfl, ?_⟩⟩⟩)⟩⟩⟩)⟩))
          refine ⟨E2, rfl, (w3.ex (Evl.Ex.new nl)).ex (Evl.Ex.new nE2), ?_⟩
          rw [upd_same, ← rng_snoc]
          simp only [List.map_append, List.map_cons, List.map_nil, List.append_assoc]
        · rw [if_neg (by decide)]
          have w3 := w2.kept k3 T3
          have hE3 := k3 _ _ Et hE
          have bagA : (ks ++ rngI f g).Pairwise (· < ·) := bag_asc ksa ksf
          refine Evl.q_appL (ys := (ks ++ rngI f g).map V.int) w3.hB (Evl.ev_var rfl) (el_sorted rfl hE3 bagA (by omega)) (by rw [List.length_map, hrl]; omega) fun N H8 nN e8 hN => ?_
          have w8 := w3.ex e8
          obtain ⟨nt, nc⟩ := w3.T.ne nN
          have NB : N ≠ BA := fun z => by rw [z, w3.hB] at nN; cases nN
          have NU : N ≠ UA := fun z => by rw [z, w3.hU] at nN; cases nN
          refine Evl.s_app (l := UA) (v := .int (j : Int)) (by rw [upd_ne w8.BU.symm]; exact w8.hU) (Evl.ev_var rfl) (Evl.ev_var rfl) (by rw [List.length_map, wd.len, hBl]; omega) fun H9 e9 => ?_
          refine ⟨B ++ [ks ++ rngI f g], U ++ [some j], rs ++ [N], f + g, _, _, _, rfl, ?_, wd_step wd (show j < B.length by omega) (fun k hk => by rw [hns]; exact hs.subset hk) (hs.nodup (wd.nd ns hnsm)), fun ms hm => ?_, by rw [List.length_append, hBl, List.length_singleton]; omega⟩
          · have hB9 : H9 BA = some (.lst (rs.map V.ref ++ [.ref N])) := e9 _ _ upd_same
            have k89 : ∀ z o, z ≠ BA → H8 z = some o → H9 z = some o := fun z o hz h => e9 _ _ (by rw [upd_ne hz]; exact h)
            have k8 : ∀ z o, z ≠ BA → z ≠ UA → H8 z = some o → (upd H9 UA (.lst (U.map uv ++ [.int (j : Int)]))) z = some o := fun z o h1 h2 h => by rw [upd_ne h2]; exact k89 z o h1 h
            have T9 : Tub H9 t c (n + 2 + 10 * i + 5 + g + 1) := (w8.T.upd w8.Bt.1 w8.Bt.2).ex e9
            refine ⟨fun z o hz h => k8 z o (fun q => by rw [q, w.nB] at h; cases h) (fun q => by rw [q, w.nU] at h; cases h) (w8.kp _ _ hz h), (T9.upd w8.Ut.1 w8.Ut.2).mono (by omega), by rw [upd_ne w8.BU, hB9, List.map_append]; rfl, by rw [upd_same, List.map_append]; rfl, w.nB, w.nU, w.BU, w.Bt, w.Ut, by rw [List.length_append, List.length_append, hrl]; rfl, fun i' a' ns' h1 h2 => ?_⟩
            rcases Nat.lt_or_ge i' rs.length with hi' | hi'
            · rw [List.getElem?_append_left hi'] at h1
              rw [List.getElem?_append_left (by omega)] at h2
              obtain ⟨r1, r2, r3, r4⟩ := w8.row i' a' ns' h1 h2
              exact ⟨k8 _ _ r3 r4 r1, r2, r3, r4⟩
            · rw [List.getElem?_append_right hi'] at h1
              rw [List.getElem?_append_right (by omega)] at h2
              have hz := (List.getElem?_eq_some_iff.mp h1).1
              rw [List.length_singleton] at hz
              have e0 : i' - rs.length = 0 := by omega
              rw [e0] at h1
              rw [show i' - B.length = 0 by omega] at h2
              cases h1
              cases h2
              exact ⟨k8 _ _ NB NU hN, nt, NB, NU⟩
          · rcases List.mem_append.mp hm with hm | hm
            · exact w44 ms hm
            · rw [List.mem_singleton.mp hm]
              exact ⟨bagA, by omega⟩
    · obtain ⟨B, U, rs, f, x4, x5, x6, rfl, w, wd, w44, hBl⟩ := p
      refine Go.ret_go (Go.tup_go (Go.cons_any ⟨_, rfl, Go.cons_any ⟨_, rfl, nil_goJ ⟨by show 2 ≤ sizeLine; decide, fun TT nT => ?_⟩⟩⟩))
      have eT := Evl.Ex.new (o := .tup [V.ref BA, V.ref UA]) nT
      have w16 := w.ex eT
      exact q TT BA UA rs B U f _ w16.kp (w16.T.mono (by omega)) upd_same w16.hB w16.hU w16.len (fun i a ns h1 h2 => ⟨(w16.row i a ns h1 h2).1, (w16.row i a ns h1 h2).2.1⟩) (w.T.ne nT).1 w.Bt.1 w.Ut.1 wd w44 (by omega)
end
end P38
end S_Ndb
section S_Rzg
/-! for k in d: d a dict keyed by ints, that stays as it is from here on -/
namespace Hk
open PySem PySem.Spec PyProof.Rows L2 Tl
section
variable {X : Cx}
def iKeysK (td : TE) : TI := fun σ H R => td σ H fun x H1 => ∃ d kvs, x = .ref d ∧ H1 d = some (.dK kvs) ∧ ∀ od, R (Itk d od kvs) (upd H1 d (.frz od (.dK kvs)))
theorem pi_keysK {tg e : Expr} {td : TE} (he : PE X e td) : PI X tg e (iKeysK td) := by
  refine ⟨fun pins s σ H R I h => ?_⟩
  refine thn (he.run pins s σ H _ I h) fun u s1 ⟨x, H1, I1, rx, d, kvs, ex, hd, q⟩ => ?_
  subst ex
  obtain rfl : u = Value.ref d := rx
  obtain ⟨od, I2⟩ := I1.lock hd trivial
  obtain ⟨hs, hgd, hx, es, ep, vs, hdt, hsz, kv, hm⟩ := I2.frzK upd_same
  refine iter_keys hs hgd hx hdt (pi_one (tk := s1.toks) I2 _ (turn_keys _ hdt) ⟨_, Heap.get?_push_size _ rfl, rfl, ?_⟩ (q od))
  rw [hsz] <;> rfl
end
end Hk
end S_Rzg
section S_Ndc
namespace P38
open PySem PySem.Spec PyProof.Rows L2 Tl Hk RZ EnL LamX
/-! ### the law's own judge of trees, asked of a right one -/
abbrev nBR : List Str := ["bags", "above", "bag", "piece", "at", "tops", "met", "spot", "heads", "its"]
theorem scBR : FnScope nBR ["bags", "above"] (defScope sBagsRight) := ⟨rfl, rfl, rfl, by decide +kernel, rfl, by decide +kernel, by decide +kernel⟩
abbrev isB (K : PySem.W.Frag) (i : Nat) (n : String) : TE := tCB (rIsi K) (tCons (tVar i) (tCons (tC (.ty n)) tNil))
abbrev ttOdd (K : PySem.W.Frag) : L2.TT := tOr (tB (isB K 3 "bool")) (tOr (tNot (tB (isB K 3 "int"))) (tTest (tOp (rI0 fun i j => V.bl (decide (i < j))) (tVar 3) (tC (.int 0)))))
abbrev ttDesc (K : PySem.W.Frag) : L2.TT := tTest (tOp (rI0 fun i j => V.bl (decide (j ≤ i))) (tOp (rIxB K) (tVar 2) (tOp (rI0 fun i j => V.int (i - j)) (tVar 4) (tC (.int 1)))) (tOp (rIxB K) (tVar 2) (tVar 4)))
abbrev ttOut (K : PySem.W.Frag) : L2.TT := tAnd (tTest (tOp (fun x y H Q => y = V.non ∧ Q (.bl (!decide (x = V.non))) H) (tVar 9) (tC .non))) (tOr (tB (isB K 9 "bool")) (tOr (tNot (tB (isB K 9 "int"))) (tNot (tTest (tChain (rI0 fun i j => V.bl (decide (i ≤ j))) (rI0 fun i j => V.bl (decide (i < j))) (tC (.int 0)) (tVar 9) (tCB (Evl.rLenS K) (tCons (tVar 0) tNil)))))))
abbrev ttKid (K : PySem.W.Frag) : L2.TT := tAnd (tTest (tOp L2.rEq (tOp (rIxB K) (tVar 1) (tVar 9)) (tOp (rIxB K) (tVar 6) (tVar 7)))) (tTest (tOp (rIn K true) (tVar 9) (tVar 6)))
abbrev ttOne : L2.TT := tTest (tOp L2.rNe (tDGet (tVar 8) (tVar 3)) (tC (.int 1)))
/-! the mathematics -/
def frM (bs : List (List Int)) (us : List (Option Nat)) (i m : Nat) : List Int := ((freshL bs us).take i).flatten ++ ((bs.getD i []).take m).filter (frB bs (us.getD i none))
theorem frM_end {bs : List (List Int)} {us : List (Option Nat)} {i : Nat} (hi : i < bs.length) : frM bs us i (bs.getD i []).length = frM bs us (i + 1) 0 := by
  unfold frM
  have hl : i < (freshL bs us).length := by unfold freshL; rw [List.length_map, List.length_range]; exact hi
  have e := freshL_at (ups := us) hi
  rw [List.getD_eq_getElem?_getD, List.getElem?_eq_getElem hl] at e
  rw [List.take_length, List.take_zero, List.filter_nil, List.append_nil, List.take_succ_eq_append_getElem hl, List.flatten_append, List.flatten_singleton, show (freshL bs us)[i] = freshAt bs us i from e]
  rfl
theorem frM_nd {bs : List (List Int)} {us : List (Option Nat)} {i m : Nat} (hn : (freshL bs us).flatten.Nodup) (hi : i < bs.length) : (frM bs us i m).Nodup := by
  have s1 : (frM bs us i m).Sublist (frM bs us i (bs.getD i []).length) := by
    unfold frM
    refine List.Sublist.append (List.Sublist.refl _) (List.Sublist.filter _ ?_)
    rw [List.take_length]
    exact List.take_sublist _ _
  have s2 : (frM bs us (i + 1) 0).Sublist (freshL bs us).flatten := by
    unfold frM
    rw [List.take_zero, List.filter_nil, List.append_nil]
    have e : (freshL bs us).flatten = ((freshL bs us).take (i + 1)).flatten ++ ((freshL bs us).drop (i + 1)).flatten := by rw [← List.flatten_append, List.take_append_drop]
    rw [e]
    exact List.sublist_append_left _ _
  rw [frM_end hi] at s1
  exact hn.sublist (s1.trans s2)
theorem frM_new {bs : List (List Int)} {us : List (Option Nat)} {i m : Nat} (hm : m < (bs.getD i []).length) (hf : frB bs (us.getD i none) ((bs.getD i []).getD m 0) = true) : frM bs us i (m + 1) = frM bs us i m ++ [(bs.getD i []).getD m 0] := by
  unfold frM
  have e : (bs.getD i []).getD m 0 = (bs.getD i [])[m] := by rw [List.getD_eq_getElem?_getD, List.getElem?_eq_getElem hm]; rfl
  rw [e] at hf ⊢
  rw [List.take_succ_eq_append_getElem hm, List.filter_append, List.filter_cons_of_pos hf, List.filter_nil, List.append_assoc]
theorem frM_old {bs : List (List Int)} {us : List (Option Nat)} {i m : Nat} (hm : m < (bs.getD i []).length) (hf : frB bs (us.getD i none) ((bs.getD i []).getD m 0) = false) : frM bs us i (m + 1) = frM bs us i m := by
  unfold frM
  have e : (bs.getD i []).getD m 0 = (bs.getD i [])[m] := by rw [List.getD_eq_getElem?_getD, List.getElem?_eq_getElem hm]; rfl
  rw [e] at hf
  rw [List.take_succ_eq_append_getElem hm, List.filter_append, List.filter_cons_of_neg (by rw [hf]; decide), List.filter_nil, List.append_nil]
theorem frM_fresh {bs : List (List Int)} {us : List (Option Nat)} {i m : Nat} (hn : (freshL bs us).flatten.Nodup) (hi : i < bs.length) (hm : m < (bs.getD i []).length) (hf : frB bs (us.getD i none) ((bs.getD i []).getD m 0) = true) : (bs.getD i []).getD m 0 ∉ frM bs us i m := fun h => by
  have := frM_nd (m := m + 1) hn hi
  rw [frM_new hm hf] at this
  exact (List.nodup_append.mp this).2.2 _ h _ List.mem_cons_self rfl
def kvF (fr : List Int) : List (L2.Key × V) := fr.map fun p => (.inl p, V.int 1)
theorem val_no {fr : List Int} {p : Int} (h : p ∉ fr) : valV (kvF fr) (.inl p) = none := by
  unfold valV kvF
  rw [List.find?_eq_none.mpr]
  · rfl
  · intro x hx
    obtain ⟨q, hq, rfl⟩ := List.mem_map.mp hx
    intro z
    have : (Sum.inl q : L2.Key) = .inl p := of_decide_eq_true z
    cases this
    exact h hq
theorem val_yes : ∀ {fr : List Int} {p : Int}, p ∈ fr → valV (kvF fr) (.inl p) = some (.int 1)
  | a :: fr, p, h => by
    by_cases e : a = p
    · subst e
      unfold valV kvF
      rw [List.map_cons, List.find?_cons_of_pos (by exact decide_eq_true rfl)]
      rfl
    · have := val_yes (fr := fr) ((List.mem_cons.mp h).resolve_left fun z => e z.symm)
      unfold valV kvF at this ⊢
      rw [List.map_cons, List.find?_cons_of_neg (by rw [decide_eq_false (fun z => e (Sum.inl.inj z))]; decide)]
      exact this
theorem put_new {fr : List Int} {p : Int} (h : p ∉ fr) : putK (kvF fr) (.inl p) (V.int 1) = kvF (fr ++ [p]) := by
  unfold putK
  rw [if_neg]
  · unfold kvF
    rw [List.map_append]
    rfl
  · intro z
    obtain ⟨x, hx, e⟩ := List.any_eq_true.mp z
    obtain ⟨q, hq, rfl⟩ := List.mem_map.mp hx
    have : (Sum.inl q : L2.Key) = .inl p := of_decide_eq_true e
    cases this
    exact h hq
theorem ndLe {α : Type} [DecidableEq α] : ∀ {l m : List α}, l.Nodup → (∀ x ∈ l, x ∈ m) → l.length ≤ m.length
  | [], _, _, _ => Nat.zero_le _
  | a :: l, m, h, s => by
    have h1 := ndLe (l := l) (m := m.erase a) (List.nodup_cons.mp h).2 fun x hx => (List.mem_erase_of_ne (fun z => (List.nodup_cons.mp h).1 (by rw [← z]; exact hx))).mpr (s x (List.mem_cons_of_mem _ hx))
    rw [List.length_erase_of_mem (s a List.mem_cons_self)] at h1
    have := List.length_pos_of_mem (s a List.mem_cons_self)
    rw [List.length_cons]
    omega
/-- the places met, those up to s gone through -/
structure Met (us : List (Option Nat)) (n : Nat) (ms : List Nat) (s : Nat) : Prop where
  nd : ms.Nodup
  lt : ∀ x ∈ ms, x < n
  top : 0 ∈ ms
  cl : ∀ (k j : Nat), k < s → ms[k]? = some j → ∀ x, x < n → us[x]? = some (some j) → x ∈ ms
  le : s ≤ ms.length
def newK (us : List (Option Nat)) (n : Nat) (ms : List Nat) (j : Nat) : List Nat := (List.range n).filter fun x => decide (us[x]? = some (some j)) && !decide (x ∈ ms)
theorem Met.step {us : List (Option Nat)} {n s j : Nat} {ms : List Nat} (m : Met us n ms s) (hj : ms[s]? = some j) : Met us n (ms ++ newK us n ms j) (s + 1) := by
  have mem : ∀ x, x ∈ newK us n ms j ↔ x < n ∧ us[x]? = some (some j) ∧ x ∉ ms := fun x => by
    unfold newK
    rw [List.mem_filter, List.mem_range, Bool.and_eq_true_iff, decide_eq_true_iff, Bool.not_eq_true', decide_eq_false_iff_not]
  have hs := (List.getElem?_eq_some_iff.mp hj).1
  refine ⟨List.nodup_append.mpr ⟨m.nd, List.nodup_range.filter _, fun a ha b hb e => ((mem b).mp hb).2.2 (e ▸ ha)⟩, fun x hx => ?_, List.mem_append_left _ m.top, fun k j' hk hj' x hx hu => ?_, by rw [List.length_append]; omega⟩
  · rcases List.mem_append.mp hx with h | h
    · exact m.lt x h
    · exact ((mem x).mp h).1
  · rw [List.getElem?_append_left (by omega)] at hj'
    rcases Nat.lt_or_ge k s with h | h
    · exact List.mem_append_left _ (m.cl k j' h hj' x hx hu)
    · have : k = s := by omega
      subst this
      rw [hj] at hj'
      cases hj'
      by_cases hin : x ∈ ms
      · exact List.mem_append_left _ hin
      · exact List.mem_append_right _ ((mem x).mpr ⟨hx, hu, hin⟩)
theorem Met.len {us : List (Option Nat)} {n s : Nat} {ms : List Nat} (m : Met us n ms s) : ms.length ≤ n := by
  have := ndLe m.nd (m := List.range n) fun x hx => List.mem_range.mpr (m.lt x hx)
  rwa [List.length_range] at this
theorem Met.all {bs : List (List Int)} {us : List (Option Nat)} {f s : Nat} {ms : List Nat} (wd : Wd bs us f) (m : Met us bs.length ms s) (hs : ms.length ≤ s) : ms.length = bs.length := by
  have all : ∀ i, i < bs.length → i ∈ ms := fun i => by
    induction i using Nat.strongRecOn with
    | _ i ih =>
      intro hi
      have hu := List.getElem?_eq_getElem (show i < us.length by rw [wd.len]; exact hi)
      cases hc : us[i]'(by rw [wd.len]; exact hi) with
      | none =>
        rw [hc] at hu
        rw [wd.one i hu]
        exact m.top
      | some j =>
        rw [hc] at hu
        have hji := wd.up i j hu
        obtain ⟨k, hk⟩ := List.mem_iff_getElem?.mp (ih j hji (by omega))
        exact m.cl k j (by have := (List.getElem?_eq_some_iff.mp hk).1; omega) hk i hi hu
  have h1 := ndLe (List.nodup_range (n := bs.length)) (m := ms) fun x hx => all x (List.mem_range.mp hx)
  rw [List.length_range] at h1
  have := m.len
  omega
theorem tops_zero {bs : List (List Int)} {us : List (Option Nat)} {f : Nat} (wd : Wd bs us f) : (List.range us.length).filter (fun i => decide (us.getD i none = none)) = [0] := by
  have hp := wd.pos
  obtain ⟨n, hn⟩ : ∃ n, us.length = n + 1 := ⟨us.length - 1, by have := wd.len; omega⟩
  have h0 : us.getD 0 none = none := by rw [List.getD_eq_getElem?_getD, wd.top]; rfl
  rw [hn, List.range_succ_eq_map, List.filter_cons_of_pos (by rw [h0]; rfl), List.filter_eq_nil_iff.mpr]
  intro x hx
  obtain ⟨i, hi, rfl⟩ := List.mem_map.mp hx
  have hi := List.mem_range.mp hi
  intro z
  have z := of_decide_eq_true z
  have hu := List.getElem?_eq_getElem (show i + 1 < us.length by omega)
  rw [List.getD_eq_getElem?_getD, hu] at z
  have z : us[i + 1] = none := z
  have := wd.one (i + 1) (by rw [hu, z])
  omega
theorem given_no {n : Nat} {v : Nat → V} {f : Nat → Bool} (h : ∀ i, i < n → f i = false) : Evl.given n f v = [] := by
  unfold Evl.given
  rw [List.filter_eq_nil_iff.mpr fun i hi => by rw [h i (List.mem_range.mp hi)]; decide]
  rfl
section
variable {K : PySem.W.Frag} {σ : L2.St} {H : Hp}
theorem isT {i : Nat} {a : Addr} {xs : List V} (h : σ[i]? = some (some (.ref a))) (hs : SqT K H a xs) : Evl.EvT (tNot (tB (isB K i "tuple"))) σ H false := Evl.et_is (Evl.et_not (Evl.et_B (Evl.ev_cb (Evl.ea_cons (Evl.ev_var h) (Evl.ea_cons Evl.ev_c Evl.ea_nil)) (rc_isi (.tup hs) (.inr (.inr (.inr rfl))))))) (by decide +kernel)
theorem isNB {i : Nat} {z : Int} (h : σ[i]? = some (some (.int z))) : Evl.EvT (tB (isB K i "bool")) σ H false := Evl.et_is (Evl.et_B (Evl.ev_cb (Evl.ea_cons (Evl.ev_var h) (Evl.ea_cons Evl.ev_c Evl.ea_nil)) (rc_isi (.int z) (.inr (.inl rfl))))) (by decide +kernel)
theorem isNI {i : Nat} {z : Int} (h : σ[i]? = some (some (.int z))) : Evl.EvT (tNot (tB (isB K i "int"))) σ H false := Evl.et_is (Evl.et_not (Evl.et_B (Evl.ev_cb (Evl.ea_cons (Evl.ev_var h) (Evl.ea_cons Evl.ev_c Evl.ea_nil)) (rc_isi (.int z) (.inl rfl))))) (by decide +kernel)
theorem nilT {te : TE} {n : Nat} {f : Nat → Bool} {v : Nat → V} (h : Evl.EvL te σ H (Evl.given n f v)) (hf : ∀ i, i < n → f i = false) : Evl.EvT (tTest (tOp (rNil K true) te (tLst tNil))) σ H false := Evl.et_test (Evl.ev_is (ev_nil (neg := true) (K := K) h) (by rw [given_no hf]; rfl))
theorem et_chain {ta tb tc : TE} {i j k : Int} {f g : Int → Int → Bool} (h1 : Evl.Ev ta σ H (.int i)) (h2 : Evl.Ev tb σ H (.int j)) (h3 : Evl.Ev tc σ H (.int k)) : Evl.EvT (tTest (tChain (rI0 fun i j => .bl (f i j)) (rI0 fun i j => .bl (g i j)) ta tb tc)) σ H (f i j && g j k) := fun H1 e Q q =>
  h1 H1 e _ fun H2 e2 => h2 H2 (e.trans e2) _ fun H3 e3 => ⟨i, j, rfl, rfl, f i j, rfl, if_go (fun hb => h3 H3 ((e.trans e2).trans e3) _ fun H4 e4 => ⟨j, k, rfl, rfl, g j k, rfl, by rw [hb, Bool.true_and] at q; exact q H4 ((e2.trans e3).trans e4)⟩) (fun hb => ⟨false, rfl, by rw [hb, Bool.false_and] at q; exact q H3 (e2.trans e3)⟩)⟩
theorem asgt_go {te : TE} {g : TG} {D : Ends} (h : te σ H fun x H1 => g x σ H1 fun σ1 H2 => D.nx σ1 H2) : tAsg te g D σ H := h
theorem eb_enE {a : Addr} {xs : List V} {ta : TA} (h : Evl.EvA ta σ H [.ref a]) (hx : SqT K H a xs) : EvB (iEnE K ta) σ H xs.length (YPair (fun i => some (.int (i : Nat))) (fun i => xs[i]?)) := fun H1 e R k =>
  .inr (h H1 e _ fun H2 e2 => ⟨a, xs, rfl, Evl.ex_t (e.trans e2) hx, k _ _ H2 e2 walk_enumT fun A ab => Evl.ex_t ab hx⟩)
end
def spBR (K : PySem.W.Frag) : Sp := fun vs H Q _ => ∃ (A U : Addr) (xs : List V) (bs : List (List Int)) (us : List (Option Nat)) (f : Nat), vs = [.ref A, .ref U] ∧ TTu K H A bs ∧ SqT K H U (us.map uv) ∧ Wd bs us f ∧ W4 bs ∧ bs.length ≤ 7 ∧ ∀ H1, Evl.Ex H H1 → Q (.bl true) H1
section
variable {P : Program} {w : World} {K : PySem.W.Frag} {mg : Str → Option Value} {base : Heap}
set_option maxHeartbeats 4000000 in
theorem ok_bagsRight {f : Addr} {fd : FuncData} {k : Nat} (F : Fun K "_law_bags_right" "_law_bags_right" sBagsRight f fd)
    (mi : mg "isinstance" = none) (mtup : mg "tuple" = none) (mbool : mg "bool" = none) (mint : mg "int" = none) (mlist : mg "list" = none) (mlen : mg "len" = none) (mrange : mg "range" = none) (menum : mg "enumerate" = none) : FnOk P w K mg base CX0 (k + 1) f fd ["bags", "above"] (spBR K) := by
  refine F.ok scBR (fun vs H Q E h => ?_) (fun cdv A0 outer s H vs Q E hr h => ?_)
  · obtain ⟨A, U, xs, bs, us, f, rfl, _⟩ := h
    rfl
  · obtain ⟨A, U, xs, bs, us, f, rfl, hA, hU, wd, w4, hl, q⟩ := h
    have nd := scBR.nd
    refine ⟨_, pss_cons (ps_if (PW.pt (pw_or (pt_not (pt_val (pe_callB call_isi (by rfl) mi (by decide +kernel) (pa_cons (pv 0) (pa_cons (pe_bltn (v := .ty "tuple") (by rfl) mtup (by decide +kernel) rfl) (pa_nil)))))) (pw_or (pt_not (pt_val (pe_callB call_isi (by rfl) mi (by decide +kernel) (pa_cons (pv 1) (pa_cons (pe_bltn (v := .ty "tuple") (by rfl) mtup (by decide +kernel) rfl) (pa_nil)))))) (pw_or (pt_cmpR op_eq (pe_callB call_len_seq (by rfl) mlen PySem.boot_len (pa_cons (pv 0) (pa_nil))) (pe_int) (nomark _)) (pw_or1 (pt_cmpR op_ne (pe_callB call_len_seq (by rfl) mlen PySem.boot_len (pa_cons (pv 0) (pa_nil))) (pe_callB call_len_seq (by rfl) mlen PySem.boot_len (pa_cons (pv 1) (pa_nil))) (nomark _))))))) (pss_one (ps_ret (pe_bl))) (pss_nil)) (pss_cons (ps_for PassesOwn.never rfl (pi_ei (pv 0)) (pg_name (i := 2) nd rfl (Or.inr rfl)) (pss_cons (ps_if (PW.pt (pw_or (pt_not (pt_val (pe_callB call_isi (by rfl) mi (by decide +kernel) (pa_cons (pv 2) (pa_cons (pe_bltn (v := .ty "tuple") (by rfl) mtup (by decide +kernel) rfl) (pa_nil)))))) (pw_or (pt_not (pt_chain op_le op_le (pe_int) (pe_callB call_len_seq (by rfl) mlen PySem.boot_len (pa_cons (pv 2) (pa_nil))) (pe_int))) (pw_or1 (pt_cmpR (op_neNil hr.units) (pe_lc (own := [("piece", 3)]) (g := gName 3) (tt := ttOdd K) (te := tC (.int 1)) rfl nd (pi_ei (pv 2)) (blkOk_by (N := nBR) (sc := defScope sBagsRight) (by decide +kernel)) (fun _ _ _ _ _ => pg_name (i := 3) nd rfl (Or.inl rfl)) (fun _ _ _ _ _ => pts_one (PW.pt (pw_or (pt_val (pe_callB call_isi (by rfl) mi (by decide +kernel) (pa_cons (pv 3) (pa_cons (pe_bltn (v := .ty "bool") (by rfl) mbool (by decide +kernel) rfl) (pa_nil))))) (pw_or (pt_not (pt_val (pe_callB call_isi (by rfl) mi (by decide +kernel) (pa_cons (pv 3) (pa_cons (pe_bltn (v := .ty "int") (by rfl) mint (by decide +kernel) rfl) (pa_nil)))))) (pw_or1 (pt_cmpR op_lt (pv 3) (pe_int) (nomark _))))))) (fun _ _ _ _ _ => pe_int)) (pe_lst pa_nil) (nomark _)))))) (pss_one (ps_ret (pe_bl))) (pss_nil)) (pss_one (ps_if (pt_cmpR (op_neNil hr.units) (pe_lc (own := [("at", 4)]) (g := gName 4) (tt := ttDesc K) (te := tVar 4) rfl nd (pi_range2 (by rfl) mrange (pa_cons (pe_int) (pa_cons (pe_callB call_len_seq (by rfl) mlen PySem.boot_len (pa_cons (pv 2) (pa_nil))) (pa_nil)))) (blkOk_by (N := nBR) (sc := defScope sBagsRight) (by decide +kernel)) (fun _ _ _ _ _ => pg_name (i := 4) nd rfl (Or.inl rfl)) (fun _ _ _ _ _ => pts_one (pt_cmpR op_ge (pe_ix ix_any2 (pv 2) (pe_op op_sub (pv 4) (pe_int)) (fun _ _ => rfl)) (pe_ix ix_any2 (pv 2) (pv 4) (fun _ _ => rfl)) (nomark _))) (fun _ _ _ _ _ => pv 4)) (pe_lst pa_nil) (nomark _)) (pss_one (ps_ret (pe_bl))) (pss_nil))))) (pss_cons (ps_setLc (i := 5) (own := [("at", 4), ("its", 9)]) (g := gTup K 2 (gCons (gName 4) (gCons (gName 9) gNil))) (tt := tTest (tOp rIsN (tVar 9) (tC .non))) (te := tVar 4) rfl nd rfl rfl (sw_true rfl rfl rfl (by decide +kernel)) (pi_enE (by rfl) menum (pa_cons (pv 1) (pa_nil))) (blkOk_by (N := nBR) (sc := defScope sBagsRight) (by decide +kernel)) (fun _ _ _ _ _ => pg_tup (by rfl) (pgs_cons (pg_name (i := 4) nd rfl (Or.inl rfl)) (pgs_cons (pg_name (i := 9) nd rfl (Or.inl rfl)) pgs_nil))) (fun _ _ _ _ _ => pts_one (pt_cmpR op_isN (pv 9) (pe_non) (nomark _))) (fun _ _ _ _ _ => pv 4)) (pss_cons (ps_if (PW.pt (pw_or (pt_cmpR op_ne (pe_callB call_len_seq (by rfl) mlen PySem.boot_len (pa_cons (pv 5) (pa_nil))) (pe_int) (nomark _)) (pw_or1 (pt_cmpR (op_neNil hr.units) (pe_lc (own := [("its", 9)]) (g := gName 9) (tt := ttOut K) (te := tC (.int 1)) rfl nd (pi_ei (pv 1)) (blkOk_by (N := nBR) (sc := defScope sBagsRight) (by decide +kernel)) (fun _ _ _ _ _ => pg_name (i := 9) nd rfl (Or.inl rfl)) (fun _ _ _ _ _ => pts_one (PW.pt (pw_and (pt_cmpR op_notN (pv 9) (pe_non) (nomark _)) (pw_and1 (PW.pt (pw_or (pt_val (pe_callB call_isi (by rfl) mi (by decide +kernel) (pa_cons (pv 9) (pa_cons (pe_bltn (v := .ty "bool") (by rfl) mbool (by decide +kernel) rfl) (pa_nil))))) (pw_or (pt_not (pt_val (pe_callB call_isi (by rfl) mi (by decide +kernel) (pa_cons (pv 9) (pa_cons (pe_bltn (v := .ty "int") (by rfl) mint (by decide +kernel) rfl) (pa_nil)))))) (pw_or1 (pt_not (pt_chain op_le op_lt (pe_int) (pv 9) (pe_callB call_len_seq (by rfl) mlen PySem.boot_len (pa_cons (pv 0) (pa_nil))))))))))))) (fun _ _ _ _ _ => pe_int)) (pe_lst pa_nil) (nomark _))))) (pss_one (ps_ret (pe_bl))) (pss_nil)) (pss_cons (ps_asg (pe_tup (pa_cons (pe_callTy call_list_of (by rfl) mlist (by decide +kernel) (pa_cons (pv 5) (pa_nil))) (pa_cons (pe_int) (pa_nil)))) (pg_tup (by rfl) (pgs_cons (pg_name (i := 6) nd rfl (Or.inr rfl)) (pgs_cons (pg_name (i := 7) nd rfl (Or.inr rfl)) pgs_nil)))) (pss_cons (ps_while PassesOwn.never (pt_cmpR op_lt (pv 7) (pe_callB call_len_seq (by rfl) mlen PySem.boot_len (pa_cons (pv 6) (pa_nil))) (nomark _)) (pss_one (ps_asg (pe_tup (pa_cons (pe_op op_cat (pv 6) (pe_lc (own := [("its", 9)]) (g := gName 9) (tt := ttKid K) (te := tVar 9) rfl nd (pi_range1 (by rfl) mrange (pa_cons (pe_callB call_len_seq (by rfl) mlen PySem.boot_len (pa_cons (pv 0) (pa_nil))) (pa_nil))) (blkOk_by (N := nBR) (sc := defScope sBagsRight) (by decide +kernel)) (fun _ _ _ _ _ => pg_name (i := 9) nd rfl (Or.inl rfl)) (fun _ _ _ _ _ => pts_one (PW.pt (pw_and (pt_cmpR op_eq (pe_ix ix_any2 (pv 1) (pv 9) (fun _ _ => rfl)) (pe_ix ix_any2 (pv 6) (pv 7) (fun _ _ => rfl)) (nomark _)) (pw_and1 (pt_cmpR op_notIn_seq (pv 9) (pv 6) (by with_unfolding_all rfl)))))) (fun _ _ _ _ _ => pv 9))) (pa_cons (pe_op op_add (pv 7) (pe_int)) (pa_nil)))) (pg_tup (by rfl) (pgs_cons (pg_name (i := 6) nd rfl (Or.inr rfl)) (pgs_cons (pg_name (i := 7) nd rfl (Or.inr rfl)) pgs_nil)))))) (pss_cons (ps_if (pt_cmpR op_ne (pe_callB call_len_seq (by rfl) mlen PySem.boot_len (pa_cons (pv 6) (pa_nil))) (pe_callB call_len_seq (by rfl) mlen PySem.boot_len (pa_cons (pv 0) (pa_nil))) (nomark _)) (pss_one (ps_ret (pe_bl))) (pss_nil)) (pss_cons (ps_set (i := 8) nd rfl (.inr rfl) (pe_dnewK)) (pss_cons (ps_for PassesOwn.never rfl (pi_enE (by rfl) menum (pa_cons (pv 0) (pa_nil))) (pg_tup (by rfl) (pgs_cons (pg_name (i := 4) nd rfl (Or.inl rfl)) (pgs_cons (pg_name (i := 2) nd rfl (Or.inr rfl)) pgs_nil))) (pss_one (ps_for PassesOwn.never rfl (pi_ei (pv 2)) (pg_name (i := 3) nd rfl (Or.inl rfl)) (pss_one (ps_if (PW.pt (pw_or (pt_cmpR op_isN (pe_ix ix_any2 (pv 1) (pv 4) (fun _ _ => rfl)) (pe_non) (nomark _)) (pw_or1 (pt_cmpR op_notIn_seq (pv 3) (pe_ix ix_any2 (pv 0) (pe_ix ix_any2 (pv 1) (pv 4) (fun _ _ => rfl)) (fun _ _ => rfl)) (by with_unfolding_all rfl))))) (pss_one (ps_asg (pe_op op_add (pe_dget2 (hu_of hr) (pv 8) (pv 3) pe_int ⟨rfl, rfl, rfl, rfl⟩) (pe_int)) (pg_sub (pv 8) (pv 3) (set_dict (hu_of hr))))) (pss_nil)))))) (pss_one (ps_ret (pe_cmpR (op_eqNil hr.units) (pe_lc (own := [("piece", 3)]) (g := gName 3) (tt := ttOne) (te := tVar 3) rfl nd (pi_keysK (pv 8)) (blkOk_by (N := nBR) (sc := defScope sBagsRight) (by decide +kernel)) (fun _ _ _ _ _ => pg_name (i := 3) nd rfl (Or.inl rfl)) (fun _ _ _ _ _ => pts_one (pt_cmpR op_ne (pe_dget (hu_of hr) (pv 8) (pv 3) (fun _ _ => rfl)) pe_int (nomark _))) (fun _ _ _ _ _ => pv 3)) (pe_lst pa_nil) (nomark _)))))))))))), ?_⟩
    obtain ⟨as, hAs, hal, hrow⟩ := id hA
    have hul := wd.len
    have bagT : ∀ {i : Nat}, i < bs.length → ∃ a, (as.map V.ref).getD i .non = .ref a ∧ SqT K H a ((bs.getD i []).map V.int) ∧ (as.map V.ref)[i]? = some (.ref a) ∧ bs.getD i [] ∈ bs := fun {i} hi => by
      have ha := List.getElem?_eq_getElem (show i < as.length by omega)
      have hb := List.getElem?_eq_getElem hi
      refine ⟨as[i], ?_, ?_, ?_, ?_⟩
      · rw [List.getD_eq_getElem?_getD, List.getElem?_map, ha]; rfl
      · rw [List.getD_eq_getElem?_getD, hb]
        exact hrow i _ _ ha hb
      · rw [List.getElem?_map, ha]; rfl
      · rw [List.getD_eq_getElem?_getD, hb]
        exact List.getElem_mem hi
    have lnA : ∀ {G : Hp} {σ : L2.St}, σ[0]? = some (some (.ref A)) → Evl.Ex H G → Evl.Ev (tCB (Evl.rLenS K) (tCons (tVar 0) tNil)) σ G (.int (bs.length : Int)) := fun h e => Evl.ev_is (ev_lenB (K := K) (Evl.ev_var h) (.inr (Evl.ex_t e hAs))) (by rw [List.length_map, hal])
    have upA : ∀ {G : Hp} {σ : L2.St} {i : Nat} {te : TE}, σ[1]? = some (some (.ref U)) → Evl.Ex H G → i < bs.length → Evl.Ev te σ G (.int (i : Int)) → Evl.Ev (tOp (rIxB K) (tVar 1) te) σ G (uv (us.getD i none)) := fun {G σ i te} h e hi ht => Evl.ev_op (x := .ref U) (y := .int (i : Int)) (Evl.ev_var h) ht (rv_ixB (.inr (Evl.ex_t e hU)) (atI_nat (by rw [List.getElem?_map, List.getElem?_eq_getElem (show i < us.length by omega), List.getD_eq_getElem?_getD, List.getElem?_eq_getElem (show i < us.length by omega)]; rfl)))
    -- both tuples, as long
    refine Evl.q_when (b := false) (Evl.et_is (Evl.et_or (a := false) (b := false) (isT rfl hAs) fun _ => Evl.et_or (a := false) (b := false) (isT rfl hU) fun _ => Evl.et_or (a := false) (b := false) (Evl.et_is (Evl.et_test (Evl.ev_op (lnA rfl (Evl.Ex.refl _)) Evl.ev_c (Evl.rv_eq rfl))) (decide_eq_false fun z => by have := V.int.inj z; have := wd.pos; omega)) fun _ => Evl.et_is (Evl.et_test (Evl.ev_op (lnA rfl (Evl.Ex.refl _)) (Evl.ev_is (ev_lenB (K := K) (Evl.ev_var rfl) (.inr hU)) (by rw [List.length_map, hul])) (Evl.rv_ne rfl))) (by rw [decide_eq_true rfl]; rfl)) rfl) (fun z => nomatch z) fun _ H1 e1 => ?_
    -- bag by bag
    refine q_forB (B := H) (n := (as.map V.ref).length) (s := fun i σ => σ.set 2 (some ((as.map V.ref).getD i .non))) (eb_ei (K := K) (Evl.ev_var (i := 0) rfl) (.inr hAs)) aims_at e1 (fun i σ' H' => (∃ x2, σ' = [some (.ref A), some (.ref U), x2, none, none, none, none, none, none, none]) ∧ Evl.Ex H H')
      (fun H2 e2 => ⟨⟨_, rfl⟩, e1.trans e2⟩) (fun i σ' H' hi p => p.2) (fun i σ' H' G hi p eG => ?_) fun σ' H' p => ?_
    · obtain ⟨⟨x2, rfl⟩, eH⟩ := p
      rw [List.length_map, hal] at hi
      obtain ⟨a, ha1, ha2, ha3, ham⟩ := bagT hi
      have eG := eH.trans eG
      generalize bs.getD i [] = ns at ha2 ham
      obtain ⟨w1, w2, w3⟩ := w4 ns ham
      have hrg := wd.rng ns ham
      have hns := Evl.ex_t eG ha2
      rw [ha1]
      try dsimp only [List.set_cons_zero, List.set_cons_succ]
      have c1 := el_lcI (te := tC (.int 1)) (t := ttOdd K) (σ := [some (.ref A), some (.ref U), some (.ref a), none, none, none, none, none, none, none]) (H := G) (vs := [3]) (fun _ => false) (fun _ => .int 1) (ei_ei (K := K) (Evl.ev_var (i := 2) rfl) (.inr hns)) (aims_at (j := 3)) (fun _ => rfl) (by rw [List.length_map]; omega) (fun m B eB hm => by
        rw [List.length_map] at hm
        rw [gd_int hm]
        have hp := hrg (ns.getD m 0) (by rw [List.getD_eq_getElem?_getD, List.getElem?_eq_getElem hm]; exact List.getElem_mem hm)
        exact Evl.et_is (Evl.et_or (a := false) (b := false) (isNB rfl) fun _ => Evl.et_or (a := false) (b := false) (isNI rfl) fun _ => Evl.et_is (Evl.et_test (Evl.ev_op (Evl.ev_var rfl) Evl.ev_c Evl.rv_I0)) (decide_eq_false (by omega))) rfl) (fun m B eB hm z => nomatch z)
      refine Evl.q_when (b := false) (Evl.et_is (Evl.et_or (a := false) (b := false) (isT rfl hns) fun _ => Evl.et_or (a := false) (b := false) (Evl.et_is (Evl.et_not (et_chain (f := fun i j => decide (i ≤ j)) (g := fun i j => decide (i ≤ j)) (i := 1) (k := 4) Evl.ev_c (ev_lenB (K := K) (Evl.ev_var rfl) (.inr hns)) Evl.ev_c)) (by rw [List.length_map, decide_eq_true (by omega), decide_eq_true (by omega)]; rfl)) fun _ => nilT c1 fun _ _ => rfl) rfl) (fun z => nomatch z) fun _ G2 e2 => ?_
      have hns2 := Evl.ex_t e2 hns
      have c2 := el_lcI (te := tVar 4) (t := ttDesc K) (σ := [some (.ref A), some (.ref U), some (.ref a), none, none, none, none, none, none, none]) (H := G2) (vs := [4]) (fun _ => false) (fun _ => .int 1) (ei_rng2 (ta := tCons (tC (.int 1)) (tCons (tCB (Evl.rLenS K) (tCons (tVar 2) tNil)) tNil)) (i := 1) (j := ((ns.map V.int).length : Int)) (Evl.ea_cons Evl.ev_c (Evl.ea_cons (ev_lenB (K := K) (Evl.ev_var rfl) (.inr hns2)) Evl.ea_nil)) (by omega) (by rw [List.length_map]; omega)) (aims_fn (j := 4)) (fun _ => rfl) (by rw [List.length_map]; omega) (fun m B eB hm => by
        rw [List.length_map] at hm
        have h1 : m < ns.length := by omega
        have h2 : m + 1 < ns.length := by omega
        have lt : ns[m] < ns[m + 1] := List.pairwise_iff_getElem.mp w1 m (m + 1) h1 h2 (by omega)
        have g1 : (ns.map V.int)[m]? = some (.int ns[m]) := by rw [List.getElem?_map, List.getElem?_eq_getElem h1]; rfl
        have g2 : (ns.map V.int)[m + 1]? = some (.int ns[m + 1]) := by rw [List.getElem?_map, List.getElem?_eq_getElem h2]; rfl
        exact Evl.et_is (Evl.et_test (Evl.ev_op (Evl.ev_op (x := .ref a) (y := .int (m : Int)) (Evl.ev_var rfl) (Evl.ev_is (Evl.ev_op (Evl.ev_var rfl) Evl.ev_c Evl.rv_I0) (by congr 1; omega)) (rv_ixB (.inr (Evl.ex_t eB hns2)) (atI_nat g1))) (Evl.ev_op (x := .ref a) (y := .int ((m + 1 : Nat) : Int)) (Evl.ev_var rfl) (Evl.ev_is (Evl.ev_var rfl) (by congr 1; omega)) (rv_ixB (.inr (Evl.ex_t eB hns2)) (atI_nat g2))) Evl.rv_I0)) (decide_eq_false (by omega))) (fun m B eB hm z => nomatch z)
      refine Evl.s_when (b := false) (nilT c2 fun _ _ => rfl) (fun z => nomatch z) fun _ G3 e3 => ⟨⟨_, rfl⟩, (eG.trans e2).trans e3⟩
    · obtain ⟨⟨x2, rfl⟩, eH⟩ := p
      -- tops
      have uL : (us.map uv).length = bs.length := by rw [List.length_map, hul]
      have c3 := el_lcI (te := tVar 4) (t := tTest (tOp rIsN (tVar 9) (tC .non))) (σ := [some (.ref A), some (.ref U), x2, none, none, none, none, none, none, none]) (H := H') (vs := [4, 9]) (fun i => decide (us.getD i none = none)) (fun i => V.int (i : Int)) (ei_enE (K := K) (Evl.ea_cons (Evl.ev_var (i := 1) rfl) Evl.ea_nil) (.inr (Evl.ex_t eH hU))) (aims_enumE (K := K) (j1 := 4) (j2 := 9)) (fun _ => rfl) (by rw [uL]; omega) (fun m B eB hm => by
        rw [uL] at hm
        have e : (us.map uv).getD m .non = uv (us.getD m none) := by rw [List.getD_eq_getElem?_getD, List.getElem?_map, List.getD_eq_getElem?_getD, List.getElem?_eq_getElem (show m < us.length by omega)]; rfl
        rw [e]
        refine Evl.et_is (Evl.et_test (Evl.ev_op (Evl.ev_var rfl) Evl.ev_c rv_isN)) ?_
        cases us.getD m none with
        | none => rfl
        | some j => rfl) (fun m B eB hm _ => Evl.ev_var rfl)
      have eg : Evl.given (us.map uv).length (fun i => decide (us.getD i none = none)) (fun i => V.int (i : Int)) = [V.int 0] := by
        unfold Evl.given
        rw [List.length_map, tops_zero wd]
        rfl
      rw [eg] at c3
      refine Evl.q_asgL c3 fun T0 H2 nT0 e2 hT0 => ?_
      try dsimp only [List.set_cons_zero, List.set_cons_succ]
      have eH2 := eH.trans e2
      have hU2 := Evl.ex_t eH2 hU
      have c4 := el_lcI (te := tC (.int 1)) (t := ttOut K) (σ := [some (.ref A), some (.ref U), x2, none, none, some (.ref T0), none, none, none, none]) (H := H2) (vs := [9]) (fun _ => false) (fun _ => .int 1) (ei_ei (K := K) (Evl.ev_var (i := 1) rfl) (.inr hU2)) (aims_at (j := 9)) (fun _ => rfl) (by rw [uL]; omega) (fun m B eB hm => by
        rw [uL] at hm
        have e : (us.map uv).getD m .non = uv (us.getD m none) := by rw [List.getD_eq_getElem?_getD, List.getElem?_map, List.getD_eq_getElem?_getD, List.getElem?_eq_getElem (show m < us.length by omega)]; rfl
        rw [e]
        cases hu : us.getD m none with
        | none => exact Evl.et_is (Evl.et_and (a := false) (b := false) (Evl.et_test (Evl.ev_op (Evl.ev_var rfl) Evl.ev_c (fun G1 _ Q q => ⟨rfl, q G1 (Evl.Ex.refl _)⟩))) fun z => nomatch z) rfl
        | some j =>
          have hj : j < bs.length := wd.lt (i := m) (by rw [List.getElem?_eq_getElem (show m < us.length by omega)]; rw [List.getD_eq_getElem?_getD, List.getElem?_eq_getElem (show m < us.length by omega)] at hu; exact congrArg some hu)
          exact Evl.et_is (Evl.et_and (a := true) (b := false) (Evl.et_test (Evl.ev_op (Evl.ev_var rfl) Evl.ev_c (fun G1 _ Q q => ⟨rfl, q G1 (Evl.Ex.refl _)⟩))) fun _ => Evl.et_is (Evl.et_or (a := false) (b := false) (isNB (z := (j : Int)) rfl) fun _ => Evl.et_or (a := false) (b := false) (isNI (z := (j : Int)) rfl) fun _ => Evl.et_is (Evl.et_not (et_chain (f := fun i j => decide (i ≤ j)) (g := fun i j => decide (i < j)) (i := 0) (j := (j : Int)) Evl.ev_c (Evl.ev_var rfl) (lnA rfl (eH2.trans eB)))) (by rw [decide_eq_true (by omega), decide_eq_true (by omega)]; rfl)) rfl) rfl) (fun m B eB hm z => nomatch z)
      refine Evl.q_when (b := false) (Evl.et_is (Evl.et_or (a := false) (b := false) (Evl.et_is (Evl.et_test (Evl.ev_op (Evl.ev_len (K := K) (Evl.ev_var rfl) (Evl.sq_of hT0)) Evl.ev_c (Evl.rv_ne rfl))) rfl) fun _ => nilT c4 fun _ _ => rfl) rfl) (fun z => nomatch z) fun _ H3 e3 => ?_
      have eH3 := eH2.trans e3
      -- met, spot
      refine Go.q_asg1 (Go.tup_go (Go.cons_any (Go.cb_go (Go.cons_any ⟨.ref T0, rfl, T0, _, rfl, .inl (Evl.sq_of (e3 _ _ hT0)), fun M hM => ⟨by show 2 ≤ sizeLine; decide, fun Tp hTp => ⟨Tp, _, rfl, Evl.st_of upd_same, rfl, _, _, rfl, _, _, rfl, rfl, ?_⟩⟩⟩))))
      try dsimp only [List.set_cons_zero, List.set_cons_succ]
      have eM := (Evl.Ex.new (o := .lst [V.int 0]) hM).trans (Evl.Ex.new (o := .tup [V.ref M, V.int 0]) hTp)
      have hM4 := Evl.Ex.new (o := .tup [V.ref M, V.int 0]) hTp _ _ (upd_same (H := H3) (a := M) (o := .lst [V.int 0]))
      generalize upd (upd H3 M (.lst [V.int 0])) Tp (.tup [V.ref M, V.int 0]) = H4 at eM hM4 ⊢
      have eH4 := eH3.trans eM
      refine Evl.q_while (fun m σ' A1 => ∃ (M : Addr) (ms : List Nat) (s : Nat), σ' = [some (.ref A), some (.ref U), x2, none, none, some (.ref T0), some (.ref M), some (.int (s : Int)), none, none] ∧ Evl.Ex H A1 ∧ A1 M = some (.lst (ms.map fun x : Nat => V.int (x : Int))) ∧ Met us bs.length ms s ∧ m = bs.length - s) (bs.length - 0) ⟨M, [0], 0, rfl, eH4, hM4, ⟨by simp, fun x hx => by rw [List.mem_singleton.mp hx]; exact wd.pos, List.mem_cons_self, fun k j hk => absurd hk (Nat.not_lt_zero _), Nat.zero_le _⟩, rfl⟩ fun m σ' A1 p => ?_
      obtain ⟨M, ms, s, rfl, eA, hM, met, rfl⟩ := p
      refine ⟨decide (s < ms.length), Evl.et_is (Evl.et_test (Evl.ev_op (Evl.ev_var rfl) (Evl.ev_len (K := K) (Evl.ev_var rfl) (Evl.sq_of hM)) Evl.rv_I0)) (by rw [List.length_map]; exact decide_eq_decide.mpr (by omega)), fun hb A2 e4 => ?_, fun hb A2 e4 => ?_⟩
      · have hs := of_decide_eq_true hb
        have hj := List.getElem?_eq_getElem hs
        generalize ms[s] = j at hj
        have hjn := met.lt j (List.mem_of_getElem? hj)
        have hml := met.len
        have eA2 := eA.trans e4
        have hM2 := e4 _ _ hM
        have c5 := el_lcI (te := tVar 9) (t := ttKid K) (σ := [some (.ref A), some (.ref U), x2, none, none, some (.ref T0), some (.ref M), some (.int (s : Int)), none, none]) (H := A2) (vs := [9]) (fun x => decide (us[x]? = some (some j)) && !decide (x ∈ ms)) (fun i => V.int (i : Int)) (ei_rng1c (ta := tCons (tCB (Evl.rLenS K) (tCons (tVar 0) tNil)) tNil) (j := (bs.length : Int)) (n := bs.length) (by omega) (Evl.ea_cons (lnA rfl eA2) Evl.ea_nil) (by omega) (by omega)) (aims_fn (j := 9)) (fun _ => rfl) (by omega) (fun x B eB hx => by
          have gu : us[x]? = some (us.getD x none) := by rw [List.getD_eq_getElem?_getD, List.getElem?_eq_getElem (show x < us.length by omega)]; rfl
          refine Evl.et_and (a := decide (us[x]? = some (some j))) (Evl.et_is (Evl.et_test (Evl.ev_op (x := uv (us.getD x none)) (y := .int (j : Int)) (upA rfl (eA2.trans eB) hx (Evl.ev_is (Evl.ev_var rfl) (by congr 1; omega))) (Evl.ev_op (x := .ref M) (y := .int (s : Int)) (Evl.ev_var rfl) (Evl.ev_var rfl) (rv_ixB (.inl (Evl.sq_of (eB _ _ hM2))) (atI_nat (by rw [List.getElem?_map, hj]; rfl)))) (Evl.rv_eq (by cases us.getD x none <;> rfl)))) ?_) fun _ => ?_
          · refine decide_eq_decide.mpr ?_
            rw [gu]
            cases us.getD x none with
            | none => exact ⟨fun z => (nomatch z), fun z => (nomatch (Option.some.inj z))⟩
            | some k => exact ⟨fun z => by have := V.int.inj z; rw [show k = j by omega], fun z => by rw [Option.some.inj (Option.some.inj z)]; rfl⟩
          · have := et_ninI (K := K) (ns := ms.map fun x : Nat => (x : Int)) (x := (x : Int)) (ta := tVar 9) (tb := tVar 6) (σ := ((wipe [some (.ref A), some (.ref U), x2, none, none, some (.ref T0), some (.ref M), some (.int (s : Int)), none, none] [9]).set 9 (some (.int (0 + (x : Int)))))) (H := B) (Evl.ev_is (Evl.ev_var rfl) (by congr 1; omega)) (Evl.ev_var rfl) (.inl (Evl.sq_of (by rw [List.map_map]; exact eB _ _ hM2)))
            refine Evl.et_is this (congrArg (!·) (decide_eq_decide.mpr ?_))
            rw [List.mem_map]
            exact ⟨fun ⟨y, hy, e⟩ => by rw [show x = y by omega]; exact hy, fun h => ⟨x, h, rfl⟩⟩) (fun x B eB hx _ => Evl.ev_is (Evl.ev_var rfl) (by congr 1; omega))
        have c6 := el_catVN (Evl.ev_var (i := 6) rfl) hM2 c5 (by
          have h1 : (Evl.given bs.length (fun x => decide (us[x]? = some (some j)) && !decide (x ∈ ms)) fun i => V.int (i : Int)).length ≤ bs.length := by
            unfold Evl.given
            rw [List.length_map]
            have := List.length_filter_le (fun x => decide (us[x]? = some (some j)) && !decide (x ∈ ms)) (List.range bs.length)
            rwa [List.length_range] at this
          rw [List.length_map]
          omega)
        refine ⟨fun σ' A1 => ∃ (M : Addr) (ms : List Nat), σ' = [some (.ref A), some (.ref U), x2, none, none, some (.ref T0), some (.ref M), some (.int ((s + 1 : Nat) : Int)), none, none] ∧ Evl.Ex H A1 ∧ A1 M = some (.lst (ms.map fun x : Nat => V.int (x : Int))) ∧ Met us bs.length ms (s + 1), fun σ2 A3 ⟨M2, ms2, h1, h2, h3, h4⟩ => ⟨bs.length - (s + 1), by omega, M2, ms2, s + 1, h1, h2, h3, h4, rfl⟩, ?_⟩
        refine asgt_go (Go.tup_go (Go.cons_any (c6 A2 (Evl.Ex.refl _) _ fun M2 A3 nM2 e5 hM3 => Go.cons_any (Go.op_go ⟨_, rfl, c_go ⟨(s : Int), 1, rfl, rfl, nil_goJ ⟨by show 2 ≤ sizeLine; decide, fun Tq hTq => ⟨Tq, _, rfl, Evl.st_of upd_same, rfl, _, _, rfl, _, _, rfl, rfl, ?_⟩⟩⟩⟩))))
        have eQ := Evl.Ex.new (o := .tup [V.ref M2, V.int ((s : Int) + 1)]) hTq
        refine ⟨M2, ms ++ newK us bs.length ms j, rfl, (eA2.trans e5).trans eQ, ?_, met.step hj⟩
        rw [eQ _ _ hM3, List.map_append]
        rfl
      · have hs := of_decide_eq_false hb
        have hml := met.all wd (by omega)
        have eA2 := eA.trans e4
        refine Evl.q_when (b := false) (Evl.et_is (Evl.et_test (Evl.ev_op (Evl.ev_is (Evl.ev_len (K := K) (Evl.ev_var rfl) (Evl.sq_of (e4 _ _ hM))) (by rw [List.length_map, hml])) (lnA rfl eA2) (Evl.rv_ne rfl))) (by rw [decide_eq_true rfl]; rfl)) (fun z => nomatch z) fun _ A3 e5 => ?_
        have eA3 := eA2.trans e5
        refine Go.asg_go (fun D nD => ?_)
        try dsimp only [List.set_cons_zero, List.set_cons_succ]
        have eD := Evl.Ex.new (o := .dK []) nD
        refine q_forB (B := A3) (n := (as.map V.ref).length) (s := fun i σ => (σ.set 4 (some (.int (i : Nat)))).set 2 (some ((as.map V.ref).getD i .non))) (eb_enE (K := K) (Evl.ea_cons (Evl.ev_var (i := 0) rfl) Evl.ea_nil) (Evl.ex_t eA3 hAs)) (aims_enumE (K := K) (j1 := 4) (j2 := 2)) eD (fun i σ' H' => (∃ x2 x3 x4, σ' = [some (.ref A), some (.ref U), x2, x3, x4, some (.ref T0), some (.ref M), some (.int (s : Int)), some (.ref D), none]) ∧ Evl.Ex A3 H' ∧ H' D = some (.dK (kvF (frM bs us i 0))))
          (fun G eG => ⟨⟨_, _, _, rfl⟩, eD.trans eG, eG _ _ upd_same⟩) (fun i σ' H' hi p => p.2.1) (fun i σ' H' G hi p eG => ?_) fun σ' H' p => ?_
        · obtain ⟨⟨y2, y3, y4, rfl⟩, e6, hD⟩ := p
          rw [List.length_map, hal] at hi
          obtain ⟨a, ha1, ha2, ha3, ham⟩ := bagT hi
          rw [ha1]
          try dsimp only [List.set_cons_zero, List.set_cons_succ]
          have l4 := (w4 _ ham).2.2
          refine s_forB (B := A3) (n := ((bs.getD i []).map V.int).length) (s := fun m σ => σ.set 3 (some (((bs.getD i []).map V.int).getD m .non))) (eb_ei (K := K) (Evl.ev_var (i := 2) rfl) (.inr (Evl.ex_t eA3 ha2))) aims_at (e6.trans eG) (fun m σ' A' => (∃ x3, σ' = [some (.ref A), some (.ref U), some (.ref a), x3, some (.int (i : Int)), some (.ref T0), some (.ref M), some (.int (s : Int)), some (.ref D), none]) ∧ Evl.Ex A3 A' ∧ A' D = some (.dK (kvF (frM bs us i m))))
            (fun B eB => ⟨⟨_, rfl⟩, (e6.trans eG).trans eB, eB _ _ (eG _ _ hD)⟩) (fun m σ' A' hm p => p.2.1) (fun m σ' A' B hm p eB => ?_) fun σ' A' p => ?_
          · obtain ⟨⟨z3, rfl⟩, e7, hD7⟩ := p
            rw [List.length_map] at hm
            rw [gd_int hm]
            try dsimp only [List.set_cons_zero, List.set_cons_succ]
            have e8 := e7.trans eB
            have hD8 := eB _ _ hD7
            have eHB := eA3.trans e8
            generalize hp : (bs.getD i []).getD m 0 = p
            have cond : Evl.EvT (tOr (tTest (tOp rIsN (tOp (rIxB K) (tVar 1) (tVar 4)) (tC .non))) (tTest (tOp (rIn K true) (tVar 3) (tOp (rIxB K) (tVar 0) (tOp (rIxB K) (tVar 1) (tVar 4)))))) [some (.ref A), some (.ref U), some (.ref a), some (.int p), some (.int (i : Int)), some (.ref T0), some (.ref M), some (.int (s : Int)), some (.ref D), none] B (frB bs (us.getD i none) p) := by
              have up := upA (i := i) (σ := [some (.ref A), some (.ref U), some (.ref a), some (.int p), some (.int (i : Int)), some (.ref T0), some (.ref M), some (.int (s : Int)), some (.ref D), none]) (te := tVar 4) rfl eHB hi (Evl.ev_var rfl)
              cases hu : us.getD i none with
              | none =>
                rw [hu] at up
                exact Evl.et_is (Evl.et_or (a := true) (b := true) (Evl.et_is (Evl.et_test (Evl.ev_op up Evl.ev_c rv_isN)) rfl) fun z => nomatch z) rfl
              | some j =>
                rw [hu] at up
                have hj : j < bs.length := wd.lt (i := i) (by rw [List.getElem?_eq_getElem (show i < us.length by omega)]; rw [List.getD_eq_getElem?_getD, List.getElem?_eq_getElem (show i < us.length by omega)] at hu; exact congrArg some hu)
                obtain ⟨b, hb1, hb2, hb3, _⟩ := bagT hj
                exact Evl.et_is (Evl.et_or (a := false) (Evl.et_is (Evl.et_test (Evl.ev_op up Evl.ev_c rv_isN)) rfl) fun _ => et_ninI (K := K) (ns := bs.getD j []) (Evl.ev_var rfl) (Evl.ev_op (x := .ref A) (y := .int (j : Int)) (Evl.ev_var rfl) up (rv_ixB (.inr (Evl.ex_t eHB hAs)) (atI_nat hb3))) (.inr (Evl.ex_t eHB hb2))) (Bool.false_or _)
            refine Evl.s_when cond (fun hf C e9 => ?_) fun hf C e9 => ?_
            · have hf' : frB bs (us.getD i none) ((bs.getD i []).getD m 0) = true := by rw [hp]; exact hf
              have hnew := frM_new hm hf'
              have hfre := frM_fresh wd.fr hi hm hf'
              rw [hp] at hnew hfre
              have hD9 := e9 _ _ hD8
              have lf : (frM bs us i m).length ≤ 100 := by
                unfold frM
                have h1 : ((freshL bs us).take i).flatten.length ≤ i * 4 := by
                  have h3 := flat_le (f := fun ns : List Int => ns) (l := (freshL bs us).take i) (m := 4) fun r hr => by
                    obtain ⟨j, hj, rfl⟩ := List.mem_map.mp (List.mem_of_mem_take hr)
                    obtain ⟨_, _, _, _, hjm⟩ := bagT (List.mem_range.mp hj)
                    exact Nat.le_trans (List.length_filter_le _ _) (w4 _ hjm).2.2
                  rw [show ((freshL bs us).take i).flatMap (fun ns : List Int => ns) = ((freshL bs us).take i).flatten from List.flatMap_id] at h3
                  have h4 : ((freshL bs us).take i).length ≤ i := by rw [List.length_take]; omega
                  omega
                have h2 : (((bs.getD i []).take m).filter (frB bs (us.getD i none))).length ≤ 4 := by
                  have := List.length_filter_le (frB bs (us.getD i none)) ((bs.getD i []).take m)
                  rw [List.length_take] at this
                  omega
                rw [List.length_append]
                omega
              refine asgt_go (Go.op_go ⟨.ref D, rfl, D, rfl, .inl ⟨_, .inl hD9⟩, .int p, rfl, none, by have := DGet.k (k := .inl p) hD9; rw [val_no hfre] at this; exact this, c_go ⟨0, 1, rfl, rfl, .ref D, rfl, .int p, rfl, D, _, rfl, DPut.k (k := .inl p) hD9 (by unfold kvF; rw [List.length_map, sizeLine_eq]; omega), ?_⟩⟩)
              refine ⟨⟨_, rfl⟩, fun z o h => ?_, ?_⟩
              · rw [upd_ne (fun q => by rw [q, nD] at h; cases h)]
                exact e9 _ _ (e8 _ _ h)
              · rw [upd_same, hnew, ← put_new hfre]
                rfl
            · have hf' : frB bs (us.getD i none) ((bs.getD i []).getD m 0) = false := by rw [hp]; exact hf
              exact ⟨⟨_, rfl⟩, e8.trans e9, by rw [frM_old hm hf']; exact e9 _ _ hD8⟩
          · obtain ⟨⟨z3, rfl⟩, e7, hD7⟩ := p
            rw [List.length_map, frM_end hi] at hD7
            exact ⟨⟨_, _, _, rfl⟩, e7, hD7⟩
        · obtain ⟨⟨y2, y3, y4, rfl⟩, e6, hD⟩ := p
          generalize frM bs us (as.map V.ref).length 0 = fr at hD
          refine Go.ret_go (Go.op_go ⟨.ref D, rfl, D, _, rfl, hD, fun od L hL => ?_⟩)
          have eF : Evl.Ex A3 (upd H' D (.frz od (.dK (kvF fr)))) := fun z o h => by
            rw [upd_ne (fun q => by rw [q, nD] at h; cases h)]
            exact e6 _ _ h
          have hF : (upd H' D (.frz od (.dK (kvF fr)))) D = some (.frz od (.dK (kvF fr))) := upd_same
          generalize upd H' D (.frz od (.dK (kvF fr))) = H5 at eF hF hL ⊢
          refine lc_it walk_keys (fun i A' => H5 L = none ∧ Evl.Ex H5 A' ∧ A' L = some (.lst [])) ⟨hL, Evl.Ex.new hL, upd_same⟩ (fun i A' _ p => p.2.1 _ _ hF) (fun i y A1 B hi p hy => ?_) fun A' p => ?_
          · obtain ⟨rfl, kk, vv, hk, rfl⟩ := hy
            obtain ⟨p1, p2, p3⟩ := p
            obtain ⟨q0, hq, e⟩ : ∃ q0, q0 ∈ fr ∧ (kk, vv) = ((Sum.inl q0 : L2.Key), V.int 1) := by
              have := List.mem_of_getElem? hk
              unfold kvF at this
              obtain ⟨q0, h1, h2⟩ := List.mem_map.mp this
              exact ⟨q0, h1, h2.symm⟩
            cases e
            refine ⟨rfl, ?_⟩
            refine test_go (Go.op_go ⟨.ref D, rfl, .int q0, rfl, D, V.int 1, rfl, .inl ⟨_, .inl q0, .inr ⟨od, p2 _ _ hF⟩, rfl, (val_yes hq).symm⟩, c_go ⟨rfl, _, rfl, ?_⟩⟩)
            rw [if_neg (by decide)]
            exact ⟨p1, p2, p3⟩
          · obtain ⟨p1, p2, p3⟩ := p
            refine Go.lst_go (nil_goJ ⟨by show 0 ≤ sizeLine; decide, fun l nl => ⟨L, l, [], rfl, rfl, Evl.sq_of (Evl.Ex.new nl _ _ p3), Evl.sq_of upd_same, ?_⟩⟩)
            exact q _ (((eA3.trans eF).trans p2).trans (Evl.Ex.new nl))
end
end P38
end S_Ndc
section S_Xm
namespace EnL
open PySem PySem.Spec PyProof.Rows L2 Tl
/-! ### C.m(..), m a staticmethod of the own class C -/
/-- m is one: its record at p, its def at g -/
structure Stat (K : PySem.W.Frag) (C : Addr) (mc : Value) (m : Str) (p g : Addr) : Prop where
  rd : ClX.CRead K C mc
  find : PySem.W.findCls K (.ref C) mc m = some (.get (.builtin "staticmethod.__get__") (.ref p) .none (.ref C))
  record : ∃ more, PySem.W.recIn K p "staticmethod" = some (.ref g :: more)
  kp : PySem.W.keepIn K (.ref g) = true
theorem get_stat {X : Cx} {pins : List (Addr × Obj)} {σ : L2.St} {H : Hp} {s : Shared} {C p g : Addr} {mc : Value} {m : Str} {A : Around} {E : Value → Shared → Prop} {pl : Sem Bool} {Q : Value × List Value → Shared → Prop} (I : Inv X pins σ H s) (S : Stat X.K C mc m p g)
    (h : ∀ s', Inv X pins σ H s' → Q (.ref g, []) s') : wpAny (model X.prog X.w) A (getMethod (.ref C) m pl) Q E s := by
  obtain ⟨more, hp⟩ := S.record
  refine PySem.W.method_cls I.kIn S.rd.ga (PySem.W.cls_bind I.kIn S.rd.rd S.find ?_)
  exact wpAny_call (PySem.W.sm_get (s := { s with toks := s.toks + 1 }) I.kIn hp (PySem.W.handed_on rfl (h _ (I.tok _))))
def tStat (C : Addr) (sp : Sp) (E : XK) (ta : TE) (t : TA) : TE := fun σ H Q => ta σ H fun x H1 => x = .ref C ∧ t σ H1 fun vs H2 => sp vs H2 Q E
theorem pe_stat {X : Cx} {CX : CXT} {k : Nat} {C p g : Addr} {mc : Value} {m : Str} {fd : FuncData} {ps : List Str} {sp : Sp} {E : XK} {pos apos : Pos} {o e : Expr} {es : List Expr} {ta : TE} {t : TA} {pl : Sem Bool}
    (ho : PE X o ta) (S : Stat X.K C mc m p g) (F : FnOk X.prog X.w X.K X.mg X.base CX k g fd ps sp) (hr : Room k X.A) (hb : Binds X.K fd ps []) (hx : Passes CX X E) (ha : PA X (e :: es) t)
    (hst : starEach (e :: es) X.env = (false, eval e X.env) :: starEach es X.env := by rfl) (hpl : (backTo pos (starEach es X.env)).any (·.1) = false := by rfl)
    (he : eval (.Call (.Attribute o m apos) (e :: es) [] pos) X.env = (do
      let ov ← eval o X.env
      standAt apos.atName
      let __x ← holding [ov] (getMethod ov m pl)
      match __x with
        | (f, first) => callWith pos f first (backTo pos (starEach (e :: es) X.env)) (backToKw pos (keywordEach [] X.env))) := by rfl) :
    PE X (.Call (.Attribute o m apos) (e :: es) [] pos) (tStat C sp E ta t) := by
  constructor
  intro pins s σ H Q I h
  rw [he]
  refine wpAny_bind (thn (ho.run pins s σ H _ I h) fun v s1 hv => ?_)
  obtain ⟨x, H1, I1, rx, rfl, hk⟩ := hv
  obtain rfl := rx
  refine wpAny_bind (wpAny_standAt ?_)
  refine wpAny_bind (wpAny_holding ?_)
  refine get_stat I1 S fun s' I2 => ?_
  refine PySem.W.callWith_K (h₀ := X.base) I2.ok.mod.kin S.kp (thn (ha.run pos pins s' σ H1 _ I2 hk) fun us s2 hv => ?_) hst hpl
  obtain ⟨vs, H2, I3, r, q⟩ := hv
  have q' : sp (vs ++ []) H2 Q E := by rw [List.append_nil]; exact q
  exact ⟨I3.kIn, run_fn F hr hb .nil hx I3 r q'⟩
def tStatN (C : Addr) (n : Nat) (sp : Sp) (gV : List V → List V → List V) (E : XK) (ta : TE) (tk : TA) : TE := fun σ H Q => ta σ H fun x H1 => x = .ref C ∧ tk σ H1 fun zs H2 => zs.length = n ∧ sp (gV [] zs) H2 Q E
theorem pe_statN {X : Cx} {CX : CXT} {k : Nat} {C p g : Addr} {mc : Value} {m : Str} {fd : FuncData} {ps ks : List Str} {sp : Sp} {E : XK} {pos apos : Pos} {o : Expr} {kws : List Keyword} {ta : TE} {tk : TA} {gg : List Value → List Value → List Value} {gV : List V → List V → List V} {pl : Sem Bool}
    (ho : PE X o ta) (S : Stat X.K C mc m p g) (F : FnOk X.prog X.w X.K X.mg X.base CX k g fd ps sp) (hr : Room k X.A) (hb : KBn X.K fd ps 0 ks gg gV) (hx : Passes CX X E) (hkw : PK X kws tk)
    (hall : (backToKw pos (keywordEach kws X.env)).all (·.1.isSome) = true := by rfl) (hks : (backToKw pos (keywordEach kws X.env)).filterMap (·.1) = ks := by rfl)
    (hpl : ((backTo pos (starEach [] X.env)).any (·.1) || (backToKw pos (keywordEach kws X.env)).any (·.1.isNone)) = false := by rfl)
    (he : eval (.Call (.Attribute o m apos) [] kws pos) X.env = (do
      let ov ← eval o X.env
      standAt apos.atName
      let __x ← holding [ov] (getMethod ov m pl)
      match __x with
        | (f, first) => callWith pos f first (backTo pos (starEach [] X.env)) (backToKw pos (keywordEach kws X.env))) := by rfl) :
    PE X (.Call (.Attribute o m apos) [] kws pos) (tStatN C ks.length sp gV E ta tk) := by
  constructor
  intro pins s σ H Q I h
  rw [he]
  refine wpAny_bind (thn (ho.run pins s σ H _ I h) fun v s1 hv => ?_)
  obtain ⟨x, H1, I1, rx, rfl, hk⟩ := hv
  obtain rfl := rx
  refine wpAny_bind (wpAny_standAt ?_)
  refine wpAny_bind (wpAny_holding ?_)
  refine get_stat I1 S fun s' I2 => ?_
  refine PySem.W.callWith_KW0 (h₀ := X.base) I2.ok.mod.kin S.kp hall (thn (hkw.run pos pins s' σ H1 _ I2 hk) fun ws s2 hv => ?_) hpl
  obtain ⟨zs, H2, I3, rz, l2, q2⟩ := hv
  refine ⟨I3.kIn, ?_⟩
  rw [hks]
  exact run_fnN (us := []) (vs := []) F hr hb hx I3 .nil rz rfl l2 q2
end EnL
end S_Xm
section S_Ndd
namespace P38
open PySem PySem.Spec PyProof.Rows L2 Tl Hk RZ EnL LamX
theorem strip_tb {t a : Addr} {H : Hp} {o : HO} {ps : Array Value} (hT : H t = some (.tbl ps)) (h : H a = some o) (hn : ∀ ps, o ≠ .tbl ps) : strip t H a = some o := strip_at h (fun z => by rw [z, hT] at h; cases h; exact hn _ rfl) hn
structure Od (T : List (Addr × Str)) (t c : Addr) (n : Nat) (H : Hp) : Prop where
  tabs : Tabs T H
  tub : Tub H t c n
theorem Od.ex {T : List (Addr × Str)} {t c : Addr} {n : Nat} {H H1 : Hp} (o : Od T t c n H) (e : Evl.Ex H H1) : Od T t c n H1 := ⟨o.tabs.ext e, o.tub.ex e⟩
theorem Od.kept {T : List (Addr × Str)} {t c : Addr} {n m : Nat} {H H1 : Hp} (o : Od T t c n H) (k : Kept t H H1) (T1 : Tub H1 t c m) : Od T t c m H1 := ⟨fun p hp => by
  obtain ⟨cs, turn, rest, ht, _⟩ := o.tub
  obtain ⟨ps, h1, h2, h3⟩ := o.tabs p hp
  refine ⟨ps, k _ _ (fun z => by rw [z, ht] at h1; cases h1) h1, h2, fun pos cv hc => ?_⟩
  obtain ⟨c', e1, e2⟩ := h3 pos cv hc
  exact ⟨c', e1, k _ _ (fun z => by rw [z, ht] at e2; cases e2) e2⟩, T1⟩
theorem Od.mono {T : List (Addr × Str)} {t c : Addr} {n m : Nat} {H : Hp} (o : Od T t c n H) (h : n ≤ m) : Od T t c m H := ⟨o.tabs, o.tub.mono h⟩
theorem Od.extN {T : List (Addr × Str)} {t c : Addr} {n : Nat} {H H' : Hp} (o : Od T t c n H) (e : ExtN H H') (tT : Tabs T H') : Od T t c n H' := ⟨tT, by
  obtain ⟨cs, turn, rest, h1, h2, h3⟩ := o.tub
  exact ⟨cs, turn, rest, e _ _ h1 (fun ps z => nomatch z), e _ _ h2 (fun ps z => nomatch z), h3⟩⟩
theorem sx_kept {t : Addr} {H H1 : Hp} (k : Kept t H H1) : Evl.Ex (strip t H) (strip t H1) := fun a o h => by
  obtain ⟨h1, h2, h3⟩ := strip_le h
  exact strip_at (k a o h1 h2) h1 h3
theorem sx_ex {t : Addr} {H H1 : Hp} (e : Evl.Ex H H1) : Evl.Ex (strip t H) (strip t H1) := sx_kept (kept_ex e)
theorem sx_but {t : Addr} {H H' : Hp} (k : ∀ a o, a ≠ t → H a = some o → (∀ ps, o ≠ .tbl ps) → H' a = some o) : Evl.Ex (strip t H) (strip t H') := fun a o h => by
  obtain ⟨h1, h2, h3⟩ := strip_le h
  exact strip_at (k a o h1 h2 h3) h1 h3
theorem tub_strip {H : Hp} {T t c : Addr} {n : Nat} {ps : Array Value} (hT : H T = some (.tbl ps)) (h : Tub H t c n) : Tub (strip T H) t c n := by
  obtain ⟨cs, turn, rest, h1, h2, h3⟩ := h
  exact ⟨cs, turn, rest, strip_tb (t := T) hT h1 (fun ps z => nomatch z), strip_tb (t := T) hT h2 (fun ps z => nomatch z), h3⟩
theorem sx_to {t : Addr} {H B H' : Hp} (h : Evl.Ex (strip t H) B) (h2 : Evl.Ex B H') : Evl.Ex (strip t H) (strip t H') := fun a o h1 => by
  obtain ⟨a1, _, a3⟩ := strip_le h1
  exact strip_at (h2 _ _ (h _ _ h1)) a1 a3
theorem passAll {CX : CXT} {X : Cx} {E : XK} (h : ∀ σ, PassesAt CX X σ E) : Passes CX X E := fun pins σ H s e s' I c => h σ pins H s e s' I c
section
open Evl
variable {K : PySem.W.Frag} {σ : L2.St} {G : Hp} {te : TE} {ta : TA} {R : V → Hp → Prop} {n i : Nat} {t c : Addr}
/-! ### values drawn, told by what stands beside the drawer -/
def EvS (t : Addr) (te : TE) (σ : L2.St) (G : Hp) (R : V → Hp → Prop) : Prop := ∀ H1, Ex G H1 → ∀ Q : VK, (∀ v H2, Ex H1 H2 → R v (strip t H2) → Q v H2) → te σ H1 Q
def EvAS (t : Addr) (ta : TA) (σ : L2.St) (G : Hp) (n : Nat) (R : V → Hp → Prop) : Prop := ∀ H1, Ex G H1 → ∀ Q : List V → Hp → Prop, (∀ vs H2, Ex H1 H2 → vs.length = n → (∀ v ∈ vs, R v (strip t H2)) → Q vs H2) → ta σ H1 Q
theorem es_nil : EvAS t tNil σ G 0 R := fun H1 e Q q => q [] H1 (Ex.refl H1) rfl fun v h => nomatch h
theorem es_cons {tr : TA} (m : EnL.Mono R) (h : EvS t te σ G R) (hr : EvAS t tr σ G n R) : EvAS t (tCons te tr) σ G (n + 1) R := fun H1 e Q q => h H1 e _ fun v H2 e2 hv => hr H2 (e.trans e2) _ fun vs H3 e3 l3 h3 =>
  q (v :: vs) H3 (e2.trans e3) (by rw [List.length_cons, l3]) fun u hu => by
    rcases List.mem_cons.mp hu with z | z
    · subst z
      exact m _ _ _ (sx_ex e3) hv
    · exact h3 u z
theorem es_c {v : V} (h : Ev te σ G v) (r : ∀ H, Ex (strip t G) (strip t H) → R v (strip t H)) : EvS t te σ G R := fun H1 e Q q => h H1 e Q fun H2 e2 => q v H2 e2 (r _ (sx_ex (e.trans e2)))
theorem es_l {xs : List V} (T : Tub G t c n) (h : EvL te σ G xs) (r : ∀ p S, Ex (strip t G) S → S p = some (.lst xs) → R (.ref p) S) : EvS t te σ G R := fun H1 e Q q => h H1 e Q fun p H2 hp e2 h2 => q _ H2 e2 (r p _ (sx_ex (e.trans e2)) (strip_at h2 ((T.ex e).ne hp).1 fun ps z => nomatch z))
theorem es_u {xs : List V} (T : Tub G t c n) (h : EvU te σ G xs) (r : ∀ p S, Ex (strip t G) S → S p = some (.tup xs) → R (.ref p) S) : EvS t te σ G R := fun H1 e Q q => h H1 e Q fun p H2 hp e2 h2 => q _ H2 e2 (r p _ (sx_ex (e.trans e2)) (strip_at h2 ((T.ex e).ne hp).1 fun ps z => nomatch z))
theorem es_d (T : Tub G t c n) (r : ∀ p S, S p = some (.dK []) → R (.ref p) S) : EvS t tDNewK σ G R := fun H1 e Q q p hp => q _ _ (Ex.new hp) (r p _ (strip_at upd_same ((T.ex e).ne hp).1 fun ps z => nomatch z))
theorem go_pickS {m : Nat} {Q : VK} (mo : EnL.Mono R) (h0 : σ[i]? = some (some (.ref t))) (T : Tub G t c n) (hn : n < 1000000) (h : EvAS t ta σ G m R) (m1 : 1 ≤ m) (m2 : m ≤ 1000)
    (q : ∀ v G', Kept t G G' → Tub G' t c (n + 1) → R v (strip t G') → Q v G') : tCall (spPick K) [] E0 (tCons (tVar i) (tCons (tLst ta) tNil)) σ G Q := by
  refine ⟨.ref t, h0, h G (Evl.Ex.refl G) _ fun vs G1 e1 l1 r1 => ⟨by rw [sizeLine_eq]; omega, fun l hl => ⟨t, c, l, vs, n, rfl, (T.ex e1).ex (Evl.Ex.new hl), hn, ((T.ex e1).ne hl).1, .inl (.inl upd_same), by omega, by omega, fun j v G' hj k T' => ?_⟩⟩⟩
  have kk : Kept t G G' := ((kept_ex e1).trans (kept_ex (Evl.Ex.new hl))).trans k
  exact q v G' kk T' (mo _ _ _ (sx_kept ((kept_ex (Evl.Ex.new hl)).trans k)) (r1 v (List.mem_of_getElem? hj)))
end
theorem sqt_st {K : PySem.W.Frag} {H : Hp} {t a : Addr} {ys xs : List V} (ht : H t = some (.lst ys)) (h : SqT K H a xs) : SqT K (strip t H) a xs := by
  rcases h with (h | ⟨o, h⟩) | h
  · exact .inl (.inl (strip_at h (fun z => by rw [z, ht] at h; cases h) fun ps z => nomatch z))
  · exact .inl (.inr ⟨o, strip_at h (fun z => by rw [z, ht] at h; cases h) fun ps z => nomatch z⟩)
  · exact .inr h
/-- behind a lambda that was heard: what stood beside the drawer and the tables stands -/
theorem live_new {T1 t p : Addr} {H H' : Hp} {o : HO} (ho : ∀ ps, o ≠ .tbl ps) {T : List (Addr × Str)} (hT : ∃ ps, H T1 = some (.tbl ps)) (l : Live T (upd (strip T1 H) p o) H') (hp : strip T1 H p = none) : Evl.Ex (strip t H) (strip t H') := sx_but fun a u _ hu hn => by
  obtain ⟨ps, hT⟩ := hT
  have h1 := strip_tb hT hu hn
  exact l.ex a u (by rw [upd_ne (fun z => by rw [z, hp] at h1; cases h1)]; exact h1)
theorem live_old {T1 t : Addr} {H H' : Hp} {T : List (Addr × Str)} (hT : ∃ ps, H T1 = some (.tbl ps)) (l : Live T (strip T1 H) H') : Evl.Ex (strip t H) (strip t H') := sx_but fun a u _ hu hn => by
  obtain ⟨ps, hT⟩ := hT
  exact l.ex a u (strip_tb hT hu hn)
theorem Od.tb {T1 t c : Addr} {nm : Str} {n : Nat} {H : Hp} {T : List (Addr × Str)} (hm : (T1, nm) ∈ T) (o : Od T t c n H) : ∃ ps, H T1 = some (.tbl ps) := by
  obtain ⟨ps, h, _⟩ := o.tabs (T1, nm) hm
  exact ⟨ps, h⟩
theorem Od.live {T1 t c : Addr} {n : Nat} {H : Hp} {T : List (Addr × Str)} (o : Od T t c n H) : Live T (strip T1 H) H := ⟨strip_ex, strip_nt, o.tabs⟩
theorem Od.old {T1 t c : Addr} {nm : Str} {n : Nat} {H H' : Hp} {T : List (Addr × Str)} (hm : (T1, nm) ∈ T) (o : Od T t c n H) (l : Live T (strip T1 H) H') : Od T t c n H' := by
  obtain ⟨ps, hT⟩ := o.tb hm
  exact ⟨l.tabs, (tub_strip hT o.tub).ex l.ex⟩
theorem live_put {T : List (Addr × Str)} {B H : Hp} {a : Addr} {xs : List V} {o : HO} (l : Live T B H) (h : H a = some (.lst xs)) (ho : ∀ ps, o ≠ .tbl ps) : Live T (upd B a o) (upd H a o) := ⟨fun b u e => by
  by_cases z : b = a
  · rw [z, upd_same] at e ⊢
    exact e
  · rw [upd_ne z] at e ⊢
    exact l.ex b u e, fun b ps => by
  by_cases z : b = a
  · rw [z, upd_same]
    exact fun e => ho ps (Option.some.inj e)
  · rw [upd_ne z]
    exact l.nt b ps, fun p hp => by
  obtain ⟨ps, h1, h2, h3⟩ := l.tabs p hp
  refine ⟨ps, by rw [upd_ne (fun z => by rw [z, h] at h1; cases h1)]; exact h1, h2, fun pos cv hc => ?_⟩
  obtain ⟨c', e1, e2⟩ := h3 pos cv hc
  exact ⟨c', e1, by rw [upd_ne (fun z => by rw [z, h] at e2; cases e2)]; exact e2⟩⟩
theorem tabs_put {T : List (Addr × Str)} {H : Hp} {a : Addr} {xs : List V} {o : HO} (l : Tabs T H) (h : H a = some (.lst xs)) : Tabs T (upd H a o) := fun p hp => by
  obtain ⟨ps, h1, h2, h3⟩ := l p hp
  refine ⟨ps, by rw [upd_ne (fun z => by rw [z, h] at h1; cases h1)]; exact h1, h2, fun pos cv hc => ?_⟩
  obtain ⟨c', e1, e2⟩ := h3 pos cv hc
  exact ⟨c', e1, by rw [upd_ne (fun z => by rw [z, h] at e2; cases e2)]; exact e2⟩
theorem tub_put {H : Hp} {t c a : Addr} {n : Nat} {o : HO} (T : Tub H t c n) (h1 : a ≠ t) (h2 : a ≠ c) : Tub (upd H a o) t c n := by
  obtain ⟨cs, turn, rest, k1, k2, k3⟩ := T
  exact ⟨cs, turn, rest, by rw [upd_ne h1.symm]; exact k1, by rw [upd_ne h2.symm]; exact k2, k3⟩

/-! ### bags as data -/
def rowD (ns : List Int) : PyData := .list (ns.map PyData.int)
def dL (bs : List (List Int)) : PyData := .list (bs.map rowD)
def dLU (us : List (Option Nat)) : PyData := .list (us.map uD)
theorem fix_ints (ns : List Int) : (ns.map PyData.int).map fixD = ns.map PyData.int := by
  rw [List.map_map]
  exact List.map_congr_left fun _ _ => rfl
theorem fix_dL (bs : List (List Int)) : fixD (dL bs) = dT bs := by
  unfold dL dT
  rw [fixD, fixDs_map, List.map_map]
  refine congrArg _ (List.map_congr_left fun ns _ => ?_)
  show fixD (rowD ns) = _
  unfold rowD
  rw [fixD, fixDs_map, fix_ints]
theorem fix_dLU (us : List (Option Nat)) : fixD (dLU us) = dU us := by
  unfold dLU dU
  rw [fixD, fixDs_map, List.map_map]
  refine congrArg _ (List.map_congr_left fun u _ => ?_)
  cases u <;> rfl
theorem fxb_row {ns : List Int} (h : ns.length ≤ 10) : Fixable 1 (rowD ns) := .inr ⟨_, .inl rfl, by rw [List.length_map]; omega, fun e he => by
  obtain ⟨i, _, rfl⟩ := List.mem_map.mp he
  rfl⟩
theorem fxb_dL {bs : List (List Int)} (h : bs.length ≤ 300) (hr : ∀ ns ∈ bs, ns.length ≤ 10) : Fixable 2 (dL bs) := .inr ⟨_, .inl rfl, by rw [List.length_map]; omega, fun e he => by
  obtain ⟨ns, hn, rfl⟩ := List.mem_map.mp he
  exact fxb_row (hr ns hn)⟩
theorem fxb_dLU {us : List (Option Nat)} (h : us.length ≤ 300) : Fixable 2 (dLU us) := .inr ⟨_, .inl rfl, by rw [List.length_map]; omega, fun e he => by
  obtain ⟨u, _, rfl⟩ := List.mem_map.mp he
  cases u with
  | none => exact .inl rfl
  | some j => exact .inl rfl⟩
theorem dpa_ints_of {K : PySem.W.Frag} {H : Hp} : ∀ {xs : List V} {ns : List Int}, DpAll K H xs (ns.map PyData.int) → xs = ns.map V.int
  | _, [], .nil => rfl
  | _, n :: r, .cons h t => by
    cases h with
    | int => rw [dpa_ints_of t]; rfl
theorem dpa_us_of {K : PySem.W.Frag} {H : Hp} : ∀ {xs : List V} {us : List (Option Nat)}, DpAll K H xs (us.map uD) → xs = us.map uv
  | _, [], .nil => rfl
  | _, none :: r, .cons h t => by
    cases h with
    | non => rw [dpa_us_of t]; rfl
  | _, some j :: r, .cons h t => by
    cases h with
    | int => rw [dpa_us_of t]; rfl
theorem dpa_rows_of {K : PySem.W.Frag} {H : Hp} : ∀ {xs : List V} {bs : List (List Int)}, DpAll K H xs (bs.map fun ns => .tuple (ns.map PyData.int)) → ∃ as : List Addr, xs = as.map V.ref ∧ as.length = bs.length ∧ ∀ (i : Nat) (a : Addr) (ns : List Int), as[i]? = some a → bs[i]? = some ns → SqT K H a (ns.map V.int)
  | _, [], .nil => ⟨[], rfl, rfl, fun i a ns h => by simp at h⟩
  | _, n :: r, .cons h t => by
    obtain ⟨as, rfl, hl, hr⟩ := dpa_rows_of t
    cases h with
    | @tup a xs _ hS hD =>
      have := dpa_ints_of hD
      subst this
      exact ⟨a :: as, rfl, by rw [List.length_cons, hl]; rfl, fun i b ns h1 h2 => by
        cases i with
        | zero => cases h1; cases h2; exact hS
        | succ i => exact hr i b ns h1 h2⟩
theorem bgd_of {K : PySem.W.Frag} {H : Hp} {b u : V} {bs : List (List Int)} {us : List (Option Nat)} (hb : Dp K H b (dT bs)) (hu : Dp K H u (dU us)) (h3 : bs.length ≤ 300) (h4 : us.length ≤ 300) (h5 : ∀ ns ∈ bs, ns.length ≤ 10) : BgD K H b u (some (bs, us)) := by
  cases hb with
  | tup hS hD =>
    obtain ⟨as, rfl, hl, hr⟩ := dpa_rows_of hD
    cases hu with
    | tup hS2 hD2 =>
      rw [dpa_us_of hD2] at hS2
      exact .yes ⟨as, hS, hl, hr⟩ hS2 h3 h4 h5
theorem bgd_no {K : PySem.W.Frag} {H : Hp} {b u : V} (hb : Dp K H b .none) (hu : Dp K H u .none) : BgD K H b u none := by
  cases hb
  cases hu
  exact .no
/-- seats made -/
theorem seats_go {K : PySem.W.Frag} {C : Addr} {H1 : Hp} {s b u : V} {ds db du : PyData} {n : Nat} {E : XK} {Q : VK} {r : OT} (hs : Dp K H1 s ds) (hb : Dp K H1 b db) (hu : Dp K H1 u du) (fs1 : Fixable n ds) (fb1 : Fixable n db) (fu1 : Fixable n du)
    (hr : ∀ H' vb vu, Dp K H' vb (fixD db) → Dp K H' vu (fixD du) → BgD K H' vb vu r) (k : ∀ x H', Evl.Ex H1 H' → H1 x = none → ∀ dx fs vb vu, H' x = some (.ins C dx fs) → fs.lookup ("bags" : Str) = some vb → fs.lookup ("above" : Str) = some vu → BgD K H' vb vu r → Q (.ref x) H') :
    ∀ x dx, H1 x = none → H1 dx = none → dx ≠ x → spSeatsI K n C (.ref x :: ([s, b, u] ++ [])) (upd (upd H1 dx (.own x)) x (.ins C dx [])) (fun v H2 => v = .non ∧ Q (.ref x) H2) E := fun x dx nx ndx hne => by
  have eH : Evl.Ex H1 (upd (upd H1 dx (.own x)) x (.ins C dx [])) := fun a o h => by
    rw [upd_ne (fun z => by rw [z, nx] at h; cases h), upd_ne (fun z => by rw [z, ndx] at h; cases h)]
    exact h
  refine ⟨x, dx, s, b, u, ds, db, du, rfl, upd_same, dp_ex eH hs, dp_ex eH hb, dp_ex eH hu, fs1, fb1, fu1, fun H' fs vb vu hBut hx h1 h2 d1 d2 => ⟨rfl, ?_⟩⟩
  have e2 : Evl.Ex H1 H' := fun a o h => hBut a o (fun z => by rw [z, nx] at h; cases h) (eH a o h)
  exact k x H' e2 nx dx fs vb vu hx h1 h2 (hr H' vb vu (dp_ex nw_ex d1) (dp_ex nw_ex d2))
/-! ### what is no seats -/
def Nv (K : PySem.W.Frag) (C CP : Addr) (v : V) (S : Hp) : Prop := ∃ r, SeV K C CP S v r ∧ ¬ ∃ bs us, r = some (bs, us) ∧ NarOk bs us
theorem Nv.mono {K : PySem.W.Frag} {C CP : Addr} : EnL.Mono (Nv K C CP) := fun v H H' e ⟨r, h, n⟩ => ⟨r, h.ex e, n⟩
theorem nar_not {bs : List (List Int)} {us : List (Option Nat)} (h : ¬ NarOk bs us) : ¬ ∃ bs' us', some (bs, us) = some (bs', us') ∧ NarOk bs' us' := fun ⟨bs', us', e, h'⟩ => by
  cases e
  exact h h'
theorem nar_non : ¬ ∃ bs us, (none : OT) = some (bs, us) ∧ NarOk bs us := fun ⟨_, _, e, _⟩ => nomatch e
theorem nn1 : ¬ NarOk [[0], [1], [0]] [none, some 0, some 1] := fun h => absurd h.hg (by decide)
theorem nn2 : ¬ NarOk [[0], [0]] [some 1, some 0] := fun h => absurd h.up.2.2.1 (by decide)
theorem nn3 : ¬ NarOk [[0], [0, 1], [1]] [none, some 2, some 1] := fun h => absurd h.hg (by decide)
theorem nn4 : ¬ NarOk [[0]] [some 0] := fun h => absurd h.up.2.2.1 (by decide)
theorem nn5 : ¬ NarOk [] [] := fun h => absurd h.up.2.2.1 (by decide)
/-- bent: a bag that falls, one of none, one of five, one above too few -/
theorem tb0 {b : List Int} {r : List (List Int)} {us : List (Option Nat)} (hb : ∀ x ∈ b, 0 ≤ x) (h1 : 1 ≤ b.length) : ¬ NarOk ((b.reverse ++ [0]) :: r) us := fun h => by
  have := asc_pw (h.ok.asc _ List.mem_cons_self)
  cases b with
  | nil => exact absurd h1 (by decide)
  | cons x l =>
    have h2 := (List.pairwise_append.mp this).2.2 x (by rw [List.mem_reverse]; exact List.mem_cons_self) 0 List.mem_cons_self
    have := hb x List.mem_cons_self
    omega
theorem tb1 {bs : List (List Int)} {us : List (Option Nat)} : ¬ NarOk (bs ++ [[]]) us := fun h => absurd (h.ln [] (List.mem_append_right _ List.mem_cons_self)).1 (by decide)
theorem tb2 {bs : List (List Int)} {us : List (Option Nat)} : ¬ NarOk (bs ++ [[10, 11, 12, 13, 14]]) us := fun h => absurd (h.ln [10, 11, 12, 13, 14] (List.mem_append_right _ List.mem_cons_self)).2 (by decide)
theorem tb3 {bs : List (List Int)} {us : List (Option Nat)} (h0 : us.length = bs.length) (h1 : 1 ≤ us.length) : ¬ NarOk bs us.dropLast := fun h => by
  have := h.up.1
  rw [List.length_dropLast] at this
  omega
/-- lists of lists of ints, told -/
def LLs (S : Hp) (A : Addr) (bs : List (List Int)) : Prop := ∃ as : List Addr, S A = some (.lst (as.map V.ref)) ∧ as.length = bs.length ∧ ∀ (i : Nat) (a : Addr) (ns : List Int), as[i]? = some a → bs[i]? = some ns → S a = some (.lst (ns.map V.int))
theorem LLs.ex {S S' : Hp} {A : Addr} {bs : List (List Int)} (h : LLs S A bs) (e : Evl.Ex S S') : LLs S' A bs := by
  obtain ⟨as, h1, h2, h3⟩ := h
  exact ⟨as, e _ _ h1, h2, fun i a ns q1 q2 => e _ _ (h3 i a ns q1 q2)⟩
theorem dpa_rowsL {K : PySem.W.Frag} {H : Hp} : ∀ {as : List Addr} {bs : List (List Int)}, as.length = bs.length → (∀ (i : Nat) (a : Addr) (ns : List Int), as[i]? = some a → bs[i]? = some ns → H a = some (.lst (ns.map V.int))) → DpAll K H (as.map V.ref) (bs.map rowD)
  | [], [], _, _ => .nil
  | a :: as, ns :: bs, hl, h => .cons (.lst (Evl.sq_of (h 0 a ns rfl rfl)) (dpa_ints ns)) (dpa_rowsL (by simpa using hl) fun i b ms h1 h2 => h (i + 1) b ms (by simpa using h1) (by simpa using h2))
theorem LLs.dp {K : PySem.W.Frag} {S : Hp} {A : Addr} {bs : List (List Int)} (h : LLs S A bs) : Dp K S (.ref A) (dL bs) := by
  obtain ⟨as, h1, h2, h3⟩ := h
  exact .lst (Evl.sq_of h1) (dpa_rowsL h2 h3)
/-! ### values laid beside the drawer, told as data -/
theorem BgD.st {K : PySem.W.Frag} {H : Hp} {t : Addr} {ys : List V} {b u : V} {r : OT} (ht : H t = some (.lst ys)) (h : BgD K H b u r) : BgD K (strip t H) b u r := by
  cases h with
  | no => exact .no
  | yes h1 h2 h3 h4 h5 =>
    obtain ⟨as, g1, g2, g3⟩ := h1
    exact .yes ⟨as, sqt_st ht g1, g2, fun i a ns q1 q2 => sqt_st ht (g3 i a ns q1 q2)⟩ (sqt_st ht h2) h3 h4 h5
section
variable {K : PySem.W.Frag} {σ : L2.St} {G : Hp} {t c : Addr} {n : Nat}
def EvSd (K : PySem.W.Frag) (t : Addr) (te : TE) (σ : L2.St) (G : Hp) (d : PyData) : Prop := EvS t te σ G fun v S => Dp K S v d
def EvASd (K : PySem.W.Frag) (t : Addr) (ta : TA) (σ : L2.St) (G : Hp) (ds : List PyData) : Prop := ∀ H1, Evl.Ex G H1 → ∀ Q : List V → Hp → Prop, (∀ vs H2, Evl.Ex H1 H2 → DpAll K (strip t H2) vs ds → Q vs H2) → ta σ H1 Q
theorem sd_nil : EvASd K t tNil σ G [] := fun H1 e Q q => q [] H1 (Evl.Ex.refl H1) .nil
theorem sd_cons {te : TE} {tr : TA} {d : PyData} {ds : List PyData} (h : EvSd K t te σ G d) (hr : EvASd K t tr σ G ds) : EvASd K t (tCons te tr) σ G (d :: ds) := fun H1 e Q q => h H1 e _ fun v H2 e2 hv => hr H2 (e.trans e2) _ fun vs H3 e3 h3 => q (v :: vs) H3 (e2.trans e3) (.cons (dp_ex (sx_ex e3) hv) h3)
theorem sd_int {i : Int} : EvSd K t (tC (.int i)) σ G (.int i) := fun H1 e Q q => Evl.ev_c H1 e Q fun H2 e2 => q _ H2 e2 (.int i)
theorem sd_non : EvSd K t (tC .non) σ G .none := fun H1 e Q q => Evl.ev_c H1 e Q fun H2 e2 => q _ H2 e2 .non
theorem sd_v {te : TE} {v : V} {d : PyData} (h : Evl.Ev te σ G v) (hd : Dp K (strip t G) v d) : EvSd K t te σ G d := fun H1 e Q q => h H1 e Q fun H2 e2 => q v H2 e2 (dp_ex (sx_ex (e.trans e2)) hd)
theorem len_dpa {H : Hp} : ∀ {vs : List V} {ds : List PyData}, DpAll K H vs ds → vs.length = ds.length
  | _, _, .nil => rfl
  | _, _, .cons _ t => congrArg Nat.succ (len_dpa t)
theorem sd_lst {ta : TA} {ds : List PyData} (T : Tub G t c n) (h : EvASd K t ta σ G ds) (hl : ds.length ≤ 1000) : EvSd K t (tLst ta) σ G (.list ds) := fun H1 e Q q => Go.lst_go (h H1 e _ fun vs H2 e2 hv => ⟨by rw [len_dpa hv, sizeLine_eq]; omega, fun p hp => by
  have eN := Evl.Ex.new (o := .lst vs) hp
  exact q _ _ (e2.trans eN) (.lst (Evl.sq_of (strip_at upd_same (((T.ex e).ex e2).ne hp).1 fun ps z => nomatch z)) (dpa_ex (sx_ex eN) hv))⟩)
theorem sd_tup {ta : TA} {ds : List PyData} (T : Tub G t c n) (h : EvASd K t ta σ G ds) (hl : ds.length ≤ 1000) : EvSd K t (tTup ta) σ G (.tuple ds) := fun H1 e Q q => Go.tup_go (h H1 e _ fun vs H2 e2 hv => ⟨by rw [len_dpa hv, sizeLine_eq]; omega, fun p hp => by
  have eN := Evl.Ex.new (o := .tup vs) hp
  exact q _ _ (e2.trans eN) (.tup (Evl.st_of (strip_at upd_same (((T.ex e).ex e2).ne hp).1 fun ps z => nomatch z)) (dpa_ex (sx_ex eN) hv))⟩)
theorem sd_ints {H : Hp} : ∀ ns : List Int, DpAll K H (ns.map V.int) (ns.map PyData.int) := fun ns => dpa_ints ns
/-- seats made that are none -/
theorem es_seats {C CP : Addr} {ta : TA} {ds db du : PyData} {r : OT} (T : Tub G t c n) (h : EvASd K t ta σ G [ds, db, du]) (f1 : Fixable 2 ds) (f2 : Fixable 2 db) (f3 : Fixable 2 du)
    (hr : ∀ H' vb vu, Dp K H' vb (fixD db) → Dp K H' vu (fixD du) → BgD K H' vb vu r) (hn : ¬ ∃ bs us, r = some (bs, us) ∧ NarOk bs us) : EvS t (tMake C (spSeatsI K 2 C) [] E0 ta) σ G (Nv K C CP) := fun H1 e Q q => h H1 e _ fun vs H2 e2 hv => by
  match vs, hv with
  | [s, b, u], .cons hs (.cons hb (.cons hu .nil)) =>
    refine seats_go (K := K) (C := C) (dp_ex strip_ex hs) (dp_ex strip_ex hb) (dp_ex strip_ex hu) f1 f2 f3 hr fun x H' e' nx dx fs vb vu h hb hu hr => ?_
    have T' := (T.ex e).ex (e2.trans e')
    obtain ⟨cs, tn, rt, ht, _⟩ := id T'
    exact q (.ref x) H' (e2.trans e') ⟨r, .se (strip_at h (fun z => by rw [z, ht] at h; cases h) fun ps z => nomatch z) hb hu (hr.st ht), hn⟩
theorem cutM1 (xs : List V) : cutV xs none (some (-1)) = xs.dropLast := by
  unfold cutV
  rw [List.dropLast_eq_take]
  show (xs.drop 0).take (HT.sIx xs.length xs.length (some (-1)) - 0) = _
  have : HT.sIx xs.length xs.length (some (-1)) = xs.length - 1 := by
    unfold HT.sIx
    dsimp only
    rw [if_pos (by decide)]
    omega
  rw [this, Nat.sub_zero, List.drop_zero]
/-- a paper of another class -/
theorem es_paper {C CP : Addr} {ta : TA} {s : Str} {ds : List PyData} (TP : TPap K CP) (T : Tub G t c n) (h : EvASd K t ta σ G (.str s :: ds)) (f : Fixable 3 (.tuple ds)) :
    EvS t (StX.tMakeR CP (fun vs H Q E => ∃ ws rest, vs = ws ++ rest ∧ ws.length = 2 ∧ rest.length ≤ sizeLine ∧ ∀ p, H p = Option.none → spPaper K 3 CP (ws ++ [V.ref p]) (upd H p (.tup rest)) Q E) E0 ta) σ G (Nv K C CP) := fun H1 e Q q => h H1 e _ fun vs H2 e2 hv => by
  match vs, hv with
  | sv :: rest, .cons hs hd =>
    have esv : sv = .str s := by cases hs; rfl
    subst esv
    intro x dx hx hdx ne
    have eM : Evl.Ex H2 (upd (upd H2 dx (.own x)) x (.ins CP dx [])) := fun b o h => by rw [upd_ne (ne_of_none h hx), upd_ne (ne_of_none h hdx)]; exact h
    have hl : rest.length ≤ 4000 := by rw [len_dpa hd]; exact fixable_len f
    refine ⟨[.ref x, .str s], rest, rfl, rfl, by rw [sizeLine_eq]; omega, fun p hp => ?_⟩
    have eP := Evl.Ex.new (o := .tup rest) hp
    refine ⟨x, dx, p, .str s, rest, ds, [], rfl, eP _ _ upd_same, TP, by show 0 < 900; omega, upd_same, dpa_ex (eM.trans eP) (dpa_ex strip_ex hd), f, fun tt us H' hb hx' _ _ => ⟨rfl, ?_⟩⟩
    have e' : Evl.Ex H2 H' := fun b o h => hb b o (ne_of_none h hx) (eP _ _ (eM _ _ h))
    obtain ⟨cs, tn, rt, ht, _⟩ := id ((T.ex e).ex (e2.trans e'))
    exact q (.ref x) H' (e2.trans e') ⟨none, .pap (strip_at hx' (fun z => by rw [z, ht] at hx'; cases hx') fun ps z => nomatch z), nar_non⟩
/-! ### what is no seat -/
def NoSt (K : PySem.W.Frag) (v : V) (S : Hp) : Prop := ∃ o, ValR K S v o ∧ ¬ SeatP o
theorem NoSt.mono : EnL.Mono (NoSt K) := fun v H H' e ⟨o, h, z⟩ => ⟨o, h.ex e, z⟩
def litV : V → Bool
  | .non => true
  | .bl _ => true
  | .int _ => true
  | .str _ => true
  | _ => false
theorem litV_ty {S : Hp} {v : V} (h : litV v = true) : ∃ n, Ty7 K S v n := by
  cases v with
  | non => exact ⟨_, .non⟩
  | bl b => exact ⟨_, .bl b⟩
  | int i => exact ⟨_, .int i⟩
  | str s => exact ⟨_, .str s⟩
  | _ => cases h
theorem lits {S : Hp} {xs : List V} (h : xs.all litV = true) : ∀ v ∈ xs, ∃ n, Ty7 K S v n := fun v hv => litV_ty (List.all_eq_true.mp h v hv)
def seatB : List V → Bool
  | [.int a, .int b, .int c] => decide (0 ≤ a) && decide (0 ≤ b) && decide (0 ≤ c) && decide (c < 3)
  | _ => false
theorem no_seatB {xs : List V} (h : seatB xs = false) : ¬ SeatP (some xs) := fun ⟨p, l, n, e, hn⟩ => by
  cases e
  have : seatB [V.int (p : Int), .int (l : Int), .int (n : Int)] = true := by
    show (decide ((0 : Int) ≤ p) && decide ((0 : Int) ≤ l) && decide ((0 : Int) ≤ n) && decide ((n : Int) < 3)) = true
    rw [decide_eq_true (by omega), decide_eq_true (by omega), decide_eq_true (by omega), decide_eq_true (by omega)]
    rfl
  rw [this] at h
  cases h
theorem no_flat {S : Hp} {v : V} {n : String} (h : Ty7 K S v n) (h1 : n ≠ "list") (h2 : n ≠ "tuple") : NoSt K v S := ⟨none, .no h h1 h2, fun ⟨_, _, _, z, _⟩ => nomatch z⟩
theorem no_tup {te : TE} {xs : List V} (T : Tub G t c n) (h : Evl.EvU te σ G xs) (h1 : xs.all litV = true) (h2 : seatB xs = false) (hl : xs.length ≤ 100) : EvS t te σ G (NoSt K) := es_u T h fun p S _ hp => ⟨some xs, .tup (Evl.st_of hp) (by omega) (lits h1), no_seatB h2⟩
theorem no_lst {te : TE} {xs : List V} (T : Tub G t c n) (h : Evl.EvL te σ G xs) (h1 : xs.all litV = true) (h2 : seatB xs = false) (hl : xs.length ≤ 100) : EvS t te σ G (NoSt K) := es_l T h fun p S _ hp => ⟨some xs, .lst (Evl.sq_of hp) (by omega) (lits h1), no_seatB h2⟩
end
end P38
end S_Ndd
section S_Rv
/-! texts and tuples, many times -/
namespace Hk
open PySem PySem.Spec PyProof.Rows L2
def rMulB : R2 := fun x y H Q => ∃ (a : Str) (n : Nat), x = .str a ∧ y = .int (n : Int) ∧ 2 ≤ n ∧ 1 ≤ a.length ∧ a.length * n ≤ 1000000 ∧ Q (.str (mulS a n)) H
theorem op_mulB {X : Cx} : OpR X (binaryOp .Mult) rMulB := by
  intro pins s σ H x y v u Q I rx ry h
  obtain ⟨a, n, rfl, rfl, h2, h1, hz, q⟩ := h
  obtain ⟨t, rfl⟩ := rx
  obtain ⟨t2, rfl⟩ := ry
  have hn : n ≤ 1000000 := Nat.le_trans (Nat.le_mul_of_pos_left n h1) hz
  have hlong : Builtin.Str.tooLong (a.length * ((n : Int)).toNat) = false := by
    rw [Int.toNat_natCast]
    refine decide_eq_false fun z => ?_
    rw [sizeLine_eq] at z
    exact absurd (Nat.lt_of_lt_of_le z hz) (by decide)
  refine PySem.P.mul_str ?_ (fun _ _ => ?_) (fun _ _ => hlong) ?_
  · rw [decide_eq_false (by omega), decide_eq_false (by omega)]
    rfl
  · have : ((a.length : Nat) : Int) ≤ (2 ^ 63 - 1) / (n : Int) := by
      refine (Int.le_ediv_iff_mul_le (by omega)).mpr ?_
      have : ((a.length : Nat) : Int) * (n : Int) = ((a.length * n : Nat) : Int) := by rw [Int.natCast_mul]
      rw [this]
      have h3 : ((a.length * n : Nat) : Int) ≤ ((1000000 : Nat) : Int) := Int.ofNat_le.mpr hz
      exact Int.le_trans h3 (by decide)
    omega
  · rw [if_neg (by omega), if_neg (by
      rw [Bool.or_eq_true_iff, beq_iff_eq, beq_iff_eq]
      omega), Int.toNat_natCast]
    exact ⟨PySem.fits_reps (by rw [← hlong, Int.toNat_natCast]), .str (mulS a n), H, I.tok _, ⟨_, rfl⟩, q⟩
theorem tl_mulS (a : Str) (n : Nat) : TL.tl (mulS a n) = (List.replicate n (TL.tl a)).flatten := by
  have key : ∀ (m : Nat) (b : Array Nat), ((List.replicate m a.cps).foldl (· ++ ·) b).toList = b.toList ++ (List.replicate m a.cps.toList).flatten := by
    intro m
    induction m with
    | zero => intro b; simp
    | succ m ih =>
      intro b
      rw [List.replicate_succ, List.foldl_cons, ih, Array.toList_append, List.replicate_succ, List.flatten_cons, List.append_assoc]
  show ((List.replicate n a.cps).foldl (· ++ ·) #[]).toList = _
  rw [key]
  rfl
/-- a tuple, up to 5,000 times -/
def rRepB (K : PySem.W.Frag) : R2 := fun x y H Q => ∃ b m zs, x = .ref b ∧ y = .int m ∧ SqT K H b zs ∧ zs ≠ [] ∧ 2 ≤ m ∧ m ≤ 5000 ∧ zs.length ≤ 100 ∧ ∀ p, H p = none → Q (.ref p) (upd H p (.tup (List.replicate m.toNat zs).flatten))
theorem op_repB {X : Cx} : OpR X (binaryOp .Mult) (rRepB X.K) := by
  intro pins s σ H x y v u Q I rx ry h
  obtain ⟨b, m, zs, rfl, rfl, hT, hne, m1, m2, hz, q⟩ := h
  cases rx
  obtain ⟨tk, rfl⟩ := ry
  obtain ⟨vs, r, ⟨⟨cls, dd, data, sl⟩, ho, hc, n, hd⟩, hs⟩ := I.tuple hT
  simp only at hc hd
  subst hc hd
  have lv : vs.length = zs.length := r.length.symm
  have pz : 1 ≤ zs.length := by
    cases zs with
    | nil => exact absurd rfl hne
    | cons a r => exact Nat.succ_le_succ (Nat.zero_le _)
  have e0 : vs.toArray.isEmpty = false := by
    cases vs with
    | nil => rw [List.length_nil] at lv; omega
    | cons a r => rfl
  have sz : vs.toArray.size = zs.length := (List.size_toArray).trans lv
  have sl16 : sizeLine = 16777216 := sizeLine_eq
  have few : ((vs.toArray.size : Nat) : Int) * m ≤ 500000 := by
    rw [sz]
    have := Int.mul_le_mul_of_nonneg_right (a := ((zs.length : Nat) : Int)) (b := 100) (c := m) (by omega) (by omega)
    omega
  have fl : m.toNat * zs.length ≤ 5000 * 100 := Nat.mul_le_mul (by omega) hz
  have g1 : (decide (m < -(2 ^ 63)) || decide (m ≥ 2 ^ 63)) = false := by rw [decide_eq_false (show ¬m < -(2 ^ 63) by omega), decide_eq_false (show ¬m ≥ 2 ^ 63 by omega)]; rfl
  have g2 : (vs.toArray.isEmpty || m == 1) = false := by rw [e0, Bool.false_or]; exact beq_eq_false_iff_ne.mpr (fun z => by omega)
  have g3 : (decide (m ≤ 0) || vs.toArray.isEmpty) = false := by rw [e0, Bool.or_false]; exact decide_eq_false (by omega)
  have g4 : Builtin.Tuple.tupleTooMany (((vs.toArray.size : Nat) : Int) * m) = false := decide_eq_false (by omega)
  have tot : (List.replicate m.toNat vs).flatten.length ≤ sizeLine := by rw [lm_len_rep_flat, lv]; omega
  refine wpAny_binaryOp_repeat_ref (T := "tuple") (U := "int") (by decide) ⟨_, ho, rfl⟩ (fun z => typeIs_int z m tk) noFill_tuple_mul F.fills_int_mul F.slot_int_rmul repeat_tuple F.slot_int_index.lookup (call_meets F.slot_int_rmul (typeIs_int s m tk) F.entry_int_rmul (F.args_int_rmul_2 _ _) (int_rmul_tuple m tk b vs.toArray n dd sl) ⟨ho, rfl, ⟨_, ho, rfl⟩, ?_⟩)
  refine call_meets F.slot_tuple_mul ⟨_, ho, rfl⟩ F.entry_tuple_mul (F.args_tuple_mul_2 _ _) (tuple_mulW b vs.toArray n dd sl m tk g1 g2 g3 (by omega) g4 (by rw [size_rep]; exact tot)) ⟨ho, ?_⟩
  rw [size_rep]
  exact ⟨.ref s.heap.objs.size, _, I.laid (t' := s.toks) (o := .tup (List.replicate m.toNat zs).flatten) (fun _ _ z => Heap.get?_push_of_some _ z) (Nat.le_refl _) ⟨by rw [lm_len_rep_flat]; omega, _, r.rep m.toNat, IsTup.new _ _⟩, rfl, q _ (I.hok.fresh (Nat.le_refl _))⟩
end Hk
end S_Rv
section S_Nde
namespace P38
open PySem PySem.Spec PyProof.Rows L2 Tl Hk RZ EnL LamX
/-! ### the law -/
abbrev nLw : List Str := ["script", "tub", "turn", "bags", "above", "told", "lap", "one", "other", "due", "torn", "way", "wrong", "rings", "heard", "none", "odd", "value", "bag"]
theorem scLaw : FnScope nLw ["script"] (defScope sLaw) := ⟨rfl, rfl, rfl, by decide +kernel, rfl, by decide +kernel, by decide +kernel⟩
theorem ha_a1 : ("a1" : Str) ∉ nLw := by decide
theorem ha_a2 : ("a2" : Str) ∉ nLw := by decide
abbrev nmL : Str := "law.<locals>.<lambda>"
abbrev Ts (T1 : Addr) : List (Addr × Str) := [(T1, nmL)]
abbrev teLs (K : PySem.W.Frag) : TE := tCB (fun xs H Q => ∃ p ys, xs = [V.ref p] ∧ (SqL K H p ys ∨ SqT K H p ys) ∧ ∀ l, H l = none → Q (.ref l) (upd H l (.lst ys))) (tCons (tVar 18) tNil)
def rv3 {α : Type} : List α → List α → List α := fun _ ws => match ws with
  | [a, b, c] => [c, b, a]
  | l => l
theorem rv3_rel : ∀ {vs zs : List V} {us ws : List Value}, Vals vs us → Vals zs ws → Vals (rv3 vs zs) (rv3 us ws)
  | _, _, _, _, _, .nil => .nil
  | _, _, _, _, _, .cons h .nil => .cons h .nil
  | _, _, _, _, _, .cons h (.cons h2 .nil) => .cons h (.cons h2 .nil)
  | _, _, _, _, _, .cons h (.cons h2 (.cons h3 .nil)) => .cons h3 (.cons h2 (.cons h .nil))
  | _, _, _, _, _, .cons h (.cons h2 (.cons h3 (.cons h4 t))) => .cons h (.cons h2 (.cons h3 (.cons h4 t)))
/-- what stands beside the drawer: bags, what is above them, the seats made of them, the bags as tuples -/
structure Ft (K : PySem.W.Frag) (C : Addr) (S : Hp) (BA UA x L : Addr) (bs : List (List Int)) (us : List (Option Nat)) : Prop where
  hB : LLs S BA bs
  hU : S UA = some (.lst (us.map uv))
  hx : ∃ dx fs vb vu, S x = some (.ins C dx fs) ∧ fs.lookup ("bags" : Str) = some vb ∧ fs.lookup ("above" : Str) = some vu ∧ BgD K S vb vu (some (bs, us))
  hL : ∃ ts : List Addr, S L = some (.lst (ts.map V.ref)) ∧ ts.length = bs.length ∧ ∀ (i : Nat) (a : Addr) (ns : List Int), ts[i]? = some a → bs[i]? = some ns → S a = some (.tup (ns.map V.int))
theorem Ft.ex {K : PySem.W.Frag} {C : Addr} {S S' : Hp} {BA UA x L : Addr} {bs : List (List Int)} {us : List (Option Nat)} (h : Ft K C S BA UA x L bs us) (e : Evl.Ex S S') : Ft K C S' BA UA x L bs us := by
  obtain ⟨h1, h2, ⟨dx, fs, vb, vu, g1, g2, g3, g4⟩, ts, t1, t2, t3⟩ := h
  exact ⟨h1.ex e, e _ _ h2, ⟨dx, fs, vb, vu, e _ _ g1, g2, g3, g4.ex e⟩, ts, e _ _ t1, t2, fun i a ns q1 q2 => e _ _ (t3 i a ns q1 q2)⟩
theorem Ft.sev {K : PySem.W.Frag} {C CP : Addr} {S : Hp} {BA UA x L : Addr} {bs : List (List Int)} {us : List (Option Nat)} (h : Ft K C S BA UA x L bs us) : SeV K C CP S (.ref x) (some (bs, us)) := by
  obtain ⟨dx, fs, vb, vu, g1, g2, g3, g4⟩ := h.hx
  exact .se g1 g2 g3 g4
theorem Ft.told {K : PySem.W.Frag} {C : Addr} {S : Hp} {BA UA x L : Addr} {bs : List (List Int)} {us : List (Option Nat)} (h : Ft K C S BA UA x L bs us) : ∃ xs, SqS K S L xs ∧ RowsB K S xs bs := by
  obtain ⟨ts, t1, t2, t3⟩ := h.hL
  refine ⟨_, .inl (Evl.sq_of t1), by rw [List.length_map, t2], fun i ns hn => ?_⟩
  have ha := List.getElem?_eq_getElem (show i < ts.length by have := (List.getElem?_eq_some_iff.mp hn).1; omega)
  exact ⟨ts[i]'(by have := (List.getElem?_eq_some_iff.mp hn).1; omega), by rw [List.getElem?_map, ha]; rfl, .inr (Evl.st_of (t3 i _ ns ha hn))⟩
theorem val3 {K : PySem.W.Frag} {S : Hp} {O : Addr} {p l n : Nat} (h : SqS K S O [.int (p : Int), .int (l : Int), .int (n : Int)]) : ValR K S (.ref O) (seatIs p l n) := by
  have ty : ∀ v ∈ [V.int (p : Int), .int (l : Int), .int (n : Int)], ∃ n, Ty7 K S v n := fun v hv => by
    simp only [List.mem_cons, List.not_mem_nil, or_false] at hv
    rcases hv with rfl | rfl | rfl <;> exact ⟨_, .int _⟩
  exact h.elim (fun h => .lst h (by show 3 ≤ 4000; decide) ty) fun h => .tup h (by show 3 ≤ 4000; decide) ty
def dueB (bs : List (List Int)) (p l n p2 l2 n2 : Nat) : Bool := !decide (p = p2 ∧ l = l2 ∧ n = n2) && nearB bs p l p2 l2
theorem near_sp {K : PySem.W.Frag} {C CP CE CS : Addr} {H : Hp} {Q : VK} {E : XK} {v : V} {O O2 : Addr} {bs : List (List Int)} {us : List (Option Nat)} {p l n p2 l2 n2 : Nat} (hv : SeV K C CP H v (some (bs, us))) (nar : NarOk bs us) (h1 : SqS K H O [.int (p : Int), .int (l : Int), .int (n : Int)]) (h2 : SqS K H O2 [.int (p2 : Int), .int (l2 : Int), .int (n2 : Int)]) (hn : n < 3) (hn2 : n2 < 3)
    (q : ∀ H1, Evl.Ex H H1 → Q (.bl (dueB bs p l n p2 l2 n2)) H1) : spNear K C CP CE CS [v, .ref O, .ref O2] H Q E := by
  refine ⟨v, .ref O, .ref O2, some (bs, us), _, _, rfl, hv, val3 h1, val3 h2, fun z => absurd ⟨bs, us, rfl, nar⟩ z, fun bs' us' e' n' => ?_⟩
  cases e'
  refine ⟨fun z => absurd ⟨p, l, n, rfl, hn⟩ z, fun _ z => absurd ⟨p2, l2, n2, rfl, hn2⟩ z, fun p' l' n' p2' l2' n2' e1 e2 _ _ H1 e => ?_⟩
  obtain ⟨rfl, rfl, rfl⟩ := seat_eq e1
  obtain ⟨rfl, rfl, rfl⟩ := seat_eq e2
  rw [tie_near nar]
  exact q H1 e
theorem due_sym (bs : List (List Int)) (p l n p2 l2 n2 : Nat) : dueB bs p2 l2 n2 p l n = dueB bs p l n p2 l2 n2 := by
  unfold dueB
  rw [near_sym]
  congr 2
  exact decide_eq_decide.mpr (by omega)
theorem pick_fin {K : PySem.W.Frag} {G1 : Hp} {t c : Addr} {n : Nat} {vs : List V} {E : XK} {Q : VK} (T : Tub G1 t c n) (hn : n < 900000) (h1 : 1 ≤ vs.length) (h2 : vs.length ≤ 1000) (k : ∀ (j : Nat) (v : V) (G2 : Hp), vs[j]? = some v → Kept t G1 G2 → Tub G2 t c (n + 1) → Q v G2) :
    vs.length ≤ sizeLine ∧ ∀ p, G1 p = none → spPick K ([.ref t, .ref p] ++ []) (upd G1 p (.lst vs)) Q E :=
  ⟨by rw [sizeLine_eq]; omega, fun p hp => ⟨t, c, p, vs, n, rfl, T.ex (Evl.Ex.new hp), by omega, (T.ne hp).1, .inl (.inl upd_same), h1, by omega, fun j v G2 hj k2 T2 => k j v G2 hj ((kept_ex (Evl.Ex.new hp)).trans k2) T2⟩⟩
theorem et_neSame {K : PySem.W.Frag} {σ : L2.St} {H : Hp} {ta tb : TE} {d : PyData} (h1 : EvD K ta σ H d) (h2 : EvD K tb σ H d) (hs : SeqAt.shaped d = true) (hq : PyData.eqv d d = true) : Evl.EvT (tTest (tOp (rNeD K) ta tb)) σ H false := Evl.et_test fun G1 e1 Q q => Go.op_go (h1 G1 e1 _ fun v G2 e2 hv => h2 G2 (e1.trans e2) _ fun u G3 e3 hu => ⟨d, d, dp_ex e3 hv, hu, hs, hs, by rw [hq]; exact q G3 (e2.trans e3)⟩)
theorem ed_two {K : PySem.W.Frag} {σ : L2.St} {H : Hp} {a b : Str} : EvD K (tTup (tCons (tC (.str a)) (tCons (tC (.str b)) tNil))) σ H (.tuple [.str a, .str b]) := ed_tup (ed_cons (ed_v Evl.ev_c (.str _)) (ed_cons (ed_v Evl.ev_c (.str _)) ed_nil)) (by show 2 ≤ 100000; decide)
theorem mk_split {C : Addr} {sp : Sp} {E : XK} {ta : TA} {σ : L2.St} {H : Hp} {Q : VK} (h : ∀ Q' : VK, Q' = Q → ta σ H fun vs H1 => ∀ x dx, H1 x = none → H1 dx = none → dx ≠ x → sp (.ref x :: (vs ++ [])) (upd (upd H1 dx (.own x)) x (.ins C dx [])) (fun v H2 => v = .non ∧ Q' (.ref x) H2) E) : tMake C sp [] E ta σ H Q := h Q rfl
theorem eb_rng1 {ta : TA} {σ : L2.St} {B : Hp} {j : Int} (h : Evl.EvA ta σ B [.int j]) (h0 : 0 ≤ j) (h1 : j ≤ 100000) : EvB (iRng1 ta) σ B j.toNat (YFn fun i => .int (0 + i)) := fun H1 e R k =>
  h H1 e _ fun H2 e2 => ⟨j, rfl, by omega, by omega, k _ _ H2 e2 walk_range fun _ _ => trivial⟩
def FxD (K : PySem.W.Frag) (v : V) (S : Hp) : Prop := ∃ d, Dp K S v d ∧ Fixable 2 d
theorem FxD.mono {K : PySem.W.Frag} : EnL.Mono (FxD K) := fun v H H' e ⟨d, h, f⟩ => ⟨d, dp_ex e h, f⟩
theorem fx_d {K : PySem.W.Frag} {t : Addr} {te : TE} {σ : L2.St} {G : Hp} {d : PyData} (h : EvSd K t te σ G d) (f : Fixable 2 d) : EvS t te σ G (FxD K) := fun H1 e Q q => h H1 e Q fun v H2 e2 hv => q v H2 e2 ⟨d, hv, f⟩
theorem sd_rep {K : PySem.W.Frag} {t c : Addr} {n : Nat} {ta : TE} {σ : L2.St} {G : Hp} {d : PyData} (T : Tub G t c n) (h : EvSd K t ta σ G d) : EvSd K t (tOp rRep (tLst (tCons ta tNil)) (tC (.int 2))) σ G (.list [d, d]) := fun H1 e Q q =>
  Go.op_go (Go.lst_go (Go.cons_any (h H1 e _ fun v H2 e2 hv => nil_goJ ⟨by show 1 ≤ sizeLine; decide, fun p hp => ⟨p, 2, [v], rfl, rfl, upd_same, by decide, by decide, by rw [sizeLine_eq]; show 1 * 2 ≤ _; decide, fun r hr => by
    have eN := (Evl.Ex.new (o := .lst [v]) hp).trans (Evl.Ex.new (o := .lst (List.replicate (2 : Int).toNat [v]).flatten) hr)
    have T2 := (T.ex e).ex (e2.trans (Evl.Ex.new (o := .lst [v]) hp))
    have hv2 := dp_ex (sx_ex (t := t) eN) hv
    exact q _ _ (e2.trans eN) (.lst (Evl.sq_of (strip_at upd_same (T2.ne hr).1 fun ps z => nomatch z)) (.cons hv2 (.cons hv2 .nil)))⟩⟩)))
def spLaw (K : PySem.W.Frag) (T1 : Addr) : Sp := fun vs H Q _ => ∃ (a : Addr) (ns : List Int), vs = [.ref a] ∧ SqL K H a (ns.map V.int) ∧ ns.length ≤ 63 ∧ H T1 = some (.tbl #[]) ∧ ∀ H', Q (.bl true) H'
section
variable {P : Program} {w : World} {K : PySem.W.Frag} {mg : Str → Option Value} {base : Heap}
set_option maxHeartbeats 8000000 in
theorem ok_law {f fT0 fS fP fL fB fN fX fM fPap fH C CP C0 C1 CS c T1 : Addr} {fd fdT0 fdS fdP fdL fdB fdN fdX fdM fdH : FuncData} {k : Nat} (F : Fun K "law" "law" sLaw f fd) (hcode : fd.code = .ref c) (TB : TabB base mg c T1)
    (FT0 : Fun K "_law_tub" "_law_tub" sTub fT0 fdT0) (GT0 : FnOk P w K mg base CX0 (k + 1) fT0 fdT0 ["script"] (spTub K)) (bT0 : Binds K fdT0 ["script"] []) (gT0 : mg "_law_tub" = some (.ref fT0))
    (FS : Fun K "_law_scoop" "_law_scoop" sScoop fS fdS) (GS : FnOk P w K mg base CX0 (k + 1) fS fdS ["tub", "many"] spScoop) (bS : Binds K fdS ["tub", "many"] []) (gS : mg "_law_scoop" = some (.ref fS))
    (FP : Fun K "_law_pick" "_law_pick" sPick fP fdP) (GP : FnOk P w K mg base CX0 (k + 1) fP fdP ["tub", "some"] (spPick K)) (bP : Binds K fdP ["tub", "some"] []) (gP : mg "_law_pick" = some (.ref fP))
    (FL : Fun K "_law_tree" "_law_tree" sLTree fL fdL) (GL : FnOk P w K mg base CX0 (k + 1) fL fdL ["tub"] (spLTree K)) (bL : Binds K fdL ["tub"] []) (gL : mg "_law_tree" = some (.ref fL))
    (FB : Fun K "_law_bags_right" "_law_bags_right" sBagsRight fB fdB) (GB : FnOk P w K mg base CX0 (k + 1) fB fdB ["bags", "above"] (spBR K)) (bB : Binds K fdB ["bags", "above"] []) (gB : mg "_law_bags_right" = some (.ref fB))
    (FN : Fun K "_law_near" "_law_near" sLNear fN fdN) (GN : FnOk P w K mg base CX0 (k + 1) fN fdN ["bags", "one", "other"] (spLNear K)) (bN : Binds K fdN ["bags", "one", "other"] []) (gN : mg "_law_near" = some (.ref fN))
    (FX : Fun K "are_near" "are_near" sAreNear fX fdX) (GX : FnOk P w K mg base (L2.CX P w) (k + 1) fX fdX ["value", "one", "other"] (spNear K C CP C0 C1)) (bX : Binds K fdX ["value", "one", "other"] []) (kX : KBn K fdX ["value", "one", "other"] 0 ["other", "one", "value"] rv3 rv3) (gX : mg "are_near" = some (.ref fX))
    (T : TSe K mg C CP) (M : Mk K C fM) (GM : FnOk P w K mg base CX0 (k + 1) fM fdM nSI (spSeatsI K 2 C)) (bM : Binds K fdM nSI [])
    (MP : Mk K CP fPap) (TP : TPap K CP) (GPap : FnPap P w K mg base (k + 1) 3 CP fPap) (gPap : mg "Paper" = some (.ref CP))
    (FH : Fun K "_law_heard" "_law_heard" sLHeard fH fdH) (bH : Binds K fdH ["ask"] []) (gH : mg "_law_heard" = some (.ref fH)) (E2 : TE38 K mg C0 C1 CS)
    (mi : mg "isinstance" = none) (mrange : mg "range" = none) (mrepr : mg "repr" = none) (mtup : mg "tuple" = none) (mlist : mg "list" = none) :
    FnG P w K mg base (k + 4) f fd ["script"] (spLaw K T1) := by
  obtain ⟨ocH, odH, kVH, docH, pmH, anH, cdH, ctH, oslH, rfl, lkH, hcdH⟩ := FH.ex
  refine fn_gC F hcode scLaw (fun {vs H Q E} h => ?_) (fun A0 outer s H vs Q E hgd hr h => ?_)
  · obtain ⟨a, ns, rfl, _⟩ := h
    rfl
  · obtain ⟨a0, ns, rfl, hS0, hl0, hT1, q⟩ := h
    have nd := scLaw.nd
    have hk := hr.mono (show k + 1 ≤ k + 3 by omega)
    have hk1 := hr.mono (show k + 1 + 1 ≤ k + 3 by omega)
    have hTm : (T1, nmL) ∈ Ts T1 := List.mem_cons_self
    have hu : ∀ p ∈ Ts T1, p.1 = T1 → p.2 = nmL := fun p hp e => by rw [List.mem_singleton.mp hp]
    refine ⟨_, pss_cons (ps_set (i := 1) nd rfl (.inl rfl) (pe_call GT0 hk (by rfl) gT0 FT0.kp bT0 .nil pass0 (pa_cons (pv 0) (pa_nil)))) (pss_cons (ps_for PassesOwn.never rfl (pi_range1 (by rfl) mrange (pa_cons (pe_int) (pa_nil))) (pg_name (i := 2) nd rfl (Or.inl rfl)) (pss_cons (ps_asg (pe_call GL hk (by rfl) gL FL.kp bL .nil pass0 (pa_cons (pv 1) (pa_nil))) (pg_tup (by rfl) (pgs_cons (pg_name (i := 3) nd rfl (Or.inl rfl)) (pgs_cons (pg_name (i := 4) nd rfl (Or.inl rfl)) pgs_nil)))) (pss_cons (ps_asg (pe_tup (pa_cons (pe_make M GM hk1 (by rfl) T.mgC bM .nil pass0 (pa_cons (pe_call GP hk (by rfl) gP FP.kp bP .nil pass0 (pa_cons (pv 1) (pa_cons (pe_lst (pa_cons (pe_lst (pa_nil)) (pa_cons (pe_non) (pa_cons (pe_int) (pa_cons (pe_op op_rep (pe_lst (pa_cons (pe_lst (pa_cons (pe_int) (pa_cons (pe_int) (pa_cons (pe_int) (pa_nil))))) (pa_nil))) (pe_int)) (pa_cons (pe_str) (pa_nil))))))) (pa_nil)))) (pa_cons (pv 3) (pa_cons (pv 4) (pa_nil))))) (pa_cons (pe_lc (own := [("bag", 18)]) (g := gName 18) (tt := tYes) (te := tCB (rTup K) (tCons (tVar 18) tNil)) rfl nd (pi_list (pv 3)) (blkOk_by (N := nLw) (sc := defScope sLaw) (by decide +kernel)) (fun _ _ _ _ _ => pg_name (i := 18) nd rfl (Or.inl rfl)) (fun _ _ _ _ _ => pts_nil) (fun _ _ _ _ _ => pe_callTy call_tuple_of (by rfl) mtup (by decide +kernel) (pa_cons (pv 18) (pa_nil)))) (pa_nil)))) (pg_tup (by rfl) (pgs_cons (pg_name (i := 17) nd rfl (Or.inr rfl)) (pgs_cons (pg_name (i := 5) nd rfl (Or.inl rfl)) pgs_nil)))) (pss_cons (ps_if (pt_not (pt_val (pe_call GB hk (by rfl) gB FB.kp bB .nil pass0 (pa_cons (pe_fld (pv 17) rfl) (pa_cons (pe_fld (pv 17) rfl) (pa_nil)))))) (pss_one (ps_ret (pe_bl))) (pss_nil)) (pss_cons (ps_for PassesOwn.never rfl (pi_range1 (by rfl) mrange (pa_cons (pe_int) (pa_nil))) (pg_name (i := 6) nd rfl (Or.inl rfl)) (pss_cons (ps_set (i := 7) nd rfl (.inl rfl) (pe_tup (pa_cons (pe_call GS hk (by rfl) gS FS.kp bS .nil pass0 (pa_cons (pv 1) (pa_cons (pe_int) (pa_nil)))) (pa_cons (pe_call GS hk (by rfl) gS FS.kp bS .nil pass0 (pa_cons (pv 1) (pa_cons (pe_int) (pa_nil)))) (pa_cons (pe_call GS hk (by rfl) gS FS.kp bS .nil pass0 (pa_cons (pv 1) (pa_cons (pe_int) (pa_nil)))) (pa_nil)))))) (pss_cons (ps_set (i := 8) nd rfl (.inl rfl) (pe_tup (pa_cons (pe_call GP hk (by rfl) gP FP.kp bP .nil pass0 (pa_cons (pv 1) (pa_cons (pe_lst (pa_cons (pe_ix ix_tup (pv 7) (pe_int) (fun _ _ => rfl)) (pa_cons (pe_call GS hk (by rfl) gS FS.kp bS .nil pass0 (pa_cons (pv 1) (pa_cons (pe_int) (pa_nil)))) (pa_nil)))) (pa_nil)))) (pa_cons (pe_call GP hk (by rfl) gP FP.kp bP .nil pass0 (pa_cons (pv 1) (pa_cons (pe_lst (pa_cons (pe_ix ix_tup (pv 7) (pe_int) (fun _ _ => rfl)) (pa_cons (pe_op op_add (pe_ix ix_tup (pv 7) (pe_int) (fun _ _ => rfl)) (pe_int)) (pa_cons (pe_call GS hk (by rfl) gS FS.kp bS .nil pass0 (pa_cons (pv 1) (pa_cons (pe_int) (pa_nil)))) (pa_nil))))) (pa_nil)))) (pa_cons (pe_call GP hk (by rfl) gP FP.kp bP .nil pass0 (pa_cons (pv 1) (pa_cons (pe_lst (pa_cons (pe_ix ix_tup (pv 7) (pe_int) (fun _ _ => rfl)) (pa_cons (pe_call GS hk (by rfl) gS FS.kp bS .nil pass0 (pa_cons (pv 1) (pa_cons (pe_int) (pa_nil)))) (pa_nil)))) (pa_nil)))) (pa_nil)))))) (pss_cons (ps_set (i := 9) nd rfl (.inl rfl) (pe_and (pe_cmpR (op_neD hr.units) (pv 7) (pv 8) (nomark _)) (pe_one (pe_call GN hk (by rfl) gN FN.kp bN .nil pass0 (pa_cons (pv 5) (pa_cons (pv 7) (pa_cons (pv 8) (pa_nil)))))))) (pss_one (ps_if (pt_cmpR op_ne (pe_callB (call_reprX hgd hr.units) (by rfl) mrepr (by decide +kernel) (pa_cons (pe_lst (pa_cons (pe_call GX hk (by rfl) gX FX.kp bX .nil passF (pa_cons (pv 17) (pa_cons (pv 7) (pa_cons (pv 8) (pa_nil))))) (pa_cons (pe_callN0 GX hk (by rfl) gX FX.kp kX passF (pk_cons (pe_callTy call_list_of (by rfl) mlist (by decide +kernel) (pa_cons (pv 7) (pa_nil))) (pk_cons (pv 8) (pk_cons (pv 17) (pk_nil))))) (pa_nil)))) (pa_nil))) (pe_callB (call_reprX hgd hr.units) (by rfl) mrepr (by decide +kernel) (pa_cons (pe_lst (pa_cons (pv 9) (pa_cons (pv 9) (pa_nil)))) (pa_nil))) (nomark _)) (pss_one (ps_ret (pe_bl))) (pss_nil))))))) (pss_cons (ps_setLc (i := 10) (own := [("bag", 18)]) (g := gName 18) (tt := tYes) (te := teLs K) rfl nd rfl rfl (sw_true rfl rfl rfl (by decide +kernel)) (pi_list (pv 3)) (blkOk_by (N := nLw) (sc := defScope sLaw) (by decide +kernel)) (fun _ _ _ _ _ => pg_name (i := 18) nd rfl (Or.inl rfl)) (fun _ _ _ _ _ => pts_nil) (fun _ _ _ _ _ => pe_callTy call_list_of (by rfl) mlist (by decide +kernel) (pa_cons (pv 18) (pa_nil)))) (pss_cons (ps_set (i := 11) nd rfl (.inl rfl) (pe_call GS hk (by rfl) gS FS.kp bS .nil pass0 (pa_cons (pv 1) (pa_cons (pe_int) (pa_nil))))) (Evl.pss_cut (ps_if (pt_cmpR op_eq (pv 11) (pe_int) (nomark _)) (pss_one (ps_asg (pe_op op_cat (pe_revL (pe_ix ix_list (pv 10) (pe_int) (fun _ _ => rfl))) (pe_lst (pa_cons (pe_int) (pa_nil)))) (pg_sub (pv 10) pe_int set_list))) (pss_one (ps_if (pt_cmpR op_eq (pv 11) (pe_int) (nomark _)) (pss_one (ps_expr (pe_bm PySem.F.plainAttrs_list PySem.F.slot_list_append PySem.F.type_list_append mt_append (pv 10) (pa_cons (pe_lst (pa_nil)) (pa_nil))))) (pss_one (ps_if (pt_cmpR op_eq (pv 11) (pe_int) (nomark _)) (pss_one (ps_asg (pe_lst (pa_cons (pe_int) (pa_cons (pe_int) (pa_cons (pe_int) (pa_cons (pe_int) (pa_cons (pe_int) (pa_nil))))))) (pg_sub (pv 10) (pe_un un_neg pe_int) set_list))) (pss_nil)))))) (pss_cons (ps_set (i := 12) nd rfl (.inl rfl) (pe_make M GM hk1 (by rfl) T.mgC bM .nil pass0 (pa_cons (pe_lst (pa_nil)) (pa_cons (pv 10) (pa_cons (pe_ifExp (pt_cmpR op_eq (pv 11) (pe_int) (nomark _)) (pe_slice sl_list (pv 4) (po_none) (po_some (pe_un un_neg pe_int))) (pv 4)) (pa_nil)))))) (pss_cons (ps_set (i := 13) nd rfl (.inl rfl) (pe_call GP hk (by rfl) gP FP.kp bP .nil pass0 (pa_cons (pv 1) (pa_cons (pe_lst (pa_cons (pe_make M GM hk1 (by rfl) T.mgC bM .nil pass0 (pa_cons (pe_lst (pa_nil)) (pa_cons (pe_lst (pa_cons (pe_lst (pa_cons (pe_int) (pa_nil))) (pa_cons (pe_lst (pa_cons (pe_int) (pa_nil))) (pa_cons (pe_lst (pa_cons (pe_int) (pa_nil))) (pa_nil))))) (pa_cons (pe_lst (pa_cons (pe_non) (pa_cons (pe_int) (pa_cons (pe_int) (pa_nil))))) (pa_nil))))) (pa_cons (pe_make M GM hk1 (by rfl) T.mgC bM .nil pass0 (pa_cons (pe_lst (pa_nil)) (pa_cons (pe_lst (pa_cons (pe_lst (pa_cons (pe_int) (pa_nil))) (pa_cons (pe_lst (pa_cons (pe_int) (pa_nil))) (pa_nil)))) (pa_cons (pe_lst (pa_cons (pe_int) (pa_cons (pe_int) (pa_nil)))) (pa_nil))))) (pa_cons (pe_make M GM hk1 (by rfl) T.mgC bM .nil pass0 (pa_cons (pe_lst (pa_nil)) (pa_cons (pe_lst (pa_cons (pe_lst (pa_cons (pe_int) (pa_nil))) (pa_cons (pe_lst (pa_cons (pe_int) (pa_cons (pe_int) (pa_nil)))) (pa_cons (pe_lst (pa_cons (pe_int) (pa_nil))) (pa_nil))))) (pa_cons (pe_lst (pa_cons (pe_non) (pa_cons (pe_int) (pa_cons (pe_int) (pa_nil))))) (pa_nil))))) (pa_cons (pe_make M GM hk1 (by rfl) T.mgC bM .nil pass0 (pa_cons (pe_lst (pa_nil)) (pa_cons (pe_lst (pa_cons (pe_lst (pa_cons (pe_int) (pa_nil))) (pa_nil))) (pa_cons (pe_lst (pa_cons (pe_int) (pa_nil))) (pa_nil))))) (pa_nil)))))) (pa_nil))))) (pss_cons (ps_set (i := 15) nd rfl (.inr rfl) (pe_call GP hk (by rfl) gP FP.kp bP .nil pass0 (pa_cons (pv 1) (pa_cons (pe_lst (pa_cons (pe_non) (pa_cons (pv 12) (pa_cons (pv 13) (pa_cons (StX.pe_makeR MP GPap hk1 (by rfl) gPap pass0 (pa_cons (pe_str) (pa_cons (pe_tup (pa_nil)) (pa_cons (pv 3) (pa_cons (pv 4) (pa_nil)))))) (pa_cons (pe_make M GM hk1 (by rfl) T.mgC bM .nil pass0 (pa_cons (pe_lst (pa_nil)) (pa_cons (pe_lst (pa_nil)) (pa_cons (pe_lst (pa_nil)) (pa_nil))))) (pa_cons (pe_make M GM hk1 (by rfl) T.mgC bM .nil pass0 (pa_cons (pe_lst (pa_nil)) (pa_cons (pe_non) (pa_cons (pe_non) (pa_nil))))) (pa_cons (pv 3) (pa_nil))))))))) (pa_nil))))) (pss_cons (ps_set (i := 16) nd rfl (.inr rfl) (pe_call GP hk (by rfl) gP FP.kp bP .nil pass0 (pa_cons (pv 1) (pa_cons (pe_lst (pa_cons (pe_non) (pa_cons (pe_tup (pa_cons (pe_int) (pa_cons (pe_int) (pa_nil)))) (pa_cons (pe_tup (pa_cons (pe_int) (pa_cons (pe_int) (pa_cons (pe_int) (pa_nil))))) (pa_cons (pe_tup (pa_cons (pe_int) (pa_cons (pe_un un_neg pe_int) (pa_cons (pe_int) (pa_nil))))) (pa_cons (pe_tup (pa_cons (pe_int) (pa_cons (pe_int) (pa_cons (pe_bl) (pa_nil))))) (pa_cons (pe_str) (pa_cons (pe_tup (pa_cons (pe_int) (pa_cons (pe_int) (pa_cons (pe_int) (pa_cons (pe_int) (pa_nil)))))) (pa_cons (pe_lst (pa_cons (pe_int) (pa_cons (pe_int) (pa_cons (pe_non) (pa_nil))))) (pa_cons (pe_int) (pa_nil))))))))))) (pa_nil))))) (pss_cons (ps_set (i := 14) nd rfl (.inl rfl) (pe_lst (pa_cons (pe_lamcall (k := k + 1) (T := Ts T1) (t := fun E => tCall (spNear K C CP C0 C1) [] E (tCons (tVar 15) (tCons (tVar 16) (tCons (tVar 16) (tNil))))) (by rfl) gH FH.kp lkH hcdH bH scHeard rfl (Or.inl (by rfl)) (gives_heard mi E2.gL E2.gS E2.gE) TB rfl hTm hu hr (lamS_by (sc := defScope sLaw) (by decide +kernel)) (by rfl) (fun _ _ _ _ _ => rfl) (fun A outer s H E f' c' hr2 => by exact (pe_call GX hr2 (by rfl) gX FX.kp bX .nil (passAll fun σ => passAt (takes_of rfl rfl rfl rfl) σ) (pa_cons (pv 15) (pa_cons (pv 16) (pa_cons (pv 16) (pa_nil))))))) (pa_cons (pe_lamcallD (k := k + 1) (x := "a1") (T := Ts T1) (t := fun E => tCall (spNear K C CP C0 C1) [] E (tCons (tVar 17) (tCons (tVar 16) (tCons (tC .non) (tNil))))) (by rfl) gH FH.kp lkH hcdH bH scHeard rfl (Or.inl (by rfl)) (gives_heard mi E2.gL E2.gS E2.gE) TB rfl hTm hu hr (lamSD_by (sc := defScope sLaw) (by decide +kernel)) ha_a1 rfl (fun _ _ _ _ _ _ _ => ⟨_, rfl, rfl⟩) (fun A outer s H E f' c' hr2 => by exact (pe_call GX hr2 (by rfl) gX FX.kp bX .nil (passAll fun σ => passAt (takes_of rfl rfl rfl rfl) σ) (pa_cons (pv 17) (pa_cons (pv 16) (pa_cons (pe_non) (pa_nil))))))) (pa_cons (pe_lamcallD (k := k + 1) (x := "a2") (T := Ts T1) (t := fun E => tCall (spNear K C CP C0 C1) [] E (tCons (tVar 17) (tCons (tTup (tCons (tC (.int 0)) (tCons (tC (.int 0)) (tCons (tC (.int 0)) (tNil))))) (tCons (tVar 16) (tNil))))) (by rfl) gH FH.kp lkH hcdH bH scHeard rfl (Or.inl (by rfl)) (gives_heard mi E2.gL E2.gS E2.gE) TB rfl hTm hu hr (lamSD_by (sc := defScope sLaw) (by decide +kernel)) ha_a2 rfl (fun _ _ _ _ _ _ _ => ⟨_, rfl, rfl⟩) (fun A outer s H E f' c' hr2 => by exact (pe_call GX hr2 (by rfl) gX FX.kp bX .nil (passAll fun σ => passAt (takes_of rfl rfl rfl rfl) σ) (pa_cons (pv 17) (pa_cons (pe_tup (pa_cons (pe_int) (pa_cons (pe_int) (pa_cons (pe_int) (pa_nil))))) (pa_cons (pv 16) (pa_nil))))))) (pa_nil)))))) (pss_one (ps_if (pt_cmpR (op_neD hr.units) (pv 14) (pe_lst (pa_cons (pe_tup (pa_cons (pe_str) (pa_cons (pe_str) (pa_nil)))) (pa_cons (pe_tup (pa_cons (pe_str) (pa_cons (pe_str) (pa_nil)))) (pa_cons (pe_tup (pa_cons (pe_str) (pa_cons (pe_str) (pa_nil)))) (pa_nil))))) (nomark _)) (pss_one (ps_ret (pe_bl))) (pss_nil)))))))))))))))) (pss_one (ps_ret (pe_bl)))), ?_⟩
    refine Go.asg_go (Go.call_raw (Go.cons_any ⟨_, rfl, a0, ns, rfl, hS0, by omega, fun t c0 H1 nt nc e1 T0 => ?_⟩))
    try dsimp only [List.set_cons_zero, List.set_cons_succ]
    have o1 : Od (Ts T1) t c0 0 H1 := ⟨fun p hp => by rw [List.mem_singleton.mp hp]; exact TabS.nil (e1 _ _ hT1), T0⟩
    clear T0 e1 hT1 nt nc
    refine q_forB (B := fun _ => none) (n := 3) (s := fun i σ => σ.set 2 (some (.int (0 + i)))) (eb_rng1 (j := 3) (Evl.ea_cons Evl.ev_c Evl.ea_nil) (by decide) (by decide)) aims_fn (fun _ _ h => nomatch h) (fun i σ' G => (∃ y2 y3 y4 y5 y6 y7 y8 y9 y10 y11 y12 y13 y14 y15 y16 y17, σ' = [some (.ref a0), some (.ref t), y2, y3, y4, y5, y6, y7, y8, y9, y10, y11, y12, y13, y14, y15, y16, y17, none]) ∧ Od (Ts T1) t c0 (300 * i) G) (fun G eG => ⟨⟨_, _, _, _, _, _, _, _, _, _, _, _, _, _, _, _, rfl⟩, o1.ex eG⟩) (fun _ _ _ _ _ _ _ h => nomatch h) (fun i σ' G0 G hi p eG => ?_) fun σ' G p => ?_
    · obtain ⟨⟨y2, y3, y4, y5, y6, y7, y8, y9, y10, y11, y12, y13, y14, y15, y16, y17, rfl⟩, o⟩ := p
      have o := o.ex eG
      -- bags, above
      refine Go.q_asg1 (Go.call_raw (Go.cons_any ⟨_, rfl, t, c0, 300 * i, rfl, o.tub, by omega, fun Tp A U as bs us f H2 k2 T2' hTp hA hU hal hrow nTp nA nU wd w4 n7 => ⟨Tp, _, rfl, Evl.st_of hTp, rfl, _, _, rfl, _, _, rfl, rfl, ?_⟩⟩))
      try dsimp only [List.set_cons_zero, List.set_cons_succ]
      have o2 := o.kept k2 T2'
      have nar := nar_of wd w4
      have r10 : ∀ ns ∈ bs, ns.length ≤ 10 := fun ns hn => by have := (w4 ns hn).2.2; omega
      have ul := wd.len
      have sB : LLs (strip t H2) A bs := ⟨as, strip_at hA nA (fun ps z => nomatch z), hal, fun i a ns q1 q2 => strip_at (hrow i a ns q1 q2).1 (hrow i a ns q1 q2).2 fun ps z => nomatch z⟩
      have sU : strip t H2 U = some (.lst (us.map uv)) := strip_at hU nU fun ps z => nomatch z
      clear hTp nTp hrow hal k2 T2'
      -- value, told
      refine Go.q_asg1 (Go.tup_go (Go.cons_any ?_))
      refine mk_split fun Q' hQ' => ?_
      refine Go.cons_any (go_pickS (R := FxD K) FxD.mono (i := 1) (c := c0) rfl o2.tub (by omega) (es_cons FxD.mono (fx_d (sd_lst o2.tub sd_nil (by decide)) (.inr ⟨_, .inl rfl, by decide, fun e he => nomatch he⟩)) (es_cons FxD.mono (fx_d sd_non (.inl rfl)) (es_cons FxD.mono (fx_d sd_int (.inl rfl)) (es_cons FxD.mono (fx_d (sd_rep o2.tub (sd_lst o2.tub (sd_cons sd_int (sd_cons sd_int (sd_cons sd_int sd_nil))) (by decide))) (.inr ⟨_, .inl rfl, by decide, fun e he => by
          simp only [List.mem_cons, List.not_mem_nil, or_false, or_self] at he
          subst he
          exact .inr ⟨_, .inl rfl, by decide, fun e he => by
            simp only [List.mem_cons, List.not_mem_nil, or_false, or_self] at he
            subst he
            rfl⟩⟩)) (es_cons FxD.mono (es_c Evl.ev_c fun S e => ⟨.str "1", .str _, .inl rfl⟩) es_nil))))) (by decide) (by decide) fun sv H3 k3 T3 hsv => ?_)
      obtain ⟨ds, hds, fds⟩ := hsv
      have o3 := o2.kept k3 T3
      have e23 : Evl.Ex (strip t H2) (strip t H3) := sx_kept k3
      refine ⟨.ref A, rfl, .ref U, rfl, ?_⟩
      intro x0 dx0 nx0 ndx0 hne0
      refine seats_go (K := K) (C := C) (r := some (bs, us)) (dp_ex strip_ex hds) (dp_ex strip_ex (sB.ex e23).dp) (.lst (Evl.sq_of (strip_ex _ _ (e23 _ _ sU))) (dpa_us us)) fds (fxb_dL (by omega) r10) (fxb_dLU (us := us) (by omega)) (fun H' vb vu d1 d2 => bgd_of (by rw [← fix_dL]; exact d1) (by rw [← fix_dLU]; exact d2) (by omega) (by omega) r10) (fun x H4 e4 nx dx fs vb vu hx hxb hxu hbg => ?_) x0 dx0 nx0 ndx0 hne0
      clear nx0 ndx0 hne0
      subst hQ'
      have o4 := o3.ex e4
      obtain ⟨cs4, tn4, rt4, ht4, _⟩ := id o4.tub
      have e24 := e23.trans (sx_ex (t := t) e4)
      obtain ⟨as, hA4, hal, hrow⟩ := sB.ex e24
      have hA4' := strip_ex _ _ hA4
      refine Go.cons_any (go_lcD (H := H4) (n := (as.map V.ref).length) (o := fun i => .tup ((bs.getD i []).map V.int)) (ei_list (K := K) (Evl.ev_var (i := 3) rfl) (Evl.sq_of hA4')) (aims_at (j := 18)) (fun _ => rfl) (by rw [List.length_map]; omega) (fun i hi G eG Q1 q1 => ?_) H4 (Evl.Ex.refl _) _ fun L ts H5 nL e5 hL htl _ hts => ?_)
      · rw [List.length_map] at hi
        have ha := List.getElem?_eq_getElem hi
        have hb := List.getElem?_eq_getElem (show i < bs.length by omega)
        have exr : (as.map V.ref).getD i .non = .ref as[i] := by rw [List.getD_eq_getElem?_getD, List.getElem?_map, ha]; rfl
        have hr := hrow i _ _ ha hb
        have eb : bs.getD i [] = bs[i]'(by omega) := by rw [List.getD_eq_getElem?_getD, hb]; rfl
        rw [exr]
        rw [eb] at q1
        exact Go.cb_go (Go.cons_any ⟨_, rfl, as[i], _, rfl, .inl ⟨Evl.sq_of (eG _ _ (strip_ex _ _ hr)), fun l hl => q1 l _ hl (Evl.Ex.new hl) upd_same⟩⟩)
      · rw [List.length_map] at htl
        refine ⟨by show 2 ≤ sizeLine; decide, fun Tq hTq => ⟨Tq, _, rfl, Evl.st_of upd_same, rfl, _, _, rfl, _, _, rfl, rfl, ?_⟩⟩
        try dsimp only [List.set_cons_zero, List.set_cons_succ]
        have eQ := Evl.Ex.new (o := .tup [V.ref x, .ref L]) hTq
        have o6 := (o4.ex e5).ex eQ
        have e46 := sx_ex (t := t) (e5.trans eQ)
        have ft : Ft K C (strip t (upd H5 Tq (.tup [V.ref x, .ref L]))) A U x L bs us := by
          refine ⟨(sB.ex e24).ex e46, (e24.trans e46) _ _ sU, ⟨dx, fs, vb, vu, e46 _ _ (strip_at hx (fun z => by rw [z, ht4] at hx; cases hx) fun ps z => nomatch z), hxb, hxu, (hbg.st ht4).ex e46⟩, ts, ?_, by omega, fun i a ns q1 q2 => ?_⟩
          · exact strip_at (eQ _ _ hL) (o4.tub.ne nL).1 fun ps z => nomatch z
          · obtain ⟨g1, g2, g3⟩ := hts i a q1
            have eb : bs.getD i [] = ns := by rw [List.getD_eq_getElem?_getD, q2]; rfl
            rw [eb] at g3
            exact strip_at (eQ _ _ g3) (o4.tub.ne g1).1 fun ps z => nomatch z
        generalize upd H5 Tq (.tup [V.ref x, .ref L]) = H6 at o6 ft ⊢
        clear e46 eQ hTq hts htl hL e5 nL hA4' hrow hal hA4 e24 ht4 o4 hbg hxu hxb hx nx e4 fds hds e23 o3 k3 T3 o2 sB sU eG o
        -- the judge of trees
        have e6 : Evl.Ex (strip t H6) H6 := strip_ex
        refine Evl.q_when (b := false) ?_ (fun z => nomatch z) fun _ H7 e7 => ?_
        · obtain ⟨dx, fs, vb, vu, g1, g2, g3, g4⟩ := ft.hx
          cases g4 with
          | @yes tb tu _ _ m1 m2 m3 m4 m5 =>
            exact Evl.et_is (Evl.et_not (Evl.et_B (Evl.ev_call (vs := [.ref tb, .ref tu]) (z := .bl true) (Evl.ea_cons (ev_fld (Evl.ev_var rfl) (e6 _ _ g1) T.iC.cl T.nB g2) (Evl.ea_cons (ev_fld (Evl.ev_var rfl) (e6 _ _ g1) T.iC.cl T.nA g3) Evl.ea_nil)) fun G e Q q E => ⟨tb, tu, [], bs, us, f, rfl, (m1.ex e6).ex e, Evl.ex_t e (Evl.ex_t e6 m2), wd, w4, n7, q⟩))) rfl
        have o7 := o6.ex e7
        have ft7 := ft.ex (sx_ex (t := t) e7)
        clear e6 o6 ft
        -- laps
        refine q_forB (B := fun _ => none) (n := 8) (s := fun i σ => σ.set 6 (some (.int (0 + i)))) (eb_rng1 (j := 8) (Evl.ea_cons Evl.ev_c Evl.ea_nil) (by decide) (by decide)) aims_fn (fun _ _ h => nomatch h) (fun m σ' G => (∃ y6 y7 y8 y9, σ' = [some (.ref a0), some (.ref t), some (.int (0 + (i : Int))), some (.ref A), some (.ref U), some (.ref L), y6, y7, y8, y9, y10, y11, y12, y13, y14, y15, y16, some (.ref x), none]) ∧ Od (Ts T1) t c0 (300 * i + 101 + 9 * m) G ∧ Ft K C (strip t G) A U x L bs us) (fun G eG => ⟨⟨_, _, _, _, rfl⟩, (o7.ex eG).mono (by omega), ft7.ex (sx_ex eG)⟩) (fun _ _ _ _ _ _ _ h => nomatch h) (fun m σ' G0 G hm p eG => ?_) fun σ' G p => ?_
        · obtain ⟨⟨y6, y7, y8, y9, rfl⟩, o, ft⟩ := p
          have o := o.ex eG
          have ft := ft.ex (sx_ex (t := t) eG)
          clear eG o7 ft7 e7
          try dsimp only [List.set_cons_zero, List.set_cons_succ]
          -- one
          refine Go.asg_go (Go.tup_go (Go.cons_any (scoop_goJ (j := 1) (c := c0) rfl Evl.ev_c o.tub (by omega) (by decide) (by decide) fun p J1 hp k1 T1' => Go.cons_any (scoop_goJ (j := 1) (c := c0) rfl Evl.ev_c T1' (by omega) (by decide) (by decide) fun l J2 hl k2 T2' => Go.cons_any (scoop_goJ (j := 1) (c := c0) rfl Evl.ev_c T2' (by omega) (by decide) (by decide) fun n J3 hn k3 T3' => ⟨by show 3 ≤ sizeLine; decide, fun O nO => ?_⟩)))))
          try dsimp only [List.set_cons_zero, List.set_cons_succ]
          have oJ := ((o.kept k1 T1').kept k2 T2').kept k3 T3'
          have ftJ := ft.ex (sx_kept ((k1.trans k2).trans k3))
          have eO := Evl.Ex.new (o := .tup [V.int (p : Int), .int (l : Int), .int (n : Int)]) nO
          have oK := oJ.ex eO
          have ftK := ftJ.ex (sx_ex (t := t) eO)
          have hO : strip t (upd J3 O (.tup [V.int (p : Int), .int (l : Int), .int (n : Int)])) O = some (.tup [V.int (p : Int), .int (l : Int), .int (n : Int)]) := strip_at upd_same (oJ.tub.ne nO).1 fun ps z => nomatch z
          generalize upd J3 O (.tup [V.int (p : Int), .int (l : Int), .int (n : Int)]) = J4 at oK ftK hO ⊢
          clear eO oJ ftJ o ft T1' T2' T3' k1 k2 k3 nO
          have ixO : ∀ {G : Hp} {σ : L2.St} {j : Nat} {v : V}, σ[7]? = some (some (.ref O)) → Evl.Ex (strip t J4) (strip t G) → [V.int (p : Int), .int (l : Int), .int (n : Int)][j]? = some v → Evl.Ev (tOp (rIxT K) (tVar 7) (tC (.int (j : Int)))) σ G v := fun hσ e hv => Evl.ev_op (Evl.ev_var hσ) Evl.ev_c (Evl.rv_ixT (Evl.st_of (strip_ex _ _ (e _ _ hO))) (atI_nat hv))
          -- other
          refine Go.asg_go (Go.tup_go (Go.cons_any ⟨_, rfl, Go.lst_go (Go.cons_any (Go.go (ixO (j := 0) rfl (Evl.Ex.refl _) rfl) fun B1 e1 => Go.cons_any (scoop_goJ (j := 1) (c := c0) rfl Evl.ev_c (oK.ex e1).tub (by omega) (by decide) (by decide) fun r B2 hr kb T2 => nil_goJ (pick_fin (E := E0) T2 (by omega) (by show 1 ≤ 2; decide) (by show 2 ≤ 1000; decide) fun j1 v1 B3 hj1 kc T3 => ?_))))⟩))
          obtain ⟨p2, rfl⟩ : ∃ p2 : Nat, v1 = .int (p2 : Int) := by
            match j1, hj1 with
            | 0, h => exact ⟨p, (Option.some.inj h).symm⟩
            | 1, h => exact ⟨r, (Option.some.inj h).symm⟩
          have oB := ((oK.ex e1).kept kb T2).kept kc T3
          have xB : Evl.Ex (strip t J4) (strip t B3) := (sx_ex e1).trans ((sx_kept kb).trans (sx_kept kc))
          clear hj1 kb kc T2 T3 e1
          refine Go.cons_any ⟨_, rfl, Go.lst_go (Go.cons_any (Go.go (ixO (j := 1) rfl xB rfl) fun C1' f1 => Go.cons_any (Go.go (Evl.ev_op (ixO (j := 1) rfl (xB.trans (sx_ex f1)) rfl) Evl.ev_c Evl.rv_I0) fun C2 f2 => Go.cons_any (scoop_goJ (j := 1) (c := c0) rfl Evl.ev_c ((oB.ex f1).ex f2).tub (by omega) (by decide) (by decide) fun r2 C3 hr2 kb T2 => nil_goJ (pick_fin (E := E0) T2 (by omega) (by show 1 ≤ 3; decide) (by show 3 ≤ 1000; decide) fun j2 v2 C4 hj2 kc T3 => ?_)))))⟩
          obtain ⟨l2, rfl⟩ : ∃ l2 : Nat, v2 = .int (l2 : Int) := by
            match j2, hj2 with
            | 0, h => exact ⟨l, (Option.some.inj h).symm⟩
            | 1, h => exact ⟨l + 1, (Option.some.inj h).symm⟩
            | 2, h => exact ⟨r2, (Option.some.inj h).symm⟩
          have oC := (((oB.ex f1).ex f2).kept kb T2).kept kc T3
          have xC : Evl.Ex (strip t J4) (strip t C4) := xB.trans ((sx_ex (f1.trans f2)).trans ((sx_kept kb).trans (sx_kept kc)))
          clear hj2 kb kc T2 T3 f1 f2 oB xB
          refine Go.cons_any ⟨_, rfl, Go.lst_go (Go.cons_any (Go.go (ixO (j := 2) rfl xC rfl) fun D1 f1 => Go.cons_any (scoop_goJ (j := 1) (c := c0) rfl Evl.ev_c (oC.ex f1).tub (by omega) (by decide) (by decide) fun r3 D2 hr3 kb T2 => nil_goJ (pick_fin (E := E0) T2 (by omega) (by show 1 ≤ 2; decide) (by show 2 ≤ 1000; decide) fun j3 v3 D3 hj3 kc T3 => ?_))))⟩
          obtain ⟨n2, rfl, hn2⟩ : ∃ n2 : Nat, v3 = .int (n2 : Int) ∧ n2 < 3 := by
            match j3, hj3 with
            | 0, h => exact ⟨n, (Option.some.inj h).symm, by omega⟩
            | 1, h => exact ⟨r3, (Option.some.inj h).symm, by omega⟩
          have oD := ((oC.ex f1).kept kb T2).kept kc T3
          have xD : Evl.Ex (strip t J4) (strip t D3) := xC.trans ((sx_ex f1).trans ((sx_kept kb).trans (sx_kept kc)))
          clear hj3 kb kc T2 T3 f1 oC xC
          refine ⟨by show 3 ≤ sizeLine; decide, fun O2 nO2 => ?_⟩
          try dsimp only [List.set_cons_zero, List.set_cons_succ]
          have eO2 := Evl.Ex.new (o := .tup [V.int (p2 : Int), .int (l2 : Int), .int (n2 : Int)]) nO2
          have oE := oD.ex eO2
          have xE := xD.trans (sx_ex (t := t) eO2)
          have hO2 : upd D3 O2 (.tup [V.int (p2 : Int), .int (l2 : Int), .int (n2 : Int)]) O2 = some (.tup [V.int (p2 : Int), .int (l2 : Int), .int (n2 : Int)]) := upd_same
          generalize upd D3 O2 (.tup [V.int (p2 : Int), .int (l2 : Int), .int (n2 : Int)]) = J5 at oE xE hO2 ⊢
          have ft5 := ftK.ex xE
          have hO5 := strip_ex _ _ (xE _ _ hO)
          have e5 : Evl.Ex (strip t J5) J5 := strip_ex
          clear oD xD eO2 nO2 ixO hO ftK oK
          have n3 : n < 3 := by omega
          -- due
          obtain ⟨xs, hxs, hR⟩ := ft5.told
          have hxs := hxs.ex e5
          have hR := hR.ex e5
          have due : Evl.Ev (tAndV (tOp (rNeD K) (tVar 7) (tVar 8)) (tCall (spLNear K) [] E0 (tCons (tVar 5) (tCons (tVar 7) (tCons (tVar 8) tNil))))) [some (.ref a0), some (.ref t), some (.int (0 + (i : Int))), some (.ref A), some (.ref U), some (.ref L), some (.int (0 + (m : Int))), some (.ref O), some (.ref O2), y9, y10, y11, y12, y13, y14, y15, y16, some (.ref x), none] J5 (.bl (dueB bs p l n p2 l2 n2)) := by
            unfold dueB
            obtain ⟨a, rfl⟩ : ∃ a, L = a := ⟨_, rfl⟩
            refine Evl.ev_andV ?_ fun _ => ?_
            · refine Evl.ev_is (ev_neDD (d1 := .tuple [.int (p : Int), .int (l : Int), .int (n : Int)]) (d2 := .tuple [.int (p2 : Int), .int (l2 : Int), .int (n2 : Int)]) (ed_v (Evl.ev_var rfl) (.tup (Evl.st_of hO5) (.cons (.int _) (.cons (.int _) (.cons (.int _) .nil))))) (ed_v (Evl.ev_var rfl) (.tup (Evl.st_of hO2) (.cons (.int _) (.cons (.int _) (.cons (.int _) .nil))))) rfl rfl) (congrArg (fun z => V.bl (!z)) ?_)
              show (decide ((p : Int) = p2) && (decide ((l : Int) = l2) && (decide ((n : Int) = n2) && true))) = _
              rw [Bool.and_true, ← Bool.decide_and, ← Bool.decide_and]
              exact decide_eq_decide.mpr (by omega)
            · exact Evl.ev_call (vs := [.ref L, .ref O, .ref O2]) (Evl.ea_cons (Evl.ev_var rfl) (Evl.ea_cons (Evl.ev_var rfl) (Evl.ea_cons (Evl.ev_var rfl) Evl.ea_nil))) fun G e Q q E => ⟨L, O, O2, xs, bs, p, l, n, p2, l2, n2, rfl, hxs.ex e, hR.ex e, by omega, .inr (Evl.st_of (e _ _ hO5)), .inr (Evl.st_of (e _ _ hO2)), q⟩
          refine Evl.q_asg due fun J6 e6 => ?_
          try dsimp only [List.set_cons_zero, List.set_cons_succ]
          have sev6 := (ft5.sev (CP := CP)).ex (e5.trans e6)
          have hO6 := e6 _ _ hO5
          have hO26 := e6 _ _ hO2
          have shd : Sh 400 2 (.list [.bool (dueB bs p l n p2 l2 n2), .bool (dueB bs p l n p2 l2 n2)]) := sh_lst (c := 66) (m := 2) (fun d hd => by
            simp only [List.mem_cons, List.not_mem_nil, or_false, or_self] at hd
            subst hd
            exact sh_bl _) (by show 2 ≤ 2; decide) (by decide)
          generalize hdb : dueB bs p l n p2 l2 n2 = db at shd
          have dpl : ∀ v G, Dp K G v (.list [.bool db, .bool db]) → ∃ a, v = .ref a := fun v G h => by cases h; exact ⟨_, rfl⟩
          refine Evl.s_when (b := false) (Evl.et_is (Evl.et_test (Evl.ev_op (ev_reprV (d := .list [.bool db, .bool db]) (ed_l (xs := [.bl db, .bl db]) (Evl.el_lst (Evl.ea_cons ?_ (Evl.ea_cons ?_ Evl.ea_nil)) (by show 2 ≤ 100000; decide)) (.cons (.bl _) (.cons (.bl _) .nil))) dpl shd (by decide) (by decide)) (ev_reprV (d := .list [.bool db, .bool db]) (ed_l (xs := [.bl db, .bl db]) (Evl.el_lst (Evl.ea_cons (Evl.ev_var rfl) (Evl.ea_cons (Evl.ev_var rfl) Evl.ea_nil)) (by show 2 ≤ 100000; decide)) (.cons (.bl _) (.cons (.bl _) .nil))) dpl shd (by decide) (by decide)) (Evl.rv_ne rfl))) (by rw [decide_eq_true rfl]; rfl)) (fun z => nomatch z) fun _ J7 e7 => ⟨⟨_, _, _, _, rfl⟩, ((oE.ex e6).ex e7).mono (by omega), ft5.ex (sx_ex (t := t) (e6.trans e7))⟩
          · refine Evl.ev_call (vs := [.ref x, .ref O, .ref O2]) (Evl.ea_cons (Evl.ev_var rfl) (Evl.ea_cons (Evl.ev_var rfl) (Evl.ea_cons (Evl.ev_var rfl) Evl.ea_nil))) fun G e Q q E => near_sp (sev6.ex e) nar (.inr (Evl.st_of (e _ _ hO6))) (.inr (Evl.st_of (e _ _ hO26))) n3 hn2 (by rw [hdb]; exact q)
          · intro G e Q q
            refine nil_goJ (Go.cons_any (Go.cb_go (Go.cons_any ⟨_, rfl, O, _, rfl, .inr (Evl.st_of (e _ _ hO6)), fun lz nl => ⟨.ref O2, rfl, .ref x, rfl, rfl, rfl, ?_⟩⟩)))
            have eN := Evl.Ex.new (o := .lst [V.int (p : Int), .int (l : Int), .int (n : Int)]) nl
            refine near_sp (v := .ref x) (O := O2) (O2 := lz) ((sev6.ex e).ex eN) nar (.inr (Evl.st_of (eN _ _ (e _ _ hO26)))) (.inl (Evl.sq_of upd_same)) hn2 n3 ?_
            rw [due_sym, hdb]
            exact fun H1 e1 => q H1 (eN.trans e1)
        · obtain ⟨⟨y6, y7, y8, y9, rfl⟩, o, ft⟩ := p
          clear o7 ft7 e7
          -- torn
          obtain ⟨as, hA1, hal, hrow⟩ := ft.hB
          have hA1 := strip_ex _ _ hA1
          refine Go.asg_go (go_lcD (H := G) (n := (as.map V.ref).length) (o := fun i => .lst ((bs.getD i []).map V.int)) (ei_list (K := K) (Evl.ev_var (i := 3) rfl) (Evl.sq_of hA1)) (aims_at (j := 18)) (fun _ => rfl) (by rw [List.length_map]; omega) (fun i hi G2 eG Q1 q1 => ?_) G (Evl.Ex.refl _) _ fun TR rs H8 nTR e8 hTR hrl _ hrs => ?_)
          · rw [List.length_map] at hi
            have ha := List.getElem?_eq_getElem hi
            have hb := List.getElem?_eq_getElem (show i < bs.length by omega)
            have exr : (as.map V.ref).getD i .non = .ref as[i] := by rw [List.getD_eq_getElem?_getD, List.getElem?_map, ha]; rfl
            have hr := hrow i _ _ ha hb
            have eb : bs.getD i [] = bs[i]'(by omega) := by rw [List.getD_eq_getElem?_getD, hb]; rfl
            rw [exr]
            rw [eb] at q1
            exact Go.cb_go (Go.cons_any ⟨_, rfl, as[i], _, rfl, .inl (Evl.sq_of (eG _ _ (strip_ex _ _ hr))), fun l hl => q1 l _ hl (Evl.Ex.new hl) upd_same⟩)
          · rw [List.length_map] at hrl
            try dsimp only [List.set_cons_zero, List.set_cons_succ]
            have o8 := o.ex e8
            have ft8 := ft.ex (sx_ex (t := t) e8)
            have TRt : TR ≠ t := (o.tub.ne nTR).1
            have rows8 : ∀ (i : Nat) (a : Addr) (ns : List Int), rs[i]? = some a → bs[i]? = some ns → H8 a = some (.lst (ns.map V.int)) ∧ a ≠ t ∧ a ≠ TR := fun i a ns q1 q2 => by
              obtain ⟨g1, g2, g3⟩ := hrs i a q1
              have eb : bs.getD i [] = ns := by rw [List.getD_eq_getElem?_getD, q2]; rfl
              rw [eb] at g3
              exact ⟨g3, (o.tub.ne g1).1, g2⟩
            have hrl : rs.length = bs.length := by omega
            have TRc : TR ≠ c0 := (o.tub.ne nTR).2
            have kG8 : Kept t G H8 := kept_ex e8
            clear hrs e8
            -- way
            refine Go.asg_go (scoop_goJ (j := 1) (c := c0) rfl Evl.ev_c o8.tub (by omega) (by decide) (by decide) fun r H9 hr4 k9 T9 => ?_)
            try dsimp only [List.set_cons_zero, List.set_cons_succ]
            have o9 := o8.kept k9 T9
            have kG9 := kG8.trans k9
            have hTR9 := k9 _ _ TRt hTR
            have rows9 : ∀ (i : Nat) (a : Addr) (ns : List Int), rs[i]? = some a → bs[i]? = some ns → H9 a = some (.lst (ns.map V.int)) ∧ a ≠ t ∧ a ≠ TR := fun i a ns q1 q2 => by
              obtain ⟨g1, g2, g3⟩ := rows8 i a ns q1 q2
              exact ⟨k9 _ _ g2 g1, g2, g3⟩
            clear rows8 hTR ft8 o8 k9 T9 kG8
            refine Evl.q_cut (M := fun σ' G => ∃ bs', σ' = [some (.ref a0), some (.ref t), some (.int (0 + (i : Int))), some (.ref A), some (.ref U), some (.ref L), y6, y7, y8, y9, some (.ref TR), some (.int (r : Int)), y12, y13, y14, y15, y16, some (.ref x), none] ∧ Od (Ts T1) t c0 (300 * i + 190) G ∧ Ft K C (strip t G) A U x L bs us ∧ LLs (strip t G) TR bs' ∧ bs'.length ≤ 8 ∧ (∀ ns ∈ bs', ns.length ≤ 10) ∧ ¬ NarOk bs' (if r = 3 then us.dropLast else us)) ?_ fun σ' G p => ?_
            · have st0 : ∀ {σ : L2.St} {G2 : Hp} {rs' : List Addr} {bs' : List (List Int)}, σ = [some (.ref a0), some (.ref t), some (.int (0 + (i : Int))), some (.ref A), some (.ref U), some (.ref L), y6, y7, y8, y9, some (.ref TR), some (.int (r : Int)), y12, y13, y14, y15, y16, some (.ref x), none] → Evl.Ex H9 G2 → rs'.length = bs'.length → (∀ (i : Nat) (a : Addr) (ns : List Int), rs'[i]? = some a → bs'[i]? = some ns → G2 a = some (.lst (ns.map V.int)) ∧ a ≠ t ∧ a ≠ TR) → bs'.length ≤ 8 → (∀ ns ∈ bs', ns.length ≤ 10) → ¬ NarOk bs' (if r = 3 then us.dropLast else us) →
                  ∃ bs', σ = [some (.ref a0), some (.ref t), some (.int (0 + (i : Int))), some (.ref A), some (.ref U), some (.ref L), y6, y7, y8, y9, some (.ref TR), some (.int (r : Int)), y12, y13, y14, y15, y16, some (.ref x), none] ∧ Od (Ts T1) t c0 (300 * i + 190) (upd G2 TR (.lst (rs'.map V.ref))) ∧ Ft K C (strip t (upd G2 TR (.lst (rs'.map V.ref)))) A U x L bs us ∧ LLs (strip t (upd G2 TR (.lst (rs'.map V.ref)))) TR bs' ∧ bs'.length ≤ 8 ∧ (∀ ns ∈ bs', ns.length ≤ 10) ∧ ¬ NarOk bs' (if r = 3 then us.dropLast else us) := fun {σ G2 rs' bs'} eσ e hl hrw s1 s2 hn => by
                have o2 := (o9.ex e).mono (show _ ≤ 300 * i + 190 by omega)
                refine ⟨bs', eσ, ⟨tabs_put o2.tabs (e _ _ hTR9), tub_put o2.tub TRt TRc⟩, ft.ex (sx_kept fun a o ha h => ?_), ⟨rs', strip_at upd_same TRt (fun ps z => nomatch z), hl, fun i a ns q1 q2 => ?_⟩, s1, s2, hn⟩
                · rw [upd_ne (fun z => by rw [z, nTR] at h; cases h)]
                  exact e _ _ (kG9 _ _ ha h)
                · obtain ⟨g1, g2, g3⟩ := hrw i a ns q1 q2
                  exact strip_at (by rw [upd_ne g3]; exact g1) g2 fun ps z => nomatch z
              have tst : ∀ (j : Nat) {G : Hp}, Evl.EvT (tTest (tOp L2.rEq (tVar 11) (tC (.int (j : Int))))) [some (.ref a0), some (.ref t), some (.int (0 + (i : Int))), some (.ref A), some (.ref U), some (.ref L), y6, y7, y8, y9, some (.ref TR), some (.int (r : Int)), y12, y13, y14, y15, y16, some (.ref x), none] G (decide (r = j)) := fun j G => Evl.et_is (Evl.et_test (Evl.ev_op (Evl.ev_var rfl) Evl.ev_c (Evl.rv_eq rfl))) (decide_eq_decide.mpr ⟨fun z => by have := V.int.inj z; omega, fun z => by rw [z]⟩)
              obtain ⟨b0, bt, hbs⟩ : ∃ b0 bt, bs = b0 :: bt := by
                have := wd.pos
                cases bs with
                | nil => exact absurd this (by decide)
                | cons b0 bt => exact ⟨b0, bt, rfl⟩
              obtain ⟨r0, rt, hrs⟩ : ∃ r0 rt, rs = r0 :: rt := by
                cases rs with
                | nil => rw [hbs] at hrl; cases hrl
                | cons r0 rt => exact ⟨r0, rt, rfl⟩
              have hb0 : b0 ∈ bs := by rw [hbs]; exact List.mem_cons_self
              refine Evl.s_if (tst 0) (fun hc G1 e1 => ?_) fun hc0 G1 e1 => Evl.s_if (tst 1) (fun hc G2 e2 => ?_) fun hc1 G2 e2 => Evl.s_if (tst 2) (fun hc G3 e3 => ?_) fun hc2 G3 e3 => ?_
              · have hr0 := of_decide_eq_true hc
                obtain ⟨g1, g2, g3⟩ := rows9 0 r0 b0 (by rw [hrs]; rfl) (by rw [hbs]; rfl)
                have bl := (w4 b0 hb0).2
                refine asgt_go (Go.op_go ((Evl.ev_op (x := .ref TR) (y := .int ((0 : Nat) : Int)) (Evl.ev_var rfl) Evl.ev_c (Evl.rv_ixL (K := K) (v := .ref r0) (Evl.sq_of (e1 _ _ hTR9)) (atI_nat (by rw [hrs]; rfl)))) G1 (Evl.Ex.refl _) _ fun G2 e2 => ⟨r0, _, rfl, Evl.sq_of (e2 _ _ (e1 _ _ g1)), fun p np => Go.lst_go (Go.cons_c (nil_goJ ⟨by show 1 ≤ sizeLine; decide, fun l nl => ⟨p, l, _, [.int 0], rfl, rfl, Evl.Ex.new nl _ _ upd_same, upd_same, by rw [sizeLine_eq, List.length_reverse, List.length_map]; show _ + 1 ≤ _; omega, fun N nN => ⟨.ref TR, rfl, TR, rs.map V.ref, 0, 0, rfl, rfl, ?_, ?_, ?_⟩⟩⟩))⟩))
                · have e3 := ((Evl.Ex.new (o := .lst (b0.map V.int).reverse) np).trans (Evl.Ex.new (o := .lst [V.int 0]) nl)).trans (Evl.Ex.new (o := .lst ((b0.map V.int).reverse ++ [.int 0])) nN)
                  exact e3 _ _ (e2 _ _ (e1 _ _ hTR9))
                · rw [hrs]
                  simp [ixN]
                · have e3 := ((Evl.Ex.new (o := .lst (b0.map V.int).reverse) np).trans (Evl.Ex.new (o := .lst [V.int 0]) nl)).trans (Evl.Ex.new (o := .lst ((b0.map V.int).reverse ++ [.int 0])) nN)
                  have e09 := (e1.trans e2).trans e3
                  have nN9 : H9 N = none := Evl.fresh_back ((e1.trans e2).trans ((Evl.Ex.new (o := .lst (b0.map V.int).reverse) np).trans (Evl.Ex.new (o := .lst [V.int 0]) nl))) nN
                  have eset : (rs.map V.ref).set 0 (.ref N) = (N :: rt).map V.ref := by rw [hrs]; rfl
                  rw [eset]
                  refine st0 (bs' := (b0.reverse ++ [0]) :: bt) rfl e09 (by rw [List.length_cons, List.length_cons]; rw [hrs, hbs] at hrl; simpa using hrl) (fun i a ns q1 q2 => ?_) (by rw [hbs] at n7; rw [List.length_cons] at n7 ⊢; omega) (fun ns hn => ?_) (tb0 (fun y hy => (wd.rng b0 hb0 y hy).1) bl.1)
                  · cases i with
                    | zero =>
                      cases q1
                      cases q2
                      refine ⟨?_, (o9.tub.ne nN9).1, fun z => by rw [z, hTR9] at nN9; cases nN9⟩
                      rw [upd_same, List.map_append, List.map_reverse]
                      rfl
                    | succ i =>
                      obtain ⟨g1, g2, g3⟩ := rows9 (i + 1) a ns (by rw [hrs]; exact q1) (by rw [hbs]; exact q2)
                      exact ⟨e09 _ _ g1, g2, g3⟩
                  · rcases List.mem_cons.mp hn with rfl | hn
                    · rw [List.length_append, List.length_reverse]
                      show _ + 1 ≤ 10
                      omega
                    · exact r10 ns (by rw [hbs]; exact List.mem_cons_of_mem _ hn)
              · have e02 := e1.trans e2
                refine Evl.s_appL (ys := []) (e02 _ _ hTR9) (Evl.ev_var rfl) (Evl.el_lst Evl.ea_nil (Nat.zero_le _)) (by rw [List.length_map]; omega) fun N G3 nN e3 hN => ?_
                have e03 := e02.trans e3
                have nN9 : H9 N = none := Evl.fresh_back e02 nN
                have eapp : rs.map V.ref ++ [.ref N] = (rs ++ [N]).map V.ref := by rw [List.map_append]; rfl
                rw [eapp]
                refine st0 (bs' := bs ++ [[]]) rfl e03 (by rw [List.length_append, List.length_append, hrl]; rfl) (fun i a ns q1 q2 => ?_) (by rw [List.length_append]; show _ + 1 ≤ 8; omega) (fun ns hn => ?_) tb1
                · rcases Nat.lt_or_ge i rs.length with hi | hi
                  · rw [List.getElem?_append_left hi] at q1
                    rw [List.getElem?_append_left (by omega)] at q2
                    obtain ⟨g1, g2, g3⟩ := rows9 i a ns q1 q2
                    exact ⟨e03 _ _ g1, g2, g3⟩
                  · rw [List.getElem?_append_right hi] at q1
                    rw [List.getElem?_append_right (by omega)] at q2
                    have hz := (List.getElem?_eq_some_iff.mp q1).1
                    rw [List.length_singleton] at hz
                    rw [show i - rs.length = 0 by omega] at q1
                    rw [show i - bs.length = 0 by omega] at q2
                    cases q1
                    cases q2
                    exact ⟨hN, (o9.tub.ne nN9).1, fun z => by rw [z, hTR9] at nN9; cases nN9⟩
                · rcases List.mem_append.mp hn with hn | hn
                  · exact r10 ns hn
                  · rw [List.mem_singleton.mp hn]; exact Nat.zero_le _
              · have hr2 := of_decide_eq_true hc
                have neg1 : ∀ {σ : L2.St} {G : Hp}, Evl.Ev (tUn (rU fun i => .int (-i)) (tC (.int 1))) σ G (.int (-1)) := Evl.ev_un Evl.ev_c Evl.ru_neg
                obtain ⟨rd, rz, hrd⟩ : ∃ rd rz, rs = rd ++ [rz] := ⟨rs.dropLast, rs.getLast (by rw [hrs]; exact fun z => nomatch z), (List.dropLast_concat_getLast _).symm⟩
                obtain ⟨bd, bz, hbd⟩ : ∃ bd bz, bs = bd ++ [bz] := ⟨bs.dropLast, bs.getLast (by rw [hbs]; exact fun z => nomatch z), (List.dropLast_concat_getLast _).symm⟩
                have hdl : rd.length = bd.length := by rw [hrd, hbd, List.length_append, List.length_append] at hrl; simpa using hrl
                have e03 := (e1.trans e2).trans e3
                refine asgt_go (Go.lst_go (Go.cons_c (Go.cons_c (Go.cons_c (Go.cons_c (Go.cons_c (nil_goJ ⟨by show 5 ≤ sizeLine; decide, fun N nN => ⟨.ref TR, rfl, neg1 _ (Evl.Ex.refl _) _ fun G4 e4 => ⟨TR, rs.map V.ref, -1, rs.length - 1, rfl, rfl, ?_, ?_, ?_⟩⟩⟩)))))))
                · exact e4 _ _ (Evl.Ex.new nN _ _ (e03 _ _ hTR9))
                · unfold ixN
                  have hl : 1 ≤ rs.length := by rw [hrs]; simp
                  rw [if_neg (by decide), if_pos (by rw [List.length_map]; omega), List.length_map]
                  congr 1
                  omega
                · have eN := Evl.Ex.new (o := .lst [V.int 10, .int 11, .int 12, .int 13, .int 14]) nN
                  have e04 := (e03.trans eN).trans e4
                  have nN9 : H9 N = none := Evl.fresh_back e03 nN
                  have eset : (rs.map V.ref).set (rs.length - 1) (.ref N) = (rd ++ [N]).map V.ref := by
                    rw [hrd, List.length_append, List.map_append, List.map_append, List.set_append_right _ _ (by rw [List.length_map]; simp)]
                    simp
                  rw [eset]
                  refine st0 (bs' := bd ++ [[10, 11, 12, 13, 14]]) rfl e04 (by rw [List.length_append, List.length_append, hdl]; rfl) (fun i a ns q1 q2 => ?_) (by have h8 := n7; rw [hbd, List.length_append] at h8; rw [List.length_append]; show _ + 1 ≤ 8; omega) (fun ns hn => ?_) tb2
                  · rcases Nat.lt_or_ge i rd.length with hi | hi
                    · rw [List.getElem?_append_left hi] at q1
                      rw [List.getElem?_append_left (by omega)] at q2
                      obtain ⟨g1, g2, g3⟩ := rows9 i a ns (by rw [hrd, List.getElem?_append_left hi]; exact q1) (by rw [hbd, List.getElem?_append_left (by omega)]; exact q2)
                      exact ⟨e04 _ _ g1, g2, g3⟩
                    · rw [List.getElem?_append_right hi] at q1
                      rw [List.getElem?_append_right (by omega)] at q2
                      have hz := (List.getElem?_eq_some_iff.mp q1).1
                      rw [List.length_singleton] at hz
                      rw [show i - rd.length = 0 by omega] at q1
                      rw [show i - bd.length = 0 by omega] at q2
                      cases q1
                      cases q2
                      exact ⟨e4 _ _ upd_same, (o9.tub.ne nN9).1, fun z => by rw [z, hTR9] at nN9; cases nN9⟩
                  · rcases List.mem_append.mp hn with hn | hn
                    · exact r10 ns (by rw [hbd]; exact List.mem_append_left _ hn)
                    · rw [List.mem_singleton.mp hn]; show 5 ≤ 10; decide
              · have h0 := of_decide_eq_false hc0
                have h1 := of_decide_eq_false hc1
                have h2 := of_decide_eq_false hc2
                have hr3 : r = 3 := by omega
                have e03 := (e1.trans e2).trans e3
                refine ⟨bs, rfl, (o9.ex e03).mono (by omega), ft.ex (sx_kept (kG9.trans (kept_ex e03))), ⟨rs, strip_at (e03 _ _ hTR9) TRt (fun ps z => nomatch z), hrl, fun i a ns q1 q2 => ?_⟩, by omega, r10, by rw [if_pos hr3]; exact tb3 ul (by have := wd.pos; omega)⟩
                obtain ⟨g1, g2, g3⟩ := rows9 i a ns q1 q2
                exact strip_at (e03 _ _ g1) g2 fun ps z => nomatch z
            · obtain ⟨bs', rfl, o, ft, hT, s1, s2, hnn⟩ := p
              clear rows9 hTR9 kG9 o9 nTR TRt TRc hrl
              have e0 : Evl.Ex (strip t G) G := strip_ex
              -- wrong
              have hUd : Dp K (strip t G) (.ref U) (dLU us) := .lst (Evl.sq_of ft.hU) (dpa_us us)
              have third : EvSd K t (tIf (tTest (tOp L2.rEq (tVar 11) (tC (.int 3)))) (tSl (rSlL K) (tVar 4) tNoPart (tPart (tUn (rU fun i => .int (-i)) (tC (.int 1))))) (tVar 4)) [some (.ref a0), some (.ref t), some (.int (0 + (i : Int))), some (.ref A), some (.ref U), some (.ref L), y6, y7, y8, y9, some (.ref TR), some (.int (r : Int)), y12, y13, y14, y15, y16, some (.ref x), none] G (dLU (if r = 3 then us.dropLast else us)) := by
                intro H1 e Q1 q1
                have tst : Evl.EvT (tTest (tOp L2.rEq (tVar 11) (tC (.int 3)))) [some (.ref a0), some (.ref t), some (.int (0 + (i : Int))), some (.ref A), some (.ref U), some (.ref L), y6, y7, y8, y9, some (.ref TR), some (.int (r : Int)), y12, y13, y14, y15, y16, some (.ref x), none] H1 (decide (r = 3)) := Evl.et_is (Evl.et_test (Evl.ev_op (Evl.ev_var rfl) Evl.ev_c (Evl.rv_eq rfl))) (decide_eq_decide.mpr ⟨fun z => by have := V.int.inj z; omega, fun z => by rw [z]; rfl⟩)
                refine tst H1 (Evl.Ex.refl _) _ fun H2 e2 => if_go (fun hc => ?_) fun hc => ?_
                · have hr3 := of_decide_eq_true hc
                  rw [if_pos hr3] at q1
                  have hs := Evl.el_sl (K := K) (lo := none) (hi := some (-1)) (te := tVar 4) (σ := [some (.ref a0), some (.ref t), some (.int (0 + (i : Int))), some (.ref A), some (.ref U), some (.ref L), y6, y7, y8, y9, some (.ref TR), some (.int (r : Int)), y12, y13, y14, y15, y16, some (.ref x), none]) (H := H2) (th := tPart (tUn (rU fun i => .int (-i)) (tC (.int 1)))) (Evl.ev_var rfl) Evl.eo_none (Evl.eo_some (Evl.ev_un Evl.ev_c Evl.ru_neg)) (Evl.sq_of ((e.trans e2) _ _ (e0 _ _ ft.hU)))
                  rw [cutM1, ← List.map_dropLast] at hs
                  exact hs H2 (Evl.Ex.refl _) _ fun p H3 hp e3 hp3 => q1 _ H3 (e2.trans e3) (.lst (Evl.sq_of (strip_at hp3 (((o.tub.ex e).ex e2).ne hp).1 fun ps z => nomatch z)) (dpa_us _))
                · rw [if_neg (of_decide_eq_false hc)] at q1
                  exact ⟨.ref U, rfl, q1 _ H2 e2 (dp_ex (sx_ex (e.trans e2)) hUd)⟩
              have u300 : (if r = 3 then us.dropLast else us).length ≤ 300 := by
                split
                · rw [List.length_dropLast]; omega
                · omega
              have fnil : Fixable 2 (.list []) := .inr ⟨[], .inl rfl, Nat.zero_le _, fun e he => nomatch he⟩
              have bgs : ∀ {bs : List (List Int)} {us : List (Option Nat)}, bs.length ≤ 300 → us.length ≤ 300 → (∀ ns ∈ bs, ns.length ≤ 10) → ∀ H' vb vu, Dp K H' vb (fixD (dL bs)) → Dp K H' vu (fixD (dLU us)) → BgD K H' vb vu (some (bs, us)) := fun h1 h2 h3 H' vb vu d1 d2 => bgd_of (by rw [← fix_dL]; exact d1) (by rw [← fix_dLU]; exact d2) h1 h2 h3
              refine Go.asg_go (es_seats (K := K) (C := C) (CP := CP) (r := some (bs', if r = 3 then us.dropLast else us)) o.tub (sd_cons (sd_lst o.tub sd_nil (by decide)) (sd_cons (sd_v (Evl.ev_var rfl) hT.dp) (sd_cons third sd_nil))) fnil (fxb_dL (by omega) s2) (fxb_dLU u300) (bgs (by omega) u300 s2) (nar_not hnn) G (Evl.Ex.refl _) _ fun vw H10 e10 hw => ?_)
              try dsimp only [List.set_cons_zero, List.set_cons_succ]
              have o10 := o.ex e10
              have ft10 := ft.ex (sx_ex (t := t) e10)
              clear third hUd hT o ft e0 s1 s2 hnn u300
              -- rings
              have fx : ∀ {bs : List (List Int)} {us : List (Option Nat)}, (bs.all fun ns => decide (ns.length ≤ 10)) = true → ∀ ns ∈ bs, ns.length ≤ 10 := fun h ns hn => of_decide_eq_true (List.all_eq_true.mp h ns hn)
              have i0 : ∀ {σ : L2.St} {G : Hp} {i : Int}, EvSd K t (tC (.int i)) σ G (.int i) := sd_int
              refine Go.asg_go (go_pickS (R := Nv K C CP) Nv.mono (i := 1) (c := c0) rfl o10.tub (by omega)
                (es_cons Nv.mono (es_seats (ds := .list []) (db := dL [[0], [1], [0]]) (du := dLU [none, some 0, some 1]) (r := some ([[0], [1], [0]], [none, some 0, some 1])) o10.tub (sd_cons (sd_lst o10.tub sd_nil (by decide)) (sd_cons (sd_lst o10.tub (sd_cons (sd_lst o10.tub (sd_cons sd_int sd_nil) (by decide)) (sd_cons (sd_lst o10.tub (sd_cons sd_int sd_nil) (by decide)) (sd_cons (sd_lst o10.tub (sd_cons sd_int sd_nil) (by decide)) sd_nil))) (by decide)) (sd_cons (sd_lst o10.tub (sd_cons sd_non (sd_cons sd_int (sd_cons sd_int sd_nil))) (by decide)) sd_nil))) fnil (fxb_dL (by decide) (fx (us := []) rfl)) (fxb_dLU (by decide)) (bgs (by decide) (by decide) (fx (us := []) rfl)) (nar_not nn1))
                (es_cons Nv.mono (es_seats (ds := .list []) (db := dL [[0], [0]]) (du := dLU [some 1, some 0]) (r := some ([[0], [0]], [some 1, some 0])) o10.tub (sd_cons (sd_lst o10.tub sd_nil (by decide)) (sd_cons (sd_lst o10.tub (sd_cons (sd_lst o10.tub (sd_cons sd_int sd_nil) (by decide)) (sd_cons (sd_lst o10.tub (sd_cons sd_int sd_nil) (by decide)) sd_nil)) (by decide)) (sd_cons (sd_lst o10.tub (sd_cons sd_int (sd_cons sd_int sd_nil)) (by decide)) sd_nil))) fnil (fxb_dL (by decide) (fx (us := []) rfl)) (fxb_dLU (by decide)) (bgs (by decide) (by decide) (fx (us := []) rfl)) (nar_not nn2))
                (es_cons Nv.mono (es_seats (ds := .list []) (db := dL [[0], [0, 1], [1]]) (du := dLU [none, some 2, some 1]) (r := some ([[0], [0, 1], [1]], [none, some 2, some 1])) o10.tub (sd_cons (sd_lst o10.tub sd_nil (by decide)) (sd_cons (sd_lst o10.tub (sd_cons (sd_lst o10.tub (sd_cons sd_int sd_nil) (by decide)) (sd_cons (sd_lst o10.tub (sd_cons sd_int (sd_cons sd_int sd_nil)) (by decide)) (sd_cons (sd_lst o10.tub (sd_cons sd_int sd_nil) (by decide)) sd_nil))) (by decide)) (sd_cons (sd_lst o10.tub (sd_cons sd_non (sd_cons sd_int (sd_cons sd_int sd_nil))) (by decide)) sd_nil))) fnil (fxb_dL (by decide) (fx (us := []) rfl)) (fxb_dLU (by decide)) (bgs (by decide) (by decide) (fx (us := []) rfl)) (nar_not nn3))
                (es_cons Nv.mono (es_seats (ds := .list []) (db := dL [[0]]) (du := dLU [some 0]) (r := some ([[0]], [some 0])) o10.tub (sd_cons (sd_lst o10.tub sd_nil (by decide)) (sd_cons (sd_lst o10.tub (sd_cons (sd_lst o10.tub (sd_cons sd_int sd_nil) (by decide)) sd_nil) (by decide)) (sd_cons (sd_lst o10.tub (sd_cons sd_int sd_nil) (by decide)) sd_nil))) fnil (fxb_dL (by decide) (fx (us := []) rfl)) (fxb_dLU (by decide)) (bgs (by decide) (by decide) (fx (us := []) rfl)) (nar_not nn4)) es_nil)))) (by decide) (by decide) fun vr H11 k11 T11 hring => ?_)
              try dsimp only [List.set_cons_zero, List.set_cons_succ]
              have o11 := o10.kept k11 T11
              have ft11 := ft10.ex (sx_kept k11)
              have hw11 := Nv.mono _ _ _ ((sx_ex (t := t) (Evl.Ex.refl H10)).trans (sx_kept k11)) hw
              clear ft10 o10 hw k11 T11 e10
              -- none
              have hBd := ft11.hB.dp (K := K)
              have hUd : Dp K (strip t H11) (.ref U) (dLU us) := .lst (Evl.sq_of ft11.hU) (dpa_us us)
              have fB3 : Fixable 2 (dL bs) := fxb_dL (by omega) r10
              have fU3 : Fixable 2 (dLU us) := fxb_dLU (by omega)
              have bagsN : ∀ S, Evl.Ex (strip t H11) S → Nv K C CP (.ref A) S := fun S e => by
                obtain ⟨as, g1, _⟩ := ft11.hB
                exact ⟨none, .no (.lst (Evl.sq_of (e _ _ g1))), nar_non⟩
              refine Go.asg_go (go_pickS (R := Nv K C CP) Nv.mono (i := 1) (c := c0) rfl o11.tub (by omega)
                (es_cons Nv.mono (es_c Evl.ev_c fun S _ => ⟨none, .no .non, nar_non⟩)
                (es_cons Nv.mono (es_c (Evl.ev_var rfl) fun S e => Nv.mono _ _ _ e hw11)
                (es_cons Nv.mono (es_c (Evl.ev_var rfl) fun S e => Nv.mono _ _ _ e hring)
                (es_cons Nv.mono (es_paper (ds := [.tuple [], dL bs, dLU us]) TP o11.tub (sd_cons (fun H1 e Q q => Evl.ev_c H1 e Q fun H2 e2 => q _ H2 e2 (.str _)) (sd_cons (sd_tup o11.tub sd_nil (by decide)) (sd_cons (sd_v (Evl.ev_var rfl) hBd) (sd_cons (sd_v (Evl.ev_var rfl) hUd) sd_nil)))) (.inr ⟨_, .inr rfl, by show 3 ≤ 4000; decide, fun e he => by
                    simp only [List.mem_cons, List.not_mem_nil, or_false] at he
                    rcases he with rfl | rfl | rfl
                    · exact .inr ⟨[], .inr rfl, Nat.zero_le _, fun e he => nomatch he⟩
                    · exact fB3
                    · exact fU3⟩))
                (es_cons Nv.mono (es_seats (ds := .list []) (db := dL []) (du := dLU []) (r := some ([], [])) o11.tub (sd_cons (sd_lst o11.tub sd_nil (by decide)) (sd_cons (sd_lst o11.tub sd_nil (by decide)) (sd_cons (sd_lst o11.tub sd_nil (by decide)) sd_nil))) fnil fnil fnil (bgs (by decide) (by decide) (fun ns h => nomatch h)) (nar_not nn5))
                (es_cons Nv.mono (es_seats (ds := .list []) (db := .none) (du := .none) (r := none) o11.tub (sd_cons (sd_lst o11.tub sd_nil (by decide)) (sd_cons sd_non (sd_cons sd_non sd_nil))) fnil (.inl rfl) (.inl rfl) (fun H' vb vu d1 d2 => bgd_no d1 d2) nar_non)
                (es_cons Nv.mono (es_c (Evl.ev_var rfl) fun S e => bagsN _ e) es_nil))))))) (by decide) (by decide) fun vn H12 k12 T12 hnone => ?_)
              try dsimp only [List.set_cons_zero, List.set_cons_succ]
              have o12 := o11.kept k12 T12
              have ft12 := ft11.ex (sx_kept k12)
              clear ft11 o11 hw11 hring k12 T12 hBd hUd bagsN
              -- odd
              refine Go.asg_go (go_pickS (R := NoSt K) NoSt.mono (i := 1) (c := c0) rfl o12.tub (by omega)
                (es_cons NoSt.mono (es_c Evl.ev_c fun S _ => no_flat .non (by decide) (by decide))
                (es_cons NoSt.mono (no_tup (xs := [.int 0, .int 0]) o12.tub (Evl.eu_tup (Evl.ea_cons Evl.ev_c (Evl.ea_cons Evl.ev_c Evl.ea_nil)) (by show 2 ≤ 100000; decide)) rfl rfl (by show 2 ≤ 100; decide))
                (es_cons NoSt.mono (no_tup (xs := [.int 0, .int 0, .int 3]) o12.tub (Evl.eu_tup (Evl.ea_cons Evl.ev_c (Evl.ea_cons Evl.ev_c (Evl.ea_cons Evl.ev_c Evl.ea_nil))) (by show 3 ≤ 100000; decide)) rfl rfl (by show 3 ≤ 100; decide))
                (es_cons NoSt.mono (no_tup (xs := [.int 0, .int (-1), .int 0]) o12.tub (Evl.eu_tup (Evl.ea_cons Evl.ev_c (Evl.ea_cons (Evl.ev_un Evl.ev_c Evl.ru_neg) (Evl.ea_cons Evl.ev_c Evl.ea_nil))) (by show 3 ≤ 100000; decide)) rfl rfl (by show 3 ≤ 100; decide))
                (es_cons NoSt.mono (no_tup (xs := [.int 0, .int 0, .bl true]) o12.tub (Evl.eu_tup (Evl.ea_cons Evl.ev_c (Evl.ea_cons Evl.ev_c (Evl.ea_cons Evl.ev_c Evl.ea_nil))) (by show 3 ≤ 100000; decide)) rfl rfl (by show 3 ≤ 100; decide))
                (es_cons NoSt.mono (es_c Evl.ev_c fun S _ => no_flat (.str _) (by decide) (by decide))
                (es_cons NoSt.mono (no_tup (xs := [.int 0, .int 0, .int 0, .int 0]) o12.tub (Evl.eu_tup (Evl.ea_cons Evl.ev_c (Evl.ea_cons Evl.ev_c (Evl.ea_cons Evl.ev_c (Evl.ea_cons Evl.ev_c Evl.ea_nil)))) (by show 4 ≤ 100000; decide)) rfl rfl (by show 4 ≤ 100; decide))
                (es_cons NoSt.mono (no_lst (xs := [.int 0, .int 0, .non]) o12.tub (Evl.el_lst (Evl.ea_cons Evl.ev_c (Evl.ea_cons Evl.ev_c (Evl.ea_cons Evl.ev_c Evl.ea_nil))) (by show 3 ≤ 100000; decide)) rfl rfl (by show 3 ≤ 100; decide))
                (es_cons NoSt.mono (es_c Evl.ev_c fun S _ => no_flat (.int _) (by decide) (by decide)) es_nil))))))))) (by decide) (by decide) fun vo H13 k13 T13 hodd => ?_)
              try dsimp only [List.set_cons_zero, List.set_cons_succ]
              have o13 := o12.kept k13 T13
              have ft13 := ft12.ex (sx_kept k13)
              have hn13 := Nv.mono _ _ _ (sx_kept k13) hnone
              clear ft12 o12 hnone k13 T13
              obtain ⟨psT, hT2⟩ := o13.tb hTm
              have eB : Evl.Ex (strip t H13) (strip T1 H13) := fun a o h => strip_tb (t := T1) hT2 (strip_le h).2.1 (strip_le h).2.2
              have LV := o13.live (T1 := T1)
              obtain ⟨rn, sn, hnn⟩ := Nv.mono _ _ _ eB hn13
              obtain ⟨oo, so, hno⟩ := NoSt.mono _ _ _ eB hodd
              have sx := (ft13.sev (CP := CP)).ex eB
              have bk0 : Evl.Ex (strip t H13) (strip T1 H13) := eB
              have TB13 := tub_strip hT2 o13.tub
              generalize strip T1 H13 = B at LV sn so sx bk0 TB13
              refine Go.asg_go (Go.lst_go ?_)
              refine lam_raise (fs := [(("part" : Str), .str "value")]) (vs := [.str "paper", .str "value"]) LV E2.xL (fun G1 E Q' ex k => ⟨vn, rfl, vo, rfl, vo, rfl, vn, vo, vo, rn, oo, oo, rfl, sn.ex ex, so.ex ex, so.ex ex, fun _ H2 d e2 hd => k H2 d e2 hd, fun bs us e n' => absurd ⟨bs, us, e, n'⟩ hnn⟩) (fun G a d σ' D' h1 h2 h3 h4 k => rd_L E2 G a d σ' D' h1 h2 h4 k) fun p1 H14 L14 h14 f14 => ?_
              have x1 := Evl.Ex.new (H := B) (o := .tup [.str "paper", .str "value"]) f14
              refine lam_raise (fs := [(("part" : Str), .str "one")]) (vs := [.str "seats", .str "one"]) L14 E2.xS (fun G1 E Q' ex k => ⟨.ref x, rfl, vo, rfl, .ref x, vo, .non, some (bs, us), oo, none, rfl, (sx.ex x1).ex ex, (so.ex x1).ex ex, .no .non (by decide) (by decide), fun z => absurd ⟨bs, us, rfl, nar⟩ z, fun bs' us' e' n' => by
                cases e'
                exact ⟨fun _ H2 d e2 hd => k H2 d e2 hd, fun z => absurd z hno, fun p l n p2 l2 n2 e1 _ h1 _ => absurd ⟨p, l, n, e1, h1⟩ hno⟩⟩) (fun G a d σ' D' h1 h2 h3 h4 k => rd_S E2 G a d σ' D' h1 h2 h4 k) fun p2 H15 L15 h15 f15 => ?_
              have x2 := x1.trans (Evl.Ex.new (o := .tup [.str "seats", .str "one"]) f15)
              refine lam_raise (fs := [(("part" : Str), .str "other")]) (vs := [.str "seats", .str "other"]) L15 E2.xS (fun G1 E Q' ex k => ⟨.ref x, rfl, Go.cons_any (Go.tup_go (Go.cons_c (Go.cons_c (Go.cons_c (nil_goJ ⟨by show 3 ≤ sizeLine; decide, fun O nO => ⟨vo, rfl, ?_⟩⟩)))))⟩) (fun G a d σ' D' h1 h2 h3 h4 k => rd_S E2 G a d σ' D' h1 h2 h4 k) fun p3 H16 L16 h16 f16 => ?_
              · have eN := Evl.Ex.new (o := .tup [V.int 0, .int 0, .int 0]) nO
                refine ⟨.ref x, .ref O, vo, some (bs, us), seatIs 0 0 0, oo, rfl, ((sx.ex x2).ex ex).ex eN, val3 (.inr (Evl.st_of upd_same)), ((so.ex x2).ex ex).ex eN, fun z => absurd ⟨bs, us, rfl, nar⟩ z, fun bs' us' e' n' => ?_⟩
                cases e'
                exact ⟨fun z => absurd ⟨0, 0, 0, rfl, by decide⟩ z, fun _ _ H2 d e2 hd => k H2 d (eN.trans e2) hd, fun p l n p2 l2 n2 _ e1 _ h1 => absurd ⟨p2, l2, n2, e1, h1⟩ hno⟩
              · have x3 := x2.trans (Evl.Ex.new (o := .tup [.str "seats", .str "other"]) f16)
                refine ⟨by show 3 ≤ sizeLine; decide, fun hd nd1 => ?_⟩
                try dsimp only [List.set_cons_zero, List.set_cons_succ]
                have eN := Evl.Ex.new (o := .lst [V.ref p1, .ref p2, .ref p3]) nd1
                have z3 := eN _ _ h16
                have z2 := eN _ _ (L16.ex _ _ (Evl.Ex.new (o := .tup [.str "seats", .str "other"]) f16 _ _ upd_same))
                have z1 := eN _ _ (L16.ex _ _ (Evl.Ex.new (o := .tup [.str "seats", .str "other"]) f16 _ _ (Evl.Ex.new (o := .tup [.str "seats", .str "one"]) f15 _ _ upd_same)))
                have eB17 : Evl.Ex B (upd H16 hd (.lst [.ref p1, .ref p2, .ref p3])) := x3.trans (L16.ex.trans eN)
                have tabs17 := L16.tabs.ext eN
                have zh : upd H16 hd (.lst [.ref p1, .ref p2, .ref p3]) hd = some (.lst [.ref p1, .ref p2, .ref p3]) := upd_same
                generalize upd H16 hd (.lst [.ref p1, .ref p2, .ref p3]) = H17 at z1 z2 z3 eB17 tabs17 zh ⊢
                refine Evl.s_when (b := false) (et_neSame (d := .list [.tuple [.str "paper", .str "value"], .tuple [.str "seats", .str "one"], .tuple [.str "seats", .str "other"]]) (ed_v (Evl.ev_var rfl) (.lst (Evl.sq_of zh) (.cons (.tup (Evl.st_of z1) (.cons (.str _) (.cons (.str _) .nil))) (.cons (.tup (Evl.st_of z2) (.cons (.str _) (.cons (.str _) .nil))) (.cons (.tup (Evl.st_of z3) (.cons (.str _) (.cons (.str _) .nil))) .nil))))) (ed_lst (ed_cons ed_two (ed_cons ed_two (ed_cons ed_two ed_nil))) (by show 3 ≤ 100000; decide)) (by decide +kernel) (by decide +kernel)) (fun z => nomatch z) fun _ H18 e18 => ?_
                exact ⟨⟨_, _, _, _, _, _, _, _, _, _, _, _, _, _, _, _, rfl⟩, ⟨tabs17.ext e18, ((TB13.ex eB17).ex e18).mono (by omega)⟩⟩
    · exact Evl.s_ret Evl.ev_c fun H2 e2 => q H2
end
end P38
end S_Nde
section S_Ndf
namespace P38
open PySem PySem.Spec PyProof.Rows L2 Tl Hk LamX EnL
set_option maxHeartbeats 4000000 in
theorem all_mk {l : PySem.W.OpenLaw} {w : World} {K : PySem.W.Frag} {h : Heap} {mg : Str → Option Value} {fa fIn fWi fLi fRo fFx fAb fTa fHt fNw fFt fFr fPi fIb fNe fSe fWs fMa fTu fSc fPk fBr fLn fLt fHe fLa cc TT CS CB fBI CL fLI CP CY fPI fYI gY hY : Addr} (X : K.In h) (G : h.Ns mainGlobals mg) (hfa : mg "law" = some (.ref fa))
    {odIn anIn : Option Addr} {slIn : Array (Option Value)} {ocIn kVIn dcIn pmIn cdIn ctIn : Value}
    (aIn : PySem.W.nsIn K mainGlobals "is_integer" = some (some (.ref fIn)))
    (lIn : K.lookup fIn = some ⟨ocIn, odIn, .func (PySem.W.fnOf "is_integer" "is_integer" (defArgs sInteger) (defBody sInteger) (defScope sInteger) .none kVIn dcIn pmIn anIn cdIn ctIn), slIn⟩)
    (cIn : PySem.W.codeIn K cdIn "is_integer" = true)
    (kIn : PySem.W.keepIn K (.ref fIn) = true)
    {odWi anWi : Option Addr} {slWi : Array (Option Value)} {ocWi kVWi dcWi pmWi cdWi ctWi : Value}
    (aWi : PySem.W.nsIn K mainGlobals "is_within" = some (some (.ref fWi)))
    (lWi : K.lookup fWi = some ⟨ocWi, odWi, .func (PySem.W.fnOf "is_within" "is_within" (defArgs sWithin) (defBody sWithin) (defScope sWithin) .none kVWi dcWi pmWi anWi cdWi ctWi), slWi⟩)
    (cWi : PySem.W.codeIn K cdWi "is_within" = true)
    (kWi : PySem.W.keepIn K (.ref fWi) = true)
    {odLi anLi : Option Addr} {slLi : Array (Option Value)} {ocLi kVLi dcLi pmLi cdLi ctLi : Value}
    (aLi : PySem.W.nsIn K mainGlobals "is_list" = some (some (.ref fLi)))
    (lLi : K.lookup fLi = some ⟨ocLi, odLi, .func (PySem.W.fnOf "is_list" "is_list" (defArgs sList) (defBody sList) (defScope sList) .none kVLi dcLi pmLi anLi cdLi ctLi), slLi⟩)
    (cLi : PySem.W.codeIn K cdLi "is_list" = true)
    (kLi : PySem.W.keepIn K (.ref fLi) = true)
    {odRo anRo : Option Addr} {slRo : Array (Option Value)} {ocRo kVRo dcRo pmRo cdRo ctRo : Value}
    (aRo : PySem.W.nsIn K mainGlobals "is_row" = some (some (.ref fRo)))
    (lRo : K.lookup fRo = some ⟨ocRo, odRo, .func (PySem.W.fnOf "is_row" "is_row" (defArgs sRow) (defBody sRow) (defScope sRow) .none kVRo dcRo pmRo anRo cdRo ctRo), slRo⟩)
    (cRo : PySem.W.codeIn K cdRo "is_row" = true)
    (kRo : PySem.W.keepIn K (.ref fRo) = true)
    {odFx anFx : Option Addr} {slFx : Array (Option Value)} {ocFx kVFx dcFx pmFx cdFx ctFx : Value}
    (aFx : PySem.W.nsIn K mainGlobals "fixed" = some (some (.ref fFx)))
    (lFx : K.lookup fFx = some ⟨ocFx, odFx, .func (PySem.W.fnOf "fixed" "fixed" (defArgs sFixed) (defBody sFixed) (defScope sFixed) .none kVFx dcFx pmFx anFx cdFx ctFx), slFx⟩)
    (cFx : PySem.W.codeIn K cdFx "fixed" = true)
    (kFx : PySem.W.keepIn K (.ref fFx) = true)
    {odAb anAb : Option Addr} {slAb : Array (Option Value)} {ocAb kVAb dcAb pmAb cdAb ctAb : Value}
    (aAb : PySem.W.nsIn K mainGlobals "are_bags" = some (some (.ref fAb)))
    (lAb : K.lookup fAb = some ⟨ocAb, odAb, .func (PySem.W.fnOf "are_bags" "are_bags" (defArgs sAreBags) (defBody sAreBags) (defScope sAreBags) .none kVAb dcAb pmAb anAb cdAb ctAb), slAb⟩)
    (cAb : PySem.W.codeIn K cdAb "are_bags" = true)
    (kAb : PySem.W.keepIn K (.ref fAb) = true)
    {odTa anTa : Option Addr} {slTa : Array (Option Value)} {ocTa kVTa dcTa pmTa cdTa ctTa : Value}
    (aTa : PySem.W.nsIn K mainGlobals "tells_above" = some (some (.ref fTa)))
    (lTa : K.lookup fTa = some ⟨ocTa, odTa, .func (PySem.W.fnOf "tells_above" "tells_above" (defArgs sTells) (defBody sTells) (defScope sTells) .none kVTa dcTa pmTa anTa cdTa ctTa), slTa⟩)
    (cTa : PySem.W.codeIn K cdTa "tells_above" = true)
    (kTa : PySem.W.keepIn K (.ref fTa) = true)
    {odHt anHt : Option Addr} {slHt : Array (Option Value)} {ocHt kVHt dcHt pmHt cdHt ctHt : Value}
    (aHt : PySem.W.nsIn K mainGlobals "hang_together" = some (some (.ref fHt)))
    (lHt : K.lookup fHt = some ⟨ocHt, odHt, .func (PySem.W.fnOf "hang_together" "hang_together" (defArgs sHang) (defBody sHang) (defScope sHang) .none kVHt dcHt pmHt anHt cdHt ctHt), slHt⟩)
    (cHt : PySem.W.codeIn K cdHt "hang_together" = true)
    (kHt : PySem.W.keepIn K (.ref fHt) = true)
    {odNw anNw : Option Addr} {slNw : Array (Option Value)} {ocNw kVNw dcNw pmNw cdNw ctNw : Value}
    (aNw : PySem.W.nsIn K mainGlobals "is_narrow_tree" = some (some (.ref fNw)))
    (lNw : K.lookup fNw = some ⟨ocNw, odNw, .func (PySem.W.fnOf "is_narrow_tree" "is_narrow_tree" (defArgs sNarrow) (defBody sNarrow) (defScope sNarrow) .none kVNw dcNw pmNw anNw cdNw ctNw), slNw⟩)
    (cNw : PySem.W.codeIn K cdNw "is_narrow_tree" = true)
    (kNw : PySem.W.keepIn K (.ref fNw) = true)
    {odFt anFt : Option Addr} {slFt : Array (Option Value)} {ocFt kVFt dcFt pmFt cdFt ctFt : Value}
    (aFt : PySem.W.nsIn K mainGlobals "from_top" = some (some (.ref fFt)))
    (lFt : K.lookup fFt = some ⟨ocFt, odFt, .func (PySem.W.fnOf "from_top" "from_top" (defArgs sFromTop) (defBody sFromTop) (defScope sFromTop) .none kVFt dcFt pmFt anFt cdFt ctFt), slFt⟩)
    (cFt : PySem.W.codeIn K cdFt "from_top" = true)
    (kFt : PySem.W.keepIn K (.ref fFt) = true)
    {odFr anFr : Option Addr} {slFr : Array (Option Value)} {ocFr kVFr dcFr pmFr cdFr ctFr : Value}
    (aFr : PySem.W.nsIn K mainGlobals "fresh_in" = some (some (.ref fFr)))
    (lFr : K.lookup fFr = some ⟨ocFr, odFr, .func (PySem.W.fnOf "fresh_in" "fresh_in" (defArgs sFresh) (defBody sFresh) (defScope sFresh) .none kVFr dcFr pmFr anFr cdFr ctFr), slFr⟩)
    (cFr : PySem.W.codeIn K cdFr "fresh_in" = true)
    (kFr : PySem.W.keepIn K (.ref fFr) = true)
    {odPi anPi : Option Addr} {slPi : Array (Option Value)} {ocPi kVPi dcPi pmPi cdPi ctPi : Value}
    (aPi : PySem.W.nsIn K mainGlobals "pairs_in" = some (some (.ref fPi)))
    (lPi : K.lookup fPi = some ⟨ocPi, odPi, .func (PySem.W.fnOf "pairs_in" "pairs_in" (defArgs sPairsIn) (defBody sPairsIn) (defScope sPairsIn) .none kVPi dcPi pmPi anPi cdPi ctPi), slPi⟩)
    (cPi : PySem.W.codeIn K cdPi "pairs_in" = true)
    (kPi : PySem.W.keepIn K (.ref fPi) = true)
    {odIb anIb : Option Addr} {slIb : Array (Option Value)} {ocIb kVIb dcIb pmIb cdIb ctIb : Value}
    (aIb : PySem.W.nsIn K mainGlobals "_is_bag" = some (some (.ref fIb)))
    (lIb : K.lookup fIb = some ⟨ocIb, odIb, .func (PySem.W.fnOf "_is_bag" "_is_bag" (defArgs sIsBag) (defBody sIsBag) (defScope sIsBag) .none kVIb dcIb pmIb anIb cdIb ctIb), slIb⟩)
    (cIb : PySem.W.codeIn K cdIb "_is_bag" = true)
    (kIb : PySem.W.keepIn K (.ref fIb) = true)
    {odNe anNe : Option Addr} {slNe : Array (Option Value)} {ocNe kVNe dcNe pmNe cdNe ctNe : Value}
    (aNe : PySem.W.nsIn K mainGlobals "are_near" = some (some (.ref fNe)))
    (lNe : K.lookup fNe = some ⟨ocNe, odNe, .func (PySem.W.fnOf "are_near" "are_near" (defArgs sAreNear) (defBody sAreNear) (defScope sAreNear) .none kVNe dcNe pmNe anNe cdNe ctNe), slNe⟩)
    (cNe : PySem.W.codeIn K cdNe "are_near" = true)
    (kNe : PySem.W.keepIn K (.ref fNe) = true)
    {odSe anSe : Option Addr} {slSe : Array (Option Value)} {ocSe kVSe dcSe pmSe cdSe ctSe : Value}
    (aSe : PySem.W.nsIn K mainGlobals "is_seat" = some (some (.ref fSe)))
    (lSe : K.lookup fSe = some ⟨ocSe, odSe, .func (PySem.W.fnOf "is_seat" "is_seat" (defArgs sIsSeat) (defBody sIsSeat) (defScope sIsSeat) .none kVSe dcSe pmSe anSe cdSe ctSe), slSe⟩)
    (cSe : PySem.W.codeIn K cdSe "is_seat" = true)
    (kSe : PySem.W.keepIn K (.ref fSe) = true)
    {odWs anWs : Option Addr} {slWs : Array (Option Value)} {ocWs kVWs dcWs pmWs cdWs ctWs : Value}
    (aWs : PySem.W.nsIn K mainGlobals "want_seat" = some (some (.ref fWs)))
    (lWs : K.lookup fWs = some ⟨ocWs, odWs, .func (PySem.W.fnOf "want_seat" "want_seat" (defArgs sWantSeat) (defBody sWantSeat) (defScope sWantSeat) .none kVWs dcWs pmWs anWs cdWs ctWs), slWs⟩)
    (cWs : PySem.W.codeIn K cdWs "want_seat" = true)
    (kWs : PySem.W.keepIn K (.ref fWs) = true)
    {odMa anMa : Option Addr} {slMa : Array (Option Value)} {ocMa kVMa dcMa pmMa cdMa ctMa : Value}
    (aMa : PySem.W.nsIn K mainGlobals "may_be_tied" = some (some (.ref fMa)))
    (lMa : K.lookup fMa = some ⟨ocMa, odMa, .func (PySem.W.fnOf "may_be_tied" "may_be_tied" (defArgs sMayTie) (defBody sMayTie) (defScope sMayTie) .none kVMa dcMa pmMa anMa cdMa ctMa), slMa⟩)
    (cMa : PySem.W.codeIn K cdMa "may_be_tied" = true)
    (kMa : PySem.W.keepIn K (.ref fMa) = true)
    {odTu anTu : Option Addr} {slTu : Array (Option Value)} {ocTu kVTu dcTu pmTu cdTu ctTu : Value}
    (aTu : PySem.W.nsIn K mainGlobals "_law_tub" = some (some (.ref fTu)))
    (lTu : K.lookup fTu = some ⟨ocTu, odTu, .func (PySem.W.fnOf "_law_tub" "_law_tub" (defArgs sTub) (defBody sTub) (defScope sTub) .none kVTu dcTu pmTu anTu cdTu ctTu), slTu⟩)
    (cTu : PySem.W.codeIn K cdTu "_law_tub" = true)
    (kTu : PySem.W.keepIn K (.ref fTu) = true)
    {odSc anSc : Option Addr} {slSc : Array (Option Value)} {ocSc kVSc dcSc pmSc cdSc ctSc : Value}
    (aSc : PySem.W.nsIn K mainGlobals "_law_scoop" = some (some (.ref fSc)))
    (lSc : K.lookup fSc = some ⟨ocSc, odSc, .func (PySem.W.fnOf "_law_scoop" "_law_scoop" (defArgs sScoop) (defBody sScoop) (defScope sScoop) .none kVSc dcSc pmSc anSc cdSc ctSc), slSc⟩)
    (cSc : PySem.W.codeIn K cdSc "_law_scoop" = true)
    (kSc : PySem.W.keepIn K (.ref fSc) = true)
    {odPk anPk : Option Addr} {slPk : Array (Option Value)} {ocPk kVPk dcPk pmPk cdPk ctPk : Value}
    (aPk : PySem.W.nsIn K mainGlobals "_law_pick" = some (some (.ref fPk)))
    (lPk : K.lookup fPk = some ⟨ocPk, odPk, .func (PySem.W.fnOf "_law_pick" "_law_pick" (defArgs sPick) (defBody sPick) (defScope sPick) .none kVPk dcPk pmPk anPk cdPk ctPk), slPk⟩)
    (cPk : PySem.W.codeIn K cdPk "_law_pick" = true)
    (kPk : PySem.W.keepIn K (.ref fPk) = true)
    {odBr anBr : Option Addr} {slBr : Array (Option Value)} {ocBr kVBr dcBr pmBr cdBr ctBr : Value}
    (aBr : PySem.W.nsIn K mainGlobals "_law_bags_right" = some (some (.ref fBr)))
    (lBr : K.lookup fBr = some ⟨ocBr, odBr, .func (PySem.W.fnOf "_law_bags_right" "_law_bags_right" (defArgs sBagsRight) (defBody sBagsRight) (defScope sBagsRight) .none kVBr dcBr pmBr anBr cdBr ctBr), slBr⟩)
    (cBr : PySem.W.codeIn K cdBr "_law_bags_right" = true)
    (kBr : PySem.W.keepIn K (.ref fBr) = true)
    {odLn anLn : Option Addr} {slLn : Array (Option Value)} {ocLn kVLn dcLn pmLn cdLn ctLn : Value}
    (aLn : PySem.W.nsIn K mainGlobals "_law_near" = some (some (.ref fLn)))
    (lLn : K.lookup fLn = some ⟨ocLn, odLn, .func (PySem.W.fnOf "_law_near" "_law_near" (defArgs sLNear) (defBody sLNear) (defScope sLNear) .none kVLn dcLn pmLn anLn cdLn ctLn), slLn⟩)
    (cLn : PySem.W.codeIn K cdLn "_law_near" = true)
    (kLn : PySem.W.keepIn K (.ref fLn) = true)
    {odLt anLt : Option Addr} {slLt : Array (Option Value)} {ocLt kVLt dcLt pmLt cdLt ctLt : Value}
    (aLt : PySem.W.nsIn K mainGlobals "_law_tree" = some (some (.ref fLt)))
    (lLt : K.lookup fLt = some ⟨ocLt, odLt, .func (PySem.W.fnOf "_law_tree" "_law_tree" (defArgs sLTree) (defBody sLTree) (defScope sLTree) .none kVLt dcLt pmLt anLt cdLt ctLt), slLt⟩)
    (cLt : PySem.W.codeIn K cdLt "_law_tree" = true)
    (kLt : PySem.W.keepIn K (.ref fLt) = true)
    {odHe anHe : Option Addr} {slHe : Array (Option Value)} {ocHe kVHe dcHe pmHe cdHe ctHe : Value}
    (aHe : PySem.W.nsIn K mainGlobals "_law_heard" = some (some (.ref fHe)))
    (lHe : K.lookup fHe = some ⟨ocHe, odHe, .func (PySem.W.fnOf "_law_heard" "_law_heard" (defArgs sLHeard) (defBody sLHeard) (defScope sLHeard) .none kVHe dcHe pmHe anHe cdHe ctHe), slHe⟩)
    (cHe : PySem.W.codeIn K cdHe "_law_heard" = true)
    (kHe : PySem.W.keepIn K (.ref fHe) = true)
    {odLa anLa : Option Addr} {slLa : Array (Option Value)} {ocLa kVLa dcLa pmLa cdLa ctLa : Value}
    (aLa : PySem.W.nsIn K mainGlobals "law" = some (some (.ref fLa)))
    (lLa : K.lookup fLa = some ⟨ocLa, odLa, .func (PySem.W.fnOf "law" "law" (defArgs sLaw) (defBody sLaw) (defScope sLaw) .none kVLa dcLa pmLa anLa cdLa ctLa), slLa⟩)
    (cLa : PySem.W.codeIn K cdLa "law" = true)
    (kLa : PySem.W.keepIn K (.ref fLa) = true)
    {eC : Value} {ddC : Option Addr} {vsC : Array Value} {slC : Array (Option Value)}
    (wc : cdLa = .ref cc)
    (wk : K.lookup cc = some ⟨eC, ddC, .fields vsC, slC⟩)
    (wv : vsC[11]? = some (.ref TT))
    (wn : K.lookup TT = none)
    (aCS : PySem.W.nsIn K mainGlobals "LaneError" = some (some (.ref CS)))
    (bCS : PySem.W.subIn K (.ref CS) (.type "BaseException") = some true)
    (dCS : PySem.W.hasDictIn K CS = true)
    (tCS : PySem.W.typeIn K (.ref CS) = some (.type "type"))
    {nmCB qCB : Str} {NCB : Addr} {bsCB : List Value} {bmCB : List Value} {snCB : List Str} {subCB : List Value} {abCB : Bool} {colCB : Option Bool} {ddCB : Option Addr} {m0CB m1CB m2CB m3CB m5CB : Option Value}
    (aCB : PySem.W.nsIn K mainGlobals "BadSeats" = some (some (.ref CB)))
    (xCB : K.lookup CB = some (excClassObj nmCB qCB CB NCB bsCB bmCB true snCB subCB abCB colCB ddCB m0CB m1CB m2CB m3CB m5CB "ValueError.__new__"))
    (vCB : PySem.HandSPX.refsVE bmCB = true)
    (saCB : PySem.W.findIn K (.ref CB) "__setattr__" = some (some (.builtin "object.__setattr__")))
    (gaCB : PySem.W.findIn K (.ref CB) "__getattribute__" = some (some (.builtin "BaseException.__getattribute__")))
    (ggCB : PySem.W.findIn K (.ref CB) "__getattr__" = some none)
    (noCB : PySem.W.findIn K (.ref CB) "part" = some none)
    (keCB : PySem.W.keepIn K (.ref CB) = true)
    (exCB : PySem.W.subIn K (.ref CB) (.type "BaseException") = some true)
    (tyCB : PySem.W.typeIn K (.ref CB) = some (.type "type"))
    (hdCB : PySem.W.hasDictIn K CB = true)
    (ciCB : PySem.W.isClsIn K CB = true)
    (haCB : PySem.W.findIn K (.ref CB) "__class__" = some (some (.builtin "object.__class__")))
    (hmCB : PySem.W.mroIn K CB (.type "object") = some true)
    (suCB : PySem.W.subIn K (.ref CB) (.ref CS) = some true)
    (kiCB : PySem.W.kitOne K (.ref CB) (.ref CB) = some true)
    {odfBI anfBI : Option Addr} {slfBI : Array (Option Value)} {ocfBI dcfBI pmfBI cdfBI ctfBI : Value}
    (afBI : PySem.W.findIn K (.ref CB) "__init__" = some (some (.ref fBI)))
    (tfBI : PySem.W.typeIn K (.ref fBI) = some (.type "function"))
    (lfBI : K.lookup fBI = some ⟨ocfBI, odfBI, .func (PySem.W.fnOf "__init__" "BadSeats.__init__" (defArgs (inClass sSeatsE 0)) (defBody (inClass sSeatsE 0)) (defScope (inClass sSeatsE 0)) .none .none dcfBI pmfBI anfBI cdfBI ctfBI), slfBI⟩)
    (cfBI : PySem.W.codeIn K cdfBI "BadSeats.__init__" = true)
    {nmCL qCL : Str} {NCL : Addr} {bsCL : List Value} {bmCL : List Value} {snCL : List Str} {subCL : List Value} {abCL : Bool} {colCL : Option Bool} {ddCL : Option Addr} {m0CL m1CL m2CL m3CL m5CL : Option Value}
    (aCL : PySem.W.nsIn K mainGlobals "BadPaper" = some (some (.ref CL)))
    (xCL : K.lookup CL = some (excClassObj nmCL qCL CL NCL bsCL bmCL true snCL subCL abCL colCL ddCL m0CL m1CL m2CL m3CL m5CL "ValueError.__new__"))
    (vCL : PySem.HandSPX.refsVE bmCL = true)
    (saCL : PySem.W.findIn K (.ref CL) "__setattr__" = some (some (.builtin "object.__setattr__")))
    (gaCL : PySem.W.findIn K (.ref CL) "__getattribute__" = some (some (.builtin "BaseException.__getattribute__")))
    (ggCL : PySem.W.findIn K (.ref CL) "__getattr__" = some none)
    (noCL : PySem.W.findIn K (.ref CL) "part" = some none)
    (keCL : PySem.W.keepIn K (.ref CL) = true)
    (exCL : PySem.W.subIn K (.ref CL) (.type "BaseException") = some true)
    (tyCL : PySem.W.typeIn K (.ref CL) = some (.type "type"))
    (hdCL : PySem.W.hasDictIn K CL = true)
    (ciCL : PySem.W.isClsIn K CL = true)
    (haCL : PySem.W.findIn K (.ref CL) "__class__" = some (some (.builtin "object.__class__")))
    (hmCL : PySem.W.mroIn K CL (.type "object") = some true)
    (suCL : PySem.W.subIn K (.ref CL) (.ref CS) = some true)
    (kiCL : PySem.W.kitOne K (.ref CL) (.ref CL) = some true)
    {odfLI anfLI : Option Addr} {slfLI : Array (Option Value)} {ocfLI dcfLI pmfLI cdfLI ctfLI : Value}
    (afLI : PySem.W.findIn K (.ref CL) "__init__" = some (some (.ref fLI)))
    (tfLI : PySem.W.typeIn K (.ref fLI) = some (.type "function"))
    (lfLI : K.lookup fLI = some ⟨ocfLI, odfLI, .func (PySem.W.fnOf "__init__" "BadPaper.__init__" (defArgs (inClass sPaperE 0)) (defBody (inClass sPaperE 0)) (defScope (inClass sPaperE 0)) .none .none dcfLI pmfLI anfLI cdfLI ctfLI), slfLI⟩)
    (cfLI : PySem.W.codeIn K cdfLI "BadPaper.__init__" = true)
    (hn : PySem.W.specialIn K (.builtin "object.__class__") "__get__" = some (some (.builtin "getset_descriptor.__get__")))
    (ht : PySem.W.takesIn K (.builtin "object.__class__") = some true)
    (aCP : PySem.W.nsIn K mainGlobals "Paper" = some (some (.ref CP)))
    (pgCP : PySem.W.plainGet K CP Str.empty = true)
    (hdCP : PySem.W.hasDictIn K CP = true)
    (poCP : PySem.W.plainOver K CP = true)
    (saCP : PySem.W.findIn K (.ref CP) "__setattr__" = some (some (.builtin "object.__setattr__")))
    (mkCP : PySem.W.makesIn K CP = true)
    (kcCP : PySem.W.keepIn K (.ref CP) = true)
    (haCP : PySem.W.findIn K (.ref CP) "__class__" = some (some (.builtin "object.__class__")))
    (hmCP : PySem.W.mroIn K CP (.type "object") = some true)
    (nCP_word : PySem.W.findIn K (.ref CP) "word" = some none)
    (nCP_parts : PySem.W.findIn K (.ref CP) "parts" = some none)
    (aCY : PySem.W.nsIn K mainGlobals "Seats" = some (some (.ref CY)))
    (pgCY : PySem.W.plainGet K CY Str.empty = true)
    (hdCY : PySem.W.hasDictIn K CY = true)
    (poCY : PySem.W.plainOver K CY = true)
    (saCY : PySem.W.findIn K (.ref CY) "__setattr__" = some (some (.builtin "object.__setattr__")))
    (mkCY : PySem.W.makesIn K CY = true)
    (kcCY : PySem.W.keepIn K (.ref CY) = true)
    (haCY : PySem.W.findIn K (.ref CY) "__class__" = some (some (.builtin "object.__class__")))
    (hmCY : PySem.W.mroIn K CY (.type "object") = some true)
    (nCY_word : PySem.W.findIn K (.ref CY) "word" = some none)
    (nCY_parts : PySem.W.findIn K (.ref CY) "parts" = some none)
    (nCY_seats : PySem.W.findIn K (.ref CY) "seats" = some none)
    (nCY_bags : PySem.W.findIn K (.ref CY) "bags" = some none)
    (nCY_above : PySem.W.findIn K (.ref CY) "above" = some none)
    (aiCP : PySem.W.findIn K (.ref CP) "__init__" = some (some (.ref fPI)))
    (iiCP : PySem.W.isFn K (.ref fPI) = true)
    (aiCY : PySem.W.findIn K (.ref CY) "__init__" = some (some (.ref fYI)))
    (iiCY : PySem.W.isFn K (.ref fYI) = true)
    {odPI anPI : Option Addr} {slPI : Array (Option Value)} {ocPI kVPI dcPI pmPI cdPI ctPI : Value}
    (lPI : K.lookup fPI = some ⟨ocPI, odPI, .func (PySem.W.fnOf "__init__" "Paper.__init__" (defArgs sPaperI) (defBody sPaperI) (defScope sPaperI) .none kVPI dcPI pmPI anPI cdPI ctPI), slPI⟩)
    (cPI : PySem.W.codeIn K cdPI "Paper.__init__" = true)
    {odYI anYI : Option Addr} {slYI : Array (Option Value)} {ocYI kVYI dcYI pmYI ctYI : Value}
    (lYI : K.lookup fYI = some ⟨ocYI, odYI, .func (PySem.W.ksFn "__init__" "Seats.__init__" (defArgs sSeatsI) (defBody sSeatsI) (defScope sSeatsI) .none kVYI dcYI pmYI anYI (.ref gY) ctYI hY), slYI⟩)
    (cYI : PySem.W.codeIn K (.ref gY) "Seats.__init__" = true)
    {u1YI : Value} {u2YI : Option Addr} {vsYI : Array Value} {u3YI : Array (Option Value)} {fileYI : Str} {tfYI : Tok} {u4YI : Value} {u5YI : Option Addr} {u6YI : Array (Option Value)} {cd_YI : _}
    (kvcYI : K.lookup gY = some ⟨u1YI, u2YI, .fields vsYI, u3YI⟩)
    (kvsYI : vsYI[2]? = some (.str fileYI tfYI))
    (kvfYI : ((l.prog.main.file : Str) == fileYI) = true)
    (kveYI : K.lookup hY = some ⟨u4YI, u5YI, .cell (some (.ref CY)), u6YI⟩)
    (kvdYI : PySem.W.clsIn K CY = some cd_YI)
    (kvo : PySem.W.nsIn K cStatics "thirdparty.any" = some none)
    (kvp : (l.prog.main.scope.names.lookup ("super" : Str)).isSome = false)
    (kvmYY : PySem.W.mroIn K CY (.ref CY) = some true)
    (kvaYY : PySem.W.ks_superIn K CY CY "__init__" = some (some (.ref fPI)))
    (kvtfPI : PySem.W.typeIn K (.ref fPI) = some (.type "function"))
    (kvifPI : PySem.W.fnIn K fPI = true)
    (qyy : PySem.W.kitOne K (.ref CY) (.ref CY) = some true)
    (qpy : PySem.W.kitOne K (.ref CP) (.ref CY) = some false)
    (qbl : PySem.W.kitOne K (.ref CB) (.ref CL) = some false)
    (qyNoneType : PySem.W.kitOne K (.type "NoneType") (.ref CY) = some false)
    (qybool : PySem.W.kitOne K (.type "bool") (.ref CY) = some false)
    (qyint : PySem.W.kitOne K (.type "int") (.ref CY) = some false)
    (qystr : PySem.W.kitOne K (.type "str") (.ref CY) = some false)
    (qylist : PySem.W.kitOne K (.type "list") (.ref CY) = some false)
    (qytuple : PySem.W.kitOne K (.type "tuple") (.ref CY) = some false)
    (qydict : PySem.W.kitOne K (.type "dict") (.ref CY) = some false)
    {tM1 tM2 : Tok}
    (zM1 : PySem.W.nsIn K mainGlobals "MOST_IN_BAG" = some (some (.int 4 tM1)))
    (zM2 : PySem.W.nsIn K mainGlobals "LANES" = some (some (.int 3 tM2)))
    (z_int : PySem.W.nsIn K mainGlobals "int" = some none)
    (z_bool : PySem.W.nsIn K mainGlobals "bool" = some none)
    (z_list : PySem.W.nsIn K mainGlobals "list" = some none)
    (z_tuple : PySem.W.nsIn K mainGlobals "tuple" = some none)
    (z_isinstance : PySem.W.nsIn K mainGlobals "isinstance" = some none)
    (z_all : PySem.W.nsIn K mainGlobals "all" = some none)
    (z_len : PySem.W.nsIn K mainGlobals "len" = some none)
    (z_abs : PySem.W.nsIn K mainGlobals "abs" = some none)
    (z_range : PySem.W.nsIn K mainGlobals "range" = some none)
    (z_min : PySem.W.nsIn K mainGlobals "min" = some none)
    (z_max : PySem.W.nsIn K mainGlobals "max" = some none)
    (z_zip : PySem.W.nsIn K mainGlobals "zip" = some none)
    (z_enumerate : PySem.W.nsIn K mainGlobals "enumerate" = some none)
    (z_set : PySem.W.nsIn K mainGlobals "set" = some none)
    (z_sorted : PySem.W.nsIn K mainGlobals "sorted" = some none)
    (z_repr : PySem.W.nsIn K mainGlobals "repr" = some none)
    (z_super : PySem.W.nsIn K mainGlobals "super" = some none)
    : ∃ (fd : FuncData) (T c : Addr) (o : Obj) (sp : Sp) (e : Value) (dd : Option Addr) (vs : Array Value) (sl : Array (Option Value)), K.lookup fa = some o ∧ o.data = .func fd ∧ fd.code = .ref c ∧ K.lookup c = some ⟨e, dd, .fields vs, sl⟩ ∧ vs[11]? = some (.ref T) ∧ K.lookup T = none ∧ (∀ (s : Shared) (u : Value), BindsTo s fd ⟨[u], []⟩ [("script", u)]) ∧
        (∀ (H : Hp) (a : Addr) (ns : List Int), ns.length ≤ 63 → H T = some (.tbl #[]) → SqL K H a (ns.map V.int) → sp [.ref a] H (fun v _ => v = .bl true) fun _ _ _ => False) ∧
        ∀ base : Heap, K.In base → base.Ns mainGlobals mg → TabB base mg c T → FnG l.prog w K mg base 14 fa fd ["script"] sp := by
  have e := hfa.symm.trans (PySem.W.mg_of X G aLa)
  cases e
  have FIn := fun_mk (st := sInteger) lIn cIn kIn
  have bIn := FIn.binds (ps := ["value"]) fun _ _ _ _ _ _ us hl => match us, hl with | [_], _ => rfl
  have FWi := fun_mk (st := sWithin) lWi cWi kWi
  have bWi := FWi.binds (ps := ["value", "least", "most"]) fun _ _ _ _ _ _ us hl => match us, hl with | [_, _, _], _ => rfl
  have FLi := fun_mk (st := sList) lLi cLi kLi
  have bLi := FLi.binds (ps := ["value"]) fun _ _ _ _ _ _ us hl => match us, hl with | [_], _ => rfl
  have FRo := fun_mk (st := sRow) lRo cRo kRo
  have bRo := FRo.binds (ps := ["value", "least", "most"]) fun _ _ _ _ _ _ us hl => match us, hl with | [_, _, _], _ => rfl
  have FFx := fun_mk (st := sFixed) lFx cFx kFx
  have bFx := FFx.binds (ps := ["value"]) fun _ _ _ _ _ _ us hl => match us, hl with | [_], _ => rfl
  have FAb := fun_mk (st := sAreBags) lAb cAb kAb
  have bAb := FAb.binds (ps := ["value", "least", "most"]) fun _ _ _ _ _ _ us hl => match us, hl with | [_, _, _], _ => rfl
  have FTa := fun_mk (st := sTells) lTa cTa kTa
  have bTa := FTa.binds (ps := ["value", "many"]) fun _ _ _ _ _ _ us hl => match us, hl with | [_, _], _ => rfl
  have FHt := fun_mk (st := sHang) lHt cHt kHt
  have bHt := FHt.binds (ps := ["bags", "above"]) fun _ _ _ _ _ _ us hl => match us, hl with | [_, _], _ => rfl
  have FNw := fun_mk (st := sNarrow) lNw cNw kNw
  have bNw := FNw.binds (ps := ["bags", "above"]) fun _ _ _ _ _ _ us hl => match us, hl with | [_, _], _ => rfl
  have FFt := fun_mk (st := sFromTop) lFt cFt kFt
  have bFt := FFt.binds (ps := ["above"]) fun _ _ _ _ _ _ us hl => match us, hl with | [_], _ => rfl
  have FFr := fun_mk (st := sFresh) lFr cFr kFr
  have bFr := FFr.binds (ps := ["bags", "above"]) fun _ _ _ _ _ _ us hl => match us, hl with | [_, _], _ => rfl
  have FPi := fun_mk (st := sPairsIn) lPi cPi kPi
  have bPi := FPi.binds (ps := ["bags", "above"]) fun _ _ _ _ _ _ us hl => match us, hl with | [_, _], _ => rfl
  have FIb := fun_mk (st := sIsBag) lIb cIb kIb
  have bIb := FIb.binds (ps := ["value", "least", "most"]) fun _ _ _ _ _ _ us hl => match us, hl with | [_, _, _], _ => rfl
  have FNe := fun_mk (st := sAreNear) lNe cNe kNe
  have bNe := FNe.binds (ps := ["value", "one", "other"]) fun _ _ _ _ _ _ us hl => match us, hl with | [_, _, _], _ => rfl
  have FSe := fun_mk (st := sIsSeat) lSe cSe kSe
  have bSe := FSe.binds (ps := ["value"]) fun _ _ _ _ _ _ us hl => match us, hl with | [_], _ => rfl
  have FWs := fun_mk (st := sWantSeat) lWs cWs kWs
  have bWs := FWs.binds (ps := ["value", "part"]) fun _ _ _ _ _ _ us hl => match us, hl with | [_, _], _ => rfl
  have FMa := fun_mk (st := sMayTie) lMa cMa kMa
  have bMa := FMa.binds (ps := ["pairs", "one", "other"]) fun _ _ _ _ _ _ us hl => match us, hl with | [_, _, _], _ => rfl
  have FTu := fun_mk (st := sTub) lTu cTu kTu
  have bTu := FTu.binds (ps := ["script"]) fun _ _ _ _ _ _ us hl => match us, hl with | [_], _ => rfl
  have FSc := fun_mk (st := sScoop) lSc cSc kSc
  have bSc := FSc.binds (ps := ["tub", "many"]) fun _ _ _ _ _ _ us hl => match us, hl with | [_, _], _ => rfl
  have FPk := fun_mk (st := sPick) lPk cPk kPk
  have bPk := FPk.binds (ps := ["tub", "some"]) fun _ _ _ _ _ _ us hl => match us, hl with | [_, _], _ => rfl
  have FBr := fun_mk (st := sBagsRight) lBr cBr kBr
  have bBr := FBr.binds (ps := ["bags", "above"]) fun _ _ _ _ _ _ us hl => match us, hl with | [_, _], _ => rfl
  have FLn := fun_mk (st := sLNear) lLn cLn kLn
  have bLn := FLn.binds (ps := ["bags", "one", "other"]) fun _ _ _ _ _ _ us hl => match us, hl with | [_, _, _], _ => rfl
  have FLt := fun_mk (st := sLTree) lLt cLt kLt
  have bLt := FLt.binds (ps := ["tub"]) fun _ _ _ _ _ _ us hl => match us, hl with | [_], _ => rfl
  have FHe := fun_mk (st := sLHeard) lHe cHe kHe
  have bHe := FHe.binds (ps := ["ask"]) fun _ _ _ _ _ _ us hl => match us, hl with | [_], _ => rfl
  have FLa := fun_mk (st := sLaw) lLa cLa kLa
  have bLa := FLa.binds (ps := ["script"]) fun _ _ _ _ _ _ us hl => match us, hl with | [_], _ => rfl
  have n : ∀ {x : Str}, PySem.W.nsIn K mainGlobals x = some none → mg x = none := fun h => PySem.W.mg_none_of X G h
  have g : ∀ {x : Str} {v : Value}, PySem.W.nsIn K mainGlobals x = some (some v) → mg x = some v := fun h => PySem.W.mg_of X G h
  have ECB : ErrC K CB := ⟨gaCB, ggCB, exCB, hdCB, ciCB, haCB, hn, ht, hmCB⟩
  have PCB : PySem.PartX.PartTxt K mg "BadSeats" "BadSeats.__init__" CB fBI := { gC := g aCB, cls := ⟨_, _, _, _, _, _, _, _, _, _, _, _, _, _, _, xCB, vCB⟩, sa := saCB, ga := gaCB, gg := ggCB, noN := noCB, iC := afBI, tC := tfBI, kC := keCB, exC := exCB, tyC := tyCB, hdC := hdCB, fn := ⟨_, _, _, _, _, _, _, _, _, _, _, _, _, _, lfBI, cfBI⟩ }
  have ECL : ErrC K CL := ⟨gaCL, ggCL, exCL, hdCL, ciCL, haCL, hn, ht, hmCL⟩
  have PCL : PySem.PartX.PartTxt K mg "BadPaper" "BadPaper.__init__" CL fLI := { gC := g aCL, cls := ⟨_, _, _, _, _, _, _, _, _, _, _, _, _, _, _, xCL, vCL⟩, sa := saCL, ga := gaCL, gg := ggCL, noN := noCL, iC := afLI, tC := tfLI, kC := keCL, exC := exCL, tyC := tyCL, hdC := hdCL, fn := ⟨_, _, _, _, _, _, _, _, _, _, _, _, _, _, lfLI, cfLI⟩ }
  have kNe := kbn_of FNe (ps := ["value", "one", "other"]) 0 ["other", "one", "value"] (fun us ws => rv3 us ws) (fun a b => rv3_rel a b) fun _ _ _ _ _ _ us ws h1 h2 => match us, ws, h1, h2 with | [], [_, _, _], _, _ => rfl
  have bYI : Binds K (PySem.W.ksFn "__init__" "Seats.__init__" (defArgs sSeatsI) (defBody sSeatsI) (defScope sSeatsI) .none kVYI dcYI pmYI anYI (.ref gY) ctYI hY) nSI [] := fun s us _ hl => .of_eq (match us, hl with | [_, _, _, _], _ => rfl)
  have clP : Cls K CP := ⟨pgCP, hdCP, poCP, saCP⟩
  have TP : TPap K CP := ⟨clP, nCP_word, nCP_parts⟩
  have IP : InsC K CP := ⟨clP, haCP, hn, ht, hmCP⟩
  have clY : Cls K CY := ⟨pgCY, hdCY, poCY, saCY⟩
  have TY : TPap K CY := ⟨clY, nCY_word, nCY_parts⟩
  have IY : InsC K CY := ⟨clY, haCY, hn, ht, hmCY⟩
  have MP : Mk K CP fPI := ⟨mkCP, aiCP, iiCP, kcCP⟩
  have MY : Mk K CY fYI := ⟨mkCY, aiCY, iiCY, kcCY⟩
  have TS : TSe K mg CY CP := ⟨TY, nCY_seats, nCY_bags, nCY_above, IY, IP, qyy, qpy, fun n hn => by
    simp only [tys, List.mem_cons, List.not_mem_nil, or_false] at hn
    rcases hn with rfl | rfl | rfl | rfl | rfl | rfl | rfl
    · exact qyNoneType
    · exact qybool
    · exact qyint
    · exact qystr
    · exact qylist
    · exact qytuple
    · exact qydict,
    g aCY⟩
  have BY : SuFacts l.prog K fYI fPI CY CY hY gY (PySem.W.ksFn "__init__" "Seats.__init__" (defArgs sSeatsI) (defBody sSeatsI) (defScope sSeatsI) .none kVYI dcYI pmYI anYI (.ref gY) ctYI hY) "self" :=
    ⟨⟨_, _, _, lYI⟩, ⟨_, rfl, rfl⟩, ⟨_, _, _, _, _, _, kvcYI, kvsYI, kvfYI⟩, ⟨_, _, _, kveYI⟩, ⟨_, kvdYI⟩, kvmYY, kvo, kvaYY, kvtfPI, kvifPI, kvp, fun z => by rw [kvdYI] at z; cases z⟩
  have E2 : TE38 K mg CL CB CS := ⟨g aCL, g aCB, g aCS, ECL, ECB, noCL, noCB, PySem.W.exm_ref bCS dCS tCS suCL, PySem.W.exm_ref bCS dCS tCS suCB, kiCL, qbl, kiCB⟩
  refine ⟨PySem.W.fnOf "law" "law" (defArgs sLaw) (defBody sLaw) (defScope sLaw) .none kVLa dcLa pmLa anLa cdLa ctLa, TT, cc, _, spLaw K TT, eC, ddC, vsC, slC, lLa, rfl, wc, wk, wv, wn, fun s v => .of_eq rfl, fun H a ns hl hT hS => ⟨a, ns, rfl, hS, hl, hT, fun _ => rfl⟩, fun base _ _ TB => ?_⟩
  have GIn := ok_integer (P := l.prog) (w := w) (mg := mg) (base := base) (k := 0) FIn (n z_isinstance) (n z_int) (n z_bool)
  have GWi := ok_within (P := l.prog) (w := w) (mg := mg) (base := base) (k := 1) FWi FIn GIn bIn (g aIn)
  have GLi := ok_list (P := l.prog) (w := w) (mg := mg) (base := base) (k := 0) FLi (n z_isinstance) (n z_list) (n z_tuple)
  have GRo := ok_row (P := l.prog) (w := w) (mg := mg) (base := base) (k := 2) FRo FWi GWi bWi (g aWi) FLi (GLi.mono (by decide)) bLi (g aLi) (n z_all)
  have GIb := ok_isBag (P := l.prog) (w := w) (mg := mg) (base := base) (k := 3) FIb FRo GRo bRo (g aRo) FWi (GWi.mono (by decide)) bWi (g aWi) (n z_len) (n z_zip) (n z_all)
  have GAb := ok_areBags (P := l.prog) (w := w) (mg := mg) (base := base) (k := 4) FAb FIb GIb bIb (g aIb) FLi (GLi.mono (by decide)) bLi (g aLi) (n z_all)
  have GFt := ok_fromTop (P := l.prog) (w := w) (mg := mg) (base := base) (k := 0) FFt (n z_enumerate)
  have GTa := ok_tells (P := l.prog) (w := w) (mg := mg) (base := base) (k := 2) FTa FWi GWi bWi (g aWi) FLi (GLi.mono (by decide)) bLi (g aLi) FFt (GFt.mono (by decide)) bFt (g aFt) (n z_len) (n z_all) (n z_enumerate)
  have GFr := ok_fresh (P := l.prog) (w := w) (mg := mg) (base := base) (k := 0) FFr (n z_zip)
  have GHt := ok_hang (P := l.prog) (w := w) (mg := mg) (base := base) (k := 1) FHt FFr GFr bFr (g aFr) (n z_len) (n z_set)
  have GPi := ok_pairsIn (P := l.prog) (w := w) (mg := mg) (base := base) (k := 1) FPi FFr GFr bFr (g aFr) (n z_zip) (n z_min) (n z_max)
  have GNw := ok_narrow (P := l.prog) (w := w) (mg := mg) (base := base) (k := 5) FNw FAb GAb bAb (g aAb) FTa (GTa.mono (by decide)) bTa (g aTa) FHt (GHt.mono (by decide)) bHt (g aHt) (g zM1) (n z_len)
  have GSe := ok_isSeat (P := l.prog) (w := w) (mg := mg) (base := base) (k := 3) FSe FRo GRo bRo (g aRo) (g zM2) (n z_len)
  have GWs := ok_wantS (P := l.prog) (w := w) (mg := mg) (base := base) (k := 2) FWs FSe GSe bSe (g aSe) PCB
  have GMa := ok_may (P := l.prog) (w := w) (mg := mg) (base := base) (k := 0) FMa (n z_tuple) (n z_sorted) (n z_abs)
  have GNe := ok_near (P := l.prog) (w := w) (mg := mg) (base := base) (k := 4) FNe TS FNw GNw bNw (g aNw) FWs (GWs.mono (by decide)) bWs (g aWs) FMa (GMa.mono (by decide)) bMa (g aMa) FPi (GPi.mono (by decide)) bPi (g aPi) PCL (n z_isinstance) (n z_tuple)
  have GFx := ok_fix (P := l.prog) (w := w) (mg := mg) (base := base) (k := 1) FFx (g aFx) bFx FLi (GLi.mono (by decide)) bLi (g aLi) (n z_tuple) 3
  have GPY := ok_paperI (P := l.prog) (w := w) (mg := mg) (base := base) (k := 5) (C := CY) lPI cPI FFx GFx bFx (g aFx)
  have GPP := ok_paperI (P := l.prog) (w := w) (mg := mg) (base := base) (k := 10) (C := CP) lPI cPI FFx (GFx.mono (by decide)) bFx (g aFx)
  have GYI := ok_seatsI (n := 2) BY cYI (n z_super) TY nCY_seats nCY_bags nCY_above GPY
  have GTu := ok_tub (P := l.prog) (w := w) (mg := mg) (base := base) (k := 0) FTu (n z_int)
  have GSc := ok_scoop (P := l.prog) (w := w) (mg := mg) (base := base) (k := 0) FSc (n z_int) (n z_len) (n z_abs)
  have GPk := ok_pick (P := l.prog) (w := w) (mg := mg) (base := base) (k := 1) FPk FSc GSc bSc (g aSc) (n z_len)
  have GLt := ok_lTree (P := l.prog) (w := w) (mg := mg) (base := base) (k := 1) FLt FSc GSc bSc (g aSc) (n z_len) (n z_range) (n z_sorted)
  have GBr := ok_bagsRight (P := l.prog) (w := w) (mg := mg) (base := base) (k := 0) FBr (n z_isinstance) (n z_tuple) (n z_bool) (n z_int) (n z_list) (n z_len) (n z_range) (n z_enumerate)
  have GLn := ok_lNear (P := l.prog) (w := w) (mg := mg) (base := base) (k := 0) FLn (n z_abs)
  exact ok_law (k := 10) FLa wc TB FTu (GTu.mono (by decide)) bTu (g aTu) FSc (GSc.mono (by decide)) bSc (g aSc) FPk (GPk.mono (by decide)) bPk (g aPk) FLt (GLt.mono (by decide)) bLt (g aLt) FBr (GBr.mono (by decide)) bBr (g aBr) FLn (GLn.mono (by decide)) bLn (g aLn) FNe (GNe.mono (by decide)) bNe kNe (g aNe) TS MY (GYI.mono (by decide)) bYI MP TP GPP (g aCP) FHe bHe (g aHe) E2 (n z_isinstance) (n z_range) (n z_repr) (n z_tuple) (n z_list)
end P38
end S_Ndf
open PySem PySem.W PyProof.Rows
set_option maxRecDepth 100000 in
set_option maxHeartbeats 0 in
theorem PySem.Challenge.cw_threelanes_k38_near_seats_holds : PySem.Challenge.rw_threelanes_k38_near_seats.Holds := by
  w_on; o_law; k_head; (case hw => w_witness2)
  k_fill
  refine Hk.walk_gT (l := PySem.Challenge.rw_threelanes_k38_near_seats) (n := 63) (k := 14) (x := "script") rfl (by decide) rfl ⟨rfl, by decide, by decide⟩ (by decide +kernel) (fun w h Y => PySem.W.km_in_of Y) ?F
  case F =>
    intro w mg fa h KX G hmg
    refine' P38.all_mk KX G hmg ?aIn ?lIn ?cIn ?kIn ?aWi ?lWi ?cWi ?kWi ?aLi ?lLi ?cLi ?kLi ?aRo ?lRo ?cRo ?kRo ?aFx ?lFx ?cFx ?kFx ?aAb ?lAb ?cAb ?kAb ?aTa ?lTa ?cTa ?kTa ?aHt ?lHt ?cHt ?kHt ?aNw ?lNw ?cNw ?kNw ?aFt ?lFt ?cFt ?kFt ?aFr ?lFr ?cFr ?kFr ?aPi ?lPi ?cPi ?kPi ?aIb ?lIb ?cIb ?kIb ?aNe ?lNe ?cNe ?kNe ?aSe ?lSe ?cSe ?kSe ?aWs ?lWs ?cWs ?kWs ?aMa ?lMa ?cMa ?kMa ?aTu ?lTu ?cTu ?kTu ?aSc ?lSc ?cSc ?kSc ?aPk ?lPk ?cPk ?kPk ?aBr ?lBr ?cBr ?kBr ?aLn ?lLn ?cLn ?kLn ?aLt ?lLt ?cLt ?kLt ?aHe ?lHe ?cHe ?kHe ?aLa ?lLa ?cLa ?kLa ?wc ?wk ?wv ?wn ?aCS ?bCS ?dCS ?tCS ?aCB ?xCB ?vCB ?saCB ?gaCB ?ggCB ?noCB ?keCB ?exCB ?tyCB ?hdCB ?ciCB ?haCB ?hmCB ?suCB ?kiCB ?afBI ?tfBI ?lfBI ?cfBI ?aCL ?xCL ?vCL ?saCL ?gaCL ?ggCL ?noCL ?keCL ?exCL ?tyCL ?hdCL ?ciCL ?haCL ?hmCL ?suCL ?kiCL ?afLI ?tfLI ?lfLI ?cfLI ?hn ?ht ?aCP ?pgCP ?hdCP ?poCP ?saCP ?mkCP ?kcCP ?haCP ?hmCP ?nCP_word ?nCP_parts ?aCY ?pgCY ?hdCY ?poCY ?saCY ?mkCY ?kcCY ?haCY ?hmCY ?nCY_word ?nCY_parts ?nCY_seats ?nCY_bags ?nCY_above ?aiCP ?iiCP ?aiCY ?iiCY ?lPI ?cPI ?lYI ?cYI ?kvcYI ?kvsYI ?kvfYI ?kveYI ?kvdYI ?kvo ?kvp ?kvmYY ?kvaYY ?kvtfPI ?kvifPI ?qyy ?qpy ?qbl ?qyNoneType ?qybool ?qyint ?qystr ?qylist ?qytuple ?qydict ?zM1 ?zM2 ?z_int ?z_bool ?z_list ?z_tuple ?z_isinstance ?z_all ?z_len ?z_abs ?z_range ?z_min ?z_max ?z_zip ?z_enumerate ?z_set ?z_sorted ?z_repr ?z_super
    (case aIn => k_is)
    (case lIn => k_is)
    (case cIn => k_is)
    (case kIn => k_is)
    (case aWi => k_is)
    (case lWi => k_is)
    (case cWi => k_is)
    (case kWi => k_is)
    (case aLi => k_is)
    (case lLi => k_is)
    (case cLi => k_is)
    (case kLi => k_is)
    (case aRo => k_is)
    (case lRo => k_is)
    (case cRo => k_is)
    (case kRo => k_is)
    (case aFx => k_is)
    (case lFx => k_is)
    (case cFx => k_is)
    (case kFx => k_is)
    (case aAb => k_is)
    (case lAb => k_is)
    (case cAb => k_is)
    (case kAb => k_is)
    (case aTa => k_is)
    (case lTa => k_is)
    (case cTa => k_is)
    (case kTa => k_is)
    (case aHt => k_is)
    (case lHt => k_is)
    (case cHt => k_is)
    (case kHt => k_is)
    (case aNw => k_is)
    (case lNw => k_is)
    (case cNw => k_is)
    (case kNw => k_is)
    (case aFt => k_is)
    (case lFt => k_is)
    (case cFt => k_is)
    (case kFt => k_is)
    (case aFr => k_is)
    (case lFr => k_is)
    (case cFr => k_is)
    (case kFr => k_is)
    (case aPi => k_is)
    (case lPi => k_is)
    (case cPi => k_is)
    (case kPi => k_is)
    (case aIb => k_is)
    (case lIb => k_is)
    (case cIb => k_is)
    (case kIb => k_is)
    (case aNe => k_is)
    (case lNe => k_is)
    (case cNe => k_is)
    (case kNe => k_is)
    (case aSe => k_is)
    (case lSe => k_is)
    (case cSe => k_is)
    (case kSe => k_is)
    (case aWs => k_is)
    (case lWs => k_is)
    (case cWs => k_is)
    (case kWs => k_is)
    (case aMa => k_is)
    (case lMa => k_is)
    (case cMa => k_is)
    (case kMa => k_is)
    (case aTu => k_is)
    (case lTu => k_is)
    (case cTu => k_is)
    (case kTu => k_is)
    (case aSc => k_is)
    (case lSc => k_is)
    (case cSc => k_is)
    (case kSc => k_is)
    (case aPk => k_is)
    (case lPk => k_is)
    (case cPk => k_is)
    (case kPk => k_is)
    (case aBr => k_is)
    (case lBr => k_is)
    (case cBr => k_is)
    (case kBr => k_is)
    (case aLn => k_is)
    (case lLn => k_is)
    (case cLn => k_is)
    (case kLn => k_is)
    (case aLt => k_is)
    (case lLt => k_is)
    (case cLt => k_is)
    (case kLt => k_is)
    (case aHe => k_is)
    (case lHe => k_is)
    (case cHe => k_is)
    (case kHe => k_is)
    (case aLa => k_is)
    (case lLa => k_is)
    (case cLa => k_is)
    (case kLa => k_is)
    (case wc => rfl)
    (case wk => k_is)
    (case wv => rfl)
    (case wn => first | kernel_rfl | rfl | decide +kernel)
    (case aCS => k_is)
    (case bCS => k_is)
    (case dCS => k_is)
    (case tCS => k_is)
    (case aCB => k_is)
    (case xCB => k_is)
    (case vCB => first | rfl | decide +kernel)
    (case saCB => k_is)
    (case gaCB => k_is)
    (case ggCB => k_is)
    (case noCB => k_is)
    (case keCB => k_is)
    (case exCB => k_is)
    (case tyCB => k_is)
    (case hdCB => k_is)
    (case ciCB => k_is)
    (case haCB => k_is)
    (case hmCB => k_is)
    (case suCB => k_is)
    (case kiCB => kit_is)
    (case afBI => k_is)
    (case tfBI => k_is)
    (case lfBI => k_is)
    (case cfBI => k_is)
    (case aCL => k_is)
    (case xCL => k_is)
    (case vCL => first | rfl | decide +kernel)
    (case saCL => k_is)
    (case gaCL => k_is)
    (case ggCL => k_is)
    (case noCL => k_is)
    (case keCL => k_is)
    (case exCL => k_is)
    (case tyCL => k_is)
    (case hdCL => k_is)
    (case ciCL => k_is)
    (case haCL => k_is)
    (case hmCL => k_is)
    (case suCL => k_is)
    (case kiCL => kit_is)
    (case afLI => k_is)
    (case tfLI => k_is)
    (case lfLI => k_is)
    (case cfLI => k_is)
    (case hn => k_is)
    (case ht => k_is)
    (case aCP => k_is)
    (case pgCP => k_is)
    (case hdCP => k_is)
    (case poCP => k_is)
    (case saCP => k_is)
    (case mkCP => k_is)
    (case kcCP => k_is)
    (case haCP => k_is)
    (case hmCP => k_is)
    (case nCP_word => k_is)
    (case nCP_parts => k_is)
    (case aCY => k_is)
    (case pgCY => k_is)
    (case hdCY => k_is)
    (case poCY => k_is)
    (case saCY => k_is)
    (case mkCY => k_is)
    (case kcCY => k_is)
    (case haCY => k_is)
    (case hmCY => k_is)
    (case nCY_word => k_is)
    (case nCY_parts => k_is)
    (case nCY_seats => k_is)
    (case nCY_bags => k_is)
    (case nCY_above => k_is)
    (case aiCP => k_is)
    (case iiCP => k_is)
    (case aiCY => k_is)
    (case iiCY => k_is)
    (case lPI => k_is)
    (case cPI => k_is)
    (case lYI => k_is)
    (case cYI => k_is)
    (case kvcYI => k_is)
    (case kvsYI => rfl)
    (case kvfYI => decide +kernel)
    (case kveYI => k_is)
    (case kvdYI => k_is)
    (case kvo => k_is)
    (case kvp => decide +kernel)
    (case kvmYY => k_is)
    (case kvaYY => ks_is)
    (case kvtfPI => k_is)
    (case kvifPI => k_is)
    (case zM1 => k_is)
    (case zM2 => k_is)
    (case z_int => k_is)
    (case z_bool => k_is)
    (case z_list => k_is)
    (case z_tuple => k_is)
    (case z_isinstance => k_is)
    (case z_all => k_is)
    (case z_len => k_is)
    (case z_abs => k_is)
    (case z_range => k_is)
    (case z_min => k_is)
    (case z_max => k_is)
    (case z_zip => k_is)
    (case z_enumerate => k_is)
    (case z_set => k_is)
    (case z_sorted => k_is)
    (case z_repr => k_is)
    (case z_super => k_is)
    (case qyy => kit_is)
    (case qpy => kit_is)
    (case qbl => kit_is)
    (case qyNoneType => kit_is)
    (case qybool => kit_is)
    (case qyint => kit_is)
    (case qystr => kit_is)
    (case qylist => kit_is)
    (case qytuple => kit_is)
    (case qydict => kit_is)
