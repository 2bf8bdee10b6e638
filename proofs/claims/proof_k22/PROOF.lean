import PyProof.Rows.All
import Wide.All
import OpenK.AllK
import Wide.FinOn
import HandS.ForMost
import HandS.SetFor
import HandS.IsInst
import HandS.Zip
import HandS.Wide
import HandS.Walk
import KE.SortData
import KE.LtData
import PyProof.ReprRoads
import KE.KDictSum
import HandS.Conv
import PySem.Challenge.RW_elsetold_k22_walks_judged
import HandS.Style
import HandS.Deep
set_option Elab.async false
set_option linter.all false
set_option maxRecDepth 100000
set_option maxHeartbeats 4000000
/-! Sets whose members are ints and texts: made of a list or a tuple, sorted; sorted lists of alike data. -/
namespace Cry
open PySem PySem.Spec PyProof.Rows L2

/-- the key that a value is -/
def keyV (v : Value) : Key :=
  match v with
  | .int k _ => Sum.inl k
  | .str x _ => Sum.inr x
  | _ => Sum.inl 0
theorem keyV_of {k : Key} {v : Value} (h : keyIs k v = true) : keyV v = k := by
  rcases keyIs_shape h with ⟨i, t, rfl, rfl⟩ | ⟨x, t, rfl, rfl⟩ <;> rfl
theorem keyScan {k : Key} {v : Value} (h : keyIs k v = true) : v.scannable = true := by
  rcases keyIs_shape h with ⟨i, t, rfl, rfl⟩ | ⟨x, t, rfl, rfl⟩ <;> rfl
def Ent (w : World) (e : Int × Value) : Prop := ∃ k, keyIs k e.2 = true ∧ e.1 = keyH w k
/-- the set at a holds just the keys ks; it can be walked -/
def KSet (w : World) (h : Heap) (a : Addr) (ks : List Key) : Prop :=
  ∃ o es ep t, h.get? a = some o ∧ o.ExactSet ∧ o.data = .set es ep t ∧ (∀ e ∈ es.toList, Ent w e) ∧
    (es.toList.map fun e => keyV e.2).Perm ks ∧ ks.Nodup ∧ es.size < scanBound ∧ t.fits es.size = true ∧ Ris t.place.toList ∧
    (w.params.followText "set-order" = true ∨ t.led = true)
/-- whether a key is among some; one key more -/
def hasK (k : Key) (ks : List Key) : Bool := ks.any fun j => decide (j = k)
def moreK (k : Key) (ks : List Key) : List Key := if hasK k ks = true then ks else ks ++ [k]
theorem hasK_iff {k : Key} {ks : List Key} : hasK k ks = true ↔ k ∈ ks := by
  unfold hasK
  rw [List.any_eq_true]
  constructor
  · rintro ⟨j, hj, e⟩
    rw [← of_decide_eq_true e]
    exact hj
  · intro h
    exact ⟨k, h, decide_eq_true rfl⟩
section
variable {P : Program} {w : World} {A : Around} {E : Value → Shared → Prop} {s : Shared} {a : Addr} {ks : List Key}
theorem KSet.at {h h' : Heap} (R : KSet w h a ks) (k : ∀ o, h.get? a = some o → h'.get? a = some o) : KSet w h' a ks := by
  obtain ⟨o, es, ep, t, ho, r⟩ := R
  exact ⟨o, es, ep, t, k o ho, r⟩
theorem ent_elems {l : List (Int × Value)} (g : ∀ e ∈ l, Ent w e) : ElemsOf (mixKind P w) l := fun e he => by
  obtain ⟨k, h1, h2⟩ := g e he
  exact ⟨⟨k, h1, h2⟩, keyScan h1⟩
theorem ent_key {e : Int × Value} (g : Ent w e) (k : Key) : keyIs k e.2 = true ↔ keyV e.2 = k := by
  obtain ⟨k0, h1, _⟩ := g
  constructor
  · exact keyV_of
  · intro z
    rw [keyV_of h1] at z
    rw [← z]
    exact h1
theorem kset_tail {g : Bool → Sem Unit} (hg : ∀ (b : Bool) (s1 : Shared) (Q' : Unit → Shared → Prop), Q' () s1 → wpAny (model P w) A (g b) Q' E s1)
    {o : Obj} {es : Array (Int × Value)} {ep : Nat} {t : SetTable} (ho : s.heap.get? a = some o) (hex : o.ExactSet) (hd : o.data = .set es ep t)
    {es1 : Array (Int × Value)} {t2 : SetTable} {ks' : List Key} (g1 : ∀ e ∈ es1.toList, Ent w e) (p1 : (es1.toList.map fun e => keyV e.2).Perm ks') (nd : ks'.Nodup)
    (hb1 : es1.size < scanBound) (hf2 : t2.fits es1.size = true) (hr : Ris t2.place.toList) (hl : w.params.followText "set-order" = true ∨ t2.led = true) {wd : Bool} {R : Option Bool → Shared → Prop}
    (hR : ∀ h', Heap.SameBut a s.heap h' → KSet w h' a ks' → R (some true) { s with heap := h' }) :
    wpAny (model P w) A (do
        storeSet a es1 t2
        if (!wd && t2.tooFull) = true then do
            g (relayAll t2 es1 (SetTable.grown es1.size)).2.2
            storeSet a (relayAll t2 es1 (SetTable.grown es1.size)).1 (relayAll t2 es1 (SetTable.grown es1.size)).2.1
            pure (some true)
          else pure (some true)) R E s := by
  have st1 := store_at (es' := es1) (t' := t2) ho hd
  have sb := Heap.SameBut.update s.heap a (Obj.putSet es1 t2)
  refine wpAny_bind (wpAny_storeSet_of ho hd ?_ (fits_of_scanBound hb1))
  split
  · obtain ⟨pm, ff, rr, ll⟩ : (relayAll t2 es1 (SetTable.grown es1.size)).1.toList.Perm es1.toList ∧ (relayAll t2 es1 (SetTable.grown es1.size)).2.1.fits (relayAll t2 es1 (SetTable.grown es1.size)).1.size = true ∧
        Ris (relayAll t2 es1 (SetTable.grown es1.size)).2.1.place.toList ∧ (relayAll t2 es1 (SetTable.grown es1.size)).2.1.led = t2.led :=
      ⟨relayAll_perm _ _ _, relayAll_fits _ _ _, relayAll_ris _ _ _, relayAll_led _ _ _⟩
    revert pm ff rr ll
    generalize relayAll t2 es1 (SetTable.grown es1.size) = Z
    obtain ⟨es2, t3, gv⟩ := Z
    intro pm ff rr ll
    dsimp only at pm ff rr ll ⊢
    have sz : es2.size = es1.size := by
      have := pm.length_eq
      simpa using this
    refine wpAny_bind (hg _ _ _ ?_)
    refine wpAny_bind (wpAny_storeSet_of st1 rfl ?_ (fits_of_scanBound (by rw [sz]; exact hb1)))
    have st2 := store_at (es' := es2) (t' := t3) st1 rfl
    refine wpAny_pure (hR _ (sb.trans (Heap.SameBut.update _ a _)) ?_)
    exact ⟨_, es2, _, t3, st2, hex, rfl, fun e he => g1 e (pm.mem_iff.mp he), (pm.map _).trans p1, nd, by rw [sz]; exact hb1, ff, rr, hl.imp id fun z => by rw [ll]; exact z⟩
  · exact wpAny_pure (hR _ sb ⟨_, es1, _, t2, st1, hex, rfl, g1, p1, nd, hb1, hf2, hr, hl⟩)
theorem kset_add {k : Key} {v : Value} {Q : Bool → Shared → Prop} (hk : keyIs k v = true) (R : KSet w s.heap a ks) (room : ks.length + 1 < scanBound)
    (hQ : ∀ h', Heap.SameBut a s.heap h' → KSet w h' a (moreK k ks) → Q (!hasK k ks) { s with heap := h' }) :
    wpAny (model P w) A (setAddHashed a v (keyH w k)) Q E s := by
  obtain ⟨o, es, ep, t, ho, hex, hd, g, pk, nd, hb, hf, hr, hl⟩ := R
  have el : ElemsOf (mixKind P w) es.toList := ent_elems g
  have sc := keyScan hk
  have hk' : (mixKind P w).is k v = true := hk
  have mem : k ∈ ks ↔ ∃ e ∈ es.toList, keyIs k e.2 = true := by
    rw [← pk.mem_iff, List.mem_map]
    exact ⟨fun ⟨e, he, z⟩ => ⟨e, he, (ent_key (g e he) k).2 z⟩, fun ⟨e, he, z⟩ => ⟨e, he, (ent_key (g e he) k).1 z⟩⟩
  unfold setAddHashed setAddHashedIn
  refine wpAny_holding (wpAny_bind (wpAny_setState_of ho hd hf ?_))
  dsimp only
  rw [byScan_of sc hb el]
  simp only [↓reduceIte]
  unfold setAddByScan
  refine wpAny_bind ?_
  refine wpAny_bind (wpAny_rule ?_)
  refine wpAny_bind (wpAny_setScan_of (knd := mixKind P w) hk' ho hd hf el ?_)
  cases fi : List.findIdx? (fun e => (mixKind P w).is k e.2) es.toList with
  | some j =>
    dsimp only
    obtain ⟨hj, pj, _⟩ := List.findIdx?_eq_some_iff_getElem.mp fi
    have m : hasK k ks = true := hasK_iff.2 (mem.2 ⟨es.toList[j], List.getElem_mem hj, pj⟩)
    refine wpAny_pure (wpAny_pure ?_)
    have q := hQ s.heap (Heap.SameBut.refl a s.heap) (by unfold moreK; rw [if_pos m]; exact ⟨o, es, ep, t, ho, hex, hd, g, pk, nd, hb, hf, hr, hl⟩)
    rw [m] at q
    exact q
  | none =>
    dsimp only
    have m : ¬ k ∈ ks := fun z => by
      obtain ⟨e, he, c⟩ := mem.1 z
      have d := List.findIdx?_eq_none_iff.mp fi e he
      exact absurd (c.symm.trans d) (by decide)
    have gw : ∀ (b : Bool) {s1 : Shared} {Q' : Unit → Shared → Prop}, Q' () s1 → wpAny (model P w) A (match b with | true => rule "set.scan.the-table-gave-way" | false => pure ()) Q' E s1 :=
      fun b s1 Q' q => by cases b <;> first | exact wpAny_pure q | exact wpAny_rule q
    obtain ⟨pm, f1, r1, l1⟩ : (layNew t es ((mixKind P w).hash k) v).1.toList.Perm (es.push ((mixKind P w).hash k, v)).toList ∧ (layNew t es ((mixKind P w).hash k) v).2.1.fits (layNew t es ((mixKind P w).hash k) v).1.size = true ∧
        Ris (layNew t es ((mixKind P w).hash k) v).2.1.place.toList ∧ (layNew t es ((mixKind P w).hash k) v).2.1.led = t.led :=
      ⟨layNew_perm _ _ _ _, layNew_fits _ _ _ _, layNew_ris _ _ _ _ hr, layNew_led _ _ _ _⟩
    revert pm f1 r1 l1
    show _ → _ → _ → _ → wpAny (model P w) A _ _ E s
    have eh : (mixKind P w).hash k = keyH w k := rfl
    rw [eh]
    generalize layNew t es (keyH w k) v = Z
    obtain ⟨es1, t1, wd, gv⟩ := Z
    intro pm f1 r1 l1
    dsimp only at pm f1 r1 l1 ⊢
    rw [Array.toList_push] at pm
    have g1 : ∀ e ∈ es1.toList, Ent w e := fun e he => by
      rcases List.mem_append.mp (pm.mem_iff.mp he) with z | z
      · exact g e z
      · rw [List.mem_singleton.mp z]
        exact ⟨k, hk, rfl⟩
    have p1 : (es1.toList.map fun e => keyV e.2).Perm (ks ++ [k]) := by
      have q := pm.map (fun e : Int × Value => keyV e.2)
      rw [List.map_append] at q
      refine q.trans ?_
      show ((es.toList.map fun e => keyV e.2) ++ [keyV v]).Perm _
      rw [keyV_of hk]
      exact pk.append_right _
    have nd1 : (ks ++ [k]).Nodup := by
      rw [List.nodup_append]
      refine ⟨nd, by simp, fun x hx y hy e => ?_⟩
      rw [List.mem_singleton.mp hy] at e
      exact m (e ▸ hx)
    have sz : es1.size = ks.length + 1 := by
      have := p1.length_eq
      simpa using this
    have hb1 : es1.size < scanBound := by rw [sz]; exact room
    have led1 : w.params.followText "set-order" = true ∨ t1.led = true := hl.imp id fun z => by rw [l1]; exact z
    have fin : ∀ h', Heap.SameBut a s.heap h' → KSet w h' a (ks ++ [k]) → Q true { s with heap := h' } := fun h' sb r => by
      have mf : hasK k ks = false := by
        cases z : hasK k ks with
        | false => rfl
        | true => exact absurd (hasK_iff.1 z) m
      have q := hQ h' sb (by unfold moreK; rw [mf]; exact r)
      rw [mf] at q
      exact q
    refine wpAny_bind (gw _ ?_)
    split
    · refine wpAny_bind ?_
      rw [hashByValue_scannable 8 sc]
      refine wpAny_pure ?_
      refine kset_tail ?_ ho hex hd g1 p1 nd1 hb1 ?_ ?_ ?_ ?_
      · intro b s1 Q' q; cases b <;> first | exact wpAny_pure q | exact wpAny_rule q
      · first | (split <;> first | exact f1 | exact SetTable.fits_plain_off f1) | exact f1
      · first | (split <;> exact r1) | exact r1
      · first | (split <;> exact led1) | exact led1
      · intro h' sb r; dsimp only; exact wpAny_pure (fin h' sb r)
    · refine wpAny_bind (wpAny_pure ?_)
      simp only [↓reduceIte]
      refine kset_tail ?_ ho hex hd g1 p1 nd1 hb1 f1 r1 led1 ?_
      · intro b s1 Q' q; cases b <;> first | exact wpAny_pure q | exact wpAny_rule q
      · intro h' sb r; dsimp only; exact wpAny_pure (fin h' sb r)
end

/-! ### set(xs) of a list or a tuple of ints and texts -/
def dedK (ks : List Key) : List Key := ks.foldl (fun acc k => moreK k acc) []
theorem dedK_snoc (ks : List Key) (k : Key) : dedK (ks ++ [k]) = moreK k (dedK ks) := by
  unfold dedK
  rw [List.foldl_append]
  rfl
theorem moreK_len (k : Key) (ks : List Key) : (moreK k ks).length ≤ ks.length + 1 := by
  unfold moreK
  split
  · omega
  · simp
theorem foldK_len : ∀ (l acc : List Key), (l.foldl (fun acc k => moreK k acc) acc).length ≤ acc.length + l.length
  | [], acc => by simp
  | k :: l, acc => by
    have ih := foldK_len l (moreK k acc)
    have m := moreK_len k acc
    rw [List.foldl_cons, List.length_cons]
    omega
theorem dedK_len (ks : List Key) : (dedK ks).length ≤ ks.length := by
  have := foldK_len ks []
  simpa [dedK] using this
theorem moreK_mem {j k : Key} {ks : List Key} : j ∈ moreK k ks ↔ j ∈ ks ∨ j = k := by
  unfold moreK
  split
  · rename_i h
    have := hasK_iff.1 h
    constructor
    · exact .inl
    · rintro (z | z)
      · exact z
      · rw [z]; exact this
  · simp
theorem foldK_mem {j : Key} : ∀ (l acc : List Key), j ∈ l.foldl (fun acc k => moreK k acc) acc ↔ j ∈ acc ∨ j ∈ l
  | [], acc => by simp
  | k :: l, acc => by
    rw [List.foldl_cons, foldK_mem l, moreK_mem, List.mem_cons, or_assoc]
theorem dedK_mem {j : Key} {ks : List Key} : j ∈ dedK ks ↔ j ∈ ks := by
  unfold dedK
  rw [foldK_mem]
  simp
theorem moreK_nodup {k : Key} {ks : List Key} (h : ks.Nodup) : (moreK k ks).Nodup := by
  unfold moreK
  split
  · exact h
  · rename_i hn
    rw [List.nodup_append]
    refine ⟨h, by simp, fun x hx y hy e => ?_⟩
    rw [List.mem_singleton.mp hy] at e
    exact hn (hasK_iff.2 (e ▸ hx))
theorem dedK_nodup (ks : List Key) : (dedK ks).Nodup := by
  unfold dedK
  suffices h : ∀ (l acc : List Key), acc.Nodup → (l.foldl (fun acc k => moreK k acc) acc).Nodup from h ks [] List.nodup_nil
  intro l
  induction l with
  | nil => exact fun acc h => h
  | cons k l ih => exact fun acc h => ih _ (moreK_nodup h)
/-- nothing comes twice: all of them -/
theorem dedK_same : ∀ {ks : List Key}, ks.Nodup → dedK ks = ks := by
  intro ks h
  suffices g : ∀ (l acc : List Key), (acc ++ l).Nodup → l.foldl (fun acc k => moreK k acc) acc = acc ++ l by
    have := g ks [] (by simpa using h)
    simpa [dedK] using this
  intro l
  induction l with
  | nil => intro acc _; simp
  | cons k l ih =>
    intro acc hn
    rw [List.foldl_cons]
    have hk : hasK k acc = false := by
      cases z : hasK k acc with
      | false => rfl
      | true =>
        exfalso
        rw [List.nodup_append] at hn
        exact hn.2.2 k (hasK_iff.1 z) k List.mem_cons_self rfl
    have e : moreK k acc = acc ++ [k] := by unfold moreK; rw [hk]; rfl
    rw [e, ih]
    · simp
    · simpa using hn
abbrev freshSet (w : World) : Obj := { cls := .type "set", dict := none, data := .set #[] 0 (.fresh 0 0 (!w.params.followText "set-order")) }
theorem kset_fresh {w : World} {h : Heap} {a : Addr} (ho : h.get? a = some (freshSet w)) : KSet w h a [] :=
  ⟨_, #[], 0, _, ho, ⟨rfl, rfl, rfl⟩, rfl, (fun e he => by simp at he), (by simp), List.nodup_nil, (by decide), (by rfl), List.Pairwise.nil, by
    show _ ∨ (!w.params.followText "set-order") = true
    cases w.params.followText "set-order"
    · exact .inr rfl
    · exact .inl rfl⟩
/-- the values stand for the keys -/
abbrev KeysAre : List Key → List Value → Prop := Paired fun k v => keyIs k v = true
theorem KeysAre.at : ∀ {ks : List Key} {us : List Value} (i : Nat) (v : Value), KeysAre ks us → us[i]? = some v → ∃ k, ks[i]? = some k ∧ keyIs k v = true
  | _, _, i, v, .nil, e => by simp at e
  | _, _, 0, v, .cons r _, e => by
    simp at e
    subst e
    exact ⟨_, rfl, r⟩
  | _, _, i + 1, v, .cons _ t, e => by
    obtain ⟨k, h1, h2⟩ := KeysAre.at i v t (by simpa using e)
    exact ⟨k, by simpa using h1, h2⟩
section
variable {P : Program} {w : World} {A : Around} {E : Value → Shared → Prop} {s : Shared}
theorem kset_update {I : Addr} {fp wr : List Addr} {G : Array GenState → Array GenState → Prop} {n : Nat} {Pv : Nat → Value → Prop} {St : Nat → Shared → Prop} {R : Result → Shared → Prop}
    (W : WalksS P w A.in1 I fp wr G n Pv St) (S : Addr) (hSf : S ∉ fp) (ks : List Key) (hn : n = ks.length) (hb : ks.length + 1 < scanBound) (hval : ∀ i v, Pv i v → ∃ k, ks[i]? = some k ∧ keyIs k v = true) :
    ∀ (m i : Nat) (s : Shared), n - i = m → i ≤ n → St i s → KSet w s.heap S (dedK (ks.take i)) →
      (∀ s', Moved (S :: wr) G s s' → KSet w s'.heap S (dedK ks) → R (.ok (.ret .none)) s') →
      codeAny (model P w) A (.builtin "set.update.loop" ⟨[.ref S, .ref I], []⟩) R s := by
  have nw : S ∉ wr := fun h => hSf (W.sub _ h)
  have up : ∀ b ∈ wr, b ∈ S :: wr := fun b hb => List.mem_cons_of_mem _ hb
  intro m
  induction m with
  | zero =>
    intro i s em hi st hS hR
    obtain rfl : i = n := by omega
    refine codeAny_builtin F.entry_set_update_loop ?_
    rw [Around.under_plainId F.plain_set_update_loop _]
    show wpAny _ A.in1 (pyNext (.ref I) >>= _) _ _ s
    refine wpAny_bind (W.done s _ _ st fun s' mv => ?_)
    show wpAny _ A.in1 (ret Value.none) _ _ s'
    rw [List.take_of_length_le (by omega)] at hS
    exact wpAny_pure (hR s' (mv.mono up) (hS.at fun o e => mv.heap S o nw e))
  | succ m ih =>
    intro i s em hi st hS hR
    have lt : i < n := by omega
    refine codeAny_builtin F.entry_set_update_loop ?_
    rw [Around.under_plainId F.plain_set_update_loop _]
    show wpAny _ A.in1 (pyNext (.ref I) >>= _) _ _ s
    refine wpAny_bind (W.item i s _ _ lt st fun v s' hP st' mv => ?_)
    obtain ⟨k, ek, hk⟩ := hval i v hP
    have hS1 : KSet w s'.heap S (dedK (ks.take i)) := hS.at fun o e => mv.heap S o nw e
    show wpAny _ A.in1 (holding [v] (setAdd S v) >>= _) _ _ s'
    refine wpAny_bind (wpAny_holding ?_)
    unfold setAdd
    refine wpAny_holding ?_
    refine wpAny_bind ((mixKind P w).pyHash (k := k) hk ?_)
    have ln : (dedK (ks.take i)).length ≤ i := Nat.le_trans (dedK_len _) (by rw [List.length_take]; omega)
    refine kset_add (s := { s' with toks := s'.toks + 1 }) hk hS1 (by omega) fun h' sb hS2 => ?_
    have e2 : moreK k (dedK (ks.take i)) = dedK (ks.take (i + 1)) := by
      rw [List.take_add_one, ek]
      exact (dedK_snoc _ _).symm
    rw [e2] at hS2
    refine wpAny_pure ⟨plainId_quiet F.plain_set_update_loop _, ih (i + 1) _ (by omega) lt (W.frame _ s' _ _ st' (Nat.le_succ _) fun b hb o e => ?_) hS2 fun s2 mv2 hS3 => ?_⟩
    · rw [sb.2 b (fun z : b = S => hSf (z ▸ hb))]
      exact e
    · refine hR s2 (Moved.trans W.gtrans ((mv.mono up).then_heap (Nat.le_succ _) fun b o hb e => ?_) mv2) hS3
      rw [sb.2 b (fun z : b = S => hb (z ▸ List.mem_cons_self))]
      exact e

set_option maxHeartbeats 3200000 in
theorem call_set_list {l : Addr} {items : Array Value} {ks : List Key} {Q : Value → Shared → Prop} (hh : A.handled = none) (hl : s.heap.IsList l items) (hk : KeysAre ks items.toList) (hb : ks.length + 1 < scanBound)
    (h : ∀ (h' : Heap) (tk : Nat), KSet w h' s.heap.objs.size (dedK ks) → (∀ b o, s.heap.get? b = some o → h'.get? b = some o) → Q (.ref s.heap.objs.size) { s with heap := h', toks := tk }) :
    wpAny (model P w) A (call (.type "set") [.ref l]) Q E s := by
  have hsz : items.size = ks.length := by
    rw [← Array.length_toList]
    exact (Paired.length hk).symm
  obtain ⟨c, tl, hmro⟩ := F.called_set.mro
  have hmade := F.called_set.made
  have hsub := F.called_set.sub
  refine wpAny_call (codeAny_of_tree ?_)
  show wpAny _ _ (callAny (.type "set") _) _ _ _
  refine wpAny_pure ⟨Code.quiet_builtin _ (by decide +kernel), codeAny_builtin F.entry_type_call ?_⟩
  rw [Around.under_plain (weight_type_call_type "set" [.ref l] []) rfl]
  have h1 := F.called_set.notType
  have h2 := F.called_set.canCreate
  have hct := F.typeCall_set_1 (.ref l)
  repeat (any_goals (first | assumption | wp_step))
  refine codeAny_mono (code_set_led1 (.ref l) (E := E) (Q₁ := fun ob s1 => ob = .ref s.heap.objs.size ∧ s1 = { s with heap := s.heap.push (freshSet w) }) ⟨rfl, rfl⟩) fun r s1 hr => ?_
  cases r with
  | error e => exact hr
  | ok fl =>
    cases fl with
    | ret ob =>
      obtain ⟨rfl, rfl⟩ := hr
      have hS : (s.heap.push (freshSet w)).get? s.heap.objs.size = some (freshSet w) := Heap.get?_push_size _ rfl
      have hT : Shared.TypeIs { s with heap := s.heap.push (freshSet w) } (.ref s.heap.objs.size) "set" := ⟨_, hS, rfl⟩
      have hli := F.called_set.init.lookup
      have hbi := F.called_set.init.bind (.ref s.heap.objs.size)
      repeat (any_goals (first | assumption | wp_step))
      refine codeAny_mono (codeAny_call_builtin (R := wants (fun r s2 => r = .none ∧ ∃ h' tk, s2 = { s with heap := h', toks := tk } ∧ KSet w h' s.heap.objs.size (dedK ks) ∧
          (∀ b o, s.heap.get? b = some o → h'.get? b = some o)) E) F.called_set.init.plain F.entry_set_init (check_set_init_1 hT ?_)) fun r2 s2 hr2 => ?_
      · obtain ⟨ol, hol, hcl, nl, hdl⟩ := hl
        obtain ⟨ocls, odict, odata, oslots⟩ := ol
        simp only at hcl hdl
        subst hcl; subst hdl
        have hol' : (s.heap.push (freshSet w)).get? l = some { cls := .type "list", dict := odict, data := .seq items nl, slots := oslots } := Heap.get?_push_of_some _ hol
        have hsls := F.sub_list_set
        have hslf := F.sub_list_frozenset
        have hne : (Value.type "list" == Value.type "dict") = false := by decide
        have hl1 : (s.heap.push (freshSet w)).IsList l items := ⟨_, hol', rfl, nl, rfl⟩
        unfold Builtin.«set.__init__» noKeywords Builtin.Frozenset.updateFrom
        generalize hPI : pyIter = PI
        wp_walk
        subst hPI
        refine wpAny_pyIter_list hl1 ?_
        refine wpAny_bind (wpAny_runValue ?_)
        have lS : l < s.heap.objs.size := Heap.lt_size hol
        have hh3 : A.in1.in1.in1.handled = none := by simp [hh]
        have nI : l ≠ (s.heap.push (freshSet w)).objs.size := by
          rw [Heap.size_push]
          exact Nat.ne_of_lt (Nat.lt_succ_of_lt lS)
        have sF : s.heap.objs.size ∉ [(s.heap.push (freshSet w)).objs.size, l] := by
          rw [Heap.size_push]
          simp only [List.mem_cons, List.mem_singleton, List.not_mem_nil, or_false, not_or]
          exact ⟨Nat.ne_of_lt (Nat.lt_succ_self _), Nat.ne_of_gt lS⟩
        refine kset_update ((Walks.list hh3 _ l nI items).toS) s.heap.objs.size sF ks hsz hb (fun i v hv => KeysAre.at i v hk (by rw [Array.getElem?_toList]; exact hv)) (items.size - 0) 0 _ (by omega) (Nat.zero_le _)
          ⟨⟨_, Heap.get?_push_size _ rfl, rfl, rfl⟩, (hl1.push _)⟩ ?z0 ?zR
        case z0 =>
          rw [List.take_zero]
          exact kset_fresh (Heap.get?_push_of_some _ hS)
        case zR =>
          intro s' mv hS'
          obtain ⟨h', g2, d', tk', os'⟩ := s'
          have eg : g2 = s.gens := mv.gens
          have ed : d' = s.drawn := mv.drawn
          have eo : os' = s.os := mv.os
          subst eg; subst ed; subst eo
          show wpAny _ _ _ _ _ _
          refine wpAny_pure ?_
          show wpAny _ _ (ret Value.none) _ _ _
          refine wpAny_pure ⟨rfl, h', tk', rfl, hS', fun b o e => ?_⟩
          have b0 : b < s.heap.objs.size := Heap.lt_size e
          refine mv.heap b o ?_ (Heap.get?_push_of_some _ (Heap.get?_push_of_some _ e))
          simp only [List.mem_cons, List.mem_singleton, List.not_mem_nil, or_false, not_or]
          refine ⟨Nat.ne_of_lt b0, ?_⟩
          rw [Heap.size_push]
          exact Nat.ne_of_lt (Nat.lt_succ_of_lt b0)
      · cases r2 with
        | error e => exact hr2
        | ok fl2 =>
          cases fl2 with
          | ret r =>
            obtain ⟨rfl, h', tk, rfl, hS', kp⟩ := hr2
            repeat (any_goals (first | assumption | wp_step))
            exact h _ _ hS' kp
          | _ => exact hr2.elim
    | _ => exact hr.elim

set_option maxHeartbeats 3200000 in
theorem call_set_tup {l : Addr} {items : Array Value} {ks : List Key} {Q : Value → Shared → Prop} (hh : A.handled = none) (hl : s.heap.IsTuple l items) (hk : KeysAre ks items.toList) (hb : ks.length + 1 < scanBound)
    (h : ∀ (h' : Heap) (tk : Nat), KSet w h' s.heap.objs.size (dedK ks) → (∀ b o, s.heap.get? b = some o → h'.get? b = some o) → Q (.ref s.heap.objs.size) { s with heap := h', toks := tk }) :
    wpAny (model P w) A (call (.type "set") [.ref l]) Q E s := by
  have hsz : items.size = ks.length := by
    rw [← Array.length_toList]
    exact (Paired.length hk).symm
  obtain ⟨c, tl, hmro⟩ := F.called_set.mro
  have hmade := F.called_set.made
  have hsub := F.called_set.sub
  refine wpAny_call (codeAny_of_tree ?_)
  show wpAny _ _ (callAny (.type "set") _) _ _ _
  refine wpAny_pure ⟨Code.quiet_builtin _ (by decide +kernel), codeAny_builtin F.entry_type_call ?_⟩
  rw [Around.under_plain (weight_type_call_type "set" [.ref l] []) rfl]
  have h1 := F.called_set.notType
  have h2 := F.called_set.canCreate
  have hct := F.typeCall_set_1 (.ref l)
  repeat (any_goals (first | assumption | wp_step))
  refine codeAny_mono (code_set_led1 (.ref l) (E := E) (Q₁ := fun ob s1 => ob = .ref s.heap.objs.size ∧ s1 = { s with heap := s.heap.push (freshSet w) }) ⟨rfl, rfl⟩) fun r s1 hr => ?_
  cases r with
  | error e => exact hr
  | ok fl =>
    cases fl with
    | ret ob =>
      obtain ⟨rfl, rfl⟩ := hr
      have hS : (s.heap.push (freshSet w)).get? s.heap.objs.size = some (freshSet w) := Heap.get?_push_size _ rfl
      have hT : Shared.TypeIs { s with heap := s.heap.push (freshSet w) } (.ref s.heap.objs.size) "set" := ⟨_, hS, rfl⟩
      have hli := F.called_set.init.lookup
      have hbi := F.called_set.init.bind (.ref s.heap.objs.size)
      repeat (any_goals (first | assumption | wp_step))
      refine codeAny_mono (codeAny_call_builtin (R := wants (fun r s2 => r = .none ∧ ∃ h' tk, s2 = { s with heap := h', toks := tk } ∧ KSet w h' s.heap.objs.size (dedK ks) ∧
          (∀ b o, s.heap.get? b = some o → h'.get? b = some o)) E) F.called_set.init.plain F.entry_set_init (check_set_init_1 hT ?_)) fun r2 s2 hr2 => ?_
      · obtain ⟨ol, hol, hcl, nl, hdl⟩ := hl
        obtain ⟨ocls, odict, odata, oslots⟩ := ol
        simp only at hcl hdl
        subst hcl; subst hdl
        have hol' : (s.heap.push (freshSet w)).get? l = some { cls := .type "tuple", dict := odict, data := .seq items nl, slots := oslots } := Heap.get?_push_of_some _ hol
        have hsls := F.sub_tuple_set
        have hslf := F.sub_tuple_frozenset
        have hne : (Value.type "tuple" == Value.type "dict") = false := by decide
        have hl1 : (s.heap.push (freshSet w)).IsTuple l items := ⟨_, hol', rfl, nl, rfl⟩
        unfold Builtin.«set.__init__» noKeywords Builtin.Frozenset.updateFrom
        generalize hPI : pyIter = PI
        wp_walk
        subst hPI
        refine wpAny_pyIter_tuple hl1 ?_
        refine wpAny_bind (wpAny_runValue ?_)
        have lS : l < s.heap.objs.size := Heap.lt_size hol
        have hh3 : A.in1.in1.in1.handled = none := by simp [hh]
        have nI : l ≠ (s.heap.push (freshSet w)).objs.size := by
          rw [Heap.size_push]
          exact Nat.ne_of_lt (Nat.lt_succ_of_lt lS)
        have sF : s.heap.objs.size ∉ [(s.heap.push (freshSet w)).objs.size, l] := by
          rw [Heap.size_push]
          simp only [List.mem_cons, List.mem_singleton, List.not_mem_nil, or_false, not_or]
          exact ⟨Nat.ne_of_lt (Nat.lt_succ_self _), Nat.ne_of_gt lS⟩
        refine kset_update ((Walks.tuple hh3 _ l nI items).toS) s.heap.objs.size sF ks hsz hb (fun i v hv => KeysAre.at i v hk (by rw [Array.getElem?_toList]; exact hv)) (items.size - 0) 0 _ (by omega) (Nat.zero_le _)
          ⟨⟨_, Heap.get?_push_size _ rfl, rfl, rfl⟩, (hl1.push _)⟩ ?z0 ?zR
        case z0 =>
          rw [List.take_zero]
          exact kset_fresh (Heap.get?_push_of_some _ hS)
        case zR =>
          intro s' mv hS'
          obtain ⟨h', g2, d', tk', os'⟩ := s'
          have eg : g2 = s.gens := mv.gens
          have ed : d' = s.drawn := mv.drawn
          have eo : os' = s.os := mv.os
          subst eg; subst ed; subst eo
          show wpAny _ _ _ _ _ _
          refine wpAny_pure ?_
          show wpAny _ _ (ret Value.none) _ _ _
          refine wpAny_pure ⟨rfl, h', tk', rfl, hS', fun b o e => ?_⟩
          have b0 : b < s.heap.objs.size := Heap.lt_size e
          refine mv.heap b o ?_ (Heap.get?_push_of_some _ (Heap.get?_push_of_some _ e))
          simp only [List.mem_cons, List.mem_singleton, List.not_mem_nil, or_false, not_or]
          refine ⟨Nat.ne_of_lt b0, ?_⟩
          rw [Heap.size_push]
          exact Nat.ne_of_lt (Nat.lt_succ_of_lt b0)
      · cases r2 with
        | error e => exact hr2
        | ok fl2 =>
          cases fl2 with
          | ret r =>
            obtain ⟨rfl, h', tk, rfl, hS', kp⟩ := hr2
            repeat (any_goals (first | assumption | wp_step))
            exact h _ _ hS' kp
          | _ => exact hr2.elim
    | _ => exact hr.elim
end
end Cry
/-! sorted of a set of keys; sorted of alike data; < and == of data; a list unpacked. -/
namespace Cry
open PySem PySem.Spec PyProof.Rows L2
section
variable {P : Program} {w : World} {A : Around} {E : Value → Shared → Prop} {s : Shared}

/-! ### sorted of such a set -/
def encK : Key → PyData
  | .inl i => .int i
  | .inr x => .str x
/-- all ints or all texts -/
def OneKind (ks : List Key) : Prop := (∀ k ∈ ks, ∃ i, k = Sum.inl i) ∨ ∀ k ∈ ks, ∃ x, k = Sum.inr x
theorem OneKind.perm {ks ls : List Key} (h : OneKind ks) (p : ls.Perm ks) : OneKind ls :=
  h.imp (fun z k hk => z k (p.mem_iff.mp hk)) fun z k hk => z k (p.mem_iff.mp hk)
theorem OneKind.alike {ks : List Key} (h : OneKind ks) : PySem.W.AllAlike (ks.map encK) := by
  intro d hd d' hd'
  obtain ⟨k, hk, rfl⟩ := List.mem_map.mp hd
  obtain ⟨k', hk', rfl⟩ := List.mem_map.mp hd'
  rcases h with h | h
  · obtain ⟨i, rfl⟩ := h k hk
    obtain ⟨j, rfl⟩ := h k' hk'
    rfl
  · obtain ⟨i, rfl⟩ := h k hk
    obtain ⟨j, rfl⟩ := h k' hk'
    rfl
theorem encK_sortable (ks : List Key) : PySem.W.Sortable (ks.map encK) := .inr fun d hd => by
  obtain ⟨k, _, rfl⟩ := List.mem_map.mp hd
  cases k <;> exact ⟨nofun, nofun⟩
theorem reads_key {h : Heap} {k : Key} {v : Value} (e : keyIs k v = true) : ∃ as, Reads h v (encK k) as := by
  rcases keyIs_shape e with ⟨i, t, rfl, rfl⟩ | ⟨x, t, rfl, rfl⟩
  · exact ⟨_, Reads.int i t⟩
  · exact ⟨_, Reads.str x t⟩
theorem sorted_kset {a : Addr} {ks : List Key} {Q : Value → Shared → Prop} (R : KSet w s.heap a ks) (hh : A.handled = none) (ok : OneKind ks) (hu : A.units + 8 < cLine)
    (hQ : ∀ s' p (out : List Value) (c : Nat) (ls : List Key), (∀ b o, s.heap.get? b = some o → s'.heap.get? b = some o) → s'.gens = s.gens → s'.os = s.os → s.heap.objs.size ≤ p →
      s'.heap.get? p = some (seqObj "list" out.toArray c) → KeysAre ls out → ls.Perm ks → ls.Pairwise (fun x y => PySem.W.dataLe false encK x y = true) → Q (.ref p) s') :
    wpAny (model P w) A (call (.builtin "sorted") [.ref a]) Q E s := by
  obtain ⟨o, es, ep, t, ho, hex, hd, g, pk, nd, hb, hf, hr, hl⟩ := R
  refine Calls.call_function_entry kind_sorted plain_sorted entry_sorted (args_sorted1 _) ?_
  unfold Builtin.«sorted»
  refine wpAny_bind (m := checkCount "sorted" 1 1 _) (wpAny_pure ?_)
  refine wpAny_bind (collect_set (A := A.in1) hh ⟨o, ho, hex.1, hd⟩ hf hb hr hl fun s1 vs k1 hz g1 o1 pm => ?_)
  have lv : vs.length = es.size := by
    rw [pm.length_eq, List.length_map, Array.length_toList]
  have lz : vs.length ≤ sizeLine := by rw [lv]; exact fits_of_scanBound hb
  have pv : (vs.map keyV).Perm ks := by
    have q := pm.map keyV
    rw [List.map_map] at q
    exact q.trans pk
  have each : PySem.W.EachIs (fun (v : Value) (k : Key) => keyIs k v = true) vs (vs.map keyV) := by
    have q := PySem.W.EachIs.of (R := fun (v : Value) (k : Key) => keyIs k v = true) (zs := vs.map fun v => (v, keyV v)) fun p hp => by
      obtain ⟨v, hv, rfl⟩ := List.mem_map.mp hp
      obtain ⟨e, he, rfl⟩ := List.mem_map.mp (pm.mem_iff.mp hv)
      obtain ⟨k, h1, _⟩ := g e he
      show keyIs (keyV e.2) e.2 = true
      rw [keyV_of h1]
      exact h1
    simpa [List.map_map, Function.comp_def] using q
  refine wpAny_bind (wpAny_newList ?_ lz)
  have hoL : (s1.heap.push (seqObj "list" vs.toArray 0)).get? s1.heap.objs.size = some (seqObj "list" vs.toArray 0) := Heap.get?_push_size _ rfl
  have okv : OneKind (vs.map keyV) := ok.perm pv
  refine wpAny_bind (wpAny_holding ?_)
  refine PySem.W.list_sort_data (s := { s1 with heap := s1.heap.push (seqObj "list" vs.toArray 0) }) (enc := encK) hoL each (each.mono fun v k e => ?_) okv.alike (encK_sortable _) (by rw [List.length_map]; exact lz) (fun k _ => ?_) fun out hlen hout => ?_
  · rcases keyIs_shape e with ⟨i, t, rfl, rfl⟩ | ⟨x, t, rfl, rfl⟩
    · exact ⟨_, Reads.int i t, by simp⟩
    · exact ⟨_, Reads.str x t, by simp⟩
  · have d0 : (encK k).depth = 0 := by cases k <;> rfl
    rw [d0]
    show A.units + 1 + 1 + 0 < cLine
    omega
  · obtain ⟨c, hc⟩ := sortedHeap_at (vs := vs) (out := out.toArray) hoL
    have pr : ((vs.map keyV).mergeSort (PySem.W.dataLe false encK)).Perm ks := (List.mergeSort_perm _ _).trans pv
    have kk : KeysAre ((vs.map keyV).mergeSort (PySem.W.dataLe false encK)) out := by
      generalize (vs.map keyV).mergeSort (PySem.W.dataLe false encK) = ls at hout
      clear pr hlen hc
      induction hout with
      | nil => exact .nil
      | cons r _ ih => exact .cons r ih
    refine wpAny_pure ⟨_, rfl, hQ { s1 with heap := sortedHeap (s1.heap.push (seqObj "list" vs.toArray 0)) s1.heap.objs.size vs out.toArray } s1.heap.objs.size out c _ (fun b u e => ?_) g1 o1 hz hc kk pr ?_⟩
    · have q := k1 b u e
      have lt := Heap.lt_size q
      show (sortedHeap (s1.heap.push (seqObj "list" vs.toArray 0)) s1.heap.objs.size vs out.toArray).get? b = some u
      rw [sortedHeap_old (Nat.ne_of_lt lt) (by rw [size_push']; exact Nat.lt_succ_of_lt lt)]
      exact Heap.get?_push_of_some _ q
    · exact PySem.W.sort_pairwise (PySem.W.sortLe_total _ _ _) _
end
end Cry
/-! The layer, further: defs that know that no repr is under way; repr, sorted, < of data; lists unpacked; sets of keys at the layer. -/
namespace Cry
open PySem PySem.Spec PyProof.Rows L2

/-! ### defs within which repr may be asked -/
structure FnG (P : Program) (w : World) (K : PySem.W.Frag) (mg : Str → Option Value) (base : Heap) (CX : CXT) (k : Nat) (f : Addr) (fd : FuncData) (ps : List Str) (sp : Sp) : Prop where
  len : ∀ vs H Q E, sp vs H Q E → vs.length = ps.length
  run : ∀ (A : Around) (outer : List Env) (s : Shared) (H : Hp) (args : Args) (us : List Value) (vs : List V) (Q : VK) (E : XK), A.guards = some [] → Room k A → Env0 P w K mg base A outer s H → BindsTo s fd args (ps.zip us) → Vals vs us → sp vs H Q E →
    codeAny (model P w) A (.call (.ref f) args) (CR CX outer P w H s Q E) s
theorem FnG.mono {P : Program} {w : World} {K : PySem.W.Frag} {mg : Str → Option Value} {base : Heap} {CX : CXT} {j k : Nat} {f : Addr} {fd : FuncData} {ps : List Str} {sp : Sp} (F : FnG P w K mg base CX j f fd ps sp) (h : j ≤ k) : FnG P w K mg base CX k f fd ps sp :=
  ⟨F.len, fun A outer s H args us vs Q E hg hr => F.run A outer s H args us vs Q E hg (hr.mono h)⟩
theorem deeper_guards (A : Around) (env : Env) : (A.deeper env).guards = A.guards := rfl
section
variable {P : Program} {w : World} {K : PySem.W.Frag} {mg : Str → Option Value} {base : Heap}
theorem okG {x qual : Str} {st : Stmt} {f : Addr} {fd : FuncData} {N ps : List Str} {k : Nat} {sp : Sp} (F : Fun K x qual st f fd) (S : FnScope N ps (defScope st)) (len : ∀ vs H Q E, sp vs H Q E → vs.length = ps.length)
    (body : ∀ (cdv : Value) (A : Around) (outer : List Env) (s : Shared) (H : Hp) (vs : List V) (Q : VK) (E : XK), A.guards = some [] → Room k (A.deeper (envOfC qual (defScope st) s.heap.objs.size f cdv)) → sp vs H Q E →
      ∃ t, PSs (cxOf CX0 P w K mg base N qual (defScope st) f cdv A outer s H E).nox (defBody st) t ∧ t { nx := fun _ H' => Q .non H', rt := Q } (start N vs) H) : FnG P w K mg base CX0 (k + 1) f fd ps sp := by
  obtain ⟨oc, od, kV, doc, pm, an, cdv, ct, osl, rfl, lk, hcd⟩ := F.ex
  refine ⟨len, fun A outer s H args us vs Q E hg hr e0 hb r hsp => ?_⟩
  have hl := len _ _ _ _ hsp
  have kin : K.In s.heap := e0.mod.kin.keeps fun b o e => (e0.bs b o e).1
  have nolim : s.heap.NoLimit := e0.mod.nolimit.keeps fun b o e => (e0.bs b o e).1
  have kinds : ∀ y ∈ ps.zip us, (defScope st).names.lookup y.1 = some .local ∨ ((defScope st).names.lookup y.1 = some .cell ∧ ((cellsFrom (s.heap.objs.size + 1) (defScope st).names []).lookup y.1).isSome = true) := by
    rintro ⟨n, v⟩ hy
    rcases S.par n (List.of_mem_zip hy).1 with q | q
    · exact .inl q
    · exact .inr ⟨q, PySem.W.cellsFrom_some _ _ _ (.inl q)⟩
  refine codeAny_call_function hr.depth (kin _ _ lk) rfl S.co S.gen rfl (PySem.W.codeRec_of kin hcd) (hb _ _ _ _ ?_)
  refine wpAny_newFunctionEnv_cells S.kind kinds fun env he s1 y => ?_
  subst he
  refine ⟨nolim.keeps y.toInCall.keep, codeAny_func ?_⟩
  obtain ⟨t, ht, hq⟩ := body cdv A outer s H vs Q E hg (hr.deeper _) hsp
  have J0 := inv_start (CX := CX0) (E := E) S hr.hd e0 hl r y
  refine wpAny_mono (ht.nox.run [] s1 (start N vs) H _ J0 hq) (fun fl s' z => ?_) fun e s' z => z
  cases fl with
  | ret u =>
    obtain ⟨v, σ', H', J, rv, q⟩ := z
    exact ⟨v, H', J.os, J.bare, J.base, J.hok, rv, q⟩
  | next =>
    obtain ⟨σ', H', J, q⟩ := z
    exact ⟨V.non, H', J.os, J.bare, J.base, J.hok, rfl, q⟩
  | brk =>
    obtain ⟨_, _, _, q⟩ := z
    exact False.elim q
  | cont =>
    obtain ⟨_, _, _, q⟩ := z
    exact False.elim q
end
/-! ### a call of such a def -/
section
variable {X : Cx} {CX : CXT} {k : Nat} {f : Addr} {fd : FuncData} {ps : List Str} {sp : Sp} {dvs : List V} {ds : List Value} {E : XK} {x : Str} {p pos : Pos} {e : Expr} {es : List Expr} {t : TA}
theorem runG {pins : List (Addr × Obj)} {σ : L2.St} {H : Hp} {s : Shared} {Q : VK} {us : List Value} {vs : List V} (F : FnG X.prog X.w X.K X.mg X.base CX k f fd ps sp) (hg : X.A.guards = some []) (hr : Room k X.A) (hb : Binds X.K fd ps ds) (hd : Vals dvs ds) (hx : Passes CX X E)
    (I : Inv X pins σ H s) (r : Vals vs us) (h : sp (vs ++ dvs) H Q E) : wpAny (model X.prog X.w) X.A (call (.ref f) us) (EP X pins σ Q) X.xe s := by
  have rr : Vals (vs ++ dvs) (us ++ ds) := r.append hd
  have hl : (us ++ ds).length = ps.length := by
    rw [← rr.length]
    exact F.len _ _ _ _ h
  refine wpAny_call (codeAny_mono (F.run X.A X.stack s H ⟨us, []⟩ (us ++ ds) (vs ++ dvs) Q E hg hr I.env0 (hb s us I.kIn hl) rr h) fun z s' hq => ?_)
  cases z with
  | error e => exact hx pins σ H s e s' I hq
  | ok fl =>
    cases fl with
    | ret u => exact I.after hq
    | next => exact False.elim hq
    | brk => exact False.elim hq
    | cont => exact False.elim hq
theorem pe_callG (F : FnG X.prog X.w X.K X.mg X.base CX k f fd ps sp) (hgd : X.A.guards = some []) (hr : Room k X.A) (hg : Gl X x) (hm : X.mg x = some (.ref f)) (hk : PySem.W.keepIn X.K (.ref f) = true) (hb : Binds X.K fd ps ds) (hd : Vals dvs ds) (hx : Passes CX X E)
    (ha : PA X (e :: es) t) (hdb : (x == ("__debug__" : Str)) = false := by decide) (he : starEach (e :: es) X.env = (false, eval e X.env) :: starEach es X.env := by rfl) (hpl : (backTo pos (starEach es X.env)).any (·.1) = false := by rfl) :
    PE X (.Call (.Name x p) (e :: es) [] pos) (tCall sp dvs E t) := by
  refine ⟨fun pins s σ H Q I h => ?_⟩
  refine wpAny_Call_Name_kw (ld_glob I hg hm ?_ hdb)
  refine PySem.W.callWith_K (h₀ := X.base) I.ok.mod.kin hk (thn (ha.run pos pins s σ H _ I h) fun us s1 ⟨vs, H1, I1, r, q⟩ => ⟨I1.kIn, ?_⟩) he hpl
  exact runG F hgd hr hb hd hx I1 r q
end

/-! ### the head: the law's promise at the heap behind the top -/
theorem law_callG {P : Program} {w : World} {K : PySem.W.Frag} {mg mb : Str → Option Value} {k : Nat} {fa a : Addr} {fd : FuncData} {x : Str} {sp : Sp} {s1 : Shared} {vs : List Value} {ns : List Int}
    (KX : K.In s1.heap) (hns : s1.heap.Ns mainGlobals mg) (hb : s1.heap.Ns builtinsNs mb) (hbb : ∀ x : Str, x ≠ "__name__" → mb x = bootBuiltins x) (hlim : s1.heap.NoLimit) (hg : s1.gens = #[])
    (ha : s1.heap.get? a = some { cls := .type "list", data := .seq vs.toArray }) (hi : IntsAre vs ns) (hl : ns.length ≤ sizeLine) (hr : Room k callerA)
    (F : ∀ base : Heap, K.In base → base.Ns mainGlobals mg → FnG P w K mg base CX0 k fa fd [x] sp) (hbind : ∀ (s : Shared) (u : Value), BindsTo s fd ⟨[u], []⟩ [(x, u)])
    (hsp : ∀ H : Hp, Only H → SqL K H a (ns.map V.int) → sp [.ref a] H (fun v _ => v = .bl true) fun _ _ _ => False) :
    codeAny (model P w) callerA (.call (.ref fa) ⟨[.ref a], []⟩) (fun r s' => r = .ok (.ret (.bool true)) ∧ OldK s1.heap s'.heap ∧ s'.os = s1.os ∧ AllBare s'.gens) s1 := by
  have rv := vals_ints hi
  have lv := hi.length
  have core : ∀ H : Hp, Only H → SqL K H a (ns.map V.int) → HOk P w H s1.heap → (∀ b, H b ≠ none → b = a) → (H a ≠ none → K.lookup a = none) →
      codeAny (model P w) callerA (.call (.ref fa) ⟨[.ref a], []⟩) (fun r s' => r = .ok (.ret (.bool true)) ∧ OldK s1.heap s'.heap ∧ s'.os = s1.os ∧ AllBare s'.gens) s1 := by
    intro H hO hS hok hA hK
    have free : ∀ {b : Addr} {o : Obj} {es : Array DictEntry} {ep : Nat}, s1.heap.get? b = some o → o.data = .dict es ep → H b = none := by
      intro b o es ep e d
      cases q : H b with
      | none => rfl
      | some u =>
        obtain rfl := hA b (by rw [q]; simp)
        rw [ha] at e
        cases e
        exact nomatch (show Data.seq vs.toArray _ = Data.dict es ep from d)
    have ns1 : ∀ {b : Addr} {m : Str → Option Value}, s1.heap.Ns b m → (hidT s1.heap H).Ns b m := fun {b m} ⟨o, es, ep, e, d, r⟩ => ⟨o, es, ep, hidT_get e (free e d), d, r⟩
    have kb : K.In (hidT s1.heap H) := fun b o e => hidT_get (KX b o e) (by
      cases q : H b with
      | none => rfl
      | some u =>
        obtain rfl := hA b (by rw [q]; simp)
        rw [hK (by rw [q]; simp)] at e
        cases e)
    have md : Mod K mg (hidT s1.heap H) := ⟨kb, ns1 hns, ⟨mb, ns1 hb, hbb⟩, let ⟨mc, h1, h2⟩ := hlim; ⟨mc, ns1 h1, h2⟩⟩
    have e0 : Env0 P w K mg (hidT s1.heap H) callerA [] s1 H := ⟨rfl, md, fun b o e => of_hidT e, Nat.le_of_eq (hidT_size _ _), trivial, fun b hb => absurd (show b ∈ ([] : List Addr) from hb) (by simp), hok, .of_eq hg⟩
    refine codeAny_mono ((F _ kb (ns1 hns)).run callerA [] s1 H ⟨[.ref a], []⟩ [.ref a] [.ref a] _ _ rfl hr e0 (hbind s1 (.ref a)) (.cons rfl .nil) (hsp H hO hS)) fun r s' h => ?_
    cases r with
    | error e =>
      have h' : CX0 [] H s1 (fun _ _ _ => False) e s' := h
      exact h'.elim
    | ok fl =>
      cases fl with
      | next => exact False.elim h
      | brk => exact False.elim h
      | cont => exact False.elim h
      | ret u =>
        obtain ⟨v, H', os, bare, un, hok', r', q⟩ := h
        obtain rfl : v = .bl true := q
        obtain rfl : u = Value.bool true := r'
        refine ⟨rfl, OldK.of_keep fun b o e => ?_, os, bare⟩
        cases q : H b with
        | none => exact un.keep b o e q (by intro z; exact absurd (show b ∈ ([] : List Addr) from z) (by simp)) (by simp)
        | some u =>
          rcases hO b with z | ⟨ob, xs, z⟩
          · rw [q] at z
            cases z
          · obtain ⟨e1, _⟩ := hok b _ z
            obtain ⟨e2, _⟩ := hok' b _ (un.frzs b ob _ z)
            rw [e] at e1
            cases e1
            exact e2
  cases hk : K.lookup a with
  | some o =>
    have e := KX a o hk
    rw [ha] at e
    cases e
    refine core (fun _ => none) (fun _ => .inl rfl) (.inr ⟨_, vs.toArray, _, hk, rfl, rfl, rfl, by rw [List.size_toArray, lv]; exact hl, by simpa using rv⟩) (fun b u z => nomatch (show (none : Option HO) = some u from z)) (fun b z => absurd rfl z) fun z => absurd rfl z
  | none =>
    have tr : ∀ b, (if b = a then some (HO.frz { cls := .type "list", data := .seq vs.toArray } (.lst (ns.map V.int))) else none) ≠ none → b = a := fun b z => by
      by_cases hb : b = a
      · exact hb
      · exact absurd (if_neg hb) z
    refine core (fun b => if b = a then some (.frz { cls := .type "list", data := .seq vs.toArray } (.lst (ns.map V.int))) else none) (fun b => ?_) (.inl (.inr ⟨{ cls := .type "list", data := .seq vs.toArray }, if_pos rfl⟩)) (fun b u z => ?_) tr fun _ => hk
    · by_cases hb : b = a
      · exact .inr ⟨_, _, if_pos hb⟩
      · exact .inl (if_neg hb)
    · have hb : b = a := tr b (by rw [show (if b = a then some (HO.frz { cls := .type "list", data := .seq vs.toArray } (.lst (ns.map V.int))) else none) = some u from z]; simp)
      subst hb
      cases (if_pos rfl).symm.trans z
      exact ⟨ha, by rw [List.length_map]; exact hl, vs, _, rv, ha⟩
theorem walkG {l : PySem.W.OpenLaw} {n k : Nat} {q : Program} {loose : List Str} {XP : (Str → Option Value) → Heap → Prop} {YP : World → Heap → Prop} {d : DefRec} {K : Params → PySem.W.Frag} {sp : World → Sp} {x : Str}
    (hn : l.most = some n) (hn2 : n ≤ sizeLine) (hdf : d.params.defaults = []) (hr : Room k callerA)
    (hY : ∀ (w : World) (h : Heap), YP w h → (K w.params).In h)
    (F : ∀ (w : World) (mg : Str → Option Value) (fa : Addr) (h : Heap), (K w.params).In h → h.Ns mainGlobals mg → mg d.name = some (.ref fa) →
      ∃ fd : FuncData, (∀ (s : Shared) (u : Value), BindsTo s fd ⟨[u], []⟩ [(x, u)]) ∧
        ∀ base : Heap, (K w.params).In base → base.Ns mainGlobals mg → FnG l.prog w (K w.params) mg base CX0 k fa fd [x] (sp w))
    (hsp : ∀ (w : World) (H : Hp) (a : Addr) (ns : List Int), ns.length ≤ n → Only H → SqL (K w.params) H a (ns.map V.int) → sp w [.ref a] H (fun v _ => v = .bl true) fun _ _ _ => False) :
    PySem.W.WalkO q loose XP YP l.row.toRowW d [] (fun f vs => PySem.call f vs) := by
  refine Att.attach_call hn hdf fun w s0 s1 mg mb fa o pm cd doc a vs ns G Y ho hd hcd hmg hobj hints hlen hg => ?_
  obtain ⟨fd, hb, hF⟩ := F w mg fa _ (hY w _ Y) G.T.g hmg
  exact law_callG (hY w _ Y) G.T.g G.T.b G.T.builtins G.T.nolimit hg hobj hints (Nat.le_trans hlen hn2) hr hF hb fun H hO hS => hsp w H a ns hlen hO hS
end Cry
/-! Rules at the layer: set and sorted of keys; sorted, <, repr of data; a list unpacked; items of a list or a tuple. -/
namespace Cry
open PySem PySem.Spec PyProof.Rows L2
abbrev Slots := L2.St

/-! ### set(xs), sorted(set) -/
/-- a set of keys that stands at a -/
def KO (w : World) (a : Addr) (ks : List Key) : HO := .ext fun h => KSet w h a ks
theorem kO_new {P : Program} {w : World} {H : Hp} {h : Heap} {a : Addr} {ks : List Key} (R : KSet w h a ks) : ObjOk P w H h a (KO w a ks) := by
  refine ⟨R, ?_, fun h1 h2 r k => r.at k⟩
  obtain ⟨o, _, _, _, ho, _⟩ := R
  exact ⟨o, ho⟩
section
variable {X : Cx} {pins : List (Addr × Obj)} {σ : Slots} {H : Hp} {s : Shared}
theorem kO_get {a : Addr} {ks : List Key} (I : Inv X pins σ H s) (ha : H a = some (KO X.w a ks)) : KSet X.w s.heap a ks := (I.hok a _ ha).1
theorem keys_vals : ∀ {ks : List Key} {us : List Value}, Vals (ks.map kV) us → KeysAre ks us
  | [], us, r => by
    cases r
    exact .nil
  | k :: ks, us, r => by
    cases r with
    | cons h t =>
      refine .cons ?_ (keys_vals t)
      cases k with
      | inl i =>
        obtain ⟨t, rfl⟩ := h
        exact keyIs_int i t
      | inr x =>
        obtain ⟨t, rfl⟩ := h
        exact keyIs_str x t
theorem vals_keys : ∀ {ks : List Key} {us : List Value}, KeysAre ks us → Vals (ks.map kV) us
  | _, _, .nil => .nil
  | _, _, .cons h t => by
    refine .cons ?_ (vals_keys t)
    rcases keyIs_shape h with ⟨i, t, rfl, rfl⟩ | ⟨x, t, rfl, rfl⟩
    · exact ⟨t, rfl⟩
    · exact ⟨t, rfl⟩
/-- set(xs), xs a list or a tuple of ints and texts -/
def rSetK (K : PySem.W.Frag) (w : World) : List V → Hp → VK → Prop := fun vs H Q => ∃ (a : Addr) (ks : List Key), vs = [V.ref a] ∧ (SqL K H a (ks.map kV) ∨ SqT K H a (ks.map kV)) ∧ ks.length + 1 < scanBound ∧
  ∀ p, H p = none → Q (.ref p) (upd H p (KO w p (dedK ks)))
theorem cr_setK (hc : X.calm = true) : CallR X (.type "set") (rSetK X.K X.w) := by
  intro pins s σ H vs us Q I r h
  obtain ⟨a, ks, rfl, hs, hz, q⟩ := h
  rw [Vals.ref1 r]
  have fin : ∀ (h' : Heap) (tk : Nat), KSet X.w h' s.heap.objs.size (dedK ks) → (∀ b o, s.heap.get? b = some o → h'.get? b = some o) → EP X pins σ Q (.ref s.heap.objs.size) { s with heap := h', toks := tk } := fun h' tk R kp =>
    ⟨.ref s.heap.objs.size, _, I.laid (t' := tk) kp (Nat.le_refl _) (kO_new R), rfl, q _ (I.hok.fresh (Nat.le_refl _))⟩
  rcases hs with hs | hs
  · obtain ⟨its, rv, pl, _⟩ := I.list hs
    exact call_set_list (I.ok.hd hc) pl.isList (keys_vals (by simpa using rv)) hz fin
  · obtain ⟨its, rv, pt, _⟩ := I.tuple hs
    exact call_set_tup (I.ok.hd hc) pt (keys_vals (by simpa using rv)) hz fin
/-- sorted of a set of keys of one kind -/
def rSortedK (w : World) : List V → Hp → VK → Prop := fun vs H Q => ∃ (a : Addr) (ks : List Key), vs = [V.ref a] ∧ H a = some (KO w a ks) ∧ OneKind ks ∧
  ∀ (ls : List Key) (p : Addr), ls.Perm ks → ls.Pairwise (fun x y => PySem.W.dataLe false encK x y = true) → H p = none → Q (.ref p) (upd H p (.lst (ls.map kV)))
theorem cr_sortedK (hc : X.calm = true) (hu : X.A.units + 64 < cLine) : CallR X (.builtin "sorted") (rSortedK X.w) := by
  intro pins s σ H vs us Q I r h
  obtain ⟨a, ks, rfl, ha, ok, q⟩ := h
  have R := kO_get I ha
  rw [Vals.ref1 r]
  have lk : ks.length ≤ sizeLine := by
    obtain ⟨o, es, ep, t, _, _, _, _, pk, _, hb, _⟩ := id R
    have := pk.length_eq
    rw [List.length_map, Array.length_toList] at this
    rw [← this]
    exact fits_of_scanBound hb
  refine sorted_kset R (I.ok.hd hc) ok (by omega) fun s' p out c ls k g o hp hat hk pm so => ?_
  have hn : H p = none := I.hok.fresh hp
  have J : Inv X pins σ (upd H p (.lst (ls.map kV))) { s with heap := s'.heap, gens := s'.gens, drawn := s'.drawn, toks := s'.toks } :=
    I.call (ch := []) (Un.laid k hp hn) (I.hok.laid k hp ⟨by rw [List.length_map, pm.length_eq]; exact lk, out, c, vals_keys hk, hat⟩) (by rw [g]; exact I.bare) (fun _ z => nomatch z)
  have e : s' = { s with heap := s'.heap, gens := s'.gens, drawn := s'.drawn, toks := s'.toks } := by
    cases s'
    cases s
    cases o
    rfl
  rw [e]
  exact ⟨.ref p, _, J, rfl, q ls p pm so hn⟩

/-! ### data: values with what they stand for -/
/-- each value stands for its datum -/
def Dps (K : PySem.W.Frag) (H : Hp) (bs : List (V × PyData)) : Prop := ∀ b ∈ bs, Dp K H b.1 b.2
/-- sorted(xs), xs a list of alike data: the very same values, in their order -/
def rSortedD (K : PySem.W.Frag) : List V → Hp → VK → Prop := fun vs H Q => ∃ (a : Addr) (bs : List (V × PyData)), vs = [V.ref a] ∧ SqL K H a (bs.map Prod.fst) ∧ Dps K H bs ∧
  PySem.W.AllAlike (bs.map Prod.snd) ∧ PySem.W.Sortable (bs.map Prod.snd) ∧ (∀ b ∈ bs, b.2.depth ≤ 20) ∧
  ∀ p, H p = none → Q (.ref p) (upd H p (.lst ((bs.mergeSort (PySem.W.dataLe false Prod.snd)).map Prod.fst)))
theorem each_vals : ∀ {bs : List (V × PyData)} {us : List Value}, Vals (bs.map Prod.fst) us → PySem.W.EachIs (fun (v : Value) (b : V × PyData) => RelV b.1 v) us bs
  | [], us, r => by
    cases r
    exact .nil
  | b :: bs, us, r => by
    cases r with
    | cons h t => exact .cons h (each_vals t)
theorem vals_each : ∀ {bs : List (V × PyData)} {us : List Value}, PySem.W.EachIs (fun (v : Value) (b : V × PyData) => RelV b.1 v) us bs → Vals (bs.map Prod.fst) us
  | _, _, .nil => .nil
  | _, _, .cons h t => .cons h (vals_each t)
theorem each_reads (I : Inv X pins σ H s) : ∀ {bs : List (V × PyData)} {us : List Value}, Dps X.K H bs → PySem.W.EachIs (fun (v : Value) (b : V × PyData) => RelV b.1 v) us bs →
    PySem.W.EachIs (fun (v : Value) (b : V × PyData) => ∃ as, Reads s.heap v b.2 as) us bs
  | _, _, _, .nil => .nil
  | b :: bs, _, d, .cons h t => .cons (Dp.reads I b.2 b.1 _ (d b List.mem_cons_self) h) (each_reads I (fun c hc => d c (List.mem_cons_of_mem _ hc)) t)
theorem cr_sortedD (hu : X.A.units + 64 < cLine) : CallR X (.builtin "sorted") (rSortedD X.K) := by
  intro pins s σ H vs us Q I r h
  obtain ⟨a, bs, rfl, hs, hd, al, so, dp, q⟩ := h
  rw [Vals.ref1 r]
  obtain ⟨its, rv, pl, lz⟩ := I.list hs
  have ea := each_vals rv
  rw [List.length_map] at lz
  refine PySem.W.sorted_data (enc := Prod.snd) pl.isList ea (each_reads I hd ea) al so lz (fun b hb => ?_) fun out hl ho => ?_
  · have := dp b hb
    omega
  · obtain ⟨e, hat⟩ := sortedAll_at s.heap its out.toArray
    have hp : s.heap.objs.size ≤ s.heap.objs.size + 1 := Nat.le_succ _
    have new : ObjOk X.prog X.w (upd H (s.heap.objs.size + 1) (.lst ((bs.mergeSort (PySem.W.dataLe false Prod.snd)).map Prod.fst))) (sortedAll s.heap its out.toArray) (s.heap.objs.size + 1) (.lst ((bs.mergeSort (PySem.W.dataLe false Prod.snd)).map Prod.fst)) :=
      ⟨by rw [List.length_map, List.length_mergeSort]; exact lz, out, e, vals_each ho, hat⟩
    exact ⟨.ref (s.heap.objs.size + 1), _, I.laid (t' := s.toks) (fun b u z => sortedAll_old z) hp new, rfl, q _ (I.hok.fresh hp)⟩
/-- x < y of alike data -/
def rLtD (K : PySem.W.Frag) : R2 := fun x y H Q => ∃ d e, Dp K H x d ∧ Dp K H y e ∧ PySem.W.alike d e = true ∧ d ≠ .none ∧ d.depth ≤ 20 ∧ Q (.bl (PySem.W.dataLt d e)) H
theorem op_ltD (hu : X.A.units + 64 < cLine) : OpR X (compareOp .Lt) (rLtD X.K) := by
  intro pins s σ H x y v u Q I rx ry h
  obtain ⟨d, e, hd, he, al, nn, dp, q⟩ := h
  obtain ⟨as, r1⟩ := Dp.reads I d x v hd rx
  obtain ⟨bs, r2⟩ := Dp.reads I e y u he ry
  exact PySem.W.rcLt_alike d e X.A s v u as bs r1 r2 al nn (by omega) _ _ _ _ ⟨.bl _, H, I, rfl, q⟩
/-- repr of data that has no dict in it, where no repr is under way -/
def rReprD (K : PySem.W.Frag) : List V → Hp → VK → Prop := fun vs H Q => ∃ (x : V) (d : PyData), vs = [x] ∧ Dp K H x d ∧ d.depth ≤ 20 ∧ d.shown.length ≤ sizeLine ∧ (∀ i, d = .int i → i.natAbs.log2 < 1920) ∧ Q (.str d.shown) H
end
end Cry
/-! repr of data; a list unpacked; a walk over a list or a tuple. -/
namespace Cry
open PySem PySem.Spec PyProof.Rows L2

/-! ### repr -/
mutual
theorem dp_nodict {K : PySem.W.Frag} {H : Hp} : ∀ (d : PyData) (v : V), Dp K H v d → d.hasDict = false
  | .none, _, _ => by simp only [PyData.hasDict]
  | .bool _, _, _ => by simp only [PyData.hasDict]
  | .int _, _, _ => by simp only [PyData.hasDict]
  | .str _, _, _ => by simp only [PyData.hasDict]
  | .list ds, _, h => by
    cases h with
    | lst _ ha =>
      simp only [PyData.hasDict]
      exact dps_nodict ds _ ha
  | .tuple ds, _, h => by
    cases h with
    | tup _ ha =>
      simp only [PyData.hasDict]
      exact dps_nodict ds _ ha
  | .dict _, _, h => by cases h
theorem dps_nodict {K : PySem.W.Frag} {H : Hp} : ∀ (ds : List PyData) (vs : List V), DpAll K H vs ds → PyData.hasDictAll ds = false
  | [], _, _ => by simp only [PyData.hasDictAll]
  | d :: ds, _, h => by
    cases h with
    | cons h1 h2 => simp only [PyData.hasDictAll, dp_nodict d _ h1, dps_nodict ds _ h2, Bool.or_self]
end
section
variable {X : Cx} {pins : List (Addr × Obj)} {σ : Slots} {H : Hp} {s : Shared}
/-- repr(x), where no repr is under way -/
def rRepr (K : PySem.W.Frag) : List V → Hp → VK → Prop := fun vs H Q => ∃ (x : V) (d : PyData), vs = [x] ∧ Dp K H x d ∧ d.depth ≤ 20 ∧ d.shown.length ≤ sizeLine ∧ d.showable = true ∧ Q (.str d.shown) H
theorem cr_repr (hg : X.A.guards = some []) (hu : X.A.units + 64 < cLine) : CallR X (.builtin "repr") (rRepr X.K) := by
  intro pins s σ H vs us Q I r h
  obtain ⟨x, d, rfl, hd, dp, sz, sh, q⟩ := h
  obtain ⟨u, rfl, ru⟩ := vals1 r
  have nd := dp_nodict d x hd
  obtain ⟨as, rd⟩ := Dp.reads I d x u hd ru
  cases d with
  | none =>
    cases rd
    exact P.repr_of_none ⟨.str _, H, I.tok _, ⟨_, rfl⟩, q⟩
  | bool b =>
    cases rd
    exact P.repr_of_bool ⟨.str _, H, I.tok _, ⟨_, rfl⟩, q⟩
  | int i =>
    cases rd with
    | int i t => exact P.repr_of_int (by simpa [PyData.showable] using sh) ⟨.str _, H, I.tok _, ⟨_, rfl⟩, q⟩
  | str y =>
    cases rd with
    | str y t => exact P.repr_of_str ⟨.str _, H, I.tok _, ⟨_, rfl⟩, q⟩ sz
  | list ds =>
    cases hd with
    | lst hs ha =>
      obtain rfl : u = Value.ref _ := ru
      exact repr_of_reads' rd sh (fun z => absurd (nd.symm.trans z) (by decide)) hg (by omega) (fun _ _ e => e) (fun h' u' tk kp => ⟨.str _, H, I.kept (t' := tk) kp, ⟨_, rfl⟩, q⟩) sz
  | tuple ds =>
    cases hd with
    | tup hs ha =>
      obtain rfl : u = Value.ref _ := ru
      exact repr_of_reads' rd sh (fun z => absurd (nd.symm.trans z) (by decide)) hg (by omega) (fun _ _ e => e) (fun h' u' tk kp => ⟨.str _, H, I.kept (t' := tk) kp, ⟨_, rfl⟩, q⟩) sz
  | dict kvs => cases hd

/-! ### a, b = a list -/
end
section
variable {prog : Program} {w : World} {A : Around} {E : Value → Shared → Prop} {s : Shared}
theorem draw_lst {it l : Addr} {items : Array Value} (hne : l ≠ it) : ∀ (n i : Nat) (s : Shared) (Q : List Value → Shared → Prop), s.heap.IsListIter it l i → s.heap.IsList l items → i + n ≤ items.size →
    (∀ h', h'.IsListIter it l (i + n) → Heap.SameBut it s.heap h' → Q ((items.toList.drop i).take n) { s with heap := h' }) → wpAny (model prog w) A (draw (.ref it) n) Q E s
  | 0, i, s, Q, st, _, _, hQ => by
    show wpAny _ _ (pure []) Q E s
    exact wpAny_pure (by simpa using hQ s.heap st (Heap.SameBut.refl ..))
  | n + 1, i, s, Q, st, hl, le, hQ => by
    have lt : i < items.size := by omega
    show wpAny _ _ (pyNext (.ref it) >>= _) Q E s
    refine wpAny_bind (wpAny_pyNext_list_item st hl (x := items[i]) (by simp [lt]) fun h1 st1 sb => ?_)
    have hl1 : h1.IsList l items := by
      obtain ⟨o, ho, hc, nn, hd⟩ := hl
      exact ⟨o, sb.extBut l o hne ho, hc, nn, hd⟩
    refine wpAny_bind (wpAny_holding (draw_lst hne n (i + 1) _ _ st1 hl1 (by omega) fun h2 st2 sb2 => wpAny_pure ?_))
    have q := hQ h2 (by rw [show i + (n + 1) = i + 1 + n by omega]; exact st2) (sb.trans sb2)
    rw [show items.toList.drop i = items[i] :: items.toList.drop (i + 1) by simp [List.drop_eq_getElem_cons, lt], List.take_succ_cons] at q
    exact q
theorem unpackItems_lst {l : Addr} {items : Array Value} {Q : List Value → Shared → Prop} (hh : A.handled = none) (hl : s.heap.IsList l items)
    (hQ : ∀ h', Heap.ExtBut s.heap.objs.size s.heap h' → Q items.toList { s with heap := h' }) : wpAny (model prog w) A (unpackItems (.ref l) items.size none) Q E s := by
  have hne : l ≠ s.heap.objs.size := by
    obtain ⟨o, ho, _⟩ := hl
    exact Nat.ne_of_lt (Heap.lt_size ho)
  have pushed : (s.heap.push { cls := .type "list_iterator", data := .fields #[.ref l, .int 0 0] }).IsList l items := by
    obtain ⟨o, ho, hc, nn, hd⟩ := hl
    exact ⟨o, Heap.get?_push_of_some _ ho, hc, nn, hd⟩
  unfold unpackItems
  refine wpAny_bind ?_
  unfold notIterableAtAll
  refine wpAny_bind (wpAny_specialOf hl.typeIs slot_list_iter.lookup ?_)
  refine wpAny_pure ?_
  simp only [Bool.false_eq_true, if_false]
  refine wpAny_bind (wpAny_holding (wpAny_pyIter_list hl ?_))
  refine wpAny_bind (wpAny_holding (draw_lst hne items.size 0 _ _ ⟨_, Heap.get?_push_size _ rfl, rfl, rfl⟩ pushed (by omega) fun h1 st1 sb => ?_))
  rw [List.drop_zero, List.take_of_length_le (by simp), if_neg (by simp)]
  have hl1 : h1.IsList l items := by
    obtain ⟨o, ho, hc, nn, hd⟩ := pushed
    exact ⟨o, sb.extBut l o hne ho, hc, nn, hd⟩
  refine wpAny_bind (wpAny_holding (wpAny_pyNext_list_end hh st1 hl1 (by simp) fun h2 eb => ?_))
  simp only [Option.isSome_none, Bool.false_eq_true, if_false]
  exact wpAny_pure (hQ h2 fun b o hb e => eb b o hb (sb.extBut b o hb (Heap.get?_push_of_some _ e)))
theorem assign_lst {env : Env} {elts : List Expr} {x1} {pos : Pos} {l : Addr} {items : Array Value} {Q : Unit → Shared → Prop} (hh : A.handled = none) (hl : s.heap.IsList l items)
    (hn : (assignEach elts env).length = items.size) (hst : (assignEach elts env).findIdx? (·.1) = none)
    (h : ∀ h', Heap.ExtBut s.heap.objs.size s.heap h' → wpAny (model prog w) A (assignInOrder ((assignEach elts env).map (·.2)) items.toList) Q E { s with heap := h' }) :
    wpAny (model prog w) A (assign (.Tuple elts x1 pos) env (.ref l)) Q E s := by
  rw [arm_assign_Tuple]
  refine wpAny_bind (wpAny_standAt ?_)
  unfold unpack
  rw [hn, hst]
  exact wpAny_bind (wpAny_holding (unpackItems_lst hh hl h))
end
section
variable {X : Cx}
/-- (a, b, ..) = a list or a tuple of that length -/
def gRow (K : PySem.W.Frag) (n : Nat) (t : TGs) : TG := fun v σ H Q => ∃ a xs, v = .ref a ∧ (SqL K H a xs ∨ SqT K H a xs) ∧ xs.length = n ∧ t xs σ H Q
theorem pg_row {es : List Expr} {k : Nat} {pos : Pos} {t : TGs} {n : Nat} (hc : X.calm = true) (h : PGs X es t)
    (hn : (assignEach es X.env).length = n := by rfl) (hst : (assignEach es X.env).findIdx? (·.1) = none := by rfl) : PG X (.Tuple es k pos) (gRow X.K n t) := by
  refine ⟨fun pins s σ H v u Q I r hw => ?_⟩
  obtain ⟨a, xs, rfl, hq, hl, hw⟩ := hw
  rcases hq with hq | hq
  · cases r
    obtain ⟨its, rv, pl, hz⟩ := I.list hq
    refine assign_lst (I.ok.hd hc) pl.isList (by simp [hn, ← hl, rv.length]) hst fun h' hx => ?_
    have I1 : Inv X pins σ H { s with heap := h' } := I.kept (t' := s.toks) fun b o e => hx b o (Nat.ne_of_lt (Heap.lt_size e)) e
    exact h.run pins _ σ H xs _ Q I1 (by simpa using rv) hw
  · exact (pg_tup hc h hn hst).run pins s σ H (.ref a) u Q I r ⟨a, xs, rfl, hq, hl, hw⟩
/-- a walk over a list or a tuple -/
def iRow (K : PySem.W.Frag) (tl : TE) : TI := fun σ H R => tl σ H fun x H1 => ∃ a, x = .ref a ∧ (((∃ xs, SqL K H1 a xs) ∧ R (Itl K a) H1) ∨ ((∃ xs, SqT K H1 a xs) ∧ R (Itt K a) H1))
theorem pi_row {tg l : Expr} {tl : TE} (hl : PE X l tl) : PI X tg l (iRow X.K tl) := by
  refine ⟨fun pins s σ H R I h => ?_⟩
  refine thn (hl.run pins s σ H _ I h) fun v s1 ⟨x, H1, I1, r1, q1⟩ => ?_
  obtain ⟨a, rfl, q⟩ := q1
  cases r1
  have fp : ∀ b ∈ [s1.heap.objs.size], FpOk X pins H1 b := fun b hb => by
    rw [List.mem_singleton.mp hb]
    exact I1.fpOk (Nat.le_refl _) (I1.hok.fresh (Nat.le_refl _))
  rcases q with ⟨⟨xs, hq⟩, q⟩ | ⟨⟨xs, hq⟩, q⟩
  · obtain ⟨its, rv, p, _⟩ := I1.list hq
    refine wpAny_pyIter_list p.isList ⟨s1.heap.objs.size, [s1.heap.objs.size], _, _, H1, rfl, I1.kept (t' := s1.toks) fun b o e => Heap.get?_push_of_some _ e, turn_list a _, ⟨_, Heap.get?_push_size _ rfl, rfl, rfl⟩, fp, q⟩
  · obtain ⟨its, rv, p, _⟩ := I1.tuple hq
    refine wpAny_pyIter_tuple (show s1.heap.IsTuple a its.toArray from p) ⟨s1.heap.objs.size, [s1.heap.objs.size], _, _, H1, rfl, I1.kept (t' := s1.toks) fun b o e => Heap.get?_push_of_some _ e, turn_tuple a _, ⟨_, Heap.get?_push_size _ rfl, rfl, rfl⟩, fp, q⟩
end
end Cry
/-! Data that never changes (numbers, texts, tuples of such), lists of such; comprehensions. -/
namespace Cry
open PySem PySem.Spec PyProof.Rows L2

/-! ### heaps that go on -/
/-- all but D stays -/
def SameO (D : Addr) (H H' : Hp) : Prop := ∀ b o, b ≠ D → H b = some o → H' b = some o
/-- the tuples stay -/
def TS (H H' : Hp) : Prop := ∀ b xs, H b = some (.tup xs) → H' b = some (.tup xs)
theorem TS.refl (H : Hp) : TS H H := fun _ _ h => h
theorem TS.trans {H H1 H2 : Hp} (a : TS H H1) (b : TS H1 H2) : TS H H2 := fun c xs h => b c xs (a c xs h)
theorem TS.same {H H' : Hp} (s : Same H H') : TS H H' := fun b xs h => s b _ h
theorem TS.sameO {D : Addr} {H H' : Hp} (s : SameO D H H') (n : ∀ xs, H D ≠ some (.tup xs)) : TS H H' := fun b xs h => s b _ (fun e => n xs (e ▸ h)) h
theorem TS.lst {H : Hp} {D : Addr} {xs : List V} {o : HO} (h : H D = some (.lst xs)) : TS H (upd H D o) := fun b ys e => by
  rw [upd_ne (fun z => by rw [z, h] at e; cases e)]
  exact e
theorem TS.new {H : Hp} {D : Addr} {o : HO} (h : H D = none) : TS H (upd H D o) := fun b ys e => by
  rw [upd_ne (ne_of_none e h)]
  exact e
theorem same_new {H : Hp} {D : Addr} {o : HO} (h : H D = none) : Same H (upd H D o) := fun b u e => by
  rw [upd_ne (ne_of_none e h)]
  exact e
/-- what stood ahead of D stays through a store at D -/
theorem same_at {H H1 : Hp} {D : Addr} {o : HO} (s : Same H H1) (h : H D = none) : Same H (upd H1 D o) := fun b u e => by
  rw [upd_ne (ne_of_none e h)]
  exact s b u e
theorem SameO.of {D : Addr} {H H' : Hp} (s : Same H H') : SameO D H H' := fun b o _ e => s b o e
theorem SameO.trans {D : Addr} {H H1 H2 : Hp} (a : SameO D H H1) (b : SameO D H1 H2) : SameO D H H2 := fun c o n e => b c o n (a c o n e)

/-! ### data that never changes -/
mutual
inductive Im (H : Hp) : V → PyData → Prop
  | non : Im H .non .none
  | bl (b : Bool) : Im H (.bl b) (.bool b)
  | int (i : Int) : Im H (.int i) (.int i)
  | str (x : Str) : Im H (.str x) (.str x)
  | tup {a : Addr} {xs : List V} {ds : List PyData} : H a = some (.tup xs) → Ims H xs ds → Im H (.ref a) (.tuple ds)
inductive Ims (H : Hp) : List V → List PyData → Prop
  | nil : Ims H [] []
  | cons {v : V} {vs : List V} {d : PyData} {ds : List PyData} : Im H v d → Ims H vs ds → Ims H (v :: vs) (d :: ds)
end
mutual
theorem Im.on {H H' : Hp} (t : TS H H') : ∀ {v : V} {d : PyData}, Im H v d → Im H' v d
  | _, _, .non => .non
  | _, _, .bl b => .bl b
  | _, _, .int i => .int i
  | _, _, .str x => .str x
  | _, _, .tup h s => .tup (t _ _ h) (Ims.on t s)
theorem Ims.on {H H' : Hp} (t : TS H H') : ∀ {vs : List V} {ds : List PyData}, Ims H vs ds → Ims H' vs ds
  | _, _, .nil => .nil
  | _, _, .cons h s => .cons (Im.on t h) (Ims.on t s)
end
mutual
theorem Im.dp {K : PySem.W.Frag} {H : Hp} : ∀ {v : V} {d : PyData}, Im H v d → Dp K H v d
  | _, _, .non => .non
  | _, _, .bl b => .bl b
  | _, _, .int i => .int i
  | _, _, .str x => .str x
  | _, _, .tup h s => .tup (SqT.of h) (Ims.dp s)
theorem Ims.dp {K : PySem.W.Frag} {H : Hp} : ∀ {vs : List V} {ds : List PyData}, Ims H vs ds → DpAll K H vs ds
  | _, _, .nil => .nil
  | _, _, .cons h s => .cons (Im.dp h) (Ims.dp s)
end
theorem Ims.length {H : Hp} : ∀ {vs : List V} {ds : List PyData}, Ims H vs ds → vs.length = ds.length
  | _, _, .nil => rfl
  | _, _, .cons _ s => by rw [List.length_cons, List.length_cons, Ims.length s]
theorem Ims.get {H : Hp} : ∀ {vs : List V} {ds : List PyData} {i : Nat} {d : PyData}, Ims H vs ds → ds[i]? = some d → ∃ v, vs[i]? = some v ∧ Im H v d
  | _, _, i, _, .nil, e => by simp at e
  | _, _, 0, d, .cons h _, e => by
    simp at e
    subst e
    exact ⟨_, rfl, h⟩
  | _, _, i + 1, d, .cons _ s, e => by
    obtain ⟨v, h1, h2⟩ := Ims.get (i := i) s (by simpa using e)
    exact ⟨v, by simpa using h1, h2⟩
theorem Ims.at {H : Hp} : ∀ {vs : List V} {ds : List PyData} {i : Nat} {v : V}, Ims H vs ds → vs[i]? = some v → ∃ d, ds[i]? = some d ∧ Im H v d
  | _, _, i, _, .nil, e => by simp at e
  | _, _, 0, v, .cons h _, e => by
    simp at e
    subst e
    exact ⟨_, rfl, h⟩
  | _, _, i + 1, v, .cons _ s, e => by
    obtain ⟨d, h1, h2⟩ := Ims.at (i := i) s (by simpa using e)
    exact ⟨d, by simpa using h1, h2⟩
theorem Ims.of {H : Hp} : ∀ {vs : List V} {ds : List PyData}, vs.length = ds.length → (∀ (i : Nat) (v : V) (d : PyData), vs[i]? = some v → ds[i]? = some d → Im H v d) → Ims H vs ds
  | [], [], _, _ => .nil
  | v :: vs, d :: ds, hl, h => .cons (h 0 v d rfl rfl) (Ims.of (by simpa using hl) fun i v' d' e1 e2 => h (i + 1) v' d' (by simpa using e1) (by simpa using e2))
theorem Ims.append {H : Hp} : ∀ {vs ws : List V} {ds es : List PyData}, Ims H vs ds → Ims H ws es → Ims H (vs ++ ws) (ds ++ es)
  | _, _, _, _, .nil, t => t
  | _, _, _, _, .cons h s, t => .cons h (Ims.append s t)
theorem Ims.take {H : Hp} : ∀ {vs : List V} {ds : List PyData} (n : Nat), Ims H vs ds → Ims H (vs.take n) (ds.take n)
  | _, _, 0, _ => .nil
  | _, _, _ + 1, .nil => .nil
  | _, _, n + 1, .cons h s => .cons h (Ims.take n s)
theorem Ims.drop {H : Hp} : ∀ {vs : List V} {ds : List PyData} (n : Nat), Ims H vs ds → Ims H (vs.drop n) (ds.drop n)
  | _, _, 0, s => s
  | _, _, _ + 1, .nil => .nil
  | _, _, n + 1, .cons _ s => Ims.drop n s
theorem Ims.strs {H : Hp} : ∀ xs : List Str, Ims H (xs.map V.str) (xs.map PyData.str)
  | [] => .nil
  | x :: xs => .cons (.str x) (Ims.strs xs)
theorem Ims.ints {H : Hp} : ∀ xs : List Int, Ims H (xs.map V.int) (xs.map PyData.int)
  | [] => .nil
  | x :: xs => .cons (.int x) (Ims.ints xs)
/-- the pairs of values and data -/
theorem Ims.pairs {K : PySem.W.Frag} {H : Hp} {vs : List V} {ds : List PyData} (h : Ims H vs ds) : Dps K H (vs.zip ds) := fun b hb => by
  obtain ⟨i, hi⟩ := List.getElem?_of_mem hb
  obtain ⟨h1, h2⟩ := List.getElem?_zip_eq_some.mp hi
  obtain ⟨d, e, m⟩ := Ims.at h h1
  have := Option.some.inj (e.symm.trans h2)
  rw [← this]
  exact m.dp
/-- v is a list or a tuple that holds xs -/
def Row (K : PySem.W.Frag) (H : Hp) (v : V) (xs : List V) : Prop := ∃ a, v = .ref a ∧ (SqL K H a xs ∨ SqT K H a xs)

/-! ### a comprehension without tests -/
section
variable {J : It} {n : Nat} {G : Hp → Prop} {Y : Nat → Hp → V → Hp → Prop}
/-- Gd: what is known of the heap; R: what is known of the i-th item made; St: a step of the heap that keeps what is known of items -/
theorem lc_gen (w : Walk J n G Y) {g : TG} {te : TE} {vs : List Nat} {σ : Slots} {H1 : Hp} {D : Addr} {Qd : Hp → Prop} (St : Hp → Hp → Prop) (Gd : Nat → Hp → Prop) (R : Nat → V → Hp → Prop) (hn : n ≤ sizeLine)
    (sD : ∀ H acc acc', H D = some (.lst acc) → St H (upd H D (.lst acc'))) (gD : ∀ i H acc acc', H D = some (.lst acc) → Gd i H → Gd i (upd H D (.lst acc')))
    (rS : ∀ j y H H', St H H' → R j y H → R j y H') (g0 : Gd 0 (upd H1 D (.lst []))) (hG : ∀ i H, Gd i H → G H)
    (hs : ∀ i x H H' acc (Z : VK), i < n → Gd i H → H D = some (.lst acc) → Y i H x H' → (∀ y H4, H4 D = some (.lst acc) → St H H4 → Gd (i + 1) H4 → R i y H4 → Z y H4) →
      g x (wipe σ vs) H' fun σ2 H2 => wipe σ2 vs = wipe σ vs ∧ te σ2 H2 Z)
    (hd : ∀ H ys, Gd n H → H D = some (.lst ys) → ys.length = n → (∀ i y, ys[i]? = some y → R i y H) → Qd H) :
    ∃ W : Nat → Nat → Hp → Prop, (∃ m, W 0 m (upd H1 D (.lst []))) ∧ ∀ i m H, W i m H →
      (J.stop i H ∧ Qd H) ∨ (J.go i H ∧ ∃ Nx : Hp → Prop, (∀ H', Nx H' → ∃ m', m' < m ∧ W (i + 1) m' H') ∧ ∀ x H', J.yld i H x H' → g x (wipe σ vs) H' fun σ2 H2 => wipe σ2 vs = wipe σ vs ∧ tYes σ2 H2 fun b H3 =>
        if b = true then te σ2 H3 fun y H4 => ∃ acc, H4 D = some (.lst acc) ∧ acc.length < sizeLine ∧ Nx (upd H4 D (.lst (acc ++ [y]))) else Nx H3) := by
  refine lc_it w (fun i H => Gd i H ∧ ∃ acc, H D = some (.lst acc) ∧ acc.length = i ∧ ∀ j y, acc[j]? = some y → R j y H) ⟨g0, [], upd_same, rfl, fun j y e => by simp at e⟩ (fun i H _ p => hG i H p.1) ?_ ?_
  · rintro i x H H' hi ⟨gd, acc, hacc, hlen, hr⟩ hy
    refine hs i x H H' acc (fun y H4 => ∃ acc, H4 D = some (.lst acc) ∧ acc.length < sizeLine ∧ _) hi gd hacc hy fun y H4 q1 q2 q3 q4 => ?_
    have st := sD H4 acc (acc ++ [y]) q1
    refine ⟨acc, q1, by omega, gD _ _ _ _ q1 q3, acc ++ [y], upd_same, by simp [hlen], fun j z e => ?_⟩
    by_cases hj : j < acc.length
    · rw [List.getElem?_append_left hj] at e
      exact rS _ _ _ _ st (rS _ _ _ _ q2 (hr j z e))
    · rw [List.getElem?_append_right (by omega)] at e
      have e0 : j - acc.length = 0 := by
        cases z0 : j - acc.length with
        | zero => rfl
        | succ k => rw [z0] at e; simp at e
      rw [e0] at e
      simp at e
      subst e
      have ej : j = i := by omega
      subst ej
      exact rS _ _ _ _ st q4
  · rintro H ⟨gd, ys, h1, h2, h3⟩
    exact hd H ys gd h1 h2 h3

/-- .. whose items are plain values f i, while the heap only grows -/
theorem lc_pure (w : Walk J n G Y) {g : TG} {te : TE} {vs : List Nat} {σ : Slots} {H1 : Hp} {D : Addr} {Qd : Hp → Prop} (f : Nat → V) (hn : n ≤ sizeLine) (nD : H1 D = none)
    (hG : ∀ H, Same H1 H → G H) (hY : ∀ i H x H', Y i H x H' → Same H H')
    (hs : ∀ i x H H' (Z : VK), i < n → Same H1 H → Y i H x H' → (∀ H4, Same H' H4 → Z (f i) H4) → g x (wipe σ vs) H' fun σ2 H2 => wipe σ2 vs = wipe σ vs ∧ te σ2 H2 Z)
    (hd : ∀ H, Same H1 H → H D = some (.lst ((List.range n).map f)) → Qd H) :
    ∃ W : Nat → Nat → Hp → Prop, (∃ m, W 0 m (upd H1 D (.lst []))) ∧ ∀ i m H, W i m H →
      (J.stop i H ∧ Qd H) ∨ (J.go i H ∧ ∃ Nx : Hp → Prop, (∀ H', Nx H' → ∃ m', m' < m ∧ W (i + 1) m' H') ∧ ∀ x H', J.yld i H x H' → g x (wipe σ vs) H' fun σ2 H2 => wipe σ2 vs = wipe σ vs ∧ tYes σ2 H2 fun b H3 =>
        if b = true then te σ2 H3 fun y H4 => ∃ acc, H4 D = some (.lst acc) ∧ acc.length < sizeLine ∧ Nx (upd H4 D (.lst (acc ++ [y]))) else Nx H3) := by
  refine lc_gen w (fun _ _ => True) (fun _ H => Same H1 H) (fun i y _ => y = f i) hn (fun _ _ _ _ => True.intro) (fun i H acc acc' _ gd => same_at gd nD) (fun _ _ _ _ _ r => r) (same_new nD) (fun i H gd => hG H gd) ?_ ?_
  · intro i x H H' acc Z hi gd hacc hy k
    have s1 := hY i H x H' hy
    exact hs i x H H' Z hi gd hy fun H4 s2 => k _ _ (s2 _ _ (s1 _ _ hacc)) True.intro ((gd.trans s1).trans s2) rfl
  · intro H ys gd h1 h2 h3
    refine hd H gd ?_
    have e : ys = (List.range n).map f := by
      apply List.ext_getElem?
      intro i
      by_cases hi : i < n
      · rw [List.getElem?_map, List.getElem?_range hi, List.getElem?_eq_getElem (by omega)]
        have := h3 i _ (List.getElem?_eq_getElem (show i < ys.length by omega))
        rw [this]
        rfl
      · rw [List.getElem?_eq_none (by omega), List.getElem?_eq_none (by simp; omega)]
    rw [← e]
    exact h1
theorem yAt_same {xs : List V} : ∀ i H x H', YAt xs i H x H' → Same H H' := fun i H x H' y => by
  rw [y.1]
  exact Same.refl H
theorem yPair_same {a b : Nat → Option V} : ∀ i H x H', YPair a b i H x H' → Same H H' := fun i H x H' y => by
  obtain ⟨T, u, v, _, nT, e, _⟩ := y
  rw [e]
  exact same_new nT
end

/-! ### data of any kind that a call may be handed -/
/-- v stands for d; a dict of any entries stands for a dict -/
inductive Da (H : Hp) : V → PyData → Prop
  | non : Da H .non .none
  | bl (b : Bool) : Da H (.bl b) (.bool b)
  | int (i : Int) : Da H (.int i) (.int i)
  | str (x : Str) (hz : x.length ≤ sizeLine) : Da H (.str x) (.str x)
  | lst {a : Addr} {xs : List V} {ds : List PyData} (h : H a = some (.lst xs)) (hl : xs.length = ds.length) (hi : ∀ (i : Nat) (x : V) (e : PyData), xs[i]? = some x → ds[i]? = some e → Da H x e) : Da H (.ref a) (.list ds)
  | tup {a : Addr} {xs : List V} {ds : List PyData} (h : H a = some (.tup xs)) (hl : xs.length = ds.length) (hi : ∀ (i : Nat) (x : V) (e : PyData), xs[i]? = some x → ds[i]? = some e → Da H x e) : Da H (.ref a) (.tuple ds)
  | dic {a : Addr} {kvs : List (Key × V)} {es : List (PyData × PyData)} (h : H a = some (.dK kvs)) : Da H (.ref a) (.dict es)
section
variable {K : PySem.W.Frag} {H H' : Hp}
theorem sqT_same {a : Addr} {xs : List V} (e : Same H H') (h : SqT K H a xs) : SqT K H' a xs := by
  rcases h with (h | ⟨o, h⟩) | h
  · exact .inl (.inl (e _ _ h))
  · exact .inl (.inr ⟨o, e _ _ h⟩)
  · exact .inr h
theorem Da.on (s : Same H H') {v : V} {d : PyData} (h : Da H v d) : Da H' v d := by
  induction h with
  | non => exact .non
  | bl b => exact .bl b
  | int i => exact .int i
  | str x hz => exact .str x hz
  | lst h hl _ ih => exact .lst (s _ _ h) hl ih
  | tup h hl _ ih => exact .tup (s _ _ h) hl ih
  | dic h => exact .dic (s _ _ h)
mutual
theorem Dp.on (s : Same H H') : ∀ {v : V} {d : PyData}, Dp K H v d → Dp K H' v d
  | _, _, .non => .non
  | _, _, .bl b => .bl b
  | _, _, .int i => .int i
  | _, _, .str x => .str x
  | _, _, .lst h t => .lst (s.seq h) (DpAll.on s t)
  | _, _, .tup h t => .tup (sqT_same s h) (DpAll.on s t)
theorem DpAll.on (s : Same H H') : ∀ {vs : List V} {ds : List PyData}, DpAll K H vs ds → DpAll K H' vs ds
  | _, _, .nil => .nil
  | _, _, .cons h t => .cons (Dp.on s h) (DpAll.on s t)
end
theorem dpAll_len : ∀ {vs : List V} {ds : List PyData}, DpAll K H vs ds → vs.length = ds.length
  | _, _, .nil => rfl
  | _, _, .cons _ t => by rw [List.length_cons, List.length_cons, dpAll_len t]
/-! every text in it is of a length that can be asked; no dict in it -/
mutual
def szD : PyData → Bool
  | .str x => decide (x.length ≤ sizeLine)
  | .list ds => szDs ds
  | .tuple ds => szDs ds
  | _ => true
def szDs : List PyData → Bool
  | [] => true
  | d :: ds => szD d && szDs ds
end
/-- from the items one by one -/
theorem dpAll_of : ∀ {xs : List V} {ds : List PyData}, xs.length = ds.length → (∀ (i : Nat) (x : V) (e : PyData), xs[i]? = some x → ds[i]? = some e → Dp K H x e) → DpAll K H xs ds
  | [], [], _, _ => .nil
  | x :: xs, d :: ds, hl, h => .cons (h 0 x d rfl rfl) (dpAll_of (by simpa using hl) fun i y e h1 h2 => h (i + 1) y e (by simpa using h1) (by simpa using h2))
theorem nodict_mem : ∀ {ds : List PyData} {d : PyData}, PyData.hasDictAll ds = false → d ∈ ds → d.hasDict = false
  | e :: ds, d, h, m => by
    have h' : e.hasDict = false ∧ PyData.hasDictAll ds = false := by simpa [PyData.hasDictAll] using h
    rcases List.mem_cons.mp m with z | z
    · rw [z]
      exact h'.1
    · exact nodict_mem h'.2 z
theorem Da.dp {v : V} {d : PyData} (h : Da H v d) : d.hasDict = false → Dp K H v d := by
  induction h with
  | non => exact fun _ => .non
  | bl b => exact fun _ => .bl b
  | int i => exact fun _ => .int i
  | str x _ => exact fun _ => .str x
  | lst h hl _ ih => exact fun n => .lst (SqL.of h) (dpAll_of hl fun i x e h1 h2 => ih i x e h1 h2 (nodict_mem (by simpa [PyData.hasDict] using n) (List.mem_of_getElem? h2)))
  | tup h hl _ ih => exact fun n => .tup (SqT.of h) (dpAll_of hl fun i x e h1 h2 => ih i x e h1 h2 (nodict_mem (by simpa [PyData.hasDict] using n) (List.mem_of_getElem? h2)))
  | dic h => exact fun n => absurd n (by simp [PyData.hasDict])
/-- the type's name -/
def tyD : PyData → String
  | .none => "NoneType"
  | .bool _ => "bool"
  | .int _ => "int"
  | .str _ => "str"
  | .list _ => "list"
  | .tuple _ => "tuple"
  | .dict _ => "dict"
theorem Da.ty {v : V} {d : PyData} (h : Da H v d) : TyX K H v (.type (tyD d)) := by
  cases h with
  | non => exact .base .non
  | bl b => exact .base (.bl b)
  | int i => exact .base (.int i)
  | str x _ => exact .base (.str x)
  | lst h _ _ => exact .base (.lst h)
  | tup h _ _ => exact .base (.tup h)
  | dic h => exact .base (.dK h)
theorem seq_of {a : Addr} {xs : List V} (h : H a = some (.lst xs) ∨ H a = some (.tup xs)) : SqL K H a xs ∨ SqT K H a xs := h.imp SqL.of SqT.of
/-- whether it is a list or a tuple, and its items -/
def rowD : PyData → Bool
  | .list _ => true
  | .tuple _ => true
  | _ => false
def itemsD : PyData → List PyData
  | .list ds => ds
  | .tuple ds => ds
  | _ => []
theorem Da.items {v : V} {d : PyData} (h : Da H v d) (r : rowD d = true) : ∃ a xs, v = .ref a ∧ (H a = some (.lst xs) ∨ H a = some (.tup xs)) ∧ xs.length = (itemsD d).length ∧
    ∀ (i : Nat) (x : V) (e : PyData), xs[i]? = some x → (itemsD d)[i]? = some e → Da H x e := by
  cases h with
  | lst h hl hi => exact ⟨_, _, rfl, .inl h, hl, hi⟩
  | tup h hl hi => exact ⟨_, _, rfl, .inr h, hl, hi⟩
  | _ => exact absurd r (by simp [rowD])
end
end Cry
/-! Where the defs stand in the text. -/
namespace Cry
open PySem
def topS (i : Nat) : Stmt := PySem.Challenge.pw_elsetold_k22_walks_judged.main.body.getD i (.Pass ⟨0, 0, 0, 0⟩)
abbrev sIsWhole : Stmt := topS 9
abbrev sIsRow : Stmt := topS 10
abbrev sIsRowOf : Stmt := topS 11
abbrev sIsName : Stmt := topS 12
abbrev sRises : Stmt := topS 13
abbrev sIsWeb : Stmt := topS 18
abbrev sAreFolk : Stmt := topS 19
abbrev sAreWays : Stmt := topS 20
abbrev sIsWay : Stmt := topS 21
abbrev sAreWayBeats : Stmt := topS 22
abbrev sOwnWeb : Stmt := topS 23
abbrev sOwnPlace : Stmt := topS 24
abbrev sIsPlace : Stmt := topS 25
abbrev sBetween : Stmt := topS 26
abbrev sFolkBeside : Stmt := topS 27
abbrev sOwnStarters : Stmt := topS 29
abbrev sAreStarters : Stmt := topS 30
abbrev sCheckBeat : Stmt := topS 31
abbrev sIsWalk : Stmt := topS 33
abbrev sAreNamesFrom : Stmt := topS 34
abbrev sLSpring : Stmt := topS 36
abbrev sDraw : Stmt := topS 37
abbrev sLSame : Stmt := topS 38
abbrev sLFolk : Stmt := topS 39
abbrev sWeb : Stmt := topS 40
abbrev sLLot : Stmt := topS 41
abbrev sLPlace : Stmt := topS 42
abbrev sDue : Stmt := topS 43
abbrev sLGone : Stmt := topS 44
abbrev sLSum : Stmt := topS 45
abbrev sLBent : Stmt := topS 46
abbrev sLaw : Stmt := topS 47
end Cry
/-! The plain kinds of things: what elsetold.forms promises of what is of form. -/
namespace Cry
open PySem PySem.Spec PyProof.Rows L2

/-- the built-in names that the text reads -/
structure Blt (mg : Str → Option Value) : Prop where
  isi : mg "isinstance" = none
  int : mg "int" = none
  bool : mg "bool" = none
  str : mg "str" = none
  list : mg "list" = none
  tuple : mg "tuple" = none
  len : mg "len" = none
  all : mg "all" = none
  zip : mg "zip" = none
section
variable {P : Program} {w : World} {K : PySem.W.Frag} {mg : Str → Option Value} {base : Heap}
theorem kD_int (d : PyData) : kitB (tyD d) "int" = some (decide (tyD d ∈ ["int", "bool"])) := by
  cases d
  · exact (show kitB "NoneType" "int" = some (decide ("NoneType" ∈ ["int", "bool"])) by decide +kernel)
  · exact (show kitB "bool" "int" = some (decide ("bool" ∈ ["int", "bool"])) by decide +kernel)
  · exact (show kitB "int" "int" = some (decide ("int" ∈ ["int", "bool"])) by decide +kernel)
  · exact (show kitB "str" "int" = some (decide ("str" ∈ ["int", "bool"])) by decide +kernel)
  · exact (show kitB "list" "int" = some (decide ("list" ∈ ["int", "bool"])) by decide +kernel)
  · exact (show kitB "tuple" "int" = some (decide ("tuple" ∈ ["int", "bool"])) by decide +kernel)
  · exact (show kitB "dict" "int" = some (decide ("dict" ∈ ["int", "bool"])) by decide +kernel)
theorem kD_bool (d : PyData) : kitB (tyD d) "bool" = some (decide (tyD d ∈ ["bool"])) := by
  cases d
  · exact (show kitB "NoneType" "bool" = some (decide ("NoneType" ∈ ["bool"])) by decide +kernel)
  · exact (show kitB "bool" "bool" = some (decide ("bool" ∈ ["bool"])) by decide +kernel)
  · exact (show kitB "int" "bool" = some (decide ("int" ∈ ["bool"])) by decide +kernel)
  · exact (show kitB "str" "bool" = some (decide ("str" ∈ ["bool"])) by decide +kernel)
  · exact (show kitB "list" "bool" = some (decide ("list" ∈ ["bool"])) by decide +kernel)
  · exact (show kitB "tuple" "bool" = some (decide ("tuple" ∈ ["bool"])) by decide +kernel)
  · exact (show kitB "dict" "bool" = some (decide ("dict" ∈ ["bool"])) by decide +kernel)
theorem kD_str (d : PyData) : kitB (tyD d) "str" = some (decide (tyD d ∈ ["str"])) := by
  cases d
  · exact (show kitB "NoneType" "str" = some (decide ("NoneType" ∈ ["str"])) by decide +kernel)
  · exact (show kitB "bool" "str" = some (decide ("bool" ∈ ["str"])) by decide +kernel)
  · exact (show kitB "int" "str" = some (decide ("int" ∈ ["str"])) by decide +kernel)
  · exact (show kitB "str" "str" = some (decide ("str" ∈ ["str"])) by decide +kernel)
  · exact (show kitB "list" "str" = some (decide ("list" ∈ ["str"])) by decide +kernel)
  · exact (show kitB "tuple" "str" = some (decide ("tuple" ∈ ["str"])) by decide +kernel)
  · exact (show kitB "dict" "str" = some (decide ("dict" ∈ ["str"])) by decide +kernel)
theorem kD_list (d : PyData) : kitB (tyD d) "list" = some (decide (tyD d ∈ ["list"])) := by
  cases d
  · exact (show kitB "NoneType" "list" = some (decide ("NoneType" ∈ ["list"])) by decide +kernel)
  · exact (show kitB "bool" "list" = some (decide ("bool" ∈ ["list"])) by decide +kernel)
  · exact (show kitB "int" "list" = some (decide ("int" ∈ ["list"])) by decide +kernel)
  · exact (show kitB "str" "list" = some (decide ("str" ∈ ["list"])) by decide +kernel)
  · exact (show kitB "list" "list" = some (decide ("list" ∈ ["list"])) by decide +kernel)
  · exact (show kitB "tuple" "list" = some (decide ("tuple" ∈ ["list"])) by decide +kernel)
  · exact (show kitB "dict" "list" = some (decide ("dict" ∈ ["list"])) by decide +kernel)
theorem kD_tuple (d : PyData) : kitB (tyD d) "tuple" = some (decide (tyD d ∈ ["tuple"])) := by
  cases d
  · exact (show kitB "NoneType" "tuple" = some (decide ("NoneType" ∈ ["tuple"])) by decide +kernel)
  · exact (show kitB "bool" "tuple" = some (decide ("bool" ∈ ["tuple"])) by decide +kernel)
  · exact (show kitB "int" "tuple" = some (decide ("int" ∈ ["tuple"])) by decide +kernel)
  · exact (show kitB "str" "tuple" = some (decide ("str" ∈ ["tuple"])) by decide +kernel)
  · exact (show kitB "list" "tuple" = some (decide ("list" ∈ ["tuple"])) by decide +kernel)
  · exact (show kitB "tuple" "tuple" = some (decide ("tuple" ∈ ["tuple"])) by decide +kernel)
  · exact (show kitB "dict" "tuple" = some (decide ("dict" ∈ ["tuple"])) by decide +kernel)
def wholeD : PyData → Bool
  | .int _ => true
  | _ => false
def nameOkS (x : Str) : Bool := decide (1 ≤ x.length) && decide (x.length ≤ 8) && x.cps.toList.all fun c => decide (c ∈ ("abcdefghijklmnopqrstuvwxyz" : Str).cps.toList)
def nameD : PyData → Bool
  | .str x => nameOkS x
  | _ => false
/-! ### is_whole -/
theorem scIsWhole : FnScope ["thing"] ["thing"] (defScope sIsWhole) := ⟨rfl, rfl, rfl, by decide +kernel, rfl, by decide +kernel, by decide +kernel⟩
/-- a def that judges one thing -/
def spJudge (K : PySem.W.Frag) (ask : PyData → Bool) : Sp := fun vs H Q _ => ∃ (v : V) (d : PyData), vs = [v] ∧ Da H v d ∧ ∀ H', Same H H' → Q (.bl (ask d)) H'
theorem ok_is_whole {f : Addr} {fd : FuncData} (F : Fun K "is_whole" "is_whole" sIsWhole f fd) (B : Blt mg) : FnOk P w K mg base CX0 1 f fd ["thing"] (spJudge K wholeD) := by
  refine F.ok scIsWhole (fun vs H Q E h => ?_) (fun cdv A outer s H vs Q E hr h => ?_)
  · obtain ⟨v, d, rfl, _⟩ := h
    rfl
  · obtain ⟨v, d, rfl, hd, q⟩ := h
    refine ⟨_, pss_one (ps_ret (pe_and (pe_callB call_isi (by rfl) B.isi (by decide +kernel) (pa_cons (pv 0) (pa_cons (pe_bltn (v := .ty "int") (u := .type "int") (by rfl) B.int (by decide +kernel) rfl) pa_nil)))
      (pe_one (pe_not (pe_callB call_isi (by rfl) B.isi (by decide +kernel) (pa_cons (pv 0) (pa_cons (pe_bltn (v := .ty "bool") (u := .type "bool") (by rfl) B.bool (by decide +kernel) rfl) pa_nil))))))), ?_⟩
    have two : ∀ (b1 b2 : Bool), kitB (tyD d) "int" = some b1 → kitB (tyD d) "bool" = some b2 → (b1 && !b2) = wholeD d → tAndV
        (tCB (rIsi K) (tCons (tVar 0) (tCons (tC (.ty "int")) tNil))) (tNotV (tCB (rIsi K) (tCons (tVar 0) (tCons (tC (.ty "bool")) tNil)))) (start ["thing"] [v]) H Q := by
      intro b1 b2 h1 h2 e
      refine ⟨_, rfl, _, _, _, _, _, rfl, .ty "int", hd.ty, kit_ty h1, _, rfl, ?_⟩
      cases b1 with
      | true =>
        refine iteT ⟨_, rfl, _, _, _, _, _, rfl, .ty "bool", hd.ty, kit_ty h2, _, rfl, ?_⟩
        have := q H (Same.refl H)
        rw [← e] at this
        exact this
      | false =>
        refine iteF ?_
        have := q H (Same.refl H)
        rw [← e] at this
        exact this
    exact two _ _ (kD_int d) (kD_bool d) (by cases d <;> rfl)
/-! ### is_row -/
theorem scIsRow : FnScope ["thing"] ["thing"] (defScope sIsRow) := ⟨rfl, rfl, rfl, by decide +kernel, rfl, by decide +kernel, by decide +kernel⟩
theorem ok_is_row {f : Addr} {fd : FuncData} (F : Fun K "is_row" "is_row" sIsRow f fd) (B : Blt mg) : FnOk P w K mg base CX0 1 f fd ["thing"] (spJudge K rowD) := by
  refine F.ok scIsRow (fun vs H Q E h => ?_) (fun cdv A outer s H vs Q E hr h => ?_)
  · obtain ⟨v, d, rfl, _⟩ := h
    rfl
  · obtain ⟨v, d, rfl, hd, q⟩ := h
    refine ⟨_, pss_one (ps_ret (pe_callB call_isiT (by rfl) B.isi (by decide +kernel) (pa_cons (pv 0) (pa_cons (pe_tup (pa_cons (pe_bltn (v := .ty "list") (u := .type "list") (by rfl) B.list (by decide +kernel) rfl)
      (pa_cons (pe_bltn (v := .ty "tuple") (u := .type "tuple") (by rfl) B.tuple (by decide +kernel) rfl) pa_nil))) pa_nil)))), ?_⟩
    refine ⟨_, rfl, by decide, fun p np => ?_⟩
    have s1 : Same H (upd H p (.tup [.ty "list", .ty "tuple"])) := same_new np
    have two : ∀ b1 b2 : Bool, kitB (tyD d) "list" = some b1 → kitB (tyD d) "tuple" = some b2 → PySem.W.kitAny K (.type (tyD d)) [.type "list", .type "tuple"] = some (b1 || b2) := by
      intro b1 b2 h1 h2
      refine kitAny_cons (kit_ty h1) (fun e => ?_) (fun e => by rw [e]; rfl)
      refine kitAny_cons (kit_ty h2) (fun e2 => ?_) (fun e2 => by rw [e, e2]; rfl)
      rw [e, e2]
      exact kitAny_nil
    have fin : PySem.W.kitAny K (.type (tyD d)) [.type "list", .type "tuple"] = some (rowD d) := by
      rw [two _ _ (kD_list d) (kD_tuple d)]
      cases d <;> rfl
    exact ⟨v, p, _, _, _, _, rfl, upd_same, .cons (.ty "list") (.cons (.ty "tuple") .nil), (hd.on s1).ty, fin, q _ s1⟩
/-! ### is_row_of -/
theorem scIsRowOf : FnScope ["many", "thing"] ["many", "thing"] (defScope sIsRowOf) := ⟨rfl, rfl, rfl, by decide +kernel, rfl, by decide +kernel, by decide +kernel⟩
def rowOfD (n : Nat) (d : PyData) : Bool := rowD d && decide ((itemsD d).length = n)
def spIsRowOf (K : PySem.W.Frag) : Sp := fun vs H Q _ => ∃ (n : Nat) (v : V) (d : PyData), vs = [.int (n : Int), v] ∧ Da H v d ∧ ∀ H', Same H H' → Q (.bl (rowOfD n d)) H'
/-- a def of the text, as it is called -/
structure Def (K : PySem.W.Frag) (mg : Str → Option Value) (x : Str) (f : Addr) (fd : FuncData) (ps : List Str) : Prop where
  at_ : mg x = some (.ref f)
  kp : PySem.W.keepIn K (.ref f) = true
  b : Binds K fd ps []
theorem ok_is_row_of {f f1 : Addr} {fd fd1 : FuncData} (F : Fun K "is_row_of" "is_row_of" sIsRowOf f fd) (B : Blt mg) (D1 : Def K mg "is_row" f1 fd1 ["thing"]) (G1 : FnOk P w K mg base CX0 1 f1 fd1 ["thing"] (spJudge K rowD)) :
    FnOk P w K mg base CX0 2 f fd ["many", "thing"] (spIsRowOf K) := by
  refine F.ok scIsRowOf (fun vs H Q E h => ?_) (fun cdv A outer s H vs Q E hr h => ?_)
  · obtain ⟨n, v, d, rfl, _⟩ := h
    rfl
  · obtain ⟨n, v, d, rfl, hd, q⟩ := h
    refine ⟨_, pss_one (ps_ret (pe_and (pe_call G1 hr (by rfl) D1.at_ D1.kp D1.b .nil pass0 (pa_cons (pv 1) pa_nil)) (pe_one (pe_cmpR op_eq (pe_callB call_len_seq (by rfl) B.len (by decide +kernel) (pa_cons (pv 1) pa_nil)) (pv 0) (nomark _))))), ?_⟩
    refine ⟨_, rfl, v, d, rfl, hd, fun H1 s1 => ⟨_, rfl, ?_⟩⟩
    cases r : rowD d with
    | false =>
      refine iteF ?_
      have := q H1 s1
      unfold rowOfD at this
      rw [r] at this
      exact this
    | true =>
      refine iteT ?_
      obtain ⟨a, xs, rfl, hs, hl, _⟩ := (hd.on s1).items r
      refine ⟨_, rfl, a, xs, rfl, seq_of hs, _, rfl, rfl, ?_⟩
      have := q H1 s1
      unfold rowOfD at this
      rw [r, ← hl] at this
      have e : decide (V.int ((xs.length : Nat) : Int) = V.int (n : Int)) = (true && decide (xs.length = n)) := by
        rw [Bool.true_and]
        by_cases h : xs.length = n
        · rw [decide_eq_true h, h]
          exact decide_eq_true rfl
        · rw [decide_eq_false h]
          refine decide_eq_false fun z => h ?_
          have := V.int.inj z
          omega
      rw [← e] at this
      exact this
/-! ### is_name -/
theorem map_range_get {α β : Type} (xs : List α) (f : α → β) (d : α) : ((List.range xs.length).map fun i => f ((xs[i]?).getD d)) = xs.map f := by
  apply List.ext_getElem?
  intro i
  rw [List.getElem?_map, List.getElem?_map]
  by_cases h : i < xs.length
  · rw [List.getElem?_range h, List.getElem?_eq_getElem h]
    simp [h]
  · rw [List.getElem?_eq_none (by simp; omega), List.getElem?_eq_none (by omega)]
    rfl
theorem all_cps (xs : Array Nat) (p : Nat → Bool) : ((List.range xs.size).map fun i => p ((xs[i]?).getD 0)).all id = xs.toList.all p := by
  have e := map_range_get xs.toList p 0
  simp only [Array.length_toList, Array.getElem?_toList] at e
  rw [e, List.all_map]
  rfl
theorem scIsName : FnScope ["thing", "letter"] ["thing"] (defScope sIsName) := ⟨rfl, rfl, rfl, by decide +kernel, rfl, by decide +kernel, by decide +kernel⟩
abbrev abc : Str := "abcdefghijklmnopqrstuvwxyz"
theorem ok_is_name {f : Addr} {fd : FuncData} {tk tk2 : Tok} (F : Fun K "is_name" "is_name" sIsName f fd) (B : Blt mg) (mL : mg "LETTERS" = some (.str abc tk)) (mM : mg "MOST_LETTERS" = some (.int 8 tk2)) : FnOk P w K mg base CX0 1 f fd ["thing"] (spJudge K nameD) := by
  refine F.ok scIsName (fun vs H Q E h => ?_) (fun cdv A outer s H vs Q E hr h => ?_)
  · obtain ⟨v, d, rfl, _⟩ := h
    rfl
  · obtain ⟨v, d, rfl, hd, q⟩ := h
    refine ⟨_, pss_cons (ps_if (PW.pt (pw_or (pt_not (pt_val (pe_callB call_isi (by rfl) B.isi (by decide +kernel) (pa_cons (pv 0) (pa_cons (pe_bltn (v := .ty "str") (u := .type "str") (by rfl) B.str (by decide +kernel) rfl) pa_nil)))))
        (pw_or1 (pt_not (pt_chain op_le op_le pe_int (pe_callB call_len_str (by rfl) B.len (by decide +kernel) (pa_cons (pv 0) pa_nil)) (pe_glob (v := .int 8) rfl mM ⟨_, rfl⟩)))))) (pss_one (ps_ret pe_bl)) pss_nil)
      (pss_one (ps_ret (pe_callB (cr_all rfl) (by rfl) B.all (by decide +kernel) (pa_cons (pe_lc (own := [("letter", 1)]) (g := gName 1) (tt := tYes) rfl scIsName.nd (pi_str (pv 0)) (blkOk_by (N := ["thing", "letter"]) (sc := defScope sIsName) (by decide +kernel))
        (fun _ _ _ _ _ => pg_name (i := 1) scIsName.nd rfl (Or.inl rfl)) (fun _ _ _ _ _ => pts_nil) (fun _ _ _ _ _ => pe_cmpR op_in_sign (pv 1) (pe_glob (v := .str abc) rfl mL ⟨_, rfl⟩) rfl)) pa_nil)))), ?_⟩
    refine ⟨v, rfl, _, _, _, _, _, rfl, .ty "str", hd.ty, kit_ty (kD_str d), _, rfl, ?_⟩
    cases d with
    | str x =>
      obtain ⟨rfl, hz⟩ : v = .str x ∧ x.length ≤ sizeLine := by
        cases hd with
        | str _ hz => exact ⟨rfl, hz⟩
      refine iteF ?_
      refine ⟨_, rfl, x, rfl, hz, _, _, rfl, rfl, _, rfl, ?_⟩
      by_cases h1 : 1 ≤ x.length
      · rw [decide_eq_true (show (1 : Int) ≤ ((x.length : Nat) : Int) by omega)]
        refine iteT ⟨_, _, rfl, rfl, _, rfl, ?_⟩
        by_cases h2 : x.length ≤ 8
        · rw [decide_eq_true (show ((x.length : Nat) : Int) ≤ 8 by omega)]
          refine iteF ?_
          refine ⟨_, rfl, _, rfl, fun D nD => ?_⟩
          refine lc_pure (walk_str (z := x)) (fun i => .bl (decide ((x.cps[i]?).getD 0 ∈ abc.cps.toList))) (Nat.le_trans (show x.cps.size ≤ 8 from h2) (by decide)) nD (fun _ _ => True.intro) (fun i H x H' y => by rw [y.1]; exact Same.refl _) (fun i y H2 H3 Z hi s2 hy k => ?_) fun H2 s2 h2' => ?_
          · obtain ⟨rfl, c, ec, rfl⟩ := hy
            refine ⟨rfl, _, rfl, _, _, rfl, rfl, ?_⟩
            have := k _ (Same.refl _)
            rw [ec] at this
            exact this
          · refine ⟨D, (List.range x.cps.size).map fun i => decide ((x.cps[i]?).getD 0 ∈ abc.cps.toList), rfl, ?_, ?_⟩
            · rw [List.map_map]
              exact SqL.of h2'
            · have e : ((List.range x.cps.size).map fun i => decide ((x.cps[i]?).getD 0 ∈ abc.cps.toList)).all id = nameD (.str x) := by
                show _ = (decide (1 ≤ x.length) && decide (x.length ≤ 8) && x.cps.toList.all fun c => decide (c ∈ abc.cps.toList))
                rw [decide_eq_true h1, decide_eq_true h2, Bool.true_and, Bool.true_and]
                exact all_cps x.cps fun c => decide (c ∈ abc.cps.toList)
              rw [e]
              exact q H2 s2
        · rw [decide_eq_false (show ¬ ((x.length : Nat) : Int) ≤ 8 by omega)]
          refine iteT ?_
          have := q H (Same.refl H)
          have e : nameD (.str x) = false := by
            show (decide (1 ≤ x.length) && decide (x.length ≤ 8) && _) = false
            rw [decide_eq_false h2, Bool.and_false, Bool.false_and]
          rw [e] at this
          exact this
      · rw [decide_eq_false (show ¬ (1 : Int) ≤ ((x.length : Nat) : Int) by omega)]
        refine iteF ⟨_, rfl, iteT ?_⟩
        have := q H (Same.refl H)
        have e : nameD (.str x) = false := by
          show (decide (1 ≤ x.length) && decide (x.length ≤ 8) && _) = false
          rw [decide_eq_false h1, Bool.false_and, Bool.false_and]
        rw [e] at this
        exact this
    | _ => exact iteT (iteT (q H (Same.refl H)))
/-! ### rises -/
theorem walk_zipT {a b : Addr} {xs ys : List V} {n : Nat} (hn : n = min xs.length ys.length) : Walk (RZ.ItzT K a b) n (fun H => SqT K H a xs ∧ SqT K H b ys) (YPair (fun i => xs[i]?) (fun i => ys[i]?)) where
  goes := fun i _ hi q => ⟨xs, ys, xs[i]'(by omega), ys[i]'(by omega), q.1, q.2, by simp [show i < xs.length by omega], by simp [show i < ys.length by omega]⟩
  stops := fun _ q => ⟨xs, ys, q.1, q.2, by omega⟩
  yields := fun i H v H' _ q y => by
    obtain ⟨T, x, z, h1, h2, h3, h4, h5⟩ := y
    exact ⟨T, x, z, h1, h2, h3, h4 xs q.1, h5 ys q.2⟩
/-- each is less than the next one -/
def risingD : List PyData → Bool
  | d :: e :: r => PySem.W.dataLt d e && risingD (e :: r)
  | _ => true
theorem rising_range : ∀ (ds : List PyData) (f : Nat → Bool), (∀ (i : Nat) d e, ds[i]? = some d → ds[i + 1]? = some e → f i = PySem.W.dataLt d e) → ((List.range (ds.length - 1)).map f).all id = risingD ds
  | [], _, _ => rfl
  | [_], _, _ => rfl
  | d :: e :: r, f, h => by
    have ih := rising_range (e :: r) (fun i => f (i + 1)) fun i a b h1 h2 => h (i + 1) a b (by simpa using h1) (by simpa using h2)
    have e1 : (d :: e :: r).length - 1 = (e :: r).length - 1 + 1 := by simp
    rw [e1, List.range_succ_eq_map, List.map_cons, List.map_map, List.all_cons]
    have e2 : ((List.range ((e :: r).length - 1)).map (f ∘ Nat.succ)) = ((List.range ((e :: r).length - 1)).map fun i => f (i + 1)) := rfl
    rw [e2, ih]
    show (f 0 && risingD (e :: r)) = (PySem.W.dataLt d e && risingD (e :: r))
    rw [h 0 d e rfl rfl]
theorem cut_tail (xs : List V) : cutV xs (some 1) none = xs.drop 1 := by
  unfold cutV
  rw [show HT.sIx xs.length 0 (some 1) = min 1 xs.length from HT.sIx_nat xs.length 0 1, HT.sIx_none]
  cases xs with
  | nil => rfl
  | cons x r =>
    have e : min 1 (x :: r).length = 1 := by
      rw [List.length_cons]
      omega
    rw [e]
    show List.take ((x :: r).length - 1) r = r
    rw [List.length_cons, Nat.add_sub_cancel]
    exact List.take_length
theorem scRises : FnScope ["things", "low", "high"] ["things"] (defScope sRises) := ⟨rfl, rfl, rfl, by decide +kernel, rfl, by decide +kernel, by decide +kernel⟩
def spRises (K : PySem.W.Frag) : Sp := fun vs H Q _ => ∃ (a : Addr) (xs : List V) (ds : List PyData), vs = [.ref a] ∧ (SqL K H a xs ∨ (SqT K H a xs ∧ xs ≠ [])) ∧ DpAll K H xs ds ∧ xs.length ≤ sizeLine ∧
  (∀ d ∈ ds, ∀ e ∈ ds, PySem.W.alike d e = true) ∧ (∀ d ∈ ds, d ≠ .none ∧ d.depth ≤ 20) ∧ ∀ H', Same H H' → Q (.bl (risingD ds)) H'
theorem dpAll_get {H : Hp} : ∀ {vs : List V} {ds : List PyData} {i : Nat} {v : V}, DpAll K H vs ds → vs[i]? = some v → ∃ d, ds[i]? = some d ∧ Dp K H v d
  | _, _, i, _, .nil, e => by simp at e
  | _, _, 0, v, .cons h _, e => by
    simp at e
    subst e
    exact ⟨_, rfl, h⟩
  | _, _, i + 1, v, .cons _ t, e => by
    obtain ⟨d, h1, h2⟩ := dpAll_get (i := i) t (by simpa using e)
    exact ⟨d, by simpa using h1, h2⟩
theorem ok_rises {f : Addr} {fd : FuncData} (F : Fun K "rises" "rises" sRises f fd) (B : Blt mg) : FnOk P w K mg base CX0 1 f fd ["things"] (spRises K) := by
  refine F.ok scRises (fun vs H Q E h => ?_) (fun cdv A outer s H vs Q E hr h => ?_)
  · obtain ⟨a, xs, ds, rfl, _⟩ := h
    rfl
  · obtain ⟨a, xs, ds, rfl, hs, hd, hz, al, nn, q⟩ := h
    have hl := dpAll_len hd
    refine ⟨_, pss_one (ps_ret (pe_callB (cr_all rfl) (by rfl) B.all (by decide +kernel) (pa_cons (pe_lc (own := [("low", 1), ("high", 2)]) (g := gTup K 2 (gCons (gName 1) (gCons (gName 2) gNil))) (tt := tYes) (te := tOp (rLtD K) (tVar 1) (tVar 2)) rfl scRises.nd
      (RZ.pi_zipA (by rfl) B.zip (pa_cons (pv 0) (pa_cons (pe_slice (sl_list.or sl_tup) (pv 0) (po_some pe_int) po_none) pa_nil)))
      (blkOk_by (N := ["things", "low", "high"]) (sc := defScope sRises) (by decide +kernel))
      (fun _ _ _ _ _ => pg_tup rfl (pgs_cons (pg_name (i := 1) scRises.nd rfl (Or.inl rfl)) (pgs_cons (pg_name (i := 2) scRises.nd rfl (Or.inl rfl)) pgs_nil))) (fun _ _ _ _ _ => pts_nil)
      (fun _ _ _ _ _ => pe_cmpR (r := rLtD K) (op_ltD hr.units) (pv 1) (pv 2) (nomark _))) pa_nil))), ?_⟩
    -- the pairs of neighbours, by lists or by tuples
    have go : ∀ (H1 : Hp) (J : It) (G : Hp → Prop) (D : Addr), Same H H1 → Walk J (xs.length - 1) G (YPair (fun i => xs[i]?) (fun i => (xs.drop 1)[i]?)) → (∀ H2, Same H1 H2 → G H2) → H1 D = none →
        ∃ W : Nat → Nat → Hp → Prop, (∃ m, W 0 m (upd H1 D (.lst []))) ∧ ∀ i m H, W i m H → (J.stop i H ∧ rAll K [.ref D] H Q) ∨
          (J.go i H ∧ ∃ Nx : Hp → Prop, (∀ H', Nx H' → ∃ m', m' < m ∧ W (i + 1) m' H') ∧ ∀ x H', J.yld i H x H' → gTup K 2 (gCons (gName 1) (gCons (gName 2) gNil)) x (wipe (start ["things", "low", "high"] [.ref a]) [1, 2]) H' fun σ2 H2 =>
            wipe σ2 [1, 2] = wipe (start ["things", "low", "high"] [.ref a]) [1, 2] ∧ tYes σ2 H2 fun b H3 => if b = true then tOp (rLtD K) (tVar 1) (tVar 2) σ2 H3 fun y H4 => ∃ acc, H4 D = some (.lst acc) ∧ acc.length < sizeLine ∧ Nx (upd H4 D (.lst (acc ++ [y]))) else Nx H3) := by
      intro H1 J G D s1 wk hG nD
      refine lc_pure wk (fun i => .bl (PySem.W.dataLt ((ds[i]?).getD .none) ((ds[i + 1]?).getD .none))) (by omega) nD hG yPair_same (fun i y H2 H3 Z hi s2 hy k => ?_) fun H2 s2 h2 => ?_
      · obtain ⟨T, u, v, rfl, nT, rfl, eu, ev⟩ := hy
        dsimp only at eu ev
        rw [List.getElem?_drop, Nat.add_comm 1 i] at ev
        have s3 : Same H (upd H2 T (.tup [u, v])) := (s1.trans s2).trans (same_new nT)
        obtain ⟨d, ed, hd1⟩ := dpAll_get hd eu
        obtain ⟨e, ee, hd2⟩ := dpAll_get hd ev
        refine ⟨T, [u, v], rfl, SqT.of upd_same, rfl, u, [v], rfl, v, [], rfl, rfl, rfl, ?_⟩
        refine ⟨u, rfl, v, rfl, d, e, Dp.on s3 hd1, Dp.on s3 hd2, al d (List.mem_of_getElem? ed) e (List.mem_of_getElem? ee), (nn d (List.mem_of_getElem? ed)).1, (nn d (List.mem_of_getElem? ed)).2, ?_⟩
        have := k _ (Same.refl _)
        rw [ed, ee] at this
        exact this
      · refine ⟨D, (List.range (xs.length - 1)).map fun i => PySem.W.dataLt ((ds[i]?).getD .none) ((ds[i + 1]?).getD .none), rfl, ?_, ?_⟩
        · rw [List.map_map]
          exact SqL.of h2
        · rw [hl, rising_range ds _ fun i d e h1 h2 => by rw [h1, h2]; rfl]
          exact q H2 (s1.trans s2)
    rcases hs with hs | ⟨hs, ne⟩
    · refine ⟨_, rfl, _, rfl, 1, rfl, .inl ⟨a, xs, rfl, hs, fun p np => ?_⟩⟩
      rw [cut_tail]
      have s1 : Same H (upd H p (.lst (xs.drop 1))) := same_new np
      refine ⟨a, p, xs, xs.drop 1, rfl, .inl ⟨s1.seq hs, SqL.of upd_same, fun D nD => ?_⟩⟩
      exact go _ _ _ D s1 (walk_zip (xs := xs) (ys := xs.drop 1) (by simp)) (fun H2 s2 => ⟨s2.seq (s1.seq hs), s2.seq (SqL.of upd_same)⟩) nD
    · refine ⟨_, rfl, _, rfl, 1, rfl, .inr ⟨a, xs, rfl, hs, ?_, fun p np => ?_⟩⟩
      · intro z
        have := z.1
        rw [show HT.sIx xs.length 0 (some 1) = min 1 xs.length from HT.sIx_nat xs.length 0 1] at this
        cases xs with
        | nil => exact ne rfl
        | cons x r =>
          rw [List.length_cons] at this
          omega
      · rw [cut_tail]
        have s1 : Same H (upd H p (.tup (xs.drop 1))) := same_new np
        refine ⟨a, p, xs, xs.drop 1, rfl, .inr ⟨sqT_same s1 hs, SqT.of upd_same, fun D nD => ?_⟩⟩
        exact go _ _ _ D s1 (walk_zipT (xs := xs) (ys := xs.drop 1) (by simp)) (fun H2 s2 => ⟨sqT_same s2 (sqT_same s1 hs), sqT_same s2 (SqT.of upd_same)⟩) nD
end
end Cry
/-! What elsetold.webs judges of anything: is_web and what it asks. -/
namespace Cry
open PySem PySem.Spec PyProof.Rows L2
section
variable {P : Program} {w : World} {K : PySem.W.Frag} {mg : Str → Option Value} {base : Heap}
/-! ### are_way_beats -/
theorem scAreWayBeats : FnScope ["thing"] ["thing"] (defScope sAreWayBeats) := ⟨rfl, rfl, rfl, by decide +kernel, rfl, by decide +kernel, by decide +kernel⟩
def beatsD : PyData → Bool
  | .int n => decide (1 ≤ n) && decide (n ≤ 1000000000000)
  | _ => false
theorem ok_are_way_beats {f f1 : Addr} {fd fd1 : FuncData} {tk : Tok} (F : Fun K "are_way_beats" "are_way_beats" sAreWayBeats f fd) (D1 : Def K mg "is_whole" f1 fd1 ["thing"]) (G1 : FnOk P w K mg base CX0 1 f1 fd1 ["thing"] (spJudge K wholeD))
    (mB : mg "MOST_BEATS" = some (.int 1000000000000 tk)) : FnOk P w K mg base CX0 2 f fd ["thing"] (spJudge K beatsD) := by
  refine F.ok scAreWayBeats (fun vs H Q E h => ?_) (fun cdv A outer s H vs Q E hr h => ?_)
  · obtain ⟨v, d, rfl, _⟩ := h
    rfl
  · obtain ⟨v, d, rfl, hd, q⟩ := h
    refine ⟨_, pss_one (ps_ret (pe_and (pe_call G1 hr (by rfl) D1.at_ D1.kp D1.b .nil pass0 (pa_cons (pv 0) pa_nil)) (pe_one (pe_chain op_le op_le pe_int (pv 0) (pe_glob (v := .int 1000000000000) rfl mB ⟨_, rfl⟩))))), ?_⟩
    refine ⟨_, rfl, v, d, rfl, hd, fun H1 s1 => ⟨_, rfl, ?_⟩⟩
    cases hd with
    | int n =>
      refine iteT ⟨_, rfl, _, _, rfl, rfl, _, rfl, ?_⟩
      have fin := q H1 s1
      by_cases h1 : 1 ≤ n
      · rw [decide_eq_true h1]
        refine iteT ⟨_, _, rfl, rfl, ?_⟩
        have e : beatsD (.int n) = decide (n ≤ 1000000000000) := by
          show (decide (1 ≤ n) && _) = _
          rw [decide_eq_true h1, Bool.true_and]
        rw [e] at fin
        exact fin
      · rw [decide_eq_false h1]
        refine iteF ?_
        have e : beatsD (.int n) = false := by
          show (decide (1 ≤ n) && _) = _
          rw [decide_eq_false h1, Bool.false_and]
        rw [e] at fin
        exact fin
    | _ => exact iteF (q H1 s1)
/-! ### is_way -/
theorem scIsWay : FnScope ["folk", "thing", "one", "other", "beats"] ["folk", "thing"] (defScope sIsWay) := ⟨rfl, rfl, rfl, by decide +kernel, rfl, by decide +kernel, by decide +kernel⟩
/-- one of the names -/
def inNames (x : Str) (names : List Str) : Bool := inV (.str x) (names.map V.str)
def ltS (x y : Str) : Bool := decide (x.cps.toList < y.cps.toList)
def wayIn (names : List Str) : PyData → PyData → PyData → Bool
  | .str x, .str y, b => nameOkS x && nameOkS y && beatsD b && (inNames x names && inNames y names && ltS x y)
  | _, _, _ => false
def wayD (names : List Str) (d : PyData) : Bool :=
  rowOfD 3 d && match itemsD d with
    | [a, b, c] => wayIn names a b c
    | _ => false
def spIsWay (K : PySem.W.Frag) : Sp := fun vs H Q _ => ∃ (a : Addr) (names : List Str) (v : V) (d : PyData), vs = [.ref a, v] ∧ (SqL K H a (names.map V.str) ∨ SqT K H a (names.map V.str)) ∧ Da H v d ∧ ∀ H', Same H H' → Q (.bl (wayD names d)) H'
theorem flat_names (names : List Str) : (names.map V.str).all flatV = true := by
  rw [List.all_map, List.all_eq_true]
  intro x _
  rfl
theorem seq_same {H H' : Hp} {a : Addr} {xs : List V} (s : Same H H') (h : SqL K H a xs ∨ SqT K H a xs) : SqL K H' a xs ∨ SqT K H' a xs := h.imp s.seq (sqT_same s)
theorem nameD_str {H : Hp} {v : V} {d : PyData} (h : Da H v d) (n : nameD d = true) : ∃ x, v = .str x ∧ d = .str x ∧ nameOkS x = true ∧ x.length ≤ sizeLine := by
  cases h with
  | str x hz => exact ⟨x, rfl, rfl, n, hz⟩
  | _ => exact absurd n (by simp [nameD])
/-- the defs that is_web asks, as they are called -/
structure FormDefs (P : Program) (w : World) (K : PySem.W.Frag) (mg : Str → Option Value) (base : Heap) where
  {f1 f2 f3 f4 : Addr}
  {fd1 fd2 fd3 fd4 : FuncData}
  D1 : Def K mg "is_row_of" f1 fd1 ["many", "thing"]
  G1 : FnOk P w K mg base CX0 2 f1 fd1 ["many", "thing"] (spIsRowOf K)
  D2 : Def K mg "is_name" f2 fd2 ["thing"]
  G2 : FnOk P w K mg base CX0 1 f2 fd2 ["thing"] (spJudge K nameD)
  D3 : Def K mg "are_way_beats" f3 fd3 ["thing"]
  G3 : FnOk P w K mg base CX0 2 f3 fd3 ["thing"] (spJudge K beatsD)
  D4 : Def K mg "is_row" f4 fd4 ["thing"]
  G4 : FnOk P w K mg base CX0 1 f4 fd4 ["thing"] (spJudge K rowD)
theorem ok_is_way {f : Addr} {fd : FuncData} (F : Fun K "is_way" "is_way" sIsWay f fd) (T : FormDefs P w K mg base) : FnOk P w K mg base CX0 3 f fd ["folk", "thing"] (spIsWay K) := by
  refine F.ok scIsWay (fun vs H Q E h => ?_) (fun cdv A outer s H vs Q E hr h => ?_)
  · obtain ⟨a, names, v, d, rfl, _⟩ := h
    rfl
  · obtain ⟨a, names, v, d, rfl, hf, hd, q⟩ := h
    refine ⟨_, pss_cons (ps_if (pt_not (pt_val (pe_call T.G1 hr (by rfl) T.D1.at_ T.D1.kp T.D1.b .nil pass0 (pa_cons pe_int (pa_cons (pv 1) pa_nil))))) (pss_one (ps_ret pe_bl)) pss_nil)
      (pss_cons (ps_asg (pv 1) (pg_row rfl (pgs_cons (pg_name (i := 2) scIsWay.nd rfl (Or.inl rfl)) (pgs_cons (pg_name (i := 3) scIsWay.nd rfl (Or.inl rfl)) (pgs_cons (pg_name (i := 4) scIsWay.nd rfl (Or.inl rfl)) pgs_nil)))))
      (pss_cons (ps_if (pt_not (PW.pt (pw_and (pt_val (pe_call T.G2 (hr.mono (by decide)) (by rfl) T.D2.at_ T.D2.kp T.D2.b .nil pass0 (pa_cons (pv 2) pa_nil))) (pw_and (pt_val (pe_call T.G2 (hr.mono (by decide)) (by rfl) T.D2.at_ T.D2.kp T.D2.b .nil pass0 (pa_cons (pv 3) pa_nil)))
          (pw_and1 (pt_val (pe_call T.G3 hr (by rfl) T.D3.at_ T.D3.kp T.D3.b .nil pass0 (pa_cons (pv 4) pa_nil)))))))) (pss_one (ps_ret pe_bl)) pss_nil)
      (pss_one (ps_ret (pe_and (pe_cmpR op_in_seq (pv 2) (pv 0) rfl) (pe_and (pe_cmpR op_in_seq (pv 3) (pv 0) rfl) (pe_one (pe_cmpR op_lt_str (pv 2) (pv 3) (nomark _))))))))), ?_⟩
    -- is_row_of(3, thing)
    refine ⟨_, rfl, 3, v, d, rfl, hd, fun H1 s1 => ⟨_, rfl, ?_⟩⟩
    cases r3 : rowOfD 3 d with
    | false =>
      refine iteT ?_
      have := q H1 s1
      unfold wayD at this
      rw [r3] at this
      exact this
    | true =>
      refine iteF ?_
      have r3' : rowD d = true ∧ (itemsD d).length = 3 := by simpa [rowOfD] using r3
      obtain ⟨b, xs, rfl, hs, hl, hi⟩ := (hd.on s1).items r3'.1
      obtain ⟨x1, x2, x3, rfl⟩ : ∃ x1 x2 x3, xs = [x1, x2, x3] := by
        rw [r3'.2] at hl
        match xs, hl with
        | [x1, x2, x3], _ => exact ⟨x1, x2, x3, rfl⟩
      obtain ⟨d1, d2, d3, ed⟩ : ∃ d1 d2 d3, itemsD d = [d1, d2, d3] := by
        have h3 := r3'.2
        match itemsD d, h3 with
        | [d1, d2, d3], _ => exact ⟨d1, d2, d3, rfl⟩
      rw [ed] at hi
      have e1 := hi 0 x1 d1 rfl rfl
      have e2 := hi 1 x2 d2 rfl rfl
      have e3 := hi 2 x3 d3 rfl rfl
      have ew : wayD names d = wayIn names d1 d2 d3 := by
        unfold wayD
        rw [r3, ed, Bool.true_and]
      rw [ew] at q
      -- one, other, beats = thing
      refine ⟨_, rfl, b, _, rfl, seq_of hs, rfl, _, _, rfl, _, _, rfl, _, _, rfl, rfl, ?_⟩
      -- is_name(one) and is_name(other) and are_way_beats(beats)
      refine ⟨_, rfl, x1, d1, rfl, e1, fun H2 s2 => ⟨_, rfl, ?_⟩⟩
      have s12 := s1.trans s2
      have no : ∀ H', Same H H' → wayIn names d1 d2 d3 = false → Q (.bl false) H' := fun H' s' e => by
        have := q H' s'
        rw [e] at this
        exact this
      cases n1 : nameD d1 with
      | false =>
        refine iteF (iteT (no H2 s12 ?_))
        cases d1 <;> first | rfl | skip
        cases d2 <;> first | rfl | skip
        show (nameOkS _ && _ && _ && _) = false
        rw [show nameOkS _ = false from n1]
        rfl
      | true =>
        obtain ⟨x, rfl, rfl, ox, _⟩ := nameD_str e1 n1
        refine iteT ⟨_, rfl, x2, d2, rfl, e2.on s2, fun H3 s3 => ⟨_, rfl, ?_⟩⟩
        have s13 := s12.trans s3
        cases n2 : nameD d2 with
        | false =>
          refine iteF (iteT (no H3 s13 ?_))
          cases d2 <;> first | rfl | skip
          show (nameOkS _ && nameOkS _ && _ && _) = false
          rw [show nameOkS _ = false from n2, Bool.and_false, Bool.false_and, Bool.false_and]
        | true =>
          obtain ⟨y, rfl, rfl, oy, _⟩ := nameD_str e2 n2
          refine iteT ⟨_, rfl, x3, d3, rfl, (e3.on s2).on s3, fun H4 s4 => ⟨_, rfl, ?_⟩⟩
          have s14 := s13.trans s4
          cases n3 : beatsD d3 with
          | false =>
            refine iteT (no H4 s14 ?_)
            show (nameOkS x && nameOkS y && beatsD d3 && _) = false
            rw [n3, Bool.and_false, Bool.false_and]
          | true =>
            refine iteF ?_
            have fin := q H4 s14
            have e : wayIn names (.str x) (.str y) d3 = (inNames x names && inNames y names && ltS x y) := by
              show (nameOkS x && nameOkS y && beatsD d3 && _) = _
              rw [ox, oy, n3]
              rfl
            rw [e] at fin
            -- one in folk and other in folk and one < other
            refine ⟨_, rfl, _, rfl, a, _, rfl, seq_same s14 hf, rfl, flat_names names, _, rfl, ?_⟩
            cases i1 : inV (.str x) (names.map V.str) with
            | false =>
              refine iteF ?_
              rw [show inNames x names = false from i1] at fin
              exact fin
            | true =>
              rw [show inNames x names = true from i1, Bool.true_and] at fin
              refine iteT ⟨_, rfl, _, rfl, a, _, rfl, seq_same s14 hf, rfl, flat_names names, _, rfl, ?_⟩
              cases i2 : inV (.str y) (names.map V.str) with
              | false =>
                refine iteF ?_
                rw [show inNames y names = false from i2] at fin
                exact fin
              | true =>
                rw [show inNames y names = true from i2, Bool.true_and] at fin
                exact iteT ⟨_, rfl, _, rfl, x, y, rfl, rfl, fin⟩
/-! ### are_folk -/
theorem scAreFolk : FnScope ["thing", "name"] ["thing"] (defScope sAreFolk) := ⟨rfl, rfl, rfl, by decide +kernel, rfl, by decide +kernel, by decide +kernel⟩
def folkD (d : PyData) : Bool := rowD d && decide (1 ≤ (itemsD d).length) && decide ((itemsD d).length ≤ 60) && (itemsD d).all nameD && risingD (itemsD d)
/-- a row of names -/
theorem names_of {H : Hp} : ∀ {xs : List V} {ds : List PyData}, xs.length = ds.length → (∀ (i : Nat) (x : V) (e : PyData), xs[i]? = some x → ds[i]? = some e → Da H x e) → ds.all nameD = true →
    ∃ names : List Str, xs = names.map V.str ∧ ds = names.map PyData.str ∧ (∀ x ∈ names, nameOkS x = true)
  | [], [], _, _, _ => ⟨[], rfl, rfl, fun x h => by simp at h⟩
  | x :: xs, d :: ds, hl, hi, ha => by
    rw [List.all_cons, Bool.and_eq_true] at ha
    obtain ⟨y, rfl, rfl, oy, _⟩ := nameD_str (hi 0 x d rfl rfl) ha.1
    obtain ⟨names, rfl, rfl, on⟩ := names_of (xs := xs) (ds := ds) (by simpa using hl) (fun i x e h1 h2 => hi (i + 1) x e (by simpa using h1) (by simpa using h2)) ha.2
    refine ⟨y :: names, rfl, rfl, fun z hz => ?_⟩
    rcases List.mem_cons.mp hz with e | e
    · rw [e]
      exact oy
    · exact on z e
theorem strs_alike (names : List Str) : ∀ d ∈ names.map PyData.str, ∀ e ∈ names.map PyData.str, PySem.W.alike d e = true := fun d hd e he => by
  obtain ⟨x, _, rfl⟩ := List.mem_map.mp hd
  obtain ⟨y, _, rfl⟩ := List.mem_map.mp he
  rfl
theorem strs_flat (names : List Str) : ∀ d ∈ names.map PyData.str, d ≠ .none ∧ d.depth ≤ 20 := fun d hd => by
  obtain ⟨x, _, rfl⟩ := List.mem_map.mp hd
  exact ⟨nofun, by show 0 ≤ 20; omega⟩
theorem ok_are_folk {f f5 : Addr} {fd fd5 : FuncData} {tk : Tok} (F : Fun K "are_folk" "are_folk" sAreFolk f fd) (B : Blt mg) (T : FormDefs P w K mg base) (D5 : Def K mg "rises" f5 fd5 ["things"]) (G5 : FnOk P w K mg base CX0 1 f5 fd5 ["things"] (spRises K))
    (mF : mg "MOST_FOLK" = some (.int 60 tk)) : FnOk P w K mg base CX0 2 f fd ["thing"] (spJudge K folkD) := by
  refine F.ok scAreFolk (fun vs H Q E h => ?_) (fun cdv A outer s H vs Q E hr h => ?_)
  · obtain ⟨v, d, rfl, _⟩ := h
    rfl
  · obtain ⟨v, d, rfl, hd, q⟩ := h
    refine ⟨_, pss_cons (ps_if (PW.pt (pw_or (pt_not (pt_val (pe_call T.G4 hr (by rfl) T.D4.at_ T.D4.kp T.D4.b .nil pass0 (pa_cons (pv 0) pa_nil))))
        (pw_or1 (pt_not (pt_chain op_le op_le pe_int (pe_callB call_len_seq (by rfl) B.len (by decide +kernel) (pa_cons (pv 0) pa_nil)) (pe_glob (v := .int 60) rfl mF ⟨_, rfl⟩)))))) (pss_one (ps_ret pe_bl)) pss_nil)
      (pss_one (ps_ret (pe_and (pe_callB (cr_all rfl) (by rfl) B.all (by decide +kernel) (pa_cons (pe_lc (own := [("name", 1)]) (g := gName 1) (tt := tYes) (te := tCall (spJudge K nameD) [] (fun _ _ _ => False) (tCons (tVar 1) tNil)) rfl scAreFolk.nd (pi_row (pv 0)) (blkOk_by (N := ["thing", "name"]) (sc := defScope sAreFolk) (by decide +kernel))
        (fun _ _ _ _ _ => pg_name (i := 1) scAreFolk.nd rfl (Or.inl rfl)) (fun _ _ _ _ _ => pts_nil) (fun _ _ _ _ _ => pe_call T.G2 hr (by rfl) T.D2.at_ T.D2.kp T.D2.b .nil pass0 (pa_cons (pv 1) pa_nil))) pa_nil))
        (pe_one (pe_call G5 hr (by rfl) D5.at_ D5.kp D5.b .nil pass0 (pa_cons (pv 0) pa_nil)))))), ?_⟩
    have no : ∀ H', Same H H' → folkD d = false → Q (.bl false) H' := fun H' s' e => by
      have := q H' s'
      rw [e] at this
      exact this
    refine ⟨_, rfl, v, d, rfl, hd, fun H1 s1 => ⟨_, rfl, ?_⟩⟩
    cases r : rowD d with
    | false => exact iteT (iteT (no H1 s1 (by unfold folkD; rw [r]; rfl)))
    | true =>
      refine iteF ?_
      obtain ⟨a, xs, rfl, hs, hl, hi⟩ := (hd.on s1).items r
      refine ⟨_, rfl, a, xs, rfl, seq_of hs, _, _, rfl, rfl, _, rfl, ?_⟩
      by_cases l1 : 1 ≤ xs.length
      · rw [decide_eq_true (show (1 : Int) ≤ ((xs.length : Nat) : Int) by omega)]
        refine iteT ⟨_, _, rfl, rfl, _, rfl, ?_⟩
        by_cases l2 : xs.length ≤ 60
        · rw [decide_eq_true (show ((xs.length : Nat) : Int) ≤ 60 by omega)]
          refine iteF ?_
          -- all([is_name(name) for name in thing])
          have ef : folkD d = ((itemsD d).all nameD && risingD (itemsD d)) := by
            unfold folkD
            rw [r, decide_eq_true (show 1 ≤ (itemsD d).length by omega), decide_eq_true (show (itemsD d).length ≤ 60 by omega)]
            rfl
          have go : ∀ (J : It) (D : Addr), Walk J xs.length (fun H2 => Same H1 H2) (YAt xs) → H1 D = none →
              ∃ W : Nat → Nat → Hp → Prop, (∃ m, W 0 m (upd H1 D (.lst []))) ∧ ∀ i m H, W i m H → (J.stop i H ∧ rAll K [.ref D] H fun x H2 => ∃ c, x = .bl c ∧ if c = true then tCall (spRises K) [] (fun _ _ _ => False) (tCons (tVar 0) tNil) (start ["thing", "name"] [.ref a]) H2 Q else Q (.bl false) H2) ∨
                (J.go i H ∧ ∃ Nx : Hp → Prop, (∀ H', Nx H' → ∃ m', m' < m ∧ W (i + 1) m' H') ∧ ∀ x H', J.yld i H x H' → gName 1 x (wipe (start ["thing", "name"] [.ref a]) [1]) H' fun σ2 H2 =>
                  wipe σ2 [1] = wipe (start ["thing", "name"] [.ref a]) [1] ∧ tYes σ2 H2 fun b H3 => if b = true then tCall (spJudge K nameD) [] (fun _ _ _ => False) (tCons (tVar 1) tNil) σ2 H3 fun y H4 => ∃ acc, H4 D = some (.lst acc) ∧ acc.length < sizeLine ∧ Nx (upd H4 D (.lst (acc ++ [y]))) else Nx H3) := by
            intro J D wk nD
            refine lc_pure wk (fun i => .bl (nameD (((itemsD d)[i]?).getD .none))) (Nat.le_trans l2 (by decide)) nD (fun _ h => h) yAt_same (fun i y H2 H3 Z hi2 s2 hy k => ?_) fun H2 s2 h2 => ?_
            · obtain ⟨rfl, ey⟩ := hy
              obtain ⟨e, ee⟩ : ∃ e, (itemsD d)[i]? = some e := ⟨_, List.getElem?_eq_getElem (show i < (itemsD d).length by omega)⟩
              rw [ee] at k
              exact ⟨rfl, y, rfl, y, e, rfl, (hi i y e ey ee).on s2, fun H5 s5 => k H5 s5⟩
            · refine ⟨D, (List.range xs.length).map fun i => nameD (((itemsD d)[i]?).getD .none), rfl, ?_, _, rfl, ?_⟩
              · rw [List.map_map]
                exact SqL.of h2
              · have e : ((List.range xs.length).map fun i => nameD (((itemsD d)[i]?).getD .none)).all id = (itemsD d).all nameD := by
                  rw [hl, map_range_get (itemsD d) nameD, List.all_map]
                  rfl
                rw [e]
                cases al : (itemsD d).all nameD with
                | false => exact iteF (no H2 (s1.trans s2) (by rw [ef, al]; rfl))
                | true =>
                  refine iteT ?_
                  obtain ⟨names, en, ed, _⟩ := names_of hl hi al
                  refine ⟨_, rfl, a, xs, itemsD d, rfl, ?_, ?_, Nat.le_trans l2 (by decide), ?_, ?_, fun H5 s5 => ?_⟩
                  · refine (seq_same s2 (seq_of hs)).imp id fun z => ⟨z, fun e => ?_⟩
                    rw [e] at l1
                    simp at l1
                  · rw [en, ed]
                    exact (Ims.strs names).dp
                  · rw [ed]
                    exact strs_alike names
                  · rw [ed]
                    exact strs_flat names
                  · have := q H5 ((s1.trans s2).trans s5)
                    rw [ef, al, Bool.true_and] at this
                    exact this
          refine ⟨_, rfl, a, rfl, ?_⟩
          rcases hs with hs | hs
          · exact .inl ⟨⟨xs, SqL.of hs⟩, fun D nD => go _ D (walk_list.mono (fun H2 s2 => s2.seq (SqL.of hs)) fun _ _ _ _ _ _ y => y) nD⟩
          · exact .inr ⟨⟨xs, SqT.of hs⟩, fun D nD => go _ D (walk_tup.mono (fun H2 s2 => sqT_same s2 (SqT.of hs)) fun _ _ _ _ _ _ y => y) nD⟩
        · rw [decide_eq_false (show ¬ ((xs.length : Nat) : Int) ≤ 60 by omega)]
          exact iteT (no H1 s1 (by unfold folkD; rw [decide_eq_false (show ¬ (itemsD d).length ≤ 60 by omega)]; simp))
      · rw [decide_eq_false (show ¬ (1 : Int) ≤ ((xs.length : Nat) : Int) by omega)]
        exact iteF ⟨_, rfl, iteT (no H1 s1 (by unfold folkD; rw [decide_eq_false (show ¬ 1 ≤ (itemsD d).length by omega)]; simp))⟩
/-! ### are_ways -/
theorem scAreWays : FnScope ["folk", "thing", "way"] ["folk", "thing"] (defScope sAreWays) := ⟨rfl, rfl, rfl, by decide +kernel, rfl, by decide +kernel, by decide +kernel⟩
/-- the two of a way -/
def pairOf (d : PyData) : PyData := .tuple [((itemsD d)[0]?).getD .none, ((itemsD d)[1]?).getD .none]
def waysD (names : List Str) (d : PyData) : Bool := rowD d && decide ((itemsD d).length ≤ 150) && (itemsD d).all (wayD names) && risingD ((itemsD d).map pairOf)
theorem wayD_true {names : List Str} {d : PyData} (h : wayD names d = true) : rowD d = true ∧ ∃ x y n, itemsD d = [.str x, .str y, .int n] ∧ nameOkS x = true ∧ nameOkS y = true ∧ 1 ≤ n ∧ n ≤ 1000000000000 ∧ inNames x names = true ∧ inNames y names = true ∧ ltS x y = true := by
  unfold wayD at h
  rw [Bool.and_eq_true] at h
  obtain ⟨h1, h2⟩ := h
  have r : rowD d = true ∧ (itemsD d).length = 3 := by simpa [rowOfD] using h1
  refine ⟨r.1, ?_⟩
  match ei : itemsD d, r.2 with
  | [a, b, c], _ =>
    rw [ei] at h2
    dsimp only at h2
    match a, b, h2 with
    | .str x, .str y, h2 =>
      have h3 : (nameOkS x && nameOkS y && beatsD c && (inNames x names && inNames y names && ltS x y)) = true := h2
      have hb : beatsD c = true := by
        cases hb : beatsD c with
        | true => rfl
        | false =>
          rw [hb] at h3
          simp at h3
      obtain ⟨n, rfl⟩ : ∃ n, c = .int n := by
        cases c with
        | int n => exact ⟨n, rfl⟩
        | _ => exact absurd hb (by simp [beatsD])
      have h4 : nameOkS x = true ∧ nameOkS y = true ∧ (1 ≤ n ∧ n ≤ 1000000000000) ∧ inNames x names = true ∧ inNames y names = true ∧ ltS x y = true := by
        simpa [beatsD, and_assoc] using h3
      exact ⟨x, y, n, rfl, h4.1, h4.2.1, h4.2.2.1.1, h4.2.2.1.2, h4.2.2.2.1, h4.2.2.2.2.1, h4.2.2.2.2.2⟩
def spAreWays (K : PySem.W.Frag) : Sp := fun vs H Q _ => ∃ (a : Addr) (names : List Str) (v : V) (d : PyData), vs = [.ref a, v] ∧ (SqL K H a (names.map V.str) ∨ SqT K H a (names.map V.str)) ∧ Da H v d ∧ ∀ H', Same H H' → Q (.bl (waysD names d)) H'
theorem ok_are_ways {f f5 f6 : Addr} {fd fd5 fd6 : FuncData} {tk : Tok} (F : Fun K "are_ways" "are_ways" sAreWays f fd) (B : Blt mg) (T : FormDefs P w K mg base) (D5 : Def K mg "rises" f5 fd5 ["things"]) (G5 : FnOk P w K mg base CX0 1 f5 fd5 ["things"] (spRises K))
    (D6 : Def K mg "is_way" f6 fd6 ["folk", "thing"]) (G6 : FnOk P w K mg base CX0 3 f6 fd6 ["folk", "thing"] (spIsWay K)) (mF : mg "MOST_WAYS" = some (.int 150 tk)) : FnOk P w K mg base CX0 4 f fd ["folk", "thing"] (spAreWays K) := by
  refine F.ok scAreWays (fun vs H Q E h => ?_) (fun cdv A outer s H vs Q E hr h => ?_)
  · obtain ⟨a, names, v, d, rfl, _⟩ := h
    rfl
  · obtain ⟨b, names, v, d, rfl, hf, hd, q⟩ := h
    refine ⟨_, pss_cons (ps_if (PW.pt (pw_or (pt_not (pt_val (pe_call T.G4 (hr.mono (by decide)) (by rfl) T.D4.at_ T.D4.kp T.D4.b .nil pass0 (pa_cons (pv 1) pa_nil))))
        (pw_or1 (pt_cmpR op_gt (pe_callB call_len_seq (by rfl) B.len (by decide +kernel) (pa_cons (pv 1) pa_nil)) (pe_glob (v := .int 150) rfl mF ⟨_, rfl⟩) (nomark _))))) (pss_one (ps_ret pe_bl)) pss_nil)
      (pss_cons (ps_if (pt_not (pt_val (pe_callB (cr_all rfl) (by rfl) B.all (by decide +kernel) (pa_cons (pe_lc (own := [("way", 2)]) (g := gName 2) (tt := tYes) (te := tCall (spIsWay K) [] (fun _ _ _ => False) (tCons (tVar 0) (tCons (tVar 2) tNil))) rfl scAreWays.nd (pi_row (pv 1)) (blkOk_by (N := ["folk", "thing", "way"]) (sc := defScope sAreWays) (by decide +kernel))
          (fun _ _ _ _ _ => pg_name (i := 2) scAreWays.nd rfl (Or.inl rfl)) (fun _ _ _ _ _ => pts_nil) (fun _ _ _ _ _ => pe_call G6 hr (by rfl) D6.at_ D6.kp D6.b .nil pass0 (pa_cons (pv 0) (pa_cons (pv 2) pa_nil)))) pa_nil)))) (pss_one (ps_ret pe_bl)) pss_nil)
      (pss_one (ps_ret (pe_call G5 (hr.mono (by decide)) (by rfl) D5.at_ D5.kp D5.b .nil pass0 (pa_cons (pe_lc (own := [("way", 2)]) (g := gName 2) (tt := tYes) (te := tTup (tCons (tOp (rIx K) (tVar 2) (tC (.int 0))) (tCons (tOp (rIx K) (tVar 2) (tC (.int 1))) tNil))) rfl scAreWays.nd (pi_row (pv 1)) (blkOk_by (N := ["folk", "thing", "way"]) (sc := defScope sAreWays) (by decide +kernel))
          (fun _ _ _ _ _ => pg_name (i := 2) scAreWays.nd rfl (Or.inl rfl)) (fun _ _ _ _ _ => pts_nil) (fun _ _ _ _ _ => pe_tup (pa_cons (pe_ix ix_seq (pv 2) pe_int (fun _ _ => rfl)) (pa_cons (pe_ix ix_seq (pv 2) pe_int (fun _ _ => rfl)) pa_nil)))) pa_nil))))), ?_⟩
    have no : ∀ H', Same H H' → waysD names d = false → Q (.bl false) H' := fun H' s' e => by
      have := q H' s'
      rw [e] at this
      exact this
    refine ⟨_, rfl, v, d, rfl, hd, fun H1 s1 => ⟨_, rfl, ?_⟩⟩
    cases r : rowD d with
    | false => exact iteT (iteT (no H1 s1 (by unfold waysD; rw [r]; rfl)))
    | true =>
      refine iteF ?_
      obtain ⟨a, xs, rfl, hs, hl, hi⟩ := (hd.on s1).items r
      refine ⟨_, rfl, a, xs, rfl, seq_of hs, _, _, rfl, rfl, _, rfl, ?_⟩
      by_cases l2 : xs.length ≤ 150
      · rw [decide_eq_false (show ¬ (150 : Int) < ((xs.length : Nat) : Int) by omega)]
        refine iteF ?_
        have ef : waysD names d = ((itemsD d).all (wayD names) && risingD ((itemsD d).map pairOf)) := by
          unfold waysD
          rw [r, decide_eq_true (show (itemsD d).length ≤ 150 by omega)]
          rfl
        -- all([is_way(folk, way) for way in thing])
        refine ⟨_, rfl, a, rfl, ?_⟩
        have walk1 : ∀ H0, Same H1 H0 → (((∃ ys, SqL K H0 a ys) ∧ Walk (Itl K a) xs.length (fun H2 => Same H0 H2) (YAt xs)) ∨ ((∃ ys, SqT K H0 a ys) ∧ Walk (Itt K a) xs.length (fun H2 => Same H0 H2) (YAt xs))) := by
          intro H0 s0
          rcases hs with hs | hs
          · exact .inl ⟨⟨xs, s0.seq (SqL.of hs)⟩, walk_list.mono (fun H2 s2 => s2.seq (s0.seq (SqL.of hs))) fun _ _ _ _ _ _ y => y⟩
          · exact .inr ⟨⟨xs, sqT_same s0 (SqT.of hs)⟩, walk_tup.mono (fun H2 s2 => sqT_same s2 (sqT_same s0 (SqT.of hs))) fun _ _ _ _ _ _ y => y⟩
        -- behind the first comprehension
        suffices rest : ∀ H2, Same H1 H2 → (itemsD d).all (wayD names) = true → tRet (tCall (spRises K) [] (fun _ _ _ => False) (tCons (tLc (iRow K (tVar 1)) (gName 2) tYes (tTup (tCons (tOp (rIx K) (tVar 2) (tC (.int 0))) (tCons (tOp (rIx K) (tVar 2) (tC (.int 1))) tNil))) [2]) tNil)) { nx := fun _ H' => Q .non H', rt := Q } (start ["folk", "thing", "way"] [.ref b, .ref a]) H2 by
          have item : ∀ (J : It) (D : Addr), Walk J xs.length (fun H2 => Same H1 H2) (YAt xs) → H1 D = none → ∀ Qd : Hp → Prop, (∀ H2, Same H1 H2 → H2 D = some (.lst (((itemsD d).map (wayD names)).map V.bl)) → Qd H2) →
              ∃ W : Nat → Nat → Hp → Prop, (∃ m, W 0 m (upd H1 D (.lst []))) ∧ ∀ i m H, W i m H → (J.stop i H ∧ Qd H) ∨
                (J.go i H ∧ ∃ Nx : Hp → Prop, (∀ H', Nx H' → ∃ m', m' < m ∧ W (i + 1) m' H') ∧ ∀ x H', J.yld i H x H' → gName 2 x (wipe (start ["folk", "thing", "way"] [.ref b, .ref a]) [2]) H' fun σ2 H2 =>
                  wipe σ2 [2] = wipe (start ["folk", "thing", "way"] [.ref b, .ref a]) [2] ∧ tYes σ2 H2 fun b H3 => if b = true then tCall (spIsWay K) [] (fun _ _ _ => False) (tCons (tVar 0) (tCons (tVar 2) tNil)) σ2 H3 fun y H4 => ∃ acc, H4 D = some (.lst acc) ∧ acc.length < sizeLine ∧ Nx (upd H4 D (.lst (acc ++ [y]))) else Nx H3) := by
            intro J D wk nD Qd hQd
            refine lc_pure wk (fun i => .bl (wayD names (((itemsD d)[i]?).getD .none))) (Nat.le_trans l2 (by decide)) nD (fun _ h => h) yAt_same (fun i y H2 H3 Z hi2 s2 hy k => ?_) fun H2 s2 h2 => hQd H2 s2 ?_
            · obtain ⟨rfl, ey⟩ := hy
              obtain ⟨e, ee⟩ : ∃ e, (itemsD d)[i]? = some e := ⟨_, List.getElem?_eq_getElem (show i < (itemsD d).length by omega)⟩
              rw [ee] at k
              exact ⟨rfl, _, rfl, y, rfl, b, names, y, e, rfl, seq_same (s1.trans s2) hf, (hi i y e ey ee).on s2, fun H5 s5 => k H5 s5⟩
            · rw [h2, hl]
              have e1 := map_range_get (itemsD d) (wayD names) .none
              rw [← e1, List.map_map]
              rfl
          have fin : ∀ D H2, Same H1 H2 → H2 D = some (.lst (((itemsD d).map (wayD names)).map V.bl)) → rAll K [.ref D] H2 fun x H3 => ∃ c, x = .bl c ∧ if (!c) = true then tRet (tC (.bl false)) { nx := fun _ H' => Q .non H', rt := Q } (start ["folk", "thing", "way"] [.ref b, .ref a]) H3 else tNext { nx := tRet (tCall (spRises K) [] (fun _ _ _ => False) (tCons (tLc (iRow K (tVar 1)) (gName 2) tYes (tTup (tCons (tOp (rIx K) (tVar 2) (tC (.int 0))) (tCons (tOp (rIx K) (tVar 2) (tC (.int 1))) tNil))) [2]) tNil)) { nx := fun _ H' => Q .non H', rt := Q }, rt := Q } (start ["folk", "thing", "way"] [.ref b, .ref a]) H3 := by
            intro D H2 s2 h2
            refine ⟨D, (itemsD d).map (wayD names), rfl, SqL.of h2, ?_⟩
            rw [List.all_map, show (id ∘ wayD names) = wayD names from rfl]
            cases al : (itemsD d).all (wayD names) with
            | false => exact ⟨_, rfl, iteT (no H2 (s1.trans s2) (by rw [ef, al]; rfl))⟩
            | true => exact ⟨_, rfl, iteF (rest H2 s2 al)⟩
          rcases walk1 H1 (Same.refl _) with ⟨h1, wk⟩ | ⟨h1, wk⟩
          · exact .inl ⟨h1, fun D nD => item _ D wk nD _ (fin D)⟩
          · exact .inr ⟨h1, fun D nD => item _ D wk nD _ (fin D)⟩
        -- the pairs
        intro H2 s2 al
        have each : ∀ (i : Nat) (e : PyData), (itemsD d)[i]? = some e → wayD names e = true := fun i e ee => List.all_eq_true.mp al e (List.mem_of_getElem? ee)
        refine ⟨_, rfl, a, rfl, ?_⟩
        have item : ∀ (J : It) (D : Addr), Walk J xs.length (fun H3 => Same H2 H3) (YAt xs) → H2 D = none →
              ∃ W : Nat → Nat → Hp → Prop, (∃ m, W 0 m (upd H2 D (.lst []))) ∧ ∀ i m H, W i m H → (J.stop i H ∧ spRises K [.ref D] H Q fun _ _ _ => False) ∨
                (J.go i H ∧ ∃ Nx : Hp → Prop, (∀ H', Nx H' → ∃ m', m' < m ∧ W (i + 1) m' H') ∧ ∀ x H', J.yld i H x H' → gName 2 x (wipe (start ["folk", "thing", "way"] [.ref b, .ref a]) [2]) H' fun σ2 H2 =>
                  wipe σ2 [2] = wipe (start ["folk", "thing", "way"] [.ref b, .ref a]) [2] ∧ tYes σ2 H2 fun b H3 => if b = true then tTup (tCons (tOp (rIx K) (tVar 2) (tC (.int 0))) (tCons (tOp (rIx K) (tVar 2) (tC (.int 1))) tNil)) σ2 H3 fun y H4 => ∃ acc, H4 D = some (.lst acc) ∧ acc.length < sizeLine ∧ Nx (upd H4 D (.lst (acc ++ [y]))) else Nx H3) := by
          intro J D wk nD
          refine lc_gen wk TS (fun _ H => Same H2 H) (fun i y H => ∀ e, (itemsD d)[i]? = some e → Im H y (pairOf e)) (Nat.le_trans l2 (by decide)) (fun H acc acc' h => TS.lst h) (fun i H acc acc' _ gd => same_at gd nD) (fun j y H H' t h e ee => (h e ee).on t) (same_new nD) (fun i H gd => gd) (fun i y H3 H4 acc Z hi2 s3 hacc hy k => ?_) (fun H3 ys s3 h3 hlen hR => ?_)
          · obtain ⟨rfl, ey⟩ := hy
            obtain ⟨e, ee⟩ : ∃ e, (itemsD d)[i]? = some e := ⟨_, List.getElem?_eq_getElem (show i < (itemsD d).length by omega)⟩
            obtain ⟨re, x, z, n, ie, _⟩ := wayD_true (each i e ee)
            have dy := ((hi i y e ey ee).on s2).on s3
            obtain ⟨c, zs, rfl, hc, hcl, hci⟩ := dy.items re
            rw [ie] at hcl hci
            obtain ⟨z1, z2, z3, rfl⟩ : ∃ z1 z2 z3, zs = [z1, z2, z3] := by
              match zs, hcl with
              | [z1, z2, z3], _ => exact ⟨z1, z2, z3, rfl⟩
            obtain rfl : z1 = .str x := by
              cases hci 0 z1 (.str x) rfl rfl
              rfl
            obtain rfl : z2 = .str z := by
              cases hci 1 z2 (.str z) rfl rfl
              rfl
            have ix : ∀ (j : Nat) u, [V.str x, V.str z, z3][j]? = some u → ∀ Q' : VK, Q' u H4 → rIx K (.ref c) (.int j) H4 Q' := fun j u ej Q' q' =>
              hc.elim (fun h => .inl ⟨c, _, _, u, rfl, rfl, SqL.of h, atI_nat ej, q'⟩) fun h => .inr (.inl ⟨c, _, _, u, rfl, rfl, SqT.of h, atI_nat ej, q'⟩)
            refine ⟨rfl, _, rfl, ix 0 _ rfl _ ?_⟩
            refine ⟨_, rfl, ix 1 _ rfl _ ?_⟩
            refine ⟨by show 2 ≤ sizeLine; decide, fun p np => ?_⟩
            refine k _ _ ((same_new np) _ _ hacc) (TS.new np) (s3.trans (same_new np)) fun e' ee' => ?_
            cases ee.symm.trans ee'
            have ep : pairOf e = .tuple [.str x, .str z] := by
              unfold pairOf
              rw [ie]
              rfl
            rw [ep]
            exact .tup upd_same (.cons (.str x) (.cons (.str z) .nil))
          · have im : Ims H3 ys ((itemsD d).map pairOf) := Ims.of (by rw [List.length_map, hlen, hl]) fun i v' d' e1 e2 => by
              rw [List.getElem?_map] at e2
              cases ee : (itemsD d)[i]? with
              | none =>
                rw [ee] at e2
                cases e2
              | some e =>
                rw [ee] at e2
                cases e2
                exact hR i v' e1 e ee
            have pr : ∀ d' ∈ (itemsD d).map pairOf, ∃ x y, d' = .tuple [.str x, .str y] := fun d' hd' => by
              obtain ⟨e, he, rfl⟩ := List.mem_map.mp hd'
              obtain ⟨i, ee⟩ := List.getElem?_of_mem he
              obtain ⟨_, x, z, n, ie, _⟩ := wayD_true (each i e ee)
              refine ⟨x, z, ?_⟩
              unfold pairOf
              rw [ie]
              rfl
            refine ⟨D, ys, (itemsD d).map pairOf, rfl, .inl (SqL.of h3), im.dp, by rw [hlen]; exact Nat.le_trans l2 (by decide), fun d1 h1 d2 h2 => ?_, fun d1 h1 => ?_, fun H5 s5 => ?_⟩
            · obtain ⟨x, y, rfl⟩ := pr d1 h1
              obtain ⟨x', y', rfl⟩ := pr d2 h2
              rfl
            · obtain ⟨x, y, rfl⟩ := pr d1 h1
              exact ⟨nofun, by show PyData.depth _ ≤ 20; simp [PyData.depth, PyData.depthAll]⟩
            · have := q H5 (((s1.trans s2).trans s3).trans s5)
              rw [ef, al, Bool.true_and] at this
              exact this
        rcases walk1 H2 s2 with ⟨h1, wk⟩ | ⟨h1, wk⟩
        · exact .inl ⟨h1, fun D nD => item _ D wk nD⟩
        · exact .inr ⟨h1, fun D nD => item _ D wk nD⟩
      · rw [decide_eq_true (show (150 : Int) < ((xs.length : Nat) : Int) by omega)]
        exact iteT (no H1 s1 (by unfold waysD; rw [decide_eq_false (show ¬ (itemsD d).length ≤ 150 by omega)]; simp))
end
end Cry
/-! is_web, own_web. -/
namespace Cry
open PySem PySem.Spec PyProof.Rows L2
section
variable {P : Program} {w : World} {K : PySem.W.Frag} {mg : Str → Option Value} {base : Heap}
/-! ### is_web -/
theorem scIsWeb : FnScope ["thing", "folk", "ways"] ["thing"] (defScope sIsWeb) := ⟨rfl, rfl, rfl, by decide +kernel, rfl, by decide +kernel, by decide +kernel⟩
def textOf : PyData → Str
  | .str x => x
  | _ => ""
def namesD (f : PyData) : List Str := (itemsD f).map textOf
def webD (d : PyData) : Bool :=
  rowOfD 2 d && match itemsD d with
    | [f, ws] => folkD f && waysD (namesD f) ws
    | _ => false
theorem namesD_strs {names : List Str} {f : PyData} (h : itemsD f = names.map PyData.str) : namesD f = names := by
  unfold namesD
  rw [h, List.map_map]
  have : (textOf ∘ PyData.str) = id := rfl
  rw [this, List.map_id]
theorem folkD_names {H : Hp} {v : V} {f : PyData} (h : Da H v f) (t : folkD f = true) : ∃ a xs, v = .ref a ∧ (H a = some (.lst xs) ∨ H a = some (.tup xs)) ∧ xs = (namesD f).map V.str ∧ itemsD f = (namesD f).map PyData.str ∧ (∀ x ∈ namesD f, nameOkS x = true) ∧
    1 ≤ (namesD f).length ∧ (namesD f).length ≤ 60 ∧ risingD ((namesD f).map PyData.str) = true := by
  have t' : rowD f = true ∧ 1 ≤ (itemsD f).length ∧ (itemsD f).length ≤ 60 ∧ (itemsD f).all nameD = true ∧ risingD (itemsD f) = true := by
    unfold folkD at t
    rw [Bool.and_eq_true, Bool.and_eq_true, Bool.and_eq_true, Bool.and_eq_true, decide_eq_true_eq, decide_eq_true_eq] at t
    exact ⟨t.1.1.1.1, t.1.1.1.2, t.1.1.2, t.1.2, t.2⟩
  obtain ⟨a, xs, rfl, hs, hl, hi⟩ := h.items t'.1
  obtain ⟨names, en, ed, on⟩ := names_of hl hi t'.2.2.2.1
  have e := namesD_strs ed
  rw [e]
  have ll : (itemsD f).length = names.length := by rw [ed, List.length_map]
  exact ⟨a, xs, rfl, hs, en, ed, on, by omega, by omega, by rw [← ed]; exact t'.2.2.2.2⟩
theorem webD_two {d : PyData} (h : rowOfD 2 d = true) : rowD d = true ∧ ∃ f ws, itemsD d = [f, ws] ∧ webD d = (folkD f && waysD (namesD f) ws) := by
  have r : rowD d = true ∧ (itemsD d).length = 2 := by simpa [rowOfD] using h
  refine ⟨r.1, ?_⟩
  match ei : itemsD d, r.2 with
  | [f, ws], _ =>
    refine ⟨f, ws, rfl, ?_⟩
    unfold webD
    rw [h, ei, Bool.true_and]
theorem ok_is_web {f f1 f2 : Addr} {fd fd1 fd2 : FuncData} (F : Fun K "is_web" "is_web" sIsWeb f fd) (T : FormDefs P w K mg base) (D1 : Def K mg "are_folk" f1 fd1 ["thing"]) (G1 : FnOk P w K mg base CX0 2 f1 fd1 ["thing"] (spJudge K folkD))
    (D2 : Def K mg "are_ways" f2 fd2 ["folk", "thing"]) (G2 : FnOk P w K mg base CX0 4 f2 fd2 ["folk", "thing"] (spAreWays K)) : FnOk P w K mg base CX0 5 f fd ["thing"] (spJudge K webD) := by
  refine F.ok scIsWeb (fun vs H Q E h => ?_) (fun cdv A outer s H vs Q E hr h => ?_)
  · obtain ⟨v, d, rfl, _⟩ := h
    rfl
  · obtain ⟨v, d, rfl, hd, q⟩ := h
    refine ⟨_, pss_cons (ps_if (pt_not (pt_val (pe_call T.G1 (hr.mono (by decide)) (by rfl) T.D1.at_ T.D1.kp T.D1.b .nil pass0 (pa_cons pe_int (pa_cons (pv 0) pa_nil))))) (pss_one (ps_ret pe_bl)) pss_nil)
      (pss_cons (ps_asg (pv 0) (pg_row rfl (pgs_cons (pg_name (i := 1) scIsWeb.nd rfl (Or.inl rfl)) (pgs_cons (pg_name (i := 2) scIsWeb.nd rfl (Or.inl rfl)) pgs_nil))))
      (pss_one (ps_ret (pe_and (pe_call G1 (hr.mono (by decide)) (by rfl) D1.at_ D1.kp D1.b .nil pass0 (pa_cons (pv 1) pa_nil)) (pe_one (pe_call G2 hr (by rfl) D2.at_ D2.kp D2.b .nil pass0 (pa_cons (pv 1) (pa_cons (pv 2) pa_nil)))))))), ?_⟩
    refine ⟨_, rfl, 2, v, d, rfl, hd, fun H1 s1 => ⟨_, rfl, ?_⟩⟩
    cases r : rowOfD 2 d with
    | false =>
      refine iteT ?_
      have := q H1 s1
      unfold webD at this
      rw [r] at this
      exact this
    | true =>
      obtain ⟨rd, df, dw, ei, ew⟩ := webD_two r
      refine iteF ?_
      obtain ⟨b, xs, rfl, hs, hl, hi⟩ := (hd.on s1).items rd
      rw [ei] at hl hi
      obtain ⟨x1, x2, rfl⟩ : ∃ x1 x2, xs = [x1, x2] := by
        match xs, hl with
        | [x1, x2], _ => exact ⟨x1, x2, rfl⟩
      have e1 := hi 0 x1 df rfl rfl
      have e2 := hi 1 x2 dw rfl rfl
      rw [ew] at q
      refine ⟨_, rfl, b, _, rfl, seq_of hs, rfl, _, _, rfl, _, _, rfl, rfl, ?_⟩
      refine ⟨_, rfl, x1, df, rfl, e1, fun H2 s2 => ⟨_, rfl, ?_⟩⟩
      cases fk : folkD df with
      | false =>
        refine iteF ?_
        have := q H2 (s1.trans s2)
        rw [fk] at this
        exact this
      | true =>
        obtain ⟨a, ys, rfl, ha, en, _⟩ := folkD_names (e1.on s2) fk
        refine iteT ⟨_, rfl, _, rfl, a, namesD df, x2, dw, rfl, ?_, e2.on s2, fun H3 s3 => ?_⟩
        · rw [← en]
          exact seq_of ha
        · have := q H3 ((s1.trans s2).trans s3)
          rw [fk, Bool.true_and] at this
          exact this
/-! ### a web as lists of names and of ways -/
abbrev Way := Str × Str × Int
def wayD3 (y : Way) : PyData := .tuple [.str y.1, .str y.2.1, .int y.2.2]
def pairD (y : Way) : PyData := .tuple [.str y.1, .str y.2.1]
structure WebOk (names : List Str) (ways : List Way) : Prop where
  ok : ∀ x ∈ names, nameOkS x = true
  one : 1 ≤ names.length
  most : names.length ≤ 60
  up : risingD (names.map PyData.str) = true
  few : ways.length ≤ 150
  way : ∀ y ∈ ways, nameOkS y.1 = true ∧ nameOkS y.2.1 = true ∧ 1 ≤ y.2.2 ∧ y.2.2 ≤ 1000000000000 ∧ inNames y.1 names = true ∧ inNames y.2.1 names = true ∧ ltS y.1 y.2.1 = true
  upw : risingD (ways.map pairD) = true
def intOf : PyData → Int
  | .int n => n
  | _ => 0
def wayOf (e : PyData) : Way := (textOf (((itemsD e)[0]?).getD .none), textOf (((itemsD e)[1]?).getD .none), intOf (((itemsD e)[2]?).getD .none))
def folkOf (d : PyData) : List Str := namesD (((itemsD d)[0]?).getD .none)
def waysOf (d : PyData) : List Way := (itemsD (((itemsD d)[1]?).getD .none)).map wayOf
theorem waysD_true {names : List Str} {d : PyData} (h : waysD names d = true) : rowD d = true ∧ (itemsD d).length ≤ 150 ∧ (∀ e ∈ itemsD d, wayD names e = true) ∧ risingD ((itemsD d).map pairOf) = true := by
  unfold waysD at h
  rw [Bool.and_eq_true, Bool.and_eq_true, Bool.and_eq_true, decide_eq_true_eq, List.all_eq_true] at h
  exact ⟨h.1.1.1, h.1.1.2, h.1.2, h.2⟩
theorem webOk_of {H : Hp} {v : V} {d : PyData} (hd : Da H v d) (h : webD d = true) : WebOk (folkOf d) (waysOf d) ∧ ∃ df dw, itemsD d = [df, dw] ∧ folkD df = true ∧ waysD (namesD df) dw = true ∧ folkOf d = namesD df ∧ waysOf d = (itemsD dw).map wayOf := by
  have r : rowOfD 2 d = true := by
    unfold webD at h
    rw [Bool.and_eq_true] at h
    exact h.1
  obtain ⟨rd, df, dw, ei, ew⟩ := webD_two r
  rw [ew, Bool.and_eq_true] at h
  obtain ⟨b, xs, rfl, hs, hl, hi⟩ := hd.items rd
  rw [ei] at hl hi
  obtain ⟨x1, x2, rfl⟩ : ∃ x1 x2, xs = [x1, x2] := by
    match xs, hl with
    | [x1, x2], _ => exact ⟨x1, x2, rfl⟩
  obtain ⟨a, ys, rfl, ha, en, ed, on, l1, l2, up⟩ := folkD_names (hi 0 x1 df rfl rfl) h.1
  obtain ⟨r2, few, each, upw⟩ := waysD_true h.2
  have ef : folkOf d = namesD df := by
    unfold folkOf
    rw [ei]
    rfl
  have eway : waysOf d = (itemsD dw).map wayOf := by
    unfold waysOf
    rw [ei]
    rfl
  refine ⟨⟨by rw [ef]; exact on, by rw [ef]; exact l1, by rw [ef]; exact l2, by rw [ef]; exact up, by rw [eway, List.length_map]; exact few, fun y hy => ?_, ?_⟩, df, dw, ei, h.1, h.2, ef, eway⟩
  · rw [eway] at hy
    obtain ⟨e, he, rfl⟩ := List.mem_map.mp hy
    obtain ⟨_, x, z, n, ie, o1, o2, n1, n2, i1, i2, lt⟩ := wayD_true (each e he)
    have ew : wayOf e = (x, z, n) := by
      unfold wayOf
      rw [ie]
      rfl
    rw [ew, ef]
    exact ⟨o1, o2, n1, n2, i1, i2, lt⟩
  · rw [eway, List.map_map]
    have e : (itemsD dw).map (pairD ∘ wayOf) = (itemsD dw).map pairOf := by
      refine List.map_congr_left fun e he => ?_
      obtain ⟨_, x, z, n, ie, _⟩ := wayD_true (each e he)
      show pairD (wayOf e) = pairOf e
      unfold pairD wayOf pairOf
      rw [ie]
      rfl
    rw [e]
    exact upw
/-! ### own_web -/
theorem scOwnWeb : FnScope ["web", "folk", "ways", "way"] ["web"] (defScope sOwnWeb) := ⟨rfl, rfl, rfl, by decide +kernel, rfl, by decide +kernel, by decide +kernel⟩
/-- a web of the told kinds, all new -/
structure OwnAt (H H' : Hp) (T : Addr) (names : List Str) (ways : List Way) : Prop where
  same : Same H H'
  new : H T = none
  ex : ∃ F W ws, H' T = some (.tup [.ref F, .ref W]) ∧ H F = none ∧ H W = none ∧ H' F = some (.lst (names.map V.str)) ∧ H' W = some (.lst ws) ∧ Ims H' ws (ways.map wayD3)
def spOwnWeb : Sp := fun vs H Q _ => ∃ (v : V) (d : PyData), vs = [v] ∧ Da H v d ∧ webD d = true ∧ ∀ T H', OwnAt H H' T (folkOf d) (waysOf d) → Q (.ref T) H'
def rTupOf (K : PySem.W.Frag) : List V → Hp → VK → Prop := fun xs H Q => ∃ p ys, xs = [V.ref p] ∧ ((SqL K H p ys ∧ ∀ (l : Addr), H l = none → Q (.ref l) (upd H l (.tup ys))) ∨ (SqT K H p ys ∧ Q (.ref p) H))
theorem ok_own_web {f f1 : Addr} {fd fd1 : FuncData} (F : Fun K "own_web" "own_web" sOwnWeb f fd) (B : Blt mg) (D1 : Def K mg "is_web" f1 fd1 ["thing"]) (G1 : FnOk P w K mg base CX0 5 f1 fd1 ["thing"] (spJudge K webD)) : FnOk P w K mg base CX0 6 f fd ["web"] spOwnWeb := by
  refine F.ok scOwnWeb (fun vs H Q E h => ?_) (fun cdv A outer s H vs Q E hr h => ?_)
  · obtain ⟨v, d, rfl, _⟩ := h
    rfl
  · obtain ⟨v, d, rfl, hd, hw, q⟩ := h
    refine ⟨_, pss_cons (ps_if (pt_not (pt_val (pe_call G1 hr (by rfl) D1.at_ D1.kp D1.b .nil pass0 (pa_cons (pv 0) pa_nil)))) (pss_one ps_never) pss_nil)
      (pss_cons (ps_asg (pv 0) (pg_row rfl (pgs_cons (pg_name (i := 1) scOwnWeb.nd rfl (Or.inl rfl)) (pgs_cons (pg_name (i := 2) scOwnWeb.nd rfl (Or.inl rfl)) pgs_nil))))
      (pss_one (ps_ret (pe_tup (pa_cons (pe_callTy call_list_of (by rfl) B.list (by decide +kernel) (pa_cons (pv 1) pa_nil)) (pa_cons
        (pe_lc (own := [("way", 3)]) (g := gName 3) (tt := tYes) (te := tCB (rTupOf K) (tCons (tVar 3) tNil)) rfl scOwnWeb.nd (pi_row (pv 2)) (blkOk_by (N := ["web", "folk", "ways", "way"]) (sc := defScope sOwnWeb) (by decide +kernel))
          (fun _ _ _ _ _ => pg_name (i := 3) scOwnWeb.nd rfl (Or.inl rfl)) (fun _ _ _ _ _ => pts_nil) (fun _ _ _ _ _ => pe_callTy call_tuple_of (by rfl) B.tuple (by decide +kernel) (pa_cons (pv 3) pa_nil))) pa_nil)))))), ?_⟩
    refine ⟨_, rfl, v, d, rfl, hd, fun H1 s1 => ⟨_, rfl, ?_⟩⟩
    rw [hw]
    refine iteF ?_
    obtain ⟨_, df, dw, ei, hf, hws, e1, e2⟩ := webOk_of hd hw
    rw [e1, e2] at q
    have r : rowD d = true := by
      unfold webD at hw
      rw [Bool.and_eq_true] at hw
      exact (by simpa [rowOfD] using hw.1 : rowD d = true ∧ _).1
    obtain ⟨b, xs, rfl, hs, hl, hi⟩ := (hd.on s1).items r
    rw [ei] at hl hi
    obtain ⟨x1, x2, rfl⟩ : ∃ x1 x2, xs = [x1, x2] := by
      match xs, hl with
      | [x1, x2], _ => exact ⟨x1, x2, rfl⟩
    obtain ⟨a, ys, rfl, ha, en, _⟩ := folkD_names (hi 0 x1 df rfl rfl) hf
    obtain ⟨rw_, few, each, _⟩ := waysD_true hws
    obtain ⟨c, zs, rfl, hc, hcl, hci⟩ := (hi 1 x2 dw rfl rfl).items rw_
    refine ⟨_, rfl, b, _, rfl, seq_of hs, rfl, _, _, rfl, _, _, rfl, rfl, ?_⟩
    -- list(folk)
    refine ⟨_, rfl, a, ys, rfl, seq_of ha, fun F nF => ?_⟩
    have sF : Same H1 (upd H1 F (.lst ys)) := same_new nF
    -- [tuple(way) for way in ways]
    refine ⟨_, rfl, c, rfl, ?_⟩
    have item : ∀ (J : It) (D : Addr), Walk J zs.length (fun H3 => Same (upd H1 F (.lst ys)) H3) (YAt zs) → (upd H1 F (.lst ys)) D = none → ∀ Qd : Hp → Prop,
        (∀ H3 ws, Same (upd H1 F (.lst ys)) H3 → H3 D = some (.lst ws) → Ims H3 ws (((itemsD dw).map wayOf).map wayD3) → Qd H3) →
        ∃ W : Nat → Nat → Hp → Prop, (∃ m, W 0 m (upd (upd H1 F (.lst ys)) D (.lst []))) ∧ ∀ i m H, W i m H → (J.stop i H ∧ Qd H) ∨
          (J.go i H ∧ ∃ Nx : Hp → Prop, (∀ H', Nx H' → ∃ m', m' < m ∧ W (i + 1) m' H') ∧ ∀ x H', J.yld i H x H' → gName 3 x (wipe [some (V.ref b), some (V.ref a), some (V.ref c), none] [3]) H' fun σ2 H2 =>
            wipe σ2 [3] = wipe [some (V.ref b), some (V.ref a), some (V.ref c), none] [3] ∧ tYes σ2 H2 fun b H3 => if b = true then tCB (rTupOf K) (tCons (tVar 3) tNil) σ2 H3 fun y H4 => ∃ acc, H4 D = some (.lst acc) ∧ acc.length < sizeLine ∧ Nx (upd H4 D (.lst (acc ++ [y]))) else Nx H3) := by
      intro J D wk nD Qd hQd
      refine lc_gen wk TS (fun _ H => Same (upd H1 F (.lst ys)) H) (fun i y H => ∀ e, (itemsD dw)[i]? = some e → Im H y (wayD3 (wayOf e))) (by rw [hcl]; exact Nat.le_trans few (by decide)) (fun H acc acc' h => TS.lst h) (fun i H acc acc' _ gd => same_at gd nD)
        (fun j y H H' t h e ee => (h e ee).on t) (same_new nD) (fun i H gd => gd) (fun i y H3 H4 acc Z hi2 s3 hacc hy k => ?_) (fun H3 ws s3 h3 hlen hR => ?_)
      · obtain ⟨rfl, ey⟩ := hy
        obtain ⟨e, ee⟩ : ∃ e, (itemsD dw)[i]? = some e := ⟨_, List.getElem?_eq_getElem (show i < (itemsD dw).length by omega)⟩
        obtain ⟨re, x, z, n, ie, _⟩ := wayD_true (each e (List.mem_of_getElem? ee))
        obtain ⟨p, us, rfl, hp, hpl, hpi⟩ := (((hci i y e ey ee).on sF).on s3).items re
        rw [ie] at hpl hpi
        obtain ⟨u1, u2, u3, rfl⟩ : ∃ u1 u2 u3, us = [u1, u2, u3] := by
          match us, hpl with
          | [u1, u2, u3], _ => exact ⟨u1, u2, u3, rfl⟩
        obtain rfl : u1 = .str x := by
          cases hpi 0 u1 (.str x) rfl rfl
          rfl
        obtain rfl : u2 = .str z := by
          cases hpi 1 u2 (.str z) rfl rfl
          rfl
        obtain rfl : u3 = .int n := by
          cases hpi 2 u3 (.int n) rfl rfl
          rfl
        have ew : wayD3 (wayOf e) = .tuple [.str x, .str z, .int n] := by
          unfold wayD3 wayOf
          rw [ie]
          rfl
        refine ⟨rfl, _, rfl, p, [.str x, .str z, .int n], rfl, ?_⟩
        rcases hp with hp | hp
        · refine .inl ⟨SqL.of hp, fun l nl => ?_⟩
          refine k _ _ ((same_new nl) _ _ hacc) (TS.new nl) (s3.trans (same_new nl)) fun e' ee' => ?_
          cases ee.symm.trans ee'
          rw [ew]
          exact .tup upd_same (.cons (.str x) (.cons (.str z) (.cons (.int n) .nil)))
        · refine .inr ⟨SqT.of hp, ?_⟩
          refine k _ _ hacc (TS.refl _) s3 fun e' ee' => ?_
          cases ee.symm.trans ee'
          rw [ew]
          exact .tup hp (.cons (.str x) (.cons (.str z) (.cons (.int n) .nil)))
      · refine hQd H3 ws s3 h3 (Ims.of (by rw [List.length_map, List.length_map, hlen, hcl]) fun i v' d' e1 e2 => ?_)
        rw [List.map_map, List.getElem?_map] at e2
        cases ee : (itemsD dw)[i]? with
        | none =>
          rw [ee] at e2
          cases e2
        | some e =>
          rw [ee] at e2
          cases e2
          exact hR i v' e1 e ee
    have fin : ∀ D, (upd H1 F (.lst ys)) D = none → ∀ H3 ws, Same (upd H1 F (.lst ys)) H3 → H3 D = some (.lst ws) → Ims H3 ws (((itemsD dw).map wayOf).map wayD3) → ([V.ref F, V.ref D].length ≤ sizeLine ∧ ∀ p, H3 p = none → Q (.ref p) (upd H3 p (.tup [.ref F, .ref D]))) := by
      intro D nD H3 ws s3 h3 im
      refine ⟨by show 2 ≤ sizeLine; decide, fun T nT => q T _ ?_⟩
      have sT : Same H3 (upd H3 T (.tup [.ref F, .ref D])) := same_new nT
      have sAll : Same H H3 := (s1.trans sF).trans s3
      refine ⟨sAll.trans sT, sAll.free nT, F, D, ws, upd_same, s1.free nF, (s1.trans sF).free nD, ?_, sT _ _ h3, im.on (TS.same sT)⟩
      rw [← en]
      exact sT _ _ (s3 _ _ upd_same)
    rcases hc with hc | hc
    · exact .inl ⟨⟨zs, sF.seq (SqL.of hc)⟩, fun D nD => item _ D (walk_list.mono (fun H2 s2 => s2.seq (sF.seq (SqL.of hc))) fun _ _ _ _ _ _ y => y) nD _ (fin D nD)⟩
    · exact .inr ⟨⟨zs, sqT_same sF (SqT.of hc)⟩, fun D nD => item _ D (walk_tup.mono (fun H2 s2 => sqT_same s2 (sqT_same sF (SqT.of hc))) fun _ _ _ _ _ _ y => y) nD _ (fin D nD)⟩
end
end Cry
/-! Places: beats_between, person, place_on, numbers_beside. -/
namespace Cry
open PySem PySem.Spec PyProof.Rows L2
theorem abc_small : ∀ c ∈ abc.cps.toList, c < 0x110000 := by decide +kernel
theorem name_strOk {x : Str} (h : nameOkS x = true) : PySem.PyData.strOk x = true := by
  unfold nameOkS at h
  rw [Bool.and_eq_true, List.all_eq_true] at h
  unfold PySem.PyData.strOk
  rw [Array.all_eq_true_iff_forall_mem]
  intro c hc
  exact decide_eq_true (abc_small c (of_decide_eq_true (h.2 c (by simpa using hc))))
theorem beq_str (x y : Str) : (x == y) = decide (x = y) := by
  by_cases h : x = y
  · rw [h]
    simp
  · rw [decide_eq_false h]
    exact beq_eq_false_iff_ne.mpr h
theorem eqv_place (p q : Way) : PyData.eqv (wayD3 p) (wayD3 q) = decide (p = q) := by
  obtain ⟨a, b, n⟩ := p
  obtain ⟨c, d, m⟩ := q
  show PyData.eqv (.tuple [.str a, .str b, .int n]) (.tuple [.str c, .str d, .int m]) = _
  simp only [PyData.eqv, PyData.eqvAll, beq_str, Bool.and_true]
  by_cases h1 : a = c <;> by_cases h2 : b = d <;> by_cases h3 : n = m <;> simp [h1, h2, h3]
theorem shaped_place {p : Way} (h1 : nameOkS p.1 = true) (h2 : nameOkS p.2.1 = true) : SeqAt.shaped (wayD3 p) = true := by
  obtain ⟨a, b, n⟩ := p
  show SeqAt.shaped (.tuple [.str a, .str b, .int n]) = true
  unfold SeqAt.shaped
  simp [PyData.canLay0, PyData.canLayAll0, name_strOk h1, name_strOk h2, PyData.depth, PyData.depthAll]
/-- the tuple that stands for a place, or for a way -/
theorem im_way {H : Hp} {v : V} {y : Way} (h : Im H v (wayD3 y)) : ∃ a, v = .ref a ∧ H a = some (.tup [.str y.1, .str y.2.1, .int y.2.2]) := by
  obtain ⟨a, b, n⟩ := y
  cases h with
  | tup h s =>
    rename_i p xs
    cases s with
    | cons h1 s =>
      cases h1
      cases s with
      | cons h2 s =>
        cases h2
        cases s with
        | cons h3 s =>
          cases h3
          cases s
          exact ⟨_, rfl, h⟩
theorem way_im {H : Hp} {a : Addr} {y : Way} (h : H a = some (.tup [.str y.1, .str y.2.1, .int y.2.2])) : Im H (.ref a) (wayD3 y) := .tup h (.cons (.str _) (.cons (.str _) (.cons (.int _) .nil)))
section
variable {P : Program} {w : World} {K : PySem.W.Frag} {mg : Str → Option Value} {base : Heap}
def personP (x : Str) : Way := (x, x, 0)
def gives (H : Hp) (Q : VK) (d : PyData) : Prop := ∀ v H', Same H H' → Im H' v d → Q v H'
theorem dec_int (i j : Int) : decide (V.int i = V.int j) = decide (i = j) := by
  by_cases h : i = j
  · rw [h]
    simp
  · rw [decide_eq_false h]
    exact decide_eq_false fun z => h (V.int.inj z)
theorem dec_str (x y : Str) : decide (V.str x = V.str y) = decide (x = y) := by
  by_cases h : x = y
  · rw [h]
    simp
  · rw [decide_eq_false h]
    exact decide_eq_false fun z => h (V.str.inj z)
/-! ### beats_between -/
def between (ways : List Way) (x y : Str) : Int := ((ways.find? fun z => decide (z.1 = x) && decide (z.2.1 = y)).map fun z => z.2.2).getD 0
/-- a web of the told kinds stands at T -/
def WebAt (H : Hp) (T : Addr) (names : List Str) (ways : List Way) : Prop := ∃ F W ws, H T = some (.tup [.ref F, .ref W]) ∧ H F = some (.lst (names.map V.str)) ∧ H W = some (.lst ws) ∧ Ims H ws (ways.map wayD3)
theorem WebAt.on {H H' : Hp} {T : Addr} {names : List Str} {ways : List Way} (s : Same H H') (h : WebAt H T names ways) : WebAt H' T names ways := by
  obtain ⟨F, W, ws, h1, h2, h3, h4⟩ := h
  exact ⟨F, W, ws, s _ _ h1, s _ _ h2, s _ _ h3, h4.on (TS.same s)⟩
theorem OwnAt.web {H H' : Hp} {T : Addr} {names : List Str} {ways : List Way} (h : OwnAt H H' T names ways) : WebAt H' T names ways := by
  obtain ⟨F, W, ws, h1, _, _, h2, h3, h4⟩ := h.ex
  exact ⟨F, W, ws, h1, h2, h3, h4⟩
theorem scBetween : FnScope ["web", "one", "other", "first", "second", "beats"] ["web", "one", "other"] (defScope sBetween) := ⟨rfl, rfl, rfl, by decide +kernel, rfl, by decide +kernel, by decide +kernel⟩
def spBetween : Sp := fun vs H Q _ => ∃ (T : Addr) (x y : Str) (names : List Str) (ways : List Way), vs = [.ref T, .str x, .str y] ∧ WebAt H T names ways ∧ Q (.int (between ways x y)) H
theorem between_take {ways : List Way} {x y : Str} {i : Nat} {z : Way} (h : ways[i]? = some z) (no : ∀ (j : Nat) u, j < i → ways[j]? = some u → ¬ (u.1 = x ∧ u.2.1 = y)) (e : z.1 = x ∧ z.2.1 = y) : between ways x y = z.2.2 := by
  unfold between
  have f : ways.find? (fun z => decide (z.1 = x) && decide (z.2.1 = y)) = some z := by
    rw [List.find?_eq_some_iff_getElem]
    obtain ⟨hi, hz⟩ := List.getElem?_eq_some_iff.mp h
    refine ⟨by simp [e.1, e.2], i, hi, hz, fun j hj => ?_⟩
    have := no j ways[j] hj (List.getElem?_eq_getElem (by omega))
    by_cases h1 : ways[j].1 = x <;> by_cases h2 : ways[j].2.1 = y <;> simp_all
  rw [f]
  rfl
theorem between_none {ways : List Way} {x y : Str} (no : ∀ u ∈ ways, ¬ (u.1 = x ∧ u.2.1 = y)) : between ways x y = 0 := by
  unfold between
  have f : ways.find? (fun z => decide (z.1 = x) && decide (z.2.1 = y)) = none := by
    rw [List.find?_eq_none]
    intro u hu
    simpa using no u hu
  rw [f]
  rfl
theorem ok_between {f : Addr} {fd : FuncData} (F : Fun K "beats_between" "beats_between" sBetween f fd) : FnOk P w K mg base CX0 1 f fd ["web", "one", "other"] spBetween := by
  refine F.ok scBetween (fun vs H Q E h => ?_) (fun cdv A outer s H vs Q E hr h => ?_)
  · obtain ⟨T, x, y, names, ways, rfl, _⟩ := h
    rfl
  · obtain ⟨T, x, y, names, ways, rfl, ⟨F', W, ws, hT, hF, hW, hI⟩, q⟩ := h
    refine ⟨_, pss_cons (ps_for PassesOwn.never rfl (pi_list (pe_ix ix_tup (pv 0) pe_int (fun _ _ => rfl))) (pg_tup rfl (pgs_cons (pg_name (i := 3) scBetween.nd rfl (Or.inl rfl)) (pgs_cons (pg_name (i := 4) scBetween.nd rfl (Or.inl rfl)) (pgs_cons (pg_name (i := 5) scBetween.nd rfl (Or.inl rfl)) pgs_nil))))
        (pss_one (ps_if (PW.pt (pw_and (pt_cmpR op_eq (pv 3) (pv 1) (nomark _)) (pw_and1 (pt_cmpR op_eq (pv 4) (pv 2) (nomark _))))) (pss_one (ps_ret (pv 5))) pss_nil)))
      (pss_one (ps_ret pe_int)), ?_⟩
    have lw := hI.length
    rw [List.length_map] at lw
    refine ⟨_, rfl, T, _, 1, _, rfl, rfl, SqT.of hT, atI_nat (j := 1) rfl, W, rfl, ⟨_, SqL.of hW⟩, for_list (K := K) (a := W) (xs := ws) (fun i σ H2 => H2 = H ∧ (∃ u1 u2 u3, σ = [some (.ref T), some (.str x), some (.str y), u1, u2, u3]) ∧ ∀ (j : Nat) u, j < i → ways[j]? = some u → ¬ (u.1 = x ∧ u.2.1 = y))
      ⟨rfl, ⟨none, none, none, rfl⟩, fun j u hj => absurd hj (Nat.not_lt_zero _)⟩ (fun i σ H2 _ ⟨e, _⟩ => by rw [e]; exact SqL.of hW) ?_ ?_⟩
    · rintro i v σ H2 hv ⟨rfl, ⟨u1, u2, u3, rfl⟩, no⟩
      obtain ⟨d, ed, im⟩ := Ims.at hI hv
      rw [List.getElem?_map] at ed
      obtain ⟨z, ez, rfl⟩ : ∃ z, ways[i]? = some z ∧ wayD3 z = d := by
        cases h : ways[i]? with
        | none =>
          rw [h] at ed
          cases ed
        | some z =>
          rw [h] at ed
          exact ⟨z, rfl, Option.some.inj ed⟩
      obtain ⟨a, rfl, ha⟩ := im_way im
      refine ⟨a, _, rfl, SqT.of ha, rfl, _, _, rfl, _, _, rfl, _, _, rfl, rfl, ?_⟩
      have step : ∀ u1 u2 u3, ¬ (z.1 = x ∧ z.2.1 = y) → H2 = H2 ∧ (∃ w1 w2 w3, [some (V.ref T), some (.str x), some (.str y), u1, u2, u3] = [some (V.ref T), some (.str x), some (.str y), w1, w2, w3]) ∧ ∀ (j : Nat) u, j < i + 1 → ways[j]? = some u → ¬ (u.1 = x ∧ u.2.1 = y) :=
        fun u1 u2 u3 ne => ⟨rfl, ⟨_, _, _, rfl⟩, fun j u hj hu => by
          by_cases h : j < i
          · exact no j u h hu
          · have : j = i := by omega
            rw [this, ez] at hu
            cases hu
            exact ne⟩
      refine ⟨_, rfl, _, rfl, rfl, _, rfl, ?_⟩
      rw [dec_str]
      by_cases e1 : z.1 = x
      · rw [decide_eq_true e1]
        refine iteT ⟨_, rfl, _, rfl, rfl, _, rfl, ?_⟩
        rw [dec_str]
        by_cases e2 : z.2.1 = y
        · rw [decide_eq_true e2]
          refine iteT ⟨_, rfl, ?_⟩
          rw [between_take ez no ⟨e1, e2⟩] at q
          exact q
        · rw [decide_eq_false e2]
          exact iteF (step _ _ _ fun z => e2 z.2)
      · rw [decide_eq_false e1]
        exact iteF (iteF (step _ _ _ fun z => e1 z.1))
    · rintro σ H2 ⟨rfl, ⟨u1, u2, u3, rfl⟩, no⟩
      have : between ways x y = 0 := between_none fun u hu => by
        obtain ⟨j, hj⟩ := List.getElem?_of_mem hu
        have lt : j < ways.length := (List.getElem?_eq_some_iff.mp hj).1
        exact no j u (by omega) hj
      rw [this] at q
      exact q
end
end Cry
/-! is_place, own_place, places_beside, neighbours. -/
namespace Cry
open PySem PySem.Spec PyProof.Rows L2
/-! ### sorted data -/
def sortD (ds : List PyData) : List PyData := ds.mergeSort (PySem.W.dataLe false id)
theorem sorted_ims {H : Hp} {vs : List V} {ds : List PyData} (h : Ims H vs ds) : Ims H (((vs.zip ds).mergeSort (PySem.W.dataLe false Prod.snd)).map Prod.fst) (sortD ds) := by
  have hl := h.length
  have e2 : ((vs.zip ds).mergeSort (PySem.W.dataLe false Prod.snd)).map Prod.snd = sortD ds := by
    unfold sortD
    have t := PySem.W.sort_maps (r := PySem.W.dataLe false (Prod.snd : V × PyData → PyData)) (s := PySem.W.dataLe false id) Prod.snd (l := vs.zip ds) (fun _ _ _ _ => rfl)
    rw [t, List.map_snd_zip (by omega)]
  rw [← e2]
  refine Ims.of (by simp) fun i v d h1 h2 => ?_
  rw [List.getElem?_map] at h1 h2
  cases e : ((vs.zip ds).mergeSort (PySem.W.dataLe false Prod.snd))[i]? with
  | none =>
    rw [e] at h1
    cases h1
  | some b =>
    rw [e] at h1 h2
    cases h1
    cases h2
    have m : b ∈ vs.zip ds := (List.mergeSort_perm _ _).mem_iff.mp (List.mem_of_getElem? e)
    obtain ⟨j, hj⟩ := List.getElem?_of_mem m
    obtain ⟨k1, k2⟩ := List.getElem?_zip_eq_some.mp hj
    obtain ⟨d, ed, im⟩ := Ims.at h k1
    rw [k2] at ed
    cases ed
    exact im
theorem places_alike (ps : List Way) : PySem.W.AllAlike (ps.map wayD3) := fun d hd e he => by
  obtain ⟨x, _, rfl⟩ := List.mem_map.mp hd
  obtain ⟨y, _, rfl⟩ := List.mem_map.mp he
  rfl
theorem places_sortable (ps : List Way) : PySem.W.Sortable (ps.map wayD3) := .inl fun d hd => by
  obtain ⟨x, _, rfl⟩ := List.mem_map.mp hd
  exact ⟨_, _, rfl⟩
theorem place_depth (p : Way) : (wayD3 p).depth ≤ 20 := by
  show PyData.depth (.tuple [.str p.1, .str p.2.1, .int p.2.2]) ≤ 20
  simp [PyData.depth, PyData.depthAll]
section
variable {P : Program} {w : World} {K : PySem.W.Frag} {mg : Str → Option Value} {base : Heap}
/-! ### is_place -/
theorem scIsPlace : FnScope ["web", "thing", "one", "other", "number"] ["web", "thing"] (defScope sIsPlace) := ⟨rfl, rfl, rfl, by decide +kernel, rfl, by decide +kernel, by decide +kernel⟩
def placeIn (names : List Str) (ways : List Way) : PyData → PyData → PyData → Bool
  | .str x, .str y, .int n => nameOkS x && nameOkS y && (if x = y then inNames x names && decide (n = 0) else decide (1 ≤ n) && decide (n < between ways x y))
  | _, _, _ => false
def placeOk (names : List Str) (ways : List Way) (d : PyData) : Bool :=
  rowOfD 3 d && match itemsD d with
    | [a, b, c] => placeIn names ways a b c
    | _ => false
def spIsPlace : Sp := fun vs H Q _ => ∃ (T : Addr) (names : List Str) (ways : List Way) (v : V) (d : PyData), vs = [.ref T, v] ∧ WebAt H T names ways ∧ Da H v d ∧ ∀ H', Same H H' → Q (.bl (placeOk names ways d)) H'
theorem ok_is_place {f f1 f5 : Addr} {fd fd1 fd5 : FuncData} (F : Fun K "is_place" "is_place" sIsPlace f fd) (T : FormDefs P w K mg base) (D1 : Def K mg "beats_between" f1 fd1 ["web", "one", "other"]) (G1 : FnOk P w K mg base CX0 1 f1 fd1 ["web", "one", "other"] spBetween)
    (D5 : Def K mg "is_whole" f5 fd5 ["thing"]) (G5 : FnOk P w K mg base CX0 1 f5 fd5 ["thing"] (spJudge K wholeD)) : FnOk P w K mg base CX0 3 f fd ["web", "thing"] spIsPlace := by
  refine F.ok scIsPlace (fun vs H Q E h => ?_) (fun cdv A outer s H vs Q E hr h => ?_)
  · obtain ⟨T, names, ways, v, d, rfl, _⟩ := h
    rfl
  · obtain ⟨t, names, ways, v, d, rfl, hw, hd, q⟩ := h
    have hr1 := hr.mono (show 1 ≤ 2 by decide)
    refine ⟨_, pss_cons (ps_if (pt_not (pt_val (pe_call T.G1 hr (by rfl) T.D1.at_ T.D1.kp T.D1.b .nil pass0 (pa_cons pe_int (pa_cons (pv 1) pa_nil))))) (pss_one (ps_ret pe_bl)) pss_nil)
      (pss_cons (ps_asg (pv 1) (pg_row rfl (pgs_cons (pg_name (i := 2) scIsPlace.nd rfl (Or.inl rfl)) (pgs_cons (pg_name (i := 3) scIsPlace.nd rfl (Or.inl rfl)) (pgs_cons (pg_name (i := 4) scIsPlace.nd rfl (Or.inl rfl)) pgs_nil)))))
      (pss_cons (ps_if (pt_not (PW.pt (pw_and (pt_val (pe_call T.G2 hr1 (by rfl) T.D2.at_ T.D2.kp T.D2.b .nil pass0 (pa_cons (pv 2) pa_nil))) (pw_and (pt_val (pe_call T.G2 hr1 (by rfl) T.D2.at_ T.D2.kp T.D2.b .nil pass0 (pa_cons (pv 3) pa_nil)))
          (pw_and1 (pt_val (pe_call G5 hr1 (by rfl) D5.at_ D5.kp D5.b .nil pass0 (pa_cons (pv 4) pa_nil)))))))) (pss_one (ps_ret pe_bl)) pss_nil)
      (pss_cons (ps_if (pt_cmpR op_eq (pv 2) (pv 3) (nomark _)) (pss_one (ps_ret (pe_and (pe_cmpR op_in_seq (pv 2) (pe_ix ix_tup (pv 0) pe_int (fun _ _ => rfl)) rfl) (pe_one (pe_cmpR op_eq (pv 4) pe_int (nomark _)))))) pss_nil)
      (pss_one (ps_ret (pe_chain op_le op_lt pe_int (pv 4) (pe_call G1 hr1 (by rfl) D1.at_ D1.kp D1.b .nil pass0 (pa_cons (pv 0) (pa_cons (pv 2) (pa_cons (pv 3) pa_nil)))))))))), ?_⟩
    refine ⟨_, rfl, 3, v, d, rfl, hd, fun H1 s1 => ⟨_, rfl, ?_⟩⟩
    cases r3 : rowOfD 3 d with
    | false =>
      refine iteT ?_
      have := q H1 s1
      unfold placeOk at this
      rw [r3] at this
      exact this
    | true =>
      refine iteF ?_
      have r3' : rowD d = true ∧ (itemsD d).length = 3 := by simpa [rowOfD] using r3
      obtain ⟨b, xs, rfl, hs, hl, hi⟩ := (hd.on s1).items r3'.1
      obtain ⟨x1, x2, x3, rfl⟩ : ∃ x1 x2 x3, xs = [x1, x2, x3] := by
        rw [r3'.2] at hl
        match xs, hl with
        | [x1, x2, x3], _ => exact ⟨x1, x2, x3, rfl⟩
      obtain ⟨d1, d2, d3, ed⟩ : ∃ d1 d2 d3, itemsD d = [d1, d2, d3] := by
        have h3 := r3'.2
        match itemsD d, h3 with
        | [d1, d2, d3], _ => exact ⟨d1, d2, d3, rfl⟩
      rw [ed] at hi
      have e1 := hi 0 x1 d1 rfl rfl
      have e2 := hi 1 x2 d2 rfl rfl
      have e3 := hi 2 x3 d3 rfl rfl
      have ew : placeOk names ways d = placeIn names ways d1 d2 d3 := by
        unfold placeOk
        rw [r3, ed, Bool.true_and]
      rw [ew] at q
      refine ⟨_, rfl, b, _, rfl, seq_of hs, rfl, _, _, rfl, _, _, rfl, _, _, rfl, rfl, ?_⟩
      have no : ∀ H', Same H H' → placeIn names ways d1 d2 d3 = false → Q (.bl false) H' := fun H' s' e => by
        have := q H' s'
        rw [e] at this
        exact this
      refine ⟨_, rfl, x1, d1, rfl, e1, fun H2 s2 => ⟨_, rfl, ?_⟩⟩
      have s12 := s1.trans s2
      cases n1 : nameD d1 with
      | false =>
        refine iteF (iteT (no H2 s12 ?_))
        cases d1 <;> first | rfl | skip
        cases d2 <;> first | rfl | skip
        cases d3 <;> first | rfl | skip
        show (nameOkS _ && _ && _) = false
        rw [show nameOkS _ = false from n1]
        rfl
      | true =>
        obtain ⟨x, rfl, rfl, ox, _⟩ := nameD_str e1 n1
        refine iteT ⟨_, rfl, x2, d2, rfl, e2.on s2, fun H3 s3 => ⟨_, rfl, ?_⟩⟩
        have s13 := s12.trans s3
        cases n2 : nameD d2 with
        | false =>
          refine iteF (iteT (no H3 s13 ?_))
          cases d2 <;> first | rfl | skip
          cases d3 <;> first | rfl | skip
          show (nameOkS x && nameOkS _ && _) = false
          rw [show nameOkS _ = false from n2, Bool.and_false, Bool.false_and]
        | true =>
          obtain ⟨y, rfl, rfl, oy, _⟩ := nameD_str e2 n2
          refine iteT ⟨_, rfl, x3, d3, rfl, (e3.on s2).on s3, fun H4 s4 => ⟨_, rfl, ?_⟩⟩
          have s14 := s13.trans s4
          cases n3 : wholeD d3 with
          | false =>
            refine iteT (no H4 s14 ?_)
            cases d3 with
            | int n => exact absurd n3 (by simp [wholeD])
            | _ => rfl
          | true =>
            obtain ⟨n, rfl⟩ : ∃ n, d3 = .int n := by
              cases d3 with
              | int n => exact ⟨n, rfl⟩
              | _ => exact absurd n3 (by simp [wholeD])
            obtain rfl : x3 = .int n := by
              cases e3
              rfl
            refine iteF ?_
            have fin := q H4 s14
            have ep : placeIn names ways (.str x) (.str y) (.int n) = (if x = y then inNames x names && decide (n = 0) else decide (1 ≤ n) && decide (n < between ways x y)) := by
              show (nameOkS x && nameOkS y && _) = _
              rw [ox, oy]
              rfl
            rw [ep] at fin
            obtain ⟨F', W', ws, hT, hF, hW, hI⟩ := hw.on s14
            refine ⟨_, rfl, _, rfl, rfl, _, rfl, ?_⟩
            rw [dec_str]
            by_cases exy : x = y
            · rw [decide_eq_true exy]
              rw [if_pos exy] at fin
              refine iteT ⟨_, rfl, _, rfl, t, _, 0, _, rfl, rfl, SqT.of hT, atI_nat (j := 0) rfl, F', _, rfl, .inl (SqL.of hF), rfl, flat_names names, _, rfl, ?_⟩
              cases i1 : inV (.str x) (names.map V.str) with
              | false =>
                refine iteF ?_
                rw [show inNames x names = false from i1] at fin
                exact fin
              | true =>
                refine iteT ⟨_, rfl, rfl, ?_⟩
                rw [show inNames x names = true from i1, Bool.true_and] at fin
                rw [dec_int]
                exact fin
            · rw [decide_eq_false exy]
              rw [if_neg exy] at fin
              refine iteF ⟨_, rfl, _, _, rfl, rfl, _, rfl, ?_⟩
              by_cases h1 : 1 ≤ n
              · rw [decide_eq_true h1]
                rw [decide_eq_true h1, Bool.true_and] at fin
                exact iteT ⟨_, rfl, _, rfl, _, rfl, t, x, y, names, ways, rfl, ⟨F', W', ws, hT, hF, hW, hI⟩, _, _, rfl, rfl, fin⟩
              · rw [decide_eq_false h1]
                rw [decide_eq_false h1, Bool.false_and] at fin
                exact iteF fin
/-! ### own_place -/
theorem scOwnPlace : FnScope ["web", "place"] ["web", "place"] (defScope sOwnPlace) := ⟨rfl, rfl, rfl, by decide +kernel, rfl, by decide +kernel, by decide +kernel⟩
def placeOf (d : PyData) : Way := wayOf d
theorem placeOk_true {names : List Str} {ways : List Way} {d : PyData} (h : placeOk names ways d = true) : rowD d = true ∧ ∃ x y n, itemsD d = [.str x, .str y, .int n] ∧ nameOkS x = true ∧ nameOkS y = true ∧
    (if x = y then inNames x names && decide (n = 0) else decide (1 ≤ n) && decide (n < between ways x y)) = true := by
  unfold placeOk at h
  rw [Bool.and_eq_true] at h
  obtain ⟨h1, h2⟩ := h
  have r : rowD d = true ∧ (itemsD d).length = 3 := by simpa [rowOfD] using h1
  refine ⟨r.1, ?_⟩
  match ei : itemsD d, r.2 with
  | [a, b, c], _ =>
    rw [ei] at h2
    dsimp only at h2
    match a, b, c, h2 with
    | .str x, .str y, .int n, h2 =>
      have h3 : (nameOkS x && nameOkS y && (if x = y then inNames x names && decide (n = 0) else decide (1 ≤ n) && decide (n < between ways x y))) = true := h2
      rw [Bool.and_eq_true, Bool.and_eq_true] at h3
      exact ⟨x, y, n, rfl, h3.1.1, h3.1.2, h3.2⟩
def spOwnPlace : Sp := fun vs H Q _ => ∃ (T : Addr) (names : List Str) (ways : List Way) (v : V) (d : PyData), vs = [.ref T, v] ∧ WebAt H T names ways ∧ Da H v d ∧ placeOk names ways d = true ∧ gives H Q (wayD3 (placeOf d))
theorem ok_own_place {f f1 : Addr} {fd fd1 : FuncData} (F : Fun K "own_place" "own_place" sOwnPlace f fd) (B : Blt mg) (D1 : Def K mg "is_place" f1 fd1 ["web", "thing"]) (G1 : FnOk P w K mg base CX0 3 f1 fd1 ["web", "thing"] spIsPlace) : FnOk P w K mg base CX0 4 f fd ["web", "place"] spOwnPlace := by
  refine F.ok scOwnPlace (fun vs H Q E h => ?_) (fun cdv A outer s H vs Q E hr h => ?_)
  · obtain ⟨T, names, ways, v, d, rfl, _⟩ := h
    rfl
  · obtain ⟨T, names, ways, v, d, rfl, hw, hd, ok, q⟩ := h
    refine ⟨_, pss_cons (ps_if (pt_not (pt_val (pe_call G1 hr (by rfl) D1.at_ D1.kp D1.b .nil pass0 (pa_cons (pv 0) (pa_cons (pv 1) pa_nil))))) (pss_one ps_never) pss_nil)
      (pss_one (ps_ret (pe_callTy call_tuple_of (by rfl) B.tuple (by decide +kernel) (pa_cons (pv 1) pa_nil)))), ?_⟩
    refine ⟨_, rfl, _, rfl, T, names, ways, v, d, rfl, hw, hd, fun H1 s1 => ⟨_, rfl, ?_⟩⟩
    rw [ok]
    refine iteF ?_
    obtain ⟨re, x, y, n, ie, _⟩ := placeOk_true ok
    obtain ⟨p, us, rfl, hp, hpl, hpi⟩ := (hd.on s1).items re
    rw [ie] at hpl hpi
    obtain ⟨u1, u2, u3, rfl⟩ : ∃ u1 u2 u3, us = [u1, u2, u3] := by
      match us, hpl with
      | [u1, u2, u3], _ => exact ⟨u1, u2, u3, rfl⟩
    obtain rfl : u1 = .str x := by
      cases hpi 0 u1 (.str x) rfl rfl
      rfl
    obtain rfl : u2 = .str y := by
      cases hpi 1 u2 (.str y) rfl rfl
      rfl
    obtain rfl : u3 = .int n := by
      cases hpi 2 u3 (.int n) rfl rfl
      rfl
    have ew : placeOf d = (x, y, n) := by
      unfold placeOf wayOf
      rw [ie]
      rfl
    rw [ew] at q
    refine ⟨_, rfl, p, [.str x, .str y, .int n], rfl, ?_⟩
    rcases hp with hp | hp
    · exact .inl ⟨SqL.of hp, fun l nl => q _ _ (s1.trans (same_new nl)) (way_im upd_same)⟩
    · exact .inr ⟨SqT.of hp, q _ _ s1 (way_im hp)⟩
end
end Cry
/-! Small rules that the draws of all laws share; sorted() of a list of texts. -/
namespace Cry
open PySem PySem.Spec PyProof.Rows L2
theorem sameO_at {H : Hp} {a : Addr} {o : HO} : SameO a H (upd H a o) := fun b u n e => by
  rw [upd_ne n]
  exact e
theorem seqIx_nat {r : Int} {n : Nat} (h0 : 0 ≤ r) (h1 : r < n) : seqIndex? r n = some r.toNat := by
  unfold seqIndex?
  simp only [show ¬ r < 0 from by omega, if_false, decide_eq_true h0, decide_eq_true h1, Bool.and_self, if_true]
theorem sameO_new {H H1 : Hp} {a p : Addr} {o : HO} (s : SameO a H H1) (np : H p = none) : SameO a H (upd H1 p o) := fun b u n e => by
  rw [upd_ne (ne_of_none e np)]
  exact s b u n e
theorem eraseIdx_perm {α : Type} : ∀ {L : List α} {k : Nat} {y : α}, L[k]? = some y → (y :: L.eraseIdx k).Perm L
  | [], _, _, h => by simp at h
  | x :: L, 0, y, h => by
    simp at h
    subst h
    exact .refl _
  | x :: L, k + 1, y, h => by
    simp at h
    have := eraseIdx_perm h
    exact (List.Perm.swap x y _).trans (this.cons x)
abbrev rLenS (K : PySem.W.Frag) : List V → Hp → VK → Prop := fun xs H Q => ∃ p ys, xs = [.ref p] ∧ (SqL K H p ys ∨ SqT K H p ys) ∧ Q (.int ys.length) H
theorem cr_lenS {X : Cx} : CallR X (.builtin "len") (rLenS X.K) := call_len_seq
theorem perm_map_inv {α β : Type} {f : α → β} {l1 l2 : List β} (p : l1.Perm l2) : ∀ ts : List α, l2 = ts.map f → ∃ us : List α, l1 = us.map f ∧ us.Perm ts := by
  induction p with
  | nil => exact fun ts e => ⟨ts, e, .refl _⟩
  | cons x _ ih =>
    intro ts e
    match ts, e with
    | t :: ts, e =>
      rw [List.map_cons, List.cons.injEq] at e
      obtain ⟨us, e1, e2⟩ := ih ts e.2
      exact ⟨t :: us, by rw [List.map_cons, e1, e.1], e2.cons t⟩
  | swap x y l =>
    intro ts e
    match ts, e with
    | t :: u :: ts, e =>
      rw [List.map_cons, List.map_cons, List.cons.injEq, List.cons.injEq] at e
      exact ⟨u :: t :: ts, by rw [List.map_cons, List.map_cons, e.1, e.2.1, e.2.2], List.Perm.swap t u ts⟩
  | trans _ _ ih1 ih2 =>
    intro ts e
    obtain ⟨us, e1, e2⟩ := ih2 ts e
    obtain ⟨ws, e3, e4⟩ := ih1 us e1
    exact ⟨ws, e3, e4.trans e2⟩
theorem cut_take (us : List Str) (m : Nat) : cutV (us.map V.str) none (some (m : Int)) = (us.take m).map V.str := by
  unfold cutV
  have h1 : HT.sIx (us.map V.str).length (us.map V.str).length (some (m : Int)) = min m us.length := by
    unfold HT.sIx
    rw [List.length_map]
    simp only [Int.toNat_natCast]
    rw [if_neg (by omega)]
  have h0 : HT.sIx (us.map V.str).length 0 none = 0 := rfl
  rw [h1, h0, List.drop_zero, Nat.sub_zero, ← List.map_take]
  congr 1
  by_cases h : m ≤ us.length
  · rw [Nat.min_eq_left h]
  · rw [Nat.min_eq_right (by omega), List.take_of_length_le (Nat.le_refl _), List.take_of_length_le (by omega)]
theorem keys_str {ks : List Key} (h : ∀ k ∈ ks, ∃ x, k = Sum.inr x) : ∃ ts : List Str, ks = ts.map Sum.inr := by
  induction ks with
  | nil => exact ⟨[], rfl⟩
  | cons k ks ih =>
    obtain ⟨x, rfl⟩ := h k (List.mem_cons_self ..)
    obtain ⟨ts, rfl⟩ := ih fun k hk => h k (List.mem_cons_of_mem _ hk)
    exact ⟨x :: ts, rfl⟩
/-! Texts and pairs of texts in their order. -/
theorem rising_of : ∀ {ds : List PyData}, ds.Pairwise (fun x y => PySem.W.dataLt x y = true) → risingD ds = true
  | [], _ => rfl
  | [_], _ => rfl
  | d :: e :: r, h => by
    obtain ⟨h1, h2⟩ := List.pairwise_cons.mp h
    show (PySem.W.dataLt d e && risingD (e :: r)) = true
    rw [h1 e (List.mem_cons_self ..), rising_of h2]
    rfl
theorem nat_lt_of {a b : List Nat} (h : ¬ b < a) (n : a ≠ b) : a < b := by
  by_cases h1 : a < b
  · exact h1
  · exact absurd (List.le_antisymm (List.not_lt.mp h) (List.not_lt.mp h1)) n
theorem str_ext {x y : Str} (h : x.cps.toList = y.cps.toList) : x = y := by
  cases x with | mk a =>
  cases y with | mk b =>
  congr
  exact Array.toList_inj.mp h
theorem eqv_str (x y : Str) : (PyData.str x).eqv (.str y) = decide (x = y) := by
  rw [← beq_str]
  rfl
/-- a kind of data whose order is strict -/
structure OrdBy (β : Type) (f : β → PyData) : Prop where
  alike : ∀ a b, PySem.W.alike (f a) (f b) = true
  tri : ∀ a b, a ≠ b → PySem.W.dataLt (f b) (f a) = false → PySem.W.dataLt (f a) (f b) = true
theorem ord_str : OrdBy Str PyData.str := ⟨fun _ _ => rfl, fun a b n h => by
  rw [PySem.W.dataLt_str, decide_eq_false_iff_not] at h
  rw [PySem.W.dataLt_str, decide_eq_true_eq]
  exact nat_lt_of h fun e => n (str_ext e)⟩
def pD (y : Str × Str) : PyData := .tuple [.str y.1, .str y.2]
theorem pLt (a b : Str × Str) : PySem.W.dataLt (pD a) (pD b) = if a.1 = b.1 then PySem.W.dataLt (.str a.2) (.str b.2) else PySem.W.dataLt (.str a.1) (.str b.1) := by
  unfold pD
  rw [PySem.W.dataLt_pair rfl rfl, eqv_str, eqv_str]
  by_cases h : a.1 = b.1
  · rw [if_pos (by simp [h]), if_pos h]
    by_cases h2 : a.2 = b.2
    · rw [if_pos (by simp [h2]), h2, PySem.W.dataLt_str]
      exact (decide_eq_false (List.lt_irrefl _)).symm
    · rw [if_neg (by simp [h2])]
  · rw [if_neg (by simp [h]), if_neg h]
theorem ord_pair : OrdBy (Str × Str) pD := ⟨fun _ _ => rfl, fun a b n h => by
  rw [pLt] at h ⊢
  by_cases e : a.1 = b.1
  · rw [if_pos e.symm] at h
    rw [if_pos e]
    exact ord_str.tri _ _ (fun e2 => n (Prod.ext e e2)) h
  · rw [if_neg (Ne.symm e)] at h
    rw [if_neg e]
    exact ord_str.tri _ _ e h⟩
theorem OrdBy.pw {β : Type} {f : β → PyData} (O : OrdBy β f) {ls : List β} (nd : ls.Nodup) (h : ls.Pairwise fun x y => PySem.W.dataLe false f x y = true) : ls.Pairwise fun x y => PySem.W.dataLt (f x) (f y) = true := by
  rw [PySem.W.dataLe_eq] at h
  have nd' : ls.Pairwise fun a b => a ≠ b := nd
  refine (h.and nd').imp fun {a b} hh => ?_
  refine O.tri _ _ hh.2 ?_
  have := hh.1
  simpa using this
theorem OrdBy.rise {β : Type} {f : β → PyData} (O : OrdBy β f) {ls : List β} (nd : ls.Nodup) (h : ls.Pairwise fun x y => PySem.W.dataLe false f x y = true) : risingD (ls.map f) = true :=
  rising_of (List.pairwise_map.mpr (O.pw nd h))
def sortB {β : Type} (f : β → PyData) (ls : List β) : List β := ls.mergeSort (PySem.W.dataLe false f)
theorem sortB_perm {β : Type} (f : β → PyData) (ls : List β) : (sortB f ls).Perm ls := List.mergeSort_perm _ _
theorem str_trans (a b c : Str) (h1 : PySem.W.dataLe false PyData.str a b = true) (h2 : PySem.W.dataLe false PyData.str b c = true) : PySem.W.dataLe false PyData.str a c = true := by
  have e := PySem.W.dataLe_str (fun x : Str => x)
  rw [show PySem.W.dataLe false PyData.str = PySem.W.dataLe false (fun b : Str => PyData.str b) from rfl, e] at h1 h2 ⊢
  simp only [decide_eq_true_eq] at h1 h2 ⊢
  exact List.le_trans h1 h2
theorem str_total (a b : Str) : (PySem.W.dataLe false PyData.str a b || PySem.W.dataLe false PyData.str b a) = true := by
  have e := PySem.W.dataLe_str (fun x : Str => x)
  rw [show PySem.W.dataLe false PyData.str = PySem.W.dataLe false (fun b : Str => PyData.str b) from rfl, e]
  simp only [Bool.or_eq_true, decide_eq_true_eq]
  exact List.le_total _ _
theorem sortS_rise {ls : List Str} (nd : ls.Nodup) : risingD ((sortB PyData.str ls).map PyData.str) = true :=
  ord_str.rise ((sortB_perm _ ls).nodup_iff.mpr nd) (List.pairwise_mergeSort str_trans str_total ls)
theorem sortS_pw {ls : List Str} (nd : ls.Nodup) : (sortB PyData.str ls).Pairwise fun x y => ltS x y = true := by
  refine (ord_str.pw ((sortB_perm _ ls).nodup_iff.mpr nd) (List.pairwise_mergeSort str_trans str_total ls)).imp fun {a b} h => ?_
  rw [PySem.W.dataLt_str] at h
  exact h
theorem sortS_vals (ls : List Str) : ((ls.map fun x => (V.str x, PyData.str x)).mergeSort (PySem.W.dataLe false Prod.snd)).map Prod.fst = (sortB PyData.str ls).map V.str := by
  have t := PySem.W.sort_maps (r := PySem.W.dataLe false PyData.str) (s := PySem.W.dataLe false (Prod.snd : V × PyData → PyData)) (fun x : Str => (V.str x, PyData.str x)) (l := ls) (fun _ _ _ _ => rfl)
  rw [← t, List.map_map]
  rfl
/-- sorted() of a list of texts -/
def rSortedT (K : PySem.W.Frag) : List V → Hp → VK → Prop := fun vs H Q => ∃ (a : Addr) (xs : List Str), vs = [V.ref a] ∧ SqL K H a (xs.map V.str) ∧ ∀ p, H p = none → Q (.ref p) (upd H p (.lst ((sortB PyData.str xs).map V.str)))
theorem cr_sortedT {X : Cx} (hu : X.A.units + 64 < cLine) : CallR X (.builtin "sorted") (rSortedT X.K) := by
  intro pins s σ H vs us Q I r h
  obtain ⟨a, xs, rfl, hs, q⟩ := h
  refine cr_sortedD hu pins s σ H _ us Q I r ⟨a, xs.map fun x => (V.str x, PyData.str x), rfl, ?_, ?_, ?_, ?_, ?_, fun p np => ?_⟩
  · rw [List.map_map]
    exact hs
  · intro b hb
    obtain ⟨x, _, rfl⟩ := List.mem_map.mp hb
    exact .str _
  · rw [List.map_map]
    intro d hd e he
    obtain ⟨x, _, rfl⟩ := List.mem_map.mp hd
    obtain ⟨y, _, rfl⟩ := List.mem_map.mp he
    rfl
  · rw [List.map_map]
    exact .inr fun d hd => by
      obtain ⟨x, _, rfl⟩ := List.mem_map.mp hd
      exact ⟨(fun e => by cases e), (fun _ e => by cases e)⟩
  · intro b hb
    obtain ⟨x, _, rfl⟩ := List.mem_map.mp hb
    simp [PyData.depth]
  · rw [sortS_vals]
    exact q p np
end Cry
namespace Cry
open PySem PySem.Spec PyProof.Rows L2
/-! sorted() of a dict whose keys are pairs of texts. -/
section
open PySem.W
variable {prog : Program} {w : World} {A : Around} {E : Value → Shared → Prop} {s : Shared} {T : String} {r d : Addr} {n : Nat} {IP : Nat → Value → Prop} {OK : Heap → Prop}
/-- what a dict's walk collects, with the heap's growth -/
theorem collect_more {R : List Value → Shared → Prop} (K : KdlSrc prog w T r d n IP OK) (hh : A.handled = none) (ok : OK s.heap) (hn : n ≤ sizeLine)
    (h : ∀ (h' : Heap) (tk : Nat) (acc : Array Value), (∀ b o, s.heap.get? b = some o → h'.get? b = some o) → s.heap.objs.size ≤ h'.objs.size → ItemsOf IP acc n → R acc.toList { s with heap := h', toks := tk }) :
    wpAny (model prog w) A (collect (.ref r)) R E s := by
  obtain ⟨lr, ld⟩ := K.there _ ok
  unfold collect
  refine wpAny_bind (wpAny_runValue (codeAny_builtin entry_proto_collect' ?_))
  rw [Around.under_plainId PySem.F.plain_proto_collect _]
  refine wpAny_bind (m := newList []) (wpAny_newObj_type (wpAny_pure ⟨plainId_quiet PySem.F.plain_list_iadd _, codeAny_builtin entry_list_iadd' ?_⟩))
  rw [Around.under_plainId PySem.F.plain_list_iadd _]
  have at0 : (s.heap.push { cls := .type "list", data := .seq ([] : List Value).toArray }).get? s.heap.objs.size = some { cls := .type "list", data := .seq #[] } := Heap.get?_push_size _ rfl
  have key := kdl_extend (A := A) (s := { s with heap := s.heap.push { cls := .type "list", data := .seq ([] : List Value).toArray } })
    (R := fun (q : Result) (s' : Shared) => ∃ (h' : Heap) (tk : Nat) (acc' : Array Value) (c' : Nat), q = .ok (.ret (.ref s.heap.objs.size)) ∧ s' = { s with heap := h', toks := tk } ∧
      (∀ b o, s.heap.get? b = some o → h'.get? b = some o) ∧ h'.get? s.heap.objs.size = some { cls := .type "list", dict := none, data := .seq acc' c', slots := #[] } ∧ ItemsOf IP acc' n)
    K hh (K.keep _ _ ok fun b _ o e => Heap.get?_push_of_some _ e) s.heap.objs.size (Nat.ne_of_gt lr) (Nat.ne_of_gt ld) (.ref s.heap.objs.size) 0 at0
    (fun h' tk acc' c' hk hS' hacc => ⟨h', tk, acc', c', rfl, rfl, fun b o e => hk b o (Nat.ne_of_lt (Heap.lt_size e)) (Heap.get?_push_of_some _ e), hS', hacc⟩) hn
  have fin : ∀ (h' : Heap) (tk : Nat) (acc' : Array Value) (c' : Nat), (∀ b o, s.heap.get? b = some o → h'.get? b = some o) → h'.get? s.heap.objs.size = some { cls := .type "list", dict := none, data := .seq acc' c', slots := #[] } →
      ItemsOf IP acc' n → R acc'.toList { s with heap := h', toks := tk } := fun h' tk acc' c' hk at1 it => h h' tk acc' hk (Nat.le_of_lt (Heap.lt_size at1)) it
  refine wpAny_mono key (fun z s' x => ?_) fun e s' x => by
    obtain ⟨_, _, _, _, e', _⟩ := x
    cases e'
  cases z with
  | done f =>
    obtain ⟨h', tk, acc', c', e, rfl, hk, at1, it⟩ := x
    cases e
    exact wpAny_bind (m := load s.heap.objs.size) (wpAny_load at1 (wpAny_pure (fin h' tk acc' c' hk at1 it)))
  | again c =>
    exact ⟨x.1, codeAny_mono x.2 fun q s2 y => by
      obtain ⟨h', tk, acc', c', rfl, rfl, hk, at1, it⟩ := y
      exact wpAny_bind (m := load s.heap.objs.size) (wpAny_load at1 (wpAny_pure (fin h' tk acc' c' hk at1 it)))⟩
end
def pK (y : Str × Str) : List Key := [Sum.inr y.1, Sum.inr y.2]
theorem pK_inj {a b : Str × Str} (h : pK a = pK b) : a = b := by
  unfold pK at h
  injection h with h1 h2
  injection h2 with h2 _
  exact Prod.ext (Sum.inr.inj h1) (Sum.inr.inj h2)
abbrev PB := Addr × (Str × Str)
def rSortedDT : List V → Hp → VK → Prop := fun vs H Q => ∃ (a : Addr) (kvs : List (List Key × V)) (ks : List (Str × Str)), vs = [V.ref a] ∧ H a = some (.dT kvs) ∧ kvs.map (·.1) = ks.map pK ∧
  ∀ p us, H p = none → Ims H us ((sortB pD ks).map pD) → Q (.ref p) (upd H p (.lst us))
theorem kt_pairs {H : Hp} : ∀ {kvs : List (List Key × V)} {xs : List (List Key × Addr × Value)}, Paired (fun (p : List Key × V) (q : List Key × Addr × Value) => p.1 = q.1 ∧ H q.2.1 = some (.tup (p.1.map kV)) ∧ RelV p.2 q.2.2) kvs xs →
    ∀ {ks : List (Str × Str)}, kvs.map (·.1) = ks.map pK → ∃ bs : List PB, xs.map (fun x => x.2.1) = bs.map (·.1) ∧ bs.map (·.2) = ks ∧ ∀ b ∈ bs, H b.1 = some (.tup [.str b.2.1, .str b.2.2])
  | _, _, .nil, ks, e => by
    cases ks with
    | nil => exact ⟨[], rfl, rfl, fun b hb => nomatch hb⟩
    | cons k ks => cases e
  | _, _, .cons (a := p) (b := x) h t, ks, e => by
    cases ks with
    | nil => cases e
    | cons k ks =>
      rw [List.map_cons, List.map_cons, List.cons.injEq] at e
      obtain ⟨bs, e1, e2, e3⟩ := kt_pairs t e.2
      refine ⟨(x.2.1, k) :: bs, by rw [List.map_cons, List.map_cons, e1], by rw [List.map_cons, e2], fun b hb => ?_⟩
      rcases List.mem_cons.mp hb with rfl | hb
      · have := h.2.1
        rw [e.1] at this
        exact this
      · exact e3 b hb
theorem refs_back : ∀ {bs : List PB} {out : List Value}, PySem.W.EachIs (fun (v : Value) (b : PB) => v = .ref b.1) out bs → Vals (bs.map fun b => V.ref b.1) out
  | _, _, .nil => .nil
  | _, _, .cons h t => .cons h (refs_back t)
theorem cr_sortedDT {X : Cx} (hc : X.calm = true) (hu : X.A.units + 64 < cLine) : CallR X (.builtin "sorted") rSortedDT := by
  intro pins s σ H vs us Q I r h
  obtain ⟨d, kvs, ks, rfl, hd, ek, q⟩ := h
  obtain ⟨u, rfl, rx⟩ := r.one
  cases rx
  obtain ⟨z, hs, xs, pr, o, es, ep, ho, hx, hdt, he, hn⟩ := (show ObjOk X.prog X.w H s.heap d (.dT kvs) from I.hok d _ hd)
  have l1 : es.size = xs.length := size_of_entries he
  have l2 : kvs.length = xs.length := Paired.length pr
  obtain ⟨bs, e1, e2, e3⟩ := kt_pairs pr ek
  have lb : bs.length = xs.length := by
    have := congrArg List.length e1
    rw [List.length_map, List.length_map] at this
    exact this.symm
  refine Calls.call_function_entry kind_sorted plain_sorted entry_sorted (args_sorted1 _) ?_
  unfold Builtin.«sorted»
  refine wpAny_bind (m := checkCount "sorted" 1 1 _) (wpAny_pure ?_)
  refine wpAny_bind (collect_more (A := X.A.in1) (kdl_raw hs hx hdt) (I.ok.hd hc) ho (by omega) fun h' tk acc kp hp it => ?_)
  have ea : acc.toList = xs.map fun x => Value.ref x.2.1 := by
    have hl : acc.toList.length = xs.length := by rw [Array.length_toList, it.1]; exact l1
    apply List.ext_getElem?
    intro j
    rw [List.getElem?_map]
    cases hj : acc.toList[j]? with
    | none =>
      have h1 := List.getElem?_eq_none_iff.mp hj
      rw [List.getElem?_eq_none (by omega)]
      all_goals rfl
    | some v =>
      obtain ⟨en, hen, hv⟩ := it.2 j v (by rw [← Array.getElem?_toList]; exact hj)
      have qe := entry_at he j
      rw [hen] at qe
      cases hb : xs[j]? with
      | none =>
        rw [hb] at qe
        exact nomatch (show some en = none from qe)
      | some b =>
        rw [hb] at qe
        have e2 : en = entryOfKey (tupleKind (mixKind X.prog X.w)) b := Option.some.inj qe
        rw [hv, e2]
        all_goals rfl
  have eb : acc.toList = bs.map fun b => Value.ref b.1 := by
    have : acc.toList = (xs.map fun x => x.2.1).map Value.ref := by
      rw [ea, List.map_map]
      rfl
    rw [this, e1, List.map_map]
    rfl
  have each : PySem.W.EachIs (fun (v : Value) (b : PB) => v = .ref b.1) acc.toList bs := by
    have q := PySem.W.EachIs.of (R := fun (v : Value) (b : PB) => v = .ref b.1) (zs := bs.map fun b => (Value.ref b.1, b)) fun p hp => by
      obtain ⟨b, hb, rfl⟩ := List.mem_map.mp hp
      rfl
    rw [List.map_map, List.map_map] at q
    rw [eb]
    simpa [Function.comp_def] using q
  have lz : acc.toList.length ≤ sizeLine := by
    rw [eb, List.length_map]
    omega
  refine wpAny_bind (wpAny_newList ?_ lz)
  have hoL : (h'.push (seqObj "list" acc.toList.toArray 0)).get? h'.objs.size = some (seqObj "list" acc.toList.toArray 0) := Heap.get?_push_size _ rfl
  have rd : ∀ b ∈ bs, Reads (h'.push (seqObj "list" acc.toList.toArray 0)) (.ref b.1) (pD b.2) [] := fun b hb => by
    obtain ⟨_, its, rv, o2, g2, c2, n2, d2⟩ := (show ObjOk X.prog X.w H s.heap b.1 (.tup [.str b.2.1, .str b.2.2]) from I.hok _ _ (e3 b hb))
    obtain ⟨t1, t2, rfl⟩ : ∃ t1 t2, its = [.str b.2.1 t1, .str b.2.2 t2] := by
      match its, rv with
      | _, .cons h1 (.cons h2 .nil) =>
        obtain ⟨t1, rfl⟩ := h1
        obtain ⟨t2, rfl⟩ := h2
        exact ⟨t1, t2, rfl⟩
    exact Reads.tuple (as := [] ++ ([] ++ [])) (Heap.get?_push_of_some _ (kp _ _ g2)) c2 d2 (.cons (.str _ _) (.cons (.str _ _) .nil))
  refine wpAny_bind (wpAny_holding ?_)
  refine PySem.W.list_sort_data (s := { s with heap := h'.push (seqObj "list" acc.toList.toArray 0), toks := tk }) (enc := fun b : PB => pD b.2) hoL each ?_ ?_ ?_ (by omega) (fun k _ => ?_) fun out hlen hout => ?_
  · have q := PySem.W.EachIs.of (R := fun (v : Value) (b : PB) => ∃ as, Reads (h'.push (seqObj "list" acc.toList.toArray 0)) v (pD b.2) as ∧ h'.objs.size ∉ as) (zs := bs.map fun b => (Value.ref b.1, b)) fun p hp => by
      obtain ⟨b, hb, rfl⟩ := List.mem_map.mp hp
      exact ⟨[], rd b hb, by simp⟩
    rw [List.map_map, List.map_map] at q
    rw [eb] at q ⊢
    simpa [Function.comp_def] using q
  · intro d hd e he
    obtain ⟨x, _, rfl⟩ := List.mem_map.mp hd
    obtain ⟨y, _, rfl⟩ := List.mem_map.mp he
    rfl
  · exact .inl fun d hd => by
      obtain ⟨x, _, rfl⟩ := List.mem_map.mp hd
      exact ⟨_, _, rfl⟩
  · have d0 : (pD k.2).depth ≤ 2 := by
      unfold pD
      simp [PyData.depth, PyData.depthAll]
    show X.A.units + 1 + 1 + _ < cLine
    omega
  · obtain ⟨c, hat⟩ := sortedHeap_at (vs := acc.toList) (out := out.toArray) hoL
    have rv := refs_back hout
    refine wpAny_pure ⟨_, rfl, ?_⟩
    have lb2 : ((bs.mergeSort (PySem.W.dataLe false fun b : PB => pD b.2)).map fun b => V.ref b.1).length ≤ sizeLine := by
      rw [List.length_map, List.length_mergeSort]
      omega
    refine ⟨.ref h'.objs.size, _, I.laid (t' := tk) (o := .lst ((bs.mergeSort (PySem.W.dataLe false fun b : PB => pD b.2)).map fun b => V.ref b.1)) (fun b u e => ?_) hp ⟨lb2, out, c, rv, hat⟩, rfl, q _ _ (I.hok.fresh hp) ?_⟩
    · have q := kp b u e
      have lt := Heap.lt_size q
      show (sortedHeap (h'.push (seqObj "list" acc.toList.toArray 0)) h'.objs.size acc.toList out.toArray).get? b = some u
      rw [sortedHeap_old (Nat.ne_of_lt lt) (by rw [size_push']; exact Nat.lt_succ_of_lt lt)]
      exact Heap.get?_push_of_some _ q
    · have em : (bs.mergeSort (PySem.W.dataLe false fun b : PB => pD b.2)).map Prod.snd = sortB pD ks := by
        unfold sortB
        rw [← e2]
        exact PySem.W.sort_maps (r := PySem.W.dataLe false fun b : PB => pD b.2) (s := PySem.W.dataLe false pD) Prod.snd (l := bs) (fun _ _ _ _ => rfl)
      rw [← em, List.map_map]
      refine Ims.of (by simp) fun i v d h1 h2 => ?_
      rw [List.getElem?_map] at h1 h2
      cases e : (bs.mergeSort (PySem.W.dataLe false fun b : PB => pD b.2))[i]? with
      | none =>
        rw [e] at h1
        cases h1
      | some b =>
        rw [e] at h1 h2
        cases h1
        cases h2
        have m : b ∈ bs := (List.mergeSort_perm _ _).mem_iff.mp (List.mem_of_getElem? e)
        exact .tup (e3 b m) (.cons (.str _) (.cons (.str _) .nil))
end Cry
/-! A web as its entries: pairs and beats. -/
namespace Cry
open PySem PySem.Spec PyProof.Rows L2
structure NamesOk (names : List Str) (m : Nat) : Prop where
  ok : ∀ x ∈ names, nameOkS x = true
  one : 1 ≤ names.length
  most : names.length ≤ m
  up : risingD (names.map PyData.str) = true
  nd : names.Nodup
  pw : names.Pairwise fun x y => ltS x y = true
abbrev Ents := List ((Str × Str) × Int)
def ents (es : Ents) : List (List Key × V) := es.map fun e => (pK e.1, V.int e.2)
def putE (es : Ents) (y : Str × Str) (n : Int) : Ents := if es.any (fun e => decide (e.1 = y)) = true then es.map (fun e => if e.1 = y then (e.1, n) else e) else es ++ [(y, n)]
theorem ents_any (es : Ents) (y : Str × Str) : ((ents es).any fun kv => decide (kv.1 = pK y)) = es.any fun e => decide (e.1 = y) := by
  unfold ents
  rw [List.any_map]
  congr 1
  funext e
  show decide (pK e.1 = pK y) = decide (e.1 = y)
  by_cases h : e.1 = y
  · rw [decide_eq_true h, decide_eq_true (congrArg pK h)]
  · rw [decide_eq_false h, decide_eq_false fun z => h (pK_inj z)]
theorem putE_ents (es : Ents) (y : Str × Str) (n : Int) : putK (ents es) (pK y) (.int n) = ents (putE es y n) := by
  unfold putK putE
  rw [ents_any]
  by_cases h : (es.any fun e => decide (e.1 = y)) = true
  · rw [if_pos h, if_pos h]
    unfold ents
    rw [List.map_map, List.map_map]
    refine List.map_congr_left fun e _ => ?_
    show (if pK e.1 = pK y then (pK e.1, V.int n) else (pK e.1, V.int e.2)) = _
    by_cases h2 : e.1 = y
    · rw [if_pos (congrArg pK h2)]
      show _ = ((fun e : (Str × Str) × Int => (pK e.1, V.int e.2)) (if e.1 = y then (e.1, n) else e))
      rw [if_pos h2]
    · rw [if_neg fun z => h2 (pK_inj z)]
      show _ = ((fun e : (Str × Str) × Int => (pK e.1, V.int e.2)) (if e.1 = y then (e.1, n) else e))
      rw [if_neg h2]
  · rw [if_neg h, if_neg h]
    unfold ents
    rw [List.map_append]
    rfl
theorem putE_len (es : Ents) (y : Str × Str) (n : Int) : (putE es y n).length ≤ es.length + 1 := by
  unfold putE
  split
  · rw [List.length_map]
    omega
  · rw [List.length_append]
    exact Nat.le_refl _
structure EntOk (names : List Str) (near : Bool) (es : Ents) : Prop where
  ok : ∀ e ∈ es, e.1.1 ∈ names ∧ e.1.2 ∈ names ∧ ltS e.1.1 e.1.2 = true ∧ 1 ≤ e.2 ∧ e.2 ≤ 1000000000000 ∧ (near = true → e.2 ≤ 9)
  nd : (es.map Prod.fst).Nodup
theorem EntOk.put {names : List Str} {near : Bool} {es : Ents} (h : EntOk names near es) {y : Str × Str} {n : Int} (h1 : y.1 ∈ names) (h2 : y.2 ∈ names) (h3 : ltS y.1 y.2 = true) (h4 : 1 ≤ n) (h5 : n ≤ 1000000000000) (h6 : near = true → n ≤ 9) : EntOk names near (putE es y n) := by
  unfold putE
  split
  · refine ⟨fun e he => ?_, ?_⟩
    · obtain ⟨e0, he0, rfl⟩ := List.mem_map.mp he
      have k := h.ok e0 he0
      split
      · exact ⟨k.1, k.2.1, k.2.2.1, h4, h5, h6⟩
      · exact k
    · have e : (es.map fun e => if e.1 = y then (e.1, n) else e).map Prod.fst = es.map Prod.fst := by
        rw [List.map_map]
        refine List.map_congr_left fun e _ => ?_
        show (if e.1 = y then (e.1, n) else e).1 = e.1
        split <;> rfl
      rw [e]
      exact h.nd
  · rename_i hn
    refine ⟨fun e he => ?_, ?_⟩
    · rcases List.mem_append.mp he with k | k
      · exact h.ok e k
      · rw [List.mem_singleton.mp k]
        exact ⟨h1, h2, h3, h4, h5, h6⟩
    · rw [List.map_append]
      refine List.nodup_append.mpr ⟨h.nd, by simp, fun a ha b hb => ?_⟩
      rintro rfl
      simp at hb
      obtain ⟨e, he, ee⟩ := List.mem_map.mp ha
      refine hn (List.any_eq_true.mpr ⟨e, he, decide_eq_true ?_⟩)
      rw [ee, hb]
def lookE (es : Ents) (y : Str × Str) : Int := ((es.find? fun e => decide (e.1 = y)).map Prod.snd).getD 0
theorem lookE_val {es : Ents} {y : Str × Str} (h : y ∈ es.map Prod.fst) : valV (ents es) (pK y) = some (.int (lookE es y)) ∧ (y, lookE es y) ∈ es := by
  induction es with
  | nil => cases h
  | cons e es ih =>
    unfold valV ents lookE at *
    rw [List.map_cons, List.find?_cons, List.find?_cons]
    by_cases h2 : e.1 = y
    · rw [show (decide (pK e.1 = pK y)) = true from decide_eq_true (congrArg pK h2), decide_eq_true h2]
      refine ⟨rfl, ?_⟩
      show (y, e.2) ∈ e :: es
      rw [← h2]
      exact List.mem_cons_self ..
    · rw [show (decide (pK e.1 = pK y)) = false from decide_eq_false fun z => h2 (pK_inj z), decide_eq_false h2]
      have hm : y ∈ es.map Prod.fst := by
        rcases List.mem_cons.mp h with k | k
        · exact absurd k.symm h2
        · exact k
      exact ⟨(ih hm).1, List.mem_cons_of_mem _ (ih hm).2⟩
/-- the ways of the pairs drawn, in their order -/
def waysE (es : Ents) : List Way := (sortB pD (es.map Prod.fst)).map fun p => (p.1, p.2, lookE es p)
/-- no two ways between the same two -/
def PairsNd (ways : List Way) : Prop := (ways.map fun y => (y.1, y.2.1)).Nodup
theorem waysE_nd {names : List Str} {near : Bool} {es : Ents} (h : EntOk names near es) : PairsNd (waysE es) := by
  unfold PairsNd waysE
  rw [List.map_map]
  have e : ((fun y : Way => (y.1, y.2.1)) ∘ fun p : Str × Str => ((p.1, p.2, lookE es p) : Way)) = id := rfl
  rw [e, List.map_id]
  exact (sortB_perm _ _).nodup_iff.mpr h.nd
theorem waysE_ok {names : List Str} {near : Bool} {es : Ents} {m : Nat} (N : NamesOk names m) (hm : m ≤ 60) (h : EntOk names near es) (hl : es.length ≤ 150) : WebOk names (waysE es) ∧ ∀ y ∈ waysE es, near = true → y.2.2 ≤ 9 := by
  have each : ∀ y ∈ waysE es, y.1 ∈ names ∧ y.2.1 ∈ names ∧ ltS y.1 y.2.1 = true ∧ 1 ≤ y.2.2 ∧ y.2.2 ≤ 1000000000000 ∧ (near = true → y.2.2 ≤ 9) := fun y hy => by
    obtain ⟨p, hp, rfl⟩ := List.mem_map.mp hy
    exact h.ok (p, lookE es p) (lookE_val ((sortB_perm _ _).mem_iff.mp hp)).2
  have inN : ∀ x ∈ names, inNames x names = true := fun x hx => by
    unfold inNames inV
    refine List.any_eq_true.mpr ⟨.str x, List.mem_map.mpr ⟨x, hx, rfl⟩, ?_⟩
    show decide (x = x) = true
    exact decide_eq_true rfl
  refine ⟨⟨N.ok, N.one, Nat.le_trans N.most hm, N.up, ?_, fun y hy => ?_, ?_⟩, fun y hy => (each y hy).2.2.2.2.2⟩
  · unfold waysE
    rw [List.length_map, (sortB_perm _ _).length_eq, List.length_map]
    exact hl
  · have k := each y hy
    exact ⟨N.ok _ k.1, N.ok _ k.2.1, k.2.2.2.1, k.2.2.2.2.1, inN _ k.1, inN _ k.2.1, k.2.2.1⟩
  · have e : (waysE es).map pairD = (sortB pD (es.map Prod.fst)).map pD := by
      unfold waysE
      rw [List.map_map]
      rfl
    rw [e]
    refine ord_pair.rise ((sortB_perm _ _).nodup_iff.mpr h.nd) ?_
    exact PySem.W.sort_pairwise (PySem.W.sortLe_total _ _ _) _
theorem u1 {n : Nat} (h : n + 64 < cLine) : n + 1 < cLine := by omega
end Cry
namespace Cry
open PySem PySem.Spec PyProof.Rows L2
/-! How long data's texts are; webs in every form. -/
structure Sm (B k : Nat) (d : PyData) : Prop where
  lay : d.canLay0 = true
  ish : d.intsShort 13 = true
  sh : d.showable = true
  wt : d.weight ≤ B
  dp : d.depth ≤ k
theorem Sm.shown {B k : Nat} {d : PyData} (h : Sm B k d) (hb : B ≤ 2 ^ 20) : d.shown.length ≤ sizeLine :=
  PyData.shown_fits (B := 13) (by decide) (by decide) (PyData.leavesShort_of_canLay0 13 d h.lay h.ish) (Nat.le_trans h.wt hb)
theorem Sm.mono {B C k : Nat} {d : PyData} (h : Sm B k d) (l : B ≤ C) : Sm C k d := ⟨h.lay, h.ish, h.sh, Nat.le_trans h.wt l, h.dp⟩
theorem Sm.deep {B j k : Nat} {d : PyData} (h : Sm B j d) (l : j ≤ k) : Sm B k d := ⟨h.lay, h.ish, h.sh, h.wt, Nat.le_trans h.dp l⟩
theorem Sm.str {x : Str} (h : nameOkS x = true) : Sm 8 0 (.str x) := by
  have h2 := h
  unfold nameOkS at h2
  rw [Bool.and_eq_true, Bool.and_eq_true, decide_eq_true_eq, decide_eq_true_eq] at h2
  exact ⟨name_strOk h, rfl, rfl, h2.1.2, Nat.le_refl _⟩
theorem Sm.int {n : Int} (h0 : 0 ≤ n) (h1 : n ≤ 1000000000000) : Sm 41 0 (.int n) := by
  have hl : n.natAbs.log2 < 40 := by
    by_cases z : n.natAbs = 0
    · rw [z]
      decide
    · exact (Nat.log2_lt z).mpr (by omega)
  refine ⟨rfl, ?_, ?_, ?_, Nat.le_refl _⟩
  · show decide ((PyData.shown (.int n)).length ≤ 13) = true
    by_cases e : n = 1000000000000
    · rw [e]
      decide +kernel
    · exact decide_eq_true (PyData.shown_int_le (by omega))
  · show decide (n.natAbs.log2 < 1920) = true
    exact decide_eq_true (by omega)
  · show (if n == 0 then 0 else n.natAbs.log2 + 1) ≤ 41
    split
    · exact Nat.zero_le _
    · omega
theorem Sm.all {B k : Nat} : ∀ {ds : List PyData}, (∀ e ∈ ds, Sm B k e) → PyData.canLayAll0 ds = true ∧ PyData.intsShortAll 13 ds = true ∧ PyData.showableAll ds = true ∧ PyData.weightAll ds ≤ ds.length * (B + 1) ∧ PyData.depthAll ds ≤ k
  | [], _ => ⟨rfl, rfl, rfl, Nat.zero_le _, Nat.zero_le _⟩
  | d :: ds, h => by
    have a := h d (List.mem_cons_self ..)
    obtain ⟨b1, b2, b3, b4, b5⟩ := Sm.all fun e he => h e (List.mem_cons_of_mem _ he)
    refine ⟨?_, ?_, ?_, ?_, ?_⟩
    · show (d.canLay0 && PyData.canLayAll0 ds) = true
      rw [a.lay, b1]
      rfl
    · show (d.intsShort 13 && PyData.intsShortAll 13 ds) = true
      rw [a.ish, b2]
      rfl
    · show (d.showable && PyData.showableAll ds) = true
      rw [a.sh, b3]
      rfl
    · show d.weight + 1 + PyData.weightAll ds ≤ (ds.length + 1) * (B + 1)
      have := a.wt
      rw [Nat.add_mul]
      omega
    · show max d.depth (PyData.depthAll ds) ≤ k
      exact Nat.max_le.mpr ⟨a.dp, b5⟩
theorem Sm.list {B C k : Nat} {ds : List PyData} (h : ∀ e ∈ ds, Sm B k e) (l : ds.length * (B + 1) ≤ C) : Sm C (k + 1) (.list ds) := by
  obtain ⟨b1, b2, b3, b4, b5⟩ := Sm.all h
  exact ⟨b1, b2, b3, Nat.le_trans b4 l, Nat.succ_le_succ b5⟩
theorem Sm.tuple {B C k : Nat} {ds : List PyData} (h : ∀ e ∈ ds, Sm B k e) (l : ds.length * (B + 1) ≤ C) : Sm C (k + 1) (.tuple ds) := by
  obtain ⟨b1, b2, b3, b4, b5⟩ := Sm.all h
  exact ⟨b1, b2, b3, Nat.le_trans b4 l, Nat.succ_le_succ b5⟩
mutual
theorem lay_nodict : ∀ d : PyData, d.canLay0 = true → d.hasDict = false
  | .none, _ => rfl
  | .bool _, _ => rfl
  | .int _, _ => rfl
  | .str _, _ => rfl
  | .list ds, h => lays_nodict ds h
  | .tuple ds, h => lays_nodict ds h
theorem lays_nodict : ∀ ds : List PyData, PyData.canLayAll0 ds = true → PyData.hasDictAll ds = false
  | [], _ => rfl
  | d :: ds, h => by
    have h2 : (d.canLay0 && PyData.canLayAll0 ds) = true := h
    rw [Bool.and_eq_true] at h2
    show (d.hasDict || PyData.hasDictAll ds) = false
    rw [lay_nodict d h2.1, lays_nodict ds h2.2]
    rfl
end
/-- a place or way of names, its number from 0 to 10 ** 12 -/
def TriOk (y : Way) : Prop := nameOkS y.1 = true ∧ nameOkS y.2.1 = true ∧ 0 ≤ y.2.2 ∧ y.2.2 ≤ 1000000000000
theorem Sm.tri {y : Way} (h : TriOk y) : ∀ e ∈ [PyData.str y.1, .str y.2.1, .int y.2.2], Sm 41 0 e := fun e he => by
  simp only [List.mem_cons, List.not_mem_nil, or_false] at he
  rcases he with rfl | rfl | rfl
  · exact (Sm.str h.1).mono (by decide)
  · exact (Sm.str h.2.1).mono (by decide)
  · exact Sm.int h.2.2.1 h.2.2.2
theorem Sm.way {y : Way} (h : TriOk y) : Sm 130 1 (wayD3 y) := Sm.tuple (Sm.tri h) (by show 3 * 42 ≤ 130; decide)
/-- a thing that stands for a web, by lists and tuples -/
structure WebForm (names : List Str) (ways : List Way) (d : PyData) : Prop where
  row : rowD d = true
  two : ∃ f ws, itemsD d = [f, ws] ∧ rowD f = true ∧ itemsD f = names.map PyData.str ∧ rowD ws = true ∧ (itemsD ws).length = ways.length ∧
    ∀ (i : Nat) (e : PyData) (y : Way), (itemsD ws)[i]? = some e → ways[i]? = some y → rowD e = true ∧ itemsD e = [.str y.1, .str y.2.1, .int y.2.2]
theorem wayOf_items {e : PyData} {y : Way} (h : itemsD e = [.str y.1, .str y.2.1, .int y.2.2]) : wayOf e = y := by
  unfold wayOf
  rw [h]
  rfl
theorem WebForm.web {names : List Str} {ways : List Way} {d : PyData} (h : WebForm names ways d) (wok : WebOk names ways) : webD d = true ∧ folkOf d = names ∧ waysOf d = ways := by
  obtain ⟨f, ws, e1, rf, ef, rw_, lw, each⟩ := h.two
  have en : namesD f = names := namesD_strs ef
  have eo : folkOf d = names := by
    unfold folkOf
    rw [e1]
    exact en
  have ew : waysOf d = ways := by
    unfold waysOf
    rw [e1]
    show (itemsD ws).map wayOf = ways
    apply List.ext_getElem?
    intro i
    rw [List.getElem?_map]
    cases e : (itemsD ws)[i]? with
    | none =>
      have := List.getElem?_eq_none_iff.mp e
      rw [List.getElem?_eq_none (by omega)]
      rfl
    | some x =>
      have lt : i < (itemsD ws).length := (List.getElem?_eq_some_iff.mp e).1
      obtain ⟨y, ey⟩ : ∃ y, ways[i]? = some y := ⟨_, List.getElem?_eq_getElem (by omega)⟩
      rw [ey]
      show some (wayOf x) = some y
      rw [wayOf_items (each i x y e ey).2]
  refine ⟨?_, eo, ew⟩
  have r2 : rowOfD 2 d = true := by
    unfold rowOfD
    rw [h.row, e1]
    rfl
  have hf : folkD f = true := by
    unfold folkD
    rw [rf, ef, List.length_map, decide_eq_true wok.one, decide_eq_true wok.most, wok.up, List.all_map]
    simp only [Bool.true_and, Bool.and_true]
    exact List.all_eq_true.mpr wok.ok
  have hw : waysD names ws = true := by
    unfold waysD
    rw [rw_, decide_eq_true (by rw [lw]; exact wok.few)]
    have a1 : (itemsD ws).all (wayD names) = true := by
      refine List.all_eq_true.mpr fun e he => ?_
      obtain ⟨i, hi⟩ := List.getElem?_of_mem he
      have lt : i < (itemsD ws).length := (List.getElem?_eq_some_iff.mp hi).1
      obtain ⟨y, ey⟩ : ∃ y, ways[i]? = some y := ⟨_, List.getElem?_eq_getElem (by omega)⟩
      obtain ⟨re, ie⟩ := each i e y hi ey
      obtain ⟨k1, k2, k3, k4, k5, k6, k7⟩ := wok.way y (List.mem_of_getElem? ey)
      unfold wayD rowOfD
      rw [re, ie]
      show (true && (nameOkS y.1 && nameOkS y.2.1 && (decide (1 ≤ y.2.2) && decide (y.2.2 ≤ 1000000000000)) && (inNames y.1 names && inNames y.2.1 names && ltS y.1 y.2.1))) = true
      rw [k1, k2, decide_eq_true k3, decide_eq_true k4, k5, k6, k7]
      rfl
    have a2 : (itemsD ws).map pairOf = ways.map pairD := by
      rw [← ew]
      unfold waysOf
      rw [e1]
      show _ = ((itemsD ws).map wayOf).map pairD
      rw [List.map_map]
      refine List.map_congr_left fun e he => ?_
      obtain ⟨i, hi⟩ := List.getElem?_of_mem he
      have lt : i < (itemsD ws).length := (List.getElem?_eq_some_iff.mp hi).1
      obtain ⟨y, ey⟩ : ∃ y, ways[i]? = some y := ⟨_, List.getElem?_eq_getElem (by omega)⟩
      obtain ⟨re, ie⟩ := each i e y hi ey
      show pairOf e = pairD (wayOf e)
      rw [wayOf_items ie]
      unfold pairOf
      rw [ie]
      rfl
    rw [a1, a2, wok.upw]
    rfl
  unfold webD
  rw [r2, e1]
  show (true && (folkD f && waysD (namesD f) ws)) = true
  rw [hf, en, hw]
  rfl
/-! ### a web that stands in the heap, in any form -/
def y3 (y : Way) : List V := [.str y.1, .str y.2.1, .int y.2.2]
def ItemAt (H : Hp) (v : V) (y : Way) : Prop := ∃ b, v = .ref b ∧ (H b = some (.lst (y3 y)) ∨ H b = some (.tup (y3 y)))
theorem name_short {x : Str} (h : nameOkS x = true) : x.length ≤ sizeLine := by
  unfold nameOkS at h
  rw [Bool.and_eq_true, Bool.and_eq_true, decide_eq_true_eq, decide_eq_true_eq] at h
  exact Nat.le_trans h.1.2 (by decide)
theorem y3_da {H : Hp} {y : Way} (t : TriOk y) : ∀ (i : Nat) (x : V) (e : PyData), (y3 y)[i]? = some x → [PyData.str y.1, .str y.2.1, .int y.2.2][i]? = some e → Da H x e
  | 0, _, _, h1, h2 => by
    cases h1
    cases h2
    exact .str _ (name_short t.1)
  | 1, _, _, h1, h2 => by
    cases h1
    cases h2
    exact .str _ (name_short t.2.1)
  | 2, _, _, h1, h2 => by
    cases h1
    cases h2
    exact .int _
  | _ + 3, _, _, h1, _ => by
    unfold y3 at h1
    simp at h1
theorem item_da {H : Hp} {v : V} {y : Way} (h : ItemAt H v y) (t : TriOk y) : ∃ e, Da H v e ∧ rowD e = true ∧ itemsD e = [.str y.1, .str y.2.1, .int y.2.2] ∧ Sm 130 1 e := by
  obtain ⟨b, rfl, h | h⟩ := h
  · exact ⟨.list [.str y.1, .str y.2.1, .int y.2.2], .lst h rfl (y3_da t), rfl, rfl, Sm.list (Sm.tri t) (by show 3 * 42 ≤ 130; decide)⟩
  · exact ⟨.tuple [.str y.1, .str y.2.1, .int y.2.2], .tup h rfl (y3_da t), rfl, rfl, Sm.tuple (Sm.tri t) (by show 3 * 42 ≤ 130; decide)⟩
def ItemsAt (H : Hp) (ws : List V) (ways : List Way) : Prop := ws.length = ways.length ∧ ∀ (i : Nat) (v : V) (y : Way), ws[i]? = some v → ways[i]? = some y → ItemAt H v y
theorem items_da {H : Hp} : ∀ {ws : List V} {ways : List Way}, ItemsAt H ws ways → (∀ y ∈ ways, TriOk y) → ∃ es : List PyData, es.length = ways.length ∧ (∀ (i : Nat) (v : V) (e : PyData), ws[i]? = some v → es[i]? = some e → Da H v e) ∧
    (∀ e ∈ es, Sm 130 1 e) ∧ ∀ (i : Nat) (e : PyData) (y : Way), es[i]? = some e → ways[i]? = some y → rowD e = true ∧ itemsD e = [.str y.1, .str y.2.1, .int y.2.2]
  | [], [], _, _ => ⟨[], rfl, fun i v e h => by simp at h, fun e h => by simp at h, fun i e y h => by simp at h⟩
  | v :: ws, y :: ways, h, t => by
    obtain ⟨es, l, h1, h2, h3⟩ := items_da (ws := ws) (ways := ways) ⟨Nat.succ.inj h.1, fun i v' y' e1 e2 => h.2 (i + 1) v' y' (by simpa using e1) (by simpa using e2)⟩ fun z hz => t z (List.mem_cons_of_mem _ hz)
    obtain ⟨e, d1, d2, d3, d4⟩ := item_da (h.2 0 v y rfl rfl) (t y (List.mem_cons_self ..))
    refine ⟨e :: es, congrArg (· + 1) l, fun i v' e' k1 k2 => ?_, fun e' he => ?_, fun i e' y' k1 k2 => ?_⟩
    · cases i with
      | zero =>
        cases k1
        cases k2
        exact d1
      | succ i => exact h1 i v' e' (by simpa using k1) (by simpa using k2)
    · rcases List.mem_cons.mp he with rfl | he
      · exact d4
      · exact h2 e' he
    · cases i with
      | zero =>
        cases k1
        cases k2
        exact ⟨d2, d3⟩
      | succ i => exact h3 i e' y' (by simpa using k1) (by simpa using k2)
  | [], _ :: _, h, _ => by cases h.1
  | _ :: _, [], h, _ => by cases h.1
def RowAt (H : Hp) (a : Addr) (xs : List V) : Prop := H a = some (.lst xs) ∨ H a = some (.tup xs)
theorem row_da {H : Hp} {a : Addr} {xs : List V} {ds : List PyData} {B k C : Nat} (h : RowAt H a xs) (l : xs.length = ds.length) (e : ∀ (i : Nat) (x : V) (e : PyData), xs[i]? = some x → ds[i]? = some e → Da H x e) (sm : ∀ e ∈ ds, Sm B k e) (c : ds.length * (B + 1) ≤ C) :
    ∃ d, Da H (.ref a) d ∧ rowD d = true ∧ itemsD d = ds ∧ Sm C (k + 1) d := by
  rcases h with h | h
  · exact ⟨.list ds, .lst h l e, rfl, rfl, Sm.list sm c⟩
  · exact ⟨.tuple ds, .tup h l e, rfl, rfl, Sm.tuple sm c⟩
theorem web_da {H : Hp} {p F W : Addr} {names : List Str} {ways : List Way} {ws : List V} (hp : RowAt H p [.ref F, .ref W]) (hF : RowAt H F (names.map V.str)) (hW : RowAt H W ws) (hi : ItemsAt H ws ways) (wok : WebOk names ways) :
    ∃ d, Da H (.ref p) d ∧ WebForm names ways d ∧ Sm 50000 3 d := by
  have tri : ∀ y ∈ ways, TriOk y := fun y hy => by
    obtain ⟨k1, k2, k3, k4, _⟩ := wok.way y hy
    exact ⟨k1, k2, by omega, k4⟩
  obtain ⟨es, l, h1, h2, h3⟩ := items_da hi tri
  have few := wok.few
  obtain ⟨dw, a1, a2, a3, a4⟩ := row_da (C := 20000) hW (by rw [hi.1, l]) h1 h2 (by rw [l]; omega)
  have nd : ∀ (i : Nat) (x : V) (e : PyData), (names.map V.str)[i]? = some x → (names.map PyData.str)[i]? = some e → Da H x e := fun i x e k1 k2 => by
    rw [List.getElem?_map] at k1 k2
    cases e0 : names[i]? with
    | none =>
      rw [e0] at k1
      cases k1
    | some z =>
      rw [e0] at k1 k2
      cases k1
      cases k2
      exact .str _ (name_short (wok.ok z (List.mem_of_getElem? e0)))
  have most := wok.most
  obtain ⟨df, b1, b2, b3, b4⟩ := row_da (C := 20000) (B := 8) (k := 0) hF (by rw [List.length_map, List.length_map]) nd (fun e he => by
    obtain ⟨z, hz, rfl⟩ := List.mem_map.mp he
    exact Sm.str (wok.ok z hz)) (by rw [List.length_map]; omega)
  obtain ⟨d, c1, c2, c3, c4⟩ := row_da (C := 50000) (ds := [df, dw]) (B := 20000) (k := 2) hp rfl (fun i x e k1 k2 => by
    match i, k1, k2 with
    | 0, k1, k2 =>
      cases k1
      cases k2
      exact b1
    | 1, k1, k2 =>
      cases k1
      cases k2
      exact a1
    | _ + 2, k1, _ => simp at k1) (fun e he => by
    simp only [List.mem_cons, List.not_mem_nil, or_false] at he
    rcases he with rfl | rfl
    · exact b4.deep (by decide)
    · exact a4) (by show 2 * 20001 ≤ 50000; decide)
  exact ⟨d, c1, ⟨c2, df, dw, c3, b2, b3, a2, by rw [a3]; exact l, fun i e y k1 k2 => h3 i e y (by rw [← a3]; exact k1) k2⟩, c4⟩
end Cry
namespace Cry
open PySem PySem.Spec PyProof.Rows L2
/-! min() and max() of two texts. -/
section
variable {prog : Program} {w : World} {A : Around} {E : Value → Shared → Prop} {s : Shared}
theorem strs_gt {IP : Nat → Value → Prop} (val : Nat → Str) (hval : ∀ i v, IP i v → ∃ t, v = .str (val i) t) : CmpOf prog w A .Gt IP fun i j => decide ((val j).cps.toList < (val i).cps.toList) := fun i j vi vj s Q E hi hj h => by
  obtain ⟨t, rfl⟩ := hval i vi hi
  obtain ⟨u, rfl⟩ := hval j vj hj
  exact richCompare_gives (op := .Gt) (typeIs_str s _ t) (typeIs_str s _ u) F.slot_str_gt F.entry_str_gt (F.args_str_gt_2 _ _) (gives_str_gt _ _ t u) (fun x => nomatch x) h
theorem strs_lt {IP : Nat → Value → Prop} (val : Nat → Str) (hval : ∀ i v, IP i v → ∃ t, v = .str (val i) t) : CmpOf prog w A .Lt IP fun i j => decide ((val i).cps.toList < (val j).cps.toList) := fun i j vi vj s Q E hi hj h => by
  obtain ⟨t, rfl⟩ := hval i vi hi
  obtain ⟨u, rfl⟩ := hval j vj hj
  exact richCompare_gives (op := .Lt) (typeIs_str s _ t) (typeIs_str s _ u) F.slot_str_lt F.entry_str_lt (F.args_str_lt_2 _ _) (gives_str_lt _ _ t u) (fun x => nomatch x) h
def twoS (x y : Str) (i : Nat) : Str := if i = 0 then x else y
theorem twoS_val {x y : Str} {t u : Tok} (i : Nat) (v : Value) (h : (#[Value.str x t, Value.str y u])[i]? = some v) : ∃ t, v = .str (twoS x y i) t := by
  match i, h with
  | 0, h =>
    cases h
    exact ⟨t, rfl⟩
  | 1, h =>
    cases h
    exact ⟨u, rfl⟩
  | _ + 2, h => simp at h
theorem max_two_str {x y : Str} {t u : Tok} {Q : Value → Shared → Prop} (hh : A.handled = none)
    (h : ∀ h' tk, (∀ c o, s.heap.get? c = some o → h'.get? c = some o) → Q (if x.cps.toList < y.cps.toList then .str y u else .str x t) { s with heap := h', toks := tk }) :
    wpAny (model prog w) A (call (.builtin "max") [.str x t, .str y u]) Q E s := by
  have hT : (s.heap.push { cls := .type "tuple", data := .seq #[.str x t, .str y u] }).IsTuple s.heap.objs.size #[.str x t, .str y u] := ⟨_, Heap.get?_push_size _ rfl, rfl, 0, rfl⟩
  refine call_max_two (wpAny_pyIter_tuple hT ?_)
  have hsz : (s.heap.push { cls := .type "tuple", data := .seq #[.str x t, .str y u] }).objs.size = s.heap.objs.size + 1 := Heap.size_push ..
  refine ⟨_, [_, s.heap.objs.size], [_], _, _, _, _, rfl, Walks.tuple (A := A.in1) hh _ s.heap.objs.size (by rw [hsz]; exact Nat.ne_of_lt (Nat.lt_succ_self _)) #[.str x t, .str y u],
    ⟨⟨_, Heap.get?_push_size _ rfl, rfl, rfl⟩, hT.push _⟩, fun c hc => ?_, by simp, strs_gt (twoS x y) twoS_val, fun v h' tk hP hk => ?_⟩
  · show c < ((s.heap.push _).push _).objs.size
    rw [Heap.size_push, hsz]
    rcases List.mem_cons.mp hc with rfl | hc
    · rw [hsz]; exact Nat.lt_succ_self _
    · rcases List.mem_cons.mp hc with rfl | hc
      · exact Nat.lt_succ_of_lt (Nat.lt_succ_self _)
      · cases hc
  · refine (?_ : v = if x.cps.toList < y.cps.toList then Value.str y u else Value.str x t) ▸ h h' tk fun c o e => ?_
    · have hP' : (#[Value.str x t, Value.str y u] : Array Value)[argBest (fun i j => decide ((twoS x y j).cps.toList < (twoS x y i).cps.toList)) 1]? = some v := hP
      by_cases hc : x.cps.toList < y.cps.toList
      · rw [show argBest (fun i j => decide ((twoS x y j).cps.toList < (twoS x y i).cps.toList)) 1 = 1 from if_pos (decide_eq_true hc)] at hP'
        rw [if_pos hc]
        exact (Option.some.inj hP').symm
      · rw [show argBest (fun i j => decide ((twoS x y j).cps.toList < (twoS x y i).cps.toList)) 1 = 0 from if_neg fun z => hc (of_decide_eq_true z)] at hP'
        rw [if_neg hc]
        exact (Option.some.inj hP').symm
    · refine hk c o (fun hm => ?_) (Heap.get?_push_of_some _ (Heap.get?_push_of_some _ e))
      rcases List.mem_cons.mp hm with e1 | hm
      · have := Heap.lt_size e; rw [e1, hsz] at this; exact Nat.lt_irrefl _ (Nat.lt_of_succ_lt this)
      · cases hm
theorem min_two_str {x y : Str} {t u : Tok} {Q : Value → Shared → Prop} (hh : A.handled = none)
    (h : ∀ h' tk, (∀ c o, s.heap.get? c = some o → h'.get? c = some o) → Q (if y.cps.toList < x.cps.toList then .str y u else .str x t) { s with heap := h', toks := tk }) :
    wpAny (model prog w) A (call (.builtin "min") [.str x t, .str y u]) Q E s := by
  have hT : (s.heap.push { cls := .type "tuple", data := .seq #[.str x t, .str y u] }).IsTuple s.heap.objs.size #[.str x t, .str y u] := ⟨_, Heap.get?_push_size _ rfl, rfl, 0, rfl⟩
  refine call_min_two (wpAny_pyIter_tuple hT ?_)
  have hsz : (s.heap.push { cls := .type "tuple", data := .seq #[.str x t, .str y u] }).objs.size = s.heap.objs.size + 1 := Heap.size_push ..
  refine ⟨_, [_, s.heap.objs.size], [_], _, _, _, _, rfl, Walks.tuple (A := A.in1) hh _ s.heap.objs.size (by rw [hsz]; exact Nat.ne_of_lt (Nat.lt_succ_self _)) #[.str x t, .str y u],
    ⟨⟨_, Heap.get?_push_size _ rfl, rfl, rfl⟩, hT.push _⟩, fun c hc => ?_, by simp, strs_lt (twoS x y) twoS_val, fun v h' tk hP hk => ?_⟩
  · show c < ((s.heap.push _).push _).objs.size
    rw [Heap.size_push, hsz]
    rcases List.mem_cons.mp hc with rfl | hc
    · rw [hsz]; exact Nat.lt_succ_self _
    · rcases List.mem_cons.mp hc with rfl | hc
      · exact Nat.lt_succ_of_lt (Nat.lt_succ_self _)
      · cases hc
  · refine (?_ : v = if y.cps.toList < x.cps.toList then Value.str y u else Value.str x t) ▸ h h' tk fun c o e => ?_
    · have hP' : (#[Value.str x t, Value.str y u] : Array Value)[argBest (fun i j => decide ((twoS x y i).cps.toList < (twoS x y j).cps.toList)) 1]? = some v := hP
      by_cases hc : y.cps.toList < x.cps.toList
      · rw [show argBest (fun i j => decide ((twoS x y i).cps.toList < (twoS x y j).cps.toList)) 1 = 1 from if_pos (decide_eq_true hc)] at hP'
        rw [if_pos hc]
        exact (Option.some.inj hP').symm
      · rw [show argBest (fun i j => decide ((twoS x y i).cps.toList < (twoS x y j).cps.toList)) 1 = 0 from if_neg fun z => hc (of_decide_eq_true z)] at hP'
        rw [if_neg hc]
        exact (Option.some.inj hP').symm
    · refine hk c o (fun hm => ?_) (Heap.get?_push_of_some _ (Heap.get?_push_of_some _ e))
      rcases List.mem_cons.mp hm with e1 | hm
      · have := Heap.lt_size e; rw [e1, hsz] at this; exact Nat.lt_irrefl _ (Nat.lt_of_succ_lt this)
      · cases hm
end
def maxS (x y : Str) : Str := if x.cps.toList < y.cps.toList then y else x
def minS (x y : Str) : Str := if y.cps.toList < x.cps.toList then y else x
abbrev rTwoS (f : Str → Str → Str) : List V → Hp → VK → Prop := fun xs H Q => ∃ x y, xs = [.str x, .str y] ∧ Q (.str (f x y)) H
theorem cr_maxS {X : Cx} (hc : X.calm = true) : CallR X (.builtin "max") (rTwoS maxS) := by
  intro pins s σ H xs us Q I r h
  obtain ⟨i, j, rfl, q⟩ := h
  obtain ⟨u, w', rfl, ⟨t, rfl⟩, ⟨t', rfl⟩⟩ := vals2 r
  refine max_two_str (I.ok.hd hc) fun h' tk k => ⟨_, H, I.kept k, ?_, q⟩
  unfold maxS
  by_cases hj : i.cps.toList < j.cps.toList
  · rw [if_pos hj, if_pos hj]; exact ⟨_, rfl⟩
  · rw [if_neg hj, if_neg hj]; exact ⟨_, rfl⟩
theorem cr_minS {X : Cx} (hc : X.calm = true) : CallR X (.builtin "min") (rTwoS minS) := by
  intro pins s σ H xs us Q I r h
  obtain ⟨i, j, rfl, q⟩ := h
  obtain ⟨u, w', rfl, ⟨t, rfl⟩, ⟨t', rfl⟩⟩ := vals2 r
  refine min_two_str (I.ok.hd hc) fun h' tk k => ⟨_, H, I.kept k, ?_, q⟩
  unfold minS
  by_cases hj : j.cps.toList < i.cps.toList
  · rw [if_pos hj, if_pos hj]; exact ⟨_, rfl⟩
  · rw [if_neg hj, if_neg hj]; exact ⟨_, rfl⟩
end Cry
/-! Comprehensions with a test over a heap that only grows; next ones of a row. -/
namespace Cry
open PySem PySem.Spec PyProof.Rows L2
section
variable {J : It} {n : Nat} {G : Hp → Prop} {Y : Nat → Hp → V → Hp → Prop}
/-- plain values f i of those i that pass the test p -/
theorem lc_sift (w : Walk J n G Y) {g : TG} {tt : TT} {te : TE} {vs : List Nat} {σ : Slots} {H1 : Hp} {D : Addr} {Qd : Hp → Prop} (p : Nat → Bool) (f : Nat → V) (hn : n ≤ sizeLine) (nD : H1 D = none)
    (hG : ∀ H, Same H1 H → G H) (hY : ∀ i H x H', Y i H x H' → Same H H')
    (hs : ∀ i x H H' (Z : VK) (N : Hp → Prop), i < n → Same H1 H → Y i H x H' → (p i = true → ∀ H4, Same H' H4 → Z (f i) H4) → (p i = false → ∀ H4, Same H' H4 → N H4) → g x (wipe σ vs) H' fun σ2 H2 => wipe σ2 vs = wipe σ vs ∧ tt σ2 H2 fun b H3 => if b = true then te σ2 H3 Z else N H3)
    (hd : ∀ H, Same H1 H → H D = some (.lst (((List.range n).filter p).map f)) → Qd H) :
    ∃ W : Nat → Nat → Hp → Prop, (∃ m, W 0 m (upd H1 D (.lst []))) ∧ ∀ i m H, W i m H →
      (J.stop i H ∧ Qd H) ∨ (J.go i H ∧ ∃ Nx : Hp → Prop, (∀ H', Nx H' → ∃ m', m' < m ∧ W (i + 1) m' H') ∧ ∀ x H', J.yld i H x H' → g x (wipe σ vs) H' fun σ2 H2 => wipe σ2 vs = wipe σ vs ∧ tt σ2 H2 fun b H3 =>
        if b = true then te σ2 H3 fun y H4 => ∃ acc, H4 D = some (.lst acc) ∧ acc.length < sizeLine ∧ Nx (upd H4 D (.lst (acc ++ [y]))) else Nx H3) := by
  refine lc_it w (fun i H => Same H1 H ∧ H D = some (.lst (((List.range i).filter p).map f))) ⟨same_new nD, upd_same⟩ (fun i H _ gd => hG H gd.1) (fun i x H H' hi gd hy => ?_) fun H gd => hd H gd.1 gd.2
  have s1 := hY i H x H' hy
  refine hs i x H H' _ _ hi gd.1 hy (fun pi H4 s2 => ?_) fun pi H4 s2 => ?_
  · refine ⟨_, s2 _ _ (s1 _ _ gd.2), ?_, same_at ((gd.1.trans s1).trans s2) nD, ?_⟩
    · have h1 : ((List.range i).filter p).length ≤ (List.range i).length := List.length_filter_le _ _
      rw [List.length_map]
      rw [List.length_range] at h1
      omega
    · rw [upd_same, List.range_succ, List.filter_append, List.map_append]
      rw [show [i].filter p = [i] from by simp [pi]]
      rfl
  · refine ⟨(gd.1.trans s1).trans s2, ?_⟩
    rw [List.range_succ, List.filter_append, show [i].filter p = [] from by simp [pi], List.append_nil]
    exact s2 _ _ (s1 _ _ gd.2)
end
theorem filter_range_map {α β : Type} (xs : List α) (p : α → Bool) (f : α → β) (d : α) : (((List.range xs.length).filter fun i => p ((xs[i]?).getD d)).map fun i => f ((xs[i]?).getD d)) = (xs.filter p).map f := by
  have e : xs = (List.range xs.length).map fun i => (xs[i]?).getD d := by
    have := map_range_get xs id d
    simpa using this.symm
  conv => rhs; rw [e]
  rw [List.filter_map, List.map_map]
  rfl
/-- of each two next ones -/
def nexts {α β : Type} (g : α → α → β) : List α → List β
  | x :: y :: r => g x y :: nexts g (y :: r)
  | _ => []
theorem nexts_range {α β : Type} (g : α → α → β) (d : α) : ∀ (xs : List α) (f : Nat → β), (∀ (i : Nat) x y, xs[i]? = some x → xs[i + 1]? = some y → f i = g x y) → (List.range (xs.length - 1)).map f = nexts g xs
  | [], _, _ => rfl
  | [_], _, _ => rfl
  | x :: y :: r, f, h => by
    have ih := nexts_range g d (y :: r) (fun i => f (i + 1)) fun i a b h1 h2 => h (i + 1) a b (by simpa using h1) (by simpa using h2)
    have e1 : (x :: y :: r).length - 1 = (y :: r).length - 1 + 1 := by simp
    rw [e1, List.range_succ_eq_map, List.map_cons, List.map_map]
    show f 0 :: _ = g x y :: nexts g (y :: r)
    rw [← ih, h 0 x y rfl rfl]
    rfl
theorem nexts_len {α β : Type} (g : α → α → β) : ∀ xs : List α, (nexts g xs).length = xs.length - 1
  | [] => rfl
  | [_] => rfl
  | x :: y :: r => by
    show (nexts g (y :: r)).length + 1 = _
    rw [nexts_len g (y :: r)]
    simp
theorem atI_end {α : Type} {xs : List α} (h : xs ≠ []) : atI xs (-1) = some (xs.getLast h) := by
  have := atI_last xs.dropLast (xs.getLast h)
  rw [List.dropLast_concat_getLast] at this
  exact this
section
variable {K : PySem.W.Frag}
/-- zip(xs, xs[1:]), xs a list, or a tuple that holds something -/
theorem zip_tail {σ : Slots} {H : Hp} {R : It → Hp → Prop} {i : Nat} {a : Addr} {xs : List V} (hv : σ[i]? = some (some (.ref a))) (hs : SqL K H a xs ∨ (SqT K H a xs ∧ xs ≠ []))
    (h : ∀ J H1, Same H H1 → Walk J (xs.length - 1) (fun H2 => Same H1 H2) (YPair (fun i => xs[i]?) (fun i => xs[i + 1]?)) → R J H1) :
    RZ.iZipA K (tCons (tVar i) (tCons (tSl (fun x lo hi H Q => rSlL K x lo hi H Q ∨ rSlT K x lo hi H Q) (tVar i) (tPart (tC (.int 1))) tNoPart) tNil)) σ H R := by
  have ey : (fun i => (xs.drop 1)[i]?) = fun i => xs[i + 1]? := by
    funext i
    rw [List.getElem?_drop, Nat.add_comm 1 i]
  rcases hs with hs | ⟨hs, ne⟩
  · refine ⟨_, hv, _, hv, 1, rfl, .inl ⟨a, xs, rfl, hs, fun p np => ?_⟩⟩
    rw [cut_tail]
    have s1 : Same H (upd H p (.lst (xs.drop 1))) := same_new np
    refine ⟨a, p, xs, xs.drop 1, rfl, .inl ⟨s1.seq hs, SqL.of upd_same, h _ _ s1 ?_⟩⟩
    rw [← ey]
    exact (walk_zip (xs := xs) (ys := xs.drop 1) (by simp)).mono (fun H2 s2 => ⟨s2.seq (s1.seq hs), s2.seq (SqL.of upd_same)⟩) fun _ _ _ _ _ _ y => y
  · refine ⟨_, hv, _, hv, 1, rfl, .inr ⟨a, xs, rfl, hs, ?_, fun p np => ?_⟩⟩
    · intro z
      have := z.1
      rw [show HT.sIx xs.length 0 (some 1) = min 1 xs.length from HT.sIx_nat xs.length 0 1] at this
      cases xs with
      | nil => exact ne rfl
      | cons x r =>
        rw [List.length_cons] at this
        omega
    · rw [cut_tail]
      have s1 : Same H (upd H p (.tup (xs.drop 1))) := same_new np
      refine ⟨a, p, xs, xs.drop 1, rfl, .inr ⟨sqT_same s1 hs, SqT.of upd_same, h _ _ s1 ?_⟩⟩
      rw [← ey]
      exact (walk_zipT (xs := xs) (ys := xs.drop 1) (by simp)).mono (fun H2 s2 => ⟨sqT_same s2 (sqT_same s1 hs), sqT_same s2 (SqT.of upd_same)⟩) fun _ _ _ _ _ _ y => y
end
end Cry
/-! Starters, beats, folk beside a place: what the program promises of them. -/
namespace Cry
open PySem PySem.Spec PyProof.Rows L2
section
variable {P : Program} {w : World} {K : PySem.W.Frag} {mg : Str → Option Value} {base : Heap}
/-! ### len of a set of keys -/
def rLenKO (w : World) : List V → Hp → VK → Prop := fun xs H Q => ∃ (a : Addr) (ks : List Key), xs = [.ref a] ∧ H a = some (KO w a ks) ∧ Q (.int (ks.length : Nat)) H
theorem cr_lenKO {X : Cx} : CallR X (.builtin "len") (rLenKO X.w) := by
  intro pins s σ H vs us Q I r h
  obtain ⟨a, ks, rfl, ha, q⟩ := h
  rw [Vals.ref1 r]
  obtain ⟨o, es, ep, t, ho, hex, hd, g, pk, nd, hb, hf, hr, hl⟩ := kO_get I ha
  have sz : es.size = ks.length := by
    have := pk.length_eq
    simpa using this
  have hb' : es.size < 4096 := hb
  exact call_len_set ho hex hd hf (by omega) ⟨.int (ks.length : Nat), H, I.tok _, ⟨_, by rw [sz]⟩, q⟩
/-- as many are left as there were, just where nothing comes twice -/
theorem foldK_nodup : ∀ (l acc : List Key), acc.Nodup → (l.foldl (fun acc k => moreK k acc) acc).length = acc.length + l.length → (acc ++ l).Nodup
  | [], acc, h, _ => by simpa using h
  | k :: l, acc, h, e => by
    rw [List.foldl_cons, List.length_cons] at e
    have le := foldK_len l (moreK k acc)
    by_cases m : hasK k acc = true
    · have : moreK k acc = acc := by unfold moreK; rw [if_pos m]
      rw [this] at e le
      omega
    · have e2 : moreK k acc = acc ++ [k] := by unfold moreK; rw [if_neg m]
      have nd : (acc ++ [k]).Nodup := by
        rw [← e2]
        exact moreK_nodup h
      rw [e2] at e
      have := foldK_nodup l (acc ++ [k]) nd (by rw [e, List.length_append, List.length_singleton]; omega)
      simpa using this
theorem dedK_len_iff (ks : List Key) : (dedK ks).length = ks.length ↔ ks.Nodup := by
  constructor
  · intro e
    have := foldK_nodup ks [] List.nodup_nil (by simpa [dedK] using e)
    simpa using this
  · intro h
    rw [dedK_same h]
/-! ### are_starters -/
theorem scAreStarters : FnScope ["web", "thing", "name"] ["web", "thing"] (defScope sAreStarters) := ⟨rfl, rfl, rfl, by decide +kernel, rfl, by decide +kernel, by decide +kernel⟩
def folkIn (names : List Str) (d : PyData) : Bool := nameD d && inNames (textOf d) names
def startersD (names : List Str) (d : PyData) : Bool := rowD d && decide ((itemsD d).length ≠ 0) && (itemsD d).all (folkIn names) && decide (namesD d).Nodup
def spAreStarters : Sp := fun vs H Q _ => ∃ (T : Addr) (names : List Str) (ways : List Way) (v : V) (d : PyData), vs = [.ref T, v] ∧ WebAt H T names ways ∧ Da H v d ∧ (itemsD d).length ≤ 4000 ∧ ∀ H', Same H H' → Q (.bl (startersD names d)) H'
theorem startersD_true {names : List Str} {d : PyData} (h : startersD names d = true) : rowD d = true ∧ (itemsD d).length ≠ 0 ∧ (itemsD d).all (folkIn names) = true ∧ (namesD d).Nodup := by
  unfold startersD at h
  rw [Bool.and_eq_true, Bool.and_eq_true, Bool.and_eq_true, decide_eq_true_eq, decide_eq_true_eq] at h
  exact ⟨h.1.1.1, h.1.1.2, h.1.2, h.2⟩
theorem folkIn_name {names : List Str} {ds : List PyData} (h : ds.all (folkIn names) = true) : ds.all nameD = true := by
  rw [List.all_eq_true] at *
  intro d hd
  have := h d hd
  unfold folkIn at this
  rw [Bool.and_eq_true] at this
  exact this.1
theorem str_keys (names : List Str) : (names.map fun x => (Sum.inr x : Key)).map kV = names.map V.str := by
  rw [List.map_map]
  rfl
theorem nodup_keys (names : List Str) : (names.map fun x => (Sum.inr x : Key)).Nodup ↔ names.Nodup := by
  constructor
  · exact fun h => List.Pairwise.of_map _ (fun a b n e => n (by rw [e])) h
  · exact fun h => List.Pairwise.map _ (fun a b n e => n (Sum.inr.inj e)) h
theorem ok_are_starters {f : Addr} {fd : FuncData} (F : Fun K "are_starters" "are_starters" sAreStarters f fd) (B : Blt mg) (mS : mg "set" = none) (T : FormDefs P w K mg base) : FnOk P w K mg base CX0 2 f fd ["web", "thing"] spAreStarters := by
  refine F.ok scAreStarters (fun vs H Q E h => ?_) (fun cdv A outer s H vs Q E hr h => ?_)
  · obtain ⟨t, names, ways, v, d, rfl, _⟩ := h
    rfl
  · obtain ⟨t, names, ways, v, d, rfl, hw, hd, hl4, q⟩ := h
    refine ⟨_, pss_cons (ps_if (PW.pt (pw_or (pt_not (pt_val (pe_call T.G4 hr (by rfl) T.D4.at_ T.D4.kp T.D4.b .nil pass0 (pa_cons (pv 1) pa_nil))))
        (pw_or1 (pt_cmpR op_eq (pe_callB call_len_seq (by rfl) B.len (by decide +kernel) (pa_cons (pv 1) pa_nil)) pe_int (nomark _))))) (pss_one (ps_ret pe_bl)) pss_nil)
      (pss_cons (ps_if (pt_not (pt_val (pe_callB (cr_all rfl) (by rfl) B.all (by decide +kernel) (pa_cons (pe_lc (own := [("name", 2)]) (g := gName 2) (tt := tYes)
          (te := tAndV (tCall (spJudge K nameD) [] E0 (tCons (tVar 2) tNil)) (tOp (rIn K false) (tVar 2) (tOp (rIxT K) (tVar 0) (tC (.int 0))))) rfl scAreStarters.nd (pi_row (pv 1)) (blkOk_by (N := ["web", "thing", "name"]) (sc := defScope sAreStarters) (by decide +kernel))
          (fun _ _ _ _ _ => pg_name (i := 2) scAreStarters.nd rfl (Or.inl rfl)) (fun _ _ _ _ _ => pts_nil) (fun _ _ _ _ _ => pe_and (pe_call T.G2 hr (by rfl) T.D2.at_ T.D2.kp T.D2.b .nil pass0 (pa_cons (pv 2) pa_nil)) (pe_one (pe_cmpR op_in_seq (pv 2) (pe_ix ix_tup (pv 0) pe_int (fun _ _ => rfl)) rfl)))) pa_nil)))) (pss_one (ps_ret pe_bl)) pss_nil)
      (pss_one (ps_ret (pe_cmpR op_eq (pe_callB cr_lenKO (by rfl) B.len (by decide +kernel) (pa_cons (pe_callTy (cr_setK rfl) (by rfl) mS (by decide +kernel) (pa_cons (pv 1) pa_nil)) pa_nil)) (pe_callB call_len_seq (by rfl) B.len (by decide +kernel) (pa_cons (pv 1) pa_nil)) (nomark _))))), ?_⟩
    have no : ∀ H', Same H H' → startersD names d = false → Q (.bl false) H' := fun H' s' e => by
      have := q H' s'
      rw [e] at this
      exact this
    refine ⟨_, rfl, v, d, rfl, hd, fun H1 s1 => ⟨_, rfl, ?_⟩⟩
    cases r : rowD d with
    | false => exact iteT (iteT (no H1 s1 (by unfold startersD; rw [r]; rfl)))
    | true =>
      refine iteF ?_
      obtain ⟨a, xs, rfl, hs, hl, hi⟩ := (hd.on s1).items r
      refine ⟨_, rfl, a, xs, rfl, seq_of hs, rfl, _, rfl, ?_⟩
      rw [dec_int]
      by_cases l0 : xs.length = 0
      · rw [decide_eq_true (show ((xs.length : Nat) : Int) = 0 by omega)]
        exact iteT (no H1 s1 (by unfold startersD; rw [decide_eq_false (show ¬ (itemsD d).length ≠ 0 by omega)]; simp))
      · rw [decide_eq_false (show ¬ ((xs.length : Nat) : Int) = 0 by omega)]
        refine iteF ?_
        have ef : startersD names d = ((itemsD d).all (folkIn names) && decide (namesD d).Nodup) := by
          unfold startersD
          rw [r, decide_eq_true (show (itemsD d).length ≠ 0 by omega)]
          rfl
        have go : ∀ (J : It) (D : Addr), Walk J xs.length (fun H2 => Same H1 H2) (YAt xs) → H1 D = none → ∀ Qd : Hp → Prop, (∀ H2, Same H1 H2 → H2 D = some (.lst (((itemsD d).map (folkIn names)).map V.bl)) → Qd H2) →
            ∃ W : Nat → Nat → Hp → Prop, (∃ m, W 0 m (upd H1 D (.lst []))) ∧ ∀ i m H, W i m H → (J.stop i H ∧ Qd H) ∨
              (J.go i H ∧ ∃ Nx : Hp → Prop, (∀ H', Nx H' → ∃ m', m' < m ∧ W (i + 1) m' H') ∧ ∀ x H', J.yld i H x H' → gName 2 x (wipe (start ["web", "thing", "name"] [.ref t, .ref a]) [2]) H' fun σ2 H2 =>
                wipe σ2 [2] = wipe (start ["web", "thing", "name"] [.ref t, .ref a]) [2] ∧ tYes σ2 H2 fun b H3 => if b = true then tAndV (tCall (spJudge K nameD) [] E0 (tCons (tVar 2) tNil)) (tOp (rIn K false) (tVar 2) (tOp (rIxT K) (tVar 0) (tC (.int 0)))) σ2 H3 fun y H4 => ∃ acc, H4 D = some (.lst acc) ∧ acc.length < sizeLine ∧ Nx (upd H4 D (.lst (acc ++ [y]))) else Nx H3) := by
          intro J D wk nD Qd hQd
          refine lc_pure wk (fun i => .bl (folkIn names (((itemsD d)[i]?).getD .none))) (by rw [hl]; exact Nat.le_trans hl4 (by decide)) nD (fun _ h => h) yAt_same (fun i y H2 H3 Z hi2 s2 hy k => ?_) fun H2 s2 h2 => hQd H2 s2 ?_
          · obtain ⟨rfl, ey⟩ := hy
            obtain ⟨e, ee⟩ : ∃ e, (itemsD d)[i]? = some e := ⟨_, List.getElem?_eq_getElem (show i < (itemsD d).length by omega)⟩
            rw [ee] at k
            refine ⟨rfl, _, rfl, y, e, rfl, (hi i y e ey ee).on s2, fun H5 s5 => ⟨_, rfl, ?_⟩⟩
            cases n : nameD e with
            | false =>
              have := k H5 s5
              rw [show folkIn names ((some e).getD .none) = false from by show (nameD e && _) = false; rw [n]; rfl] at this
              exact iteF this
            | true =>
              obtain ⟨x, rfl, rfl, ox, _⟩ := nameD_str (hi i y e ey ee) n
              obtain ⟨F', W', ws, hT, hF, hW, hI⟩ := hw.on ((s1.trans s2).trans s5)
              refine iteT ⟨_, rfl, _, rfl, t, _, 0, _, rfl, rfl, SqT.of hT, atI_nat (j := 0) rfl, F', _, rfl, .inl (SqL.of hF), rfl, flat_names names, ?_⟩
              have := k H5 s5
              rw [show folkIn names ((some (PyData.str x)).getD .none) = inNames x names from by show (nameD (.str x) && inNames x names) = _; rw [n]; rfl] at this
              exact this
          · rw [h2, hl]
            have e1 := map_range_get (itemsD d) (folkIn names) .none
            rw [← e1, List.map_map]
            rfl
        have fin : ∀ D H2, Same H1 H2 → H2 D = some (.lst (((itemsD d).map (folkIn names)).map V.bl)) → rAll K [.ref D] H2 fun x H3 => ∃ c, x = .bl c ∧ if (!c) = true then tRet (tC (.bl false)) { nx := fun _ H' => Q .non H', rt := Q } (start ["web", "thing", "name"] [.ref t, .ref a]) H3 else tNext { nx := tRet (tOp rEq (tCB (rLenKO w) (tCons (tCB (rSetK K w) (tCons (tVar 1) tNil)) tNil)) (tCB (rLenS K) (tCons (tVar 1) tNil))) { nx := fun _ H' => Q .non H', rt := Q }, rt := Q } (start ["web", "thing", "name"] [.ref t, .ref a]) H3 := by
          intro D H2 s2 h2
          refine ⟨D, (itemsD d).map (folkIn names), rfl, SqL.of h2, ?_⟩
          rw [List.all_map, show (id ∘ folkIn names) = folkIn names from rfl]
          cases al : (itemsD d).all (folkIn names) with
          | false => exact ⟨_, rfl, iteT (no H2 (s1.trans s2) (by rw [ef, al]; rfl))⟩
          | true =>
            refine ⟨_, rfl, iteF ?_⟩
            obtain ⟨ts, en, ed, _⟩ := names_of hl hi (folkIn_name al)
            have ens := namesD_strs ed
            have hs2 := seq_same (K := K) s2 (seq_of hs)
            rw [en, ← str_keys] at hs2
            have lt : ts.length ≤ 4000 := by
              have := congrArg List.length ed
              rw [List.length_map] at this
              omega
            refine ⟨_, rfl, a, ts.map fun x => (Sum.inr x : Key), rfl, hs2, by rw [List.length_map]; show ts.length + 1 < 4096; omega, fun p np => ?_⟩
            have sp : Same H2 (upd H2 p (KO w p (dedK (ts.map fun x => (Sum.inr x : Key))))) := same_new np
            refine ⟨p, _, rfl, upd_same, _, rfl, a, _, rfl, seq_same sp hs2, rfl, ?_⟩
            have := q _ ((s1.trans s2).trans sp)
            rw [ef, al, ens, Bool.true_and] at this
            rw [dec_int]
            have e3 : decide (((dedK (ts.map fun x => (Sum.inr x : Key))).length : Nat) = (((ts.map fun x => (Sum.inr x : Key)).map kV).length : Int)) = decide ts.Nodup := by
              rw [List.length_map]
              by_cases n : ts.Nodup
              · rw [decide_eq_true n]
                refine decide_eq_true ?_
                rw [(dedK_len_iff _).2 ((nodup_keys ts).2 n)]
              · rw [decide_eq_false n]
                refine decide_eq_false fun z => n ?_
                exact (nodup_keys ts).1 ((dedK_len_iff _).1 (by exact_mod_cast z))
            rw [e3]
            exact this
        refine ⟨_, rfl, a, rfl, ?_⟩
        rcases hs with hs' | hs'
        · exact .inl ⟨⟨xs, SqL.of hs'⟩, fun D nD => go _ D (walk_list.mono (fun H2 s2 => s2.seq (SqL.of hs')) fun _ _ _ _ _ _ y => y) nD _ (fin D)⟩
        · exact .inr ⟨⟨xs, SqT.of hs'⟩, fun D nD => go _ D (walk_tup.mono (fun H2 s2 => sqT_same s2 (SqT.of hs')) fun _ _ _ _ _ _ y => y) nD _ (fin D)⟩
end
end Cry
/-! Starters, beats and walks that are handed in: what the program promises of them. -/
namespace Cry
open PySem PySem.Spec PyProof.Rows L2
section
variable {P : Program} {w : World} {K : PySem.W.Frag} {mg : Str → Option Value} {base : Heap}
/-! ### own_starters -/
theorem scOwnStarters : FnScope ["web", "starters"] ["web", "starters"] (defScope sOwnStarters) := ⟨rfl, rfl, rfl, by decide +kernel, rfl, by decide +kernel, by decide +kernel⟩
def spOwnStarters : Sp := fun vs H Q _ => ∃ (T : Addr) (names : List Str) (ways : List Way) (v : V) (d : PyData), vs = [.ref T, v] ∧ WebAt H T names ways ∧ Da H v d ∧ (itemsD d).length ≤ 4000 ∧ startersD names d = true ∧
  ∀ l H', Same H H' → H l = none → H' l = some (.lst ((namesD d).map V.str)) → Q (.ref l) H'
theorem ok_own_starters {f f1 : Addr} {fd fd1 : FuncData} (F : Fun K "own_starters" "own_starters" sOwnStarters f fd) (B : Blt mg) (D1 : Def K mg "are_starters" f1 fd1 ["web", "thing"]) (G1 : FnOk P w K mg base CX0 2 f1 fd1 ["web", "thing"] spAreStarters) : FnOk P w K mg base CX0 3 f fd ["web", "starters"] spOwnStarters := by
  refine F.ok scOwnStarters (fun vs H Q E h => ?_) (fun cdv A outer s H vs Q E hr h => ?_)
  · obtain ⟨t, names, ways, v, d, rfl, _⟩ := h
    rfl
  · obtain ⟨t, names, ways, v, d, rfl, hw, hd, hl4, ok, q⟩ := h
    refine ⟨_, pss_cons (ps_if (pt_not (pt_val (pe_call G1 hr (by rfl) D1.at_ D1.kp D1.b .nil pass0 (pa_cons (pv 0) (pa_cons (pv 1) pa_nil))))) (pss_one ps_never) pss_nil)
      (pss_one (ps_ret (pe_callTy call_list_of (by rfl) B.list (by decide +kernel) (pa_cons (pv 1) pa_nil)))), ?_⟩
    refine ⟨_, rfl, _, rfl, t, names, ways, v, d, rfl, hw, hd, hl4, fun H1 s1 => ⟨_, rfl, ?_⟩⟩
    rw [ok]
    refine iteF ?_
    obtain ⟨r, _, al, _⟩ := startersD_true ok
    obtain ⟨a, xs, rfl, hs, hl, hi⟩ := (hd.on s1).items r
    obtain ⟨ts, en, ed, _⟩ := names_of hl hi (folkIn_name al)
    rw [namesD_strs ed] at q
    exact ⟨_, rfl, a, xs, rfl, seq_of hs, fun l nl => q l _ (s1.trans (same_new nl)) (s1.free nl) (by rw [upd_same, en])⟩
/-! ### check_beat -/
theorem scCheckBeat : FnScope ["beat"] ["beat"] (defScope sCheckBeat) := ⟨rfl, rfl, rfl, by decide +kernel, rfl, by decide +kernel, by decide +kernel⟩
def spCheckBeat : Sp := fun vs H Q _ => ∃ n : Int, vs = [.int n] ∧ 0 ≤ n ∧ ∀ H', Same H H' → Q .non H'
theorem ok_check_beat {f f1 : Addr} {fd fd1 : FuncData} (F : Fun K "check_beat" "check_beat" sCheckBeat f fd) (D1 : Def K mg "is_whole" f1 fd1 ["thing"]) (G1 : FnOk P w K mg base CX0 1 f1 fd1 ["thing"] (spJudge K wholeD)) : FnOk P w K mg base CX0 2 f fd ["beat"] spCheckBeat := by
  refine F.ok scCheckBeat (fun vs H Q E h => ?_) (fun cdv A outer s H vs Q E hr h => ?_)
  · obtain ⟨n, rfl, _⟩ := h
    rfl
  · obtain ⟨n, rfl, h0, q⟩ := h
    refine ⟨_, pss_one (ps_if (PW.pt (pw_or (pt_not (pt_val (pe_call G1 hr (by rfl) D1.at_ D1.kp D1.b .nil pass0 (pa_cons (pv 0) pa_nil)))) (pw_or1 (pt_cmpR op_lt (pv 0) pe_int (nomark _))))) (pss_one ps_never) pss_nil), ?_⟩
    refine ⟨_, rfl, _, .int n, rfl, .int n, fun H1 s1 => ⟨_, rfl, ?_⟩⟩
    refine iteF ⟨_, rfl, _, _, rfl, rfl, _, rfl, ?_⟩
    rw [decide_eq_false (show ¬ n < 0 by omega)]
    exact iteF (q H1 s1)
/-! ### folk_beside -/
theorem scFolkBeside : FnScope ["web", "place", "one", "other", "number"] ["web", "place"] (defScope sFolkBeside) := ⟨rfl, rfl, rfl, by decide +kernel, rfl, by decide +kernel, by decide +kernel⟩
def nbD (y : Str × Int) : PyData := .tuple [.str y.1, .int y.2]
def folkBeside (ways : List Way) (p : Way) : List (Str × Int) := if p.2.2 = 0 then [(p.1, 0)] else [(p.1, p.2.2), (p.2.1, between ways p.1 p.2.1 - p.2.2)]
def spFolkBeside : Sp := fun vs H Q _ => ∃ (T : Addr) (names : List Str) (ways : List Way) (v : V) (p : Way), vs = [.ref T, v] ∧ WebAt H T names ways ∧ Im H v (wayD3 p) ∧
  ∀ l xs H', Same H H' → H l = none → H' l = some (.lst xs) → Ims H' xs ((folkBeside ways p).map nbD) → Q (.ref l) H'
theorem ok_folk_beside {f f1 : Addr} {fd fd1 : FuncData} (F : Fun K "folk_beside" "folk_beside" sFolkBeside f fd) (D1 : Def K mg "beats_between" f1 fd1 ["web", "one", "other"]) (G1 : FnOk P w K mg base CX0 1 f1 fd1 ["web", "one", "other"] spBetween) : FnOk P w K mg base CX0 2 f fd ["web", "place"] spFolkBeside := by
  refine F.ok scFolkBeside (fun vs H Q E h => ?_) (fun cdv A outer s H vs Q E hr h => ?_)
  · obtain ⟨t, names, ways, v, p, rfl, _⟩ := h
    rfl
  · obtain ⟨t, names, ways, v, p, rfl, hw, hp, q⟩ := h
    refine ⟨_, pss_cons (ps_asg (pv 1) (pg_tup rfl (pgs_cons (pg_name (i := 2) scFolkBeside.nd rfl (Or.inl rfl)) (pgs_cons (pg_name (i := 3) scFolkBeside.nd rfl (Or.inl rfl)) (pgs_cons (pg_name (i := 4) scFolkBeside.nd rfl (Or.inl rfl)) pgs_nil)))))
      (pss_cons (ps_if (pt_cmpR op_eq (pv 4) pe_int (nomark _)) (pss_one (ps_ret (pe_lst (pa_cons (pe_tup (pa_cons (pv 2) (pa_cons pe_int pa_nil))) pa_nil)))) pss_nil)
      (pss_one (ps_ret (pe_lst (pa_cons (pe_tup (pa_cons (pv 2) (pa_cons (pv 4) pa_nil))) (pa_cons (pe_tup (pa_cons (pv 3) (pa_cons (pe_op op_sub (pe_call G1 hr (by rfl) D1.at_ D1.kp D1.b .nil pass0 (pa_cons (pv 0) (pa_cons (pv 2) (pa_cons (pv 3) pa_nil)))) (pv 4)) pa_nil))) pa_nil)))))), ?_⟩
    obtain ⟨a, rfl, ha⟩ := im_way hp
    refine ⟨_, rfl, a, _, rfl, SqT.of ha, rfl, _, _, rfl, _, _, rfl, _, _, rfl, rfl, ?_⟩
    unfold folkBeside at q
    refine ⟨_, rfl, rfl, _, rfl, ?_⟩
    rw [dec_int]
    by_cases h0 : p.2.2 = 0
    · rw [decide_eq_true h0]
      rw [if_pos h0] at q
      refine iteT ⟨_, rfl, by show 2 ≤ sizeLine; decide, fun b nb => ⟨by show 1 ≤ sizeLine; decide, fun l nl => ?_⟩⟩
      have s1 : Same H (upd H b (.tup [.str p.1, .int 0])) := same_new nb
      have s2 := s1.trans (same_new (o := .lst [.ref b]) nl)
      refine q l _ _ s2 (s1.free nl) upd_same (.cons (.tup (a := b) ((same_new nl) _ _ upd_same) (.cons (.str _) (.cons (.int _) .nil))) .nil)
    · rw [decide_eq_false h0]
      rw [if_neg h0] at q
      refine iteF ⟨_, rfl, _, rfl, by show 2 ≤ sizeLine; decide, fun b nb => ?_⟩
      have s1 : Same H (upd H b (.tup [.str p.1, .int p.2.2])) := same_new nb
      refine ⟨_, rfl, _, rfl, _, rfl, _, rfl, t, _, _, names, ways, rfl, hw.on s1, _, rfl, _, _, rfl, rfl, by show 2 ≤ sizeLine; decide, fun c nc => ⟨by show 2 ≤ sizeLine; decide, fun l nl => ?_⟩⟩
      have s2 := same_new (o := .tup [.str p.2.1, .int (between ways p.1 p.2.1 - p.2.2)]) nc
      have s3 := same_new (o := .lst [.ref b, .ref c]) nl
      refine q l _ _ ((s1.trans s2).trans s3) ((s1.trans s2).free nl) upd_same (.cons (.tup (a := b) (s3 _ _ (s2 _ _ upd_same)) (.cons (.str _) (.cons (.int _) .nil))) (.cons (.tup (a := c) (s3 _ _ upd_same) (.cons (.str _) (.cons (.int _) .nil))) .nil))
/-! ### are_names_from -/
theorem scAreNamesFrom : FnScope ["starters", "thing", "name"] ["starters", "thing"] (defScope sAreNamesFrom) := ⟨rfl, rfl, rfl, by decide +kernel, rfl, by decide +kernel, by decide +kernel⟩
def namesFromD (begun : List Str) (d : PyData) : Bool := rowD d && decide ((itemsD d).length ≠ 0) && (itemsD d).all nameD && inNames (((namesD d)[0]?).getD "") begun
def spAreNamesFrom (K : PySem.W.Frag) : Sp := fun vs H Q _ => ∃ (a : Addr) (begun : List Str) (v : V) (d : PyData), vs = [.ref a, v] ∧ SqL K H a (begun.map V.str) ∧ Da H v d ∧ (itemsD d).length ≤ 4000 ∧ ∀ H', Same H H' → Q (.bl (namesFromD begun d)) H'
theorem ok_are_names_from {f : Addr} {fd : FuncData} (F : Fun K "are_names_from" "are_names_from" sAreNamesFrom f fd) (B : Blt mg) (T : FormDefs P w K mg base) : FnOk P w K mg base CX0 2 f fd ["starters", "thing"] (spAreNamesFrom K) := by
  refine F.ok scAreNamesFrom (fun vs H Q E h => ?_) (fun cdv A outer s H vs Q E hr h => ?_)
  · obtain ⟨a, begun, v, d, rfl, _⟩ := h
    rfl
  · obtain ⟨t, begun, v, d, rfl, hb, hd, hl4, q⟩ := h
    refine ⟨_, pss_cons (ps_if (PW.pt (pw_or (pt_not (pt_val (pe_call T.G4 hr (by rfl) T.D4.at_ T.D4.kp T.D4.b .nil pass0 (pa_cons (pv 1) pa_nil))))
        (pw_or1 (pt_cmpR op_eq (pe_callB call_len_seq (by rfl) B.len (by decide +kernel) (pa_cons (pv 1) pa_nil)) pe_int (nomark _))))) (pss_one (ps_ret pe_bl)) pss_nil)
      (pss_one (ps_ret (pe_and (pe_callB (cr_all rfl) (by rfl) B.all (by decide +kernel) (pa_cons (pe_lc (own := [("name", 2)]) (g := gName 2) (tt := tYes)
          (te := tCall (spJudge K nameD) [] E0 (tCons (tVar 2) tNil)) rfl scAreNamesFrom.nd (pi_row (pv 1)) (blkOk_by (N := ["starters", "thing", "name"]) (sc := defScope sAreNamesFrom) (by decide +kernel))
          (fun _ _ _ _ _ => pg_name (i := 2) scAreNamesFrom.nd rfl (Or.inl rfl)) (fun _ _ _ _ _ => pts_nil) (fun _ _ _ _ _ => pe_call T.G2 hr (by rfl) T.D2.at_ T.D2.kp T.D2.b .nil pass0 (pa_cons (pv 2) pa_nil))) pa_nil))
        (pe_one (pe_cmpR op_in_seq (pe_ix ix_seq (pv 1) pe_int (fun _ _ => rfl)) (pv 0) rfl))))), ?_⟩
    have no : ∀ H', Same H H' → namesFromD begun d = false → Q (.bl false) H' := fun H' s' e => by
      have := q H' s'
      rw [e] at this
      exact this
    refine ⟨_, rfl, v, d, rfl, hd, fun H1 s1 => ⟨_, rfl, ?_⟩⟩
    cases r : rowD d with
    | false => exact iteT (iteT (no H1 s1 (by unfold namesFromD; rw [r]; rfl)))
    | true =>
      refine iteF ?_
      obtain ⟨a, xs, rfl, hs, hl, hi⟩ := (hd.on s1).items r
      refine ⟨_, rfl, a, xs, rfl, seq_of hs, rfl, _, rfl, ?_⟩
      rw [dec_int]
      by_cases l0 : xs.length = 0
      · rw [decide_eq_true (show ((xs.length : Nat) : Int) = 0 by omega)]
        exact iteT (no H1 s1 (by unfold namesFromD; rw [decide_eq_false (show ¬ (itemsD d).length ≠ 0 by omega)]; simp))
      · rw [decide_eq_false (show ¬ ((xs.length : Nat) : Int) = 0 by omega)]
        refine iteF ?_
        have ef : namesFromD begun d = ((itemsD d).all nameD && inNames (((namesD d)[0]?).getD "") begun) := by
          unfold namesFromD
          rw [r, decide_eq_true (show (itemsD d).length ≠ 0 by omega)]
          rfl
        have go : ∀ (J : It) (D : Addr), Walk J xs.length (fun H2 => Same H1 H2) (YAt xs) → H1 D = none → ∀ Qd : Hp → Prop, (∀ H2, Same H1 H2 → H2 D = some (.lst (((itemsD d).map nameD).map V.bl)) → Qd H2) →
            ∃ W : Nat → Nat → Hp → Prop, (∃ m, W 0 m (upd H1 D (.lst []))) ∧ ∀ i m H, W i m H → (J.stop i H ∧ Qd H) ∨
              (J.go i H ∧ ∃ Nx : Hp → Prop, (∀ H', Nx H' → ∃ m', m' < m ∧ W (i + 1) m' H') ∧ ∀ x H', J.yld i H x H' → gName 2 x (wipe (start ["starters", "thing", "name"] [.ref t, .ref a]) [2]) H' fun σ2 H2 =>
                wipe σ2 [2] = wipe (start ["starters", "thing", "name"] [.ref t, .ref a]) [2] ∧ tYes σ2 H2 fun b H3 => if b = true then tCall (spJudge K nameD) [] E0 (tCons (tVar 2) tNil) σ2 H3 fun y H4 => ∃ acc, H4 D = some (.lst acc) ∧ acc.length < sizeLine ∧ Nx (upd H4 D (.lst (acc ++ [y]))) else Nx H3) := by
          intro J D wk nD Qd hQd
          refine lc_pure wk (fun i => .bl (nameD (((itemsD d)[i]?).getD .none))) (by rw [hl]; exact Nat.le_trans hl4 (by decide)) nD (fun _ h => h) yAt_same (fun i y H2 H3 Z hi2 s2 hy k => ?_) fun H2 s2 h2 => hQd H2 s2 ?_
          · obtain ⟨rfl, ey⟩ := hy
            obtain ⟨e, ee⟩ : ∃ e, (itemsD d)[i]? = some e := ⟨_, List.getElem?_eq_getElem (show i < (itemsD d).length by omega)⟩
            rw [ee] at k
            exact ⟨rfl, y, rfl, y, e, rfl, (hi i y e ey ee).on s2, fun H5 s5 => k H5 s5⟩
          · rw [h2, hl]
            have e1 := map_range_get (itemsD d) nameD .none
            rw [← e1, List.map_map]
            rfl
        have fin : ∀ D H2, Same H1 H2 → H2 D = some (.lst (((itemsD d).map nameD).map V.bl)) → rAll K [.ref D] H2 fun x H3 => ∃ c, x = .bl c ∧ if c = true then tOp (rIn K false) (tOp (rIx K) (tVar 1) (tC (.int 0))) (tVar 0) (start ["starters", "thing", "name"] [.ref t, .ref a]) H3 Q else Q (.bl false) H3 := by
          intro D H2 s2 h2
          refine ⟨D, (itemsD d).map nameD, rfl, SqL.of h2, ?_⟩
          rw [List.all_map, show (id ∘ nameD) = nameD from rfl]
          cases al : (itemsD d).all nameD with
          | false => exact ⟨_, rfl, iteF (no H2 (s1.trans s2) (by rw [ef, al]; rfl))⟩
          | true =>
            refine ⟨_, rfl, iteT ?_⟩
            obtain ⟨ts, en, ed, _⟩ := names_of hl hi al
            have ens := namesD_strs ed
            have hs2 := seq_same (K := K) s2 (seq_of hs)
            have fin := q H2 (s1.trans s2)
            rw [ef, al, ens, Bool.true_and] at fin
            match ts, en with
            | x :: r, en =>
              have ix : ∀ Q' : VK, Q' (.str x) H2 → rIx K (.ref a) (.int 0) H2 Q' := fun Q' q' =>
                hs2.elim (fun h => .inl ⟨a, _, _, _, rfl, rfl, h, atI_nat (j := 0) (by rw [en]; rfl), q'⟩) fun h => .inr (.inl ⟨a, _, _, _, rfl, rfl, h, atI_nat (j := 0) (by rw [en]; rfl), q'⟩)
              refine ⟨_, rfl, ix _ ⟨_, rfl, t, _, rfl, .inl ((s1.trans s2).seq hb), rfl, flat_names begun, fin⟩⟩
            | [], en => exact absurd (by rw [en]; rfl) l0
        refine ⟨_, rfl, a, rfl, ?_⟩
        rcases hs with hs' | hs'
        · exact .inl ⟨⟨xs, SqL.of hs'⟩, fun D nD => go _ D (walk_list.mono (fun H2 s2 => s2.seq (SqL.of hs')) fun _ _ _ _ _ _ y => y) nD _ (fin D)⟩
        · exact .inr ⟨⟨xs, SqT.of hs'⟩, fun D nD => go _ D (walk_tup.mono (fun H2 s2 => sqT_same s2 (SqT.of hs')) fun _ _ _ _ _ _ y => y) nD _ (fin D)⟩
end
end Cry
/-! is_walk. -/
namespace Cry
open PySem PySem.Spec PyProof.Rows L2
section
variable {P : Program} {w : World} {K : PySem.W.Frag} {mg : Str → Option Value} {base : Heap}
abbrev nIsWalk : List Str := ["web", "starters", "place", "beat", "thing", "own", "begun", "here", "steps", "beats", "more", "one", "other", "name"]
theorem scIsWalk : FnScope nIsWalk ["web", "starters", "place", "beat", "thing"] (defScope sIsWalk) := ⟨rfl, rfl, rfl, by decide +kernel, rfl, by decide +kernel, by decide +kernel⟩
/-- the beats of the way of two -/
def wayOfTwo (ways : List Way) (x y : Str) : Int := between ways (minS x y) (maxS x y)
def moreL (ways : List Way) (p : Way) (last : Str) : List Int := ((folkBeside ways p).filter fun y => decide (y.1 = last)).map Prod.snd
def walkL (ways : List Way) (p : Way) (n : Int) (ts : List Str) : Bool :=
  !(inV (.int 0) ((nexts (wayOfTwo ways) ts).map V.int)) && (!((moreL ways p (ts.getLast?.getD "")).isEmpty) &&
    (decide ((nexts (wayOfTwo ways) ts).sum + ((moreL ways p (ts.getLast?.getD ""))[0]?).getD 0 ≤ n) && decide ((n - ((nexts (wayOfTwo ways) ts).sum + ((moreL ways p (ts.getLast?.getD ""))[0]?).getD 0)) % 2 = 0)))
def walkD (ways : List Way) (begun : List Str) (p : Way) (n : Int) (d : PyData) : Bool := namesFromD begun d && walkL ways p n (namesD d)
structure WalkDefs (P : Program) (w : World) (K : PySem.W.Frag) (mg : Str → Option Value) (base : Heap) where
  {f1 f2 f3 f4 f5 f6 f7 : Addr}
  {fd1 fd2 fd3 fd4 fd5 fd6 fd7 : FuncData}
  D1 : Def K mg "own_web" f1 fd1 ["web"]
  G1 : FnOk P w K mg base CX0 6 f1 fd1 ["web"] spOwnWeb
  D2 : Def K mg "own_starters" f2 fd2 ["web", "starters"]
  G2 : FnOk P w K mg base CX0 3 f2 fd2 ["web", "starters"] spOwnStarters
  D3 : Def K mg "own_place" f3 fd3 ["web", "place"]
  G3 : FnOk P w K mg base CX0 4 f3 fd3 ["web", "place"] spOwnPlace
  D4 : Def K mg "check_beat" f4 fd4 ["beat"]
  G4 : FnOk P w K mg base CX0 2 f4 fd4 ["beat"] spCheckBeat
  D5 : Def K mg "are_names_from" f5 fd5 ["starters", "thing"]
  G5 : FnOk P w K mg base CX0 2 f5 fd5 ["starters", "thing"] (spAreNamesFrom K)
  D6 : Def K mg "beats_between" f6 fd6 ["web", "one", "other"]
  G6 : FnOk P w K mg base CX0 1 f6 fd6 ["web", "one", "other"] spBetween
  D7 : Def K mg "folk_beside" f7 fd7 ["web", "place"]
  G7 : FnOk P w K mg base CX0 2 f7 fd7 ["web", "place"] spFolkBeside
def spIsWalk : Sp := fun vs H Q _ => ∃ (vw vl vp vt : V) (dw dl dp dt : PyData) (n : Int), vs = [vw, vl, vp, .int n, vt] ∧ Da H vw dw ∧ webD dw = true ∧ Da H vl dl ∧ (itemsD dl).length ≤ 4000 ∧ startersD (folkOf dw) dl = true ∧
  Da H vp dp ∧ placeOk (folkOf dw) (waysOf dw) dp = true ∧ 0 ≤ n ∧ Da H vt dt ∧ (itemsD dt).length ≤ 4000 ∧ ∀ H', Same H H' → Q (.bl (walkD (waysOf dw) (namesD dl) (placeOf dp) n dt)) H'
theorem namesFromD_true {begun : List Str} {d : PyData} (h : namesFromD begun d = true) : rowD d = true ∧ (itemsD d).length ≠ 0 ∧ (itemsD d).all nameD = true ∧ inNames (((namesD d)[0]?).getD "") begun = true := by
  unfold namesFromD at h
  rw [Bool.and_eq_true, Bool.and_eq_true, Bool.and_eq_true, decide_eq_true_eq] at h
  exact ⟨h.1.1.1, h.1.1.2, h.1.2, h.2⟩
theorem flat_ints (ns : List Int) : (ns.map V.int).all flatV = true := by
  rw [List.all_map, List.all_eq_true]
  intro x _
  rfl
theorem ok_is_walk {f : Addr} {fd : FuncData} (F : Fun K "is_walk" "is_walk" sIsWalk f fd) (B : Blt mg) (mMin : mg "min" = none) (mMax : mg "max" = none) (mSum : mg "sum" = none) (T : WalkDefs P w K mg base) :
    FnOk P w K mg base CX0 7 f fd ["web", "starters", "place", "beat", "thing"] spIsWalk := by
  refine F.ok scIsWalk (fun vs H Q E h => ?_) (fun cdv A outer s H vs Q E hr h => ?_)
  · obtain ⟨vw, vl, vp, vt, dw, dl, dp, dt, n, rfl, _⟩ := h
    rfl
  · obtain ⟨vw, vl, vp, vt, dw, dl, dp, dt, n, rfl, hdw, hwb, hdl, ll, hst, hdp, hpl, h0, hdt, lt, q⟩ := h
    have hr1 := hr.mono (show 1 ≤ 6 by decide)
    have hr2 := hr.mono (show 2 ≤ 6 by decide)
    have hr3 := hr.mono (show 3 ≤ 6 by decide)
    have hr4 := hr.mono (show 4 ≤ 6 by decide)
    refine ⟨_, pss_cons (ps_set (i := 5) scIsWalk.nd rfl (Or.inr rfl) (pe_call T.G1 hr (by rfl) T.D1.at_ T.D1.kp T.D1.b .nil pass0 (pa_cons (pv 0) pa_nil)))
      (pss_cons (ps_set (i := 6) scIsWalk.nd rfl (Or.inl rfl) (pe_call T.G2 hr3 (by rfl) T.D2.at_ T.D2.kp T.D2.b .nil pass0 (pa_cons (pv 5) (pa_cons (pv 1) pa_nil))))
      (pss_cons (ps_set (i := 7) scIsWalk.nd rfl (Or.inl rfl) (pe_call T.G3 hr4 (by rfl) T.D3.at_ T.D3.kp T.D3.b .nil pass0 (pa_cons (pv 5) (pa_cons (pv 2) pa_nil))))
      (pss_cons (ps_expr (pe_call T.G4 hr2 (by rfl) T.D4.at_ T.D4.kp T.D4.b .nil pass0 (pa_cons (pv 3) pa_nil)))
      (pss_cons (ps_if (pt_not (pt_val (pe_call T.G5 hr2 (by rfl) T.D5.at_ T.D5.kp T.D5.b .nil pass0 (pa_cons (pv 6) (pa_cons (pv 4) pa_nil))))) (pss_one (ps_ret pe_bl)) pss_nil)
      (pss_cons (ps_setLc (i := 8) (own := [("one", 11), ("other", 12)]) (g := gTup K 2 (gCons (gName 11) (gCons (gName 12) gNil))) (tt := tYes)
          (te := tCall spBetween [] E0 (tCons (tVar 5) (tCons (tCB (rTwoS minS) (tCons (tVar 11) (tCons (tVar 12) tNil))) (tCons (tCB (rTwoS maxS) (tCons (tVar 11) (tCons (tVar 12) tNil))) tNil)))) (by rfl) scIsWalk.nd rfl rfl (sw_true rfl rfl rfl (by decide +kernel))
          (RZ.pi_zipA (by rfl) B.zip (pa_cons (pv 4) (pa_cons (pe_slice (sl_list.or sl_tup) (pv 4) (po_some pe_int) po_none) pa_nil))) (blkOk_by (N := nIsWalk) (sc := defScope sIsWalk) (by decide +kernel))
          (fun _ _ _ _ _ => pg_tup rfl (pgs_cons (pg_name (i := 11) scIsWalk.nd rfl (Or.inl rfl)) (pgs_cons (pg_name (i := 12) scIsWalk.nd rfl (Or.inl rfl)) pgs_nil))) (fun _ _ _ _ _ => pts_nil)
          (fun _ _ _ _ _ => pe_call T.G6 hr1 (by rfl) T.D6.at_ T.D6.kp T.D6.b .nil pass0 (pa_cons (pv 5) (pa_cons (pe_callB (cr_minS rfl) (by rfl) mMin (by decide +kernel) (pa_cons (pv 11) (pa_cons (pv 12) pa_nil))) (pa_cons (pe_callB (cr_maxS rfl) (by rfl) mMax (by decide +kernel) (pa_cons (pv 11) (pa_cons (pv 12) pa_nil))) pa_nil)))))
      (pss_cons (ps_setLc (i := 10) (own := [("name", 13), ("beats", 9)]) (g := gTup K 2 (gCons (gName 13) (gCons (gName 9) gNil))) (tt := tTest (tOp rEq (tVar 13) (tOp (rIx K) (tVar 4) (tUn (rU fun i => .int (-i)) (tC (.int 1))))))
          (te := tVar 9) (by rfl) scIsWalk.nd rfl rfl (sw_true rfl rfl rfl (by decide +kernel))
          (pi_list (pe_call T.G7 hr2 (by rfl) T.D7.at_ T.D7.kp T.D7.b .nil pass0 (pa_cons (pv 5) (pa_cons (pv 7) pa_nil)))) (blkOk_by (N := nIsWalk) (sc := defScope sIsWalk) (by decide +kernel))
          (fun _ _ _ _ _ => pg_tup rfl (pgs_cons (pg_name (i := 13) scIsWalk.nd rfl (Or.inl rfl)) (pgs_cons (pg_name (i := 9) scIsWalk.nd rfl (Or.inl rfl)) pgs_nil)))
          (fun _ _ _ _ _ => pts_one (pt_cmpR op_eq (pv 13) (pe_ix ix_seq (pv 4) (pe_un un_neg pe_int) (fun _ _ => rfl)) (nomark _)))
          (fun _ _ _ _ _ => pv 9))
      (pss_cons (ps_if (PW.pt (pw_or (pt_cmpR op_in_seq pe_int (pv 8) rfl) (pw_or1 (pt_not (pt_truth (pv 10) (by intro _; rfl)))))) (pss_one (ps_ret pe_bl)) pss_nil)
      (pss_cons (ps_set (i := 9) scIsWalk.nd rfl (Or.inl rfl) (pe_op op_add (pe_callB (cr_sum rfl) (by rfl) mSum (by decide +kernel) (pa_cons (pv 8) pa_nil)) (pe_ix ix_list (pv 10) pe_int (fun _ _ => rfl))))
      (pss_one (ps_ret (pe_and (pe_cmpR op_le (pv 9) (pv 3) (nomark _)) (pe_one (pe_cmpR op_eq (pe_op op_mod (pe_op op_sub (pv 3) (pv 9)) pe_int) pe_int (nomark _)))))))))))))), ?_⟩
    refine ⟨_, rfl, vw, dw, rfl, hdw, hwb, fun T1 H1 ow => ?_⟩
    have wa := ow.web
    have s1 := ow.same
    refine ⟨_, rfl, _, rfl, T1, folkOf dw, waysOf dw, vl, dl, rfl, wa, hdl.on s1, ll, hst, fun lb H2 s2 nlb hlb => ?_⟩
    refine ⟨_, rfl, _, rfl, T1, folkOf dw, waysOf dw, vp, dp, rfl, wa.on s2, hdp.on (s1.trans s2), hpl, fun v3 H3 s3 im3 => ?_⟩
    refine ⟨_, rfl, n, rfl, h0, fun H4 s4 => ?_⟩
    have s24 := (s2.trans s3).trans s4
    have s14 : Same H H4 := s1.trans s24
    refine ⟨_, rfl, _, rfl, lb, namesD dl, vt, dt, rfl, SqL.of (s4 _ _ (s3 _ _ hlb)), hdt.on s14, lt, fun H5 s5 => ⟨_, rfl, ?_⟩⟩
    have s15 := s14.trans s5
    cases nf : namesFromD (namesD dl) dt with
    | false =>
      have fin := q H5 s15
      unfold walkD at fin
      rw [nf] at fin
      exact iteT fin
    | true =>
      refine iteF ?_
      obtain ⟨re, ne0, al, _⟩ := namesFromD_true nf
      obtain ⟨a, xs, rfl, hs, hl, hi⟩ := (hdt.on s15).items re
      obtain ⟨ts, en, ed, _⟩ := names_of hl hi al
      have ens := namesD_strs ed
      have nx : xs ≠ [] := fun e => ne0 (by rw [← hl, e]; rfl)
      have lx : xs.length ≤ 4000 := by omega
      have et : ∀ (i : Nat) (x : Str), xs[i]? = some (.str x) → ts[i]? = some x := fun i x e => by
        rw [en, List.getElem?_map] at e
        cases h : ts[i]? with
        | none =>
          rw [h] at e
          cases e
        | some y =>
          rw [h] at e
          cases e
          rfl
      have wa5 := wa.on (s24.trans s5)
      have ext : ∀ (i : Nat) (v : V), xs[i]? = some v → ∃ x, v = .str x ∧ ts[i]? = some x := fun i v e => by
        rw [en, List.getElem?_map] at e
        cases h : ts[i]? with
        | none =>
          rw [h] at e
          cases e
        | some y =>
          rw [h] at e
          cases e
          exact ⟨y, rfl, rfl⟩
      dsimp only [tNext, tSeq, tAsg, tLc]
      refine zip_tail (K := K) (i := 4) (a := a) (xs := xs) ?_ (hs.imp SqL.of fun h => ⟨SqT.of h, nx⟩) ?_
      · rfl
      intro J H6 s6 wk D nD
      refine lc_pure wk (fun i => .int (wayOfTwo (waysOf dw) ((ts[i]?).getD "") ((ts[i + 1]?).getD ""))) (Nat.le_trans (show xs.length - 1 ≤ 4000 by omega) (by decide)) nD (fun _ h => h) yPair_same (fun i y H7 H8 Z hi7 s7 hy k => ?_) fun H7 s7 h7 => ?_
      · obtain ⟨Tp, u, v, rfl, nT, rfl, eu, ev⟩ := hy
        dsimp only at eu ev
        obtain ⟨x, rfl, ex⟩ := ext i u eu
        obtain ⟨z, rfl, ez⟩ := ext (i + 1) v ev
        have s8 : Same H7 (upd H7 Tp (.tup [.str x, .str z])) := same_new nT
        refine ⟨Tp, [.str x, .str z], rfl, SqT.of upd_same, rfl, .str x, [.str z], rfl, .str z, [], rfl, rfl, rfl, ?_⟩
        refine ⟨_, rfl, _, rfl, _, rfl, x, z, rfl, _, rfl, _, rfl, x, z, rfl, T1, _, _, folkOf dw, waysOf dw, rfl, wa5.on ((s6.trans s7).trans s8), ?_⟩
        have := k _ (Same.refl _)
        rw [ex, ez] at this
        exact this
      · have est : ((List.range (xs.length - 1)).map fun i => V.int (wayOfTwo (waysOf dw) ((ts[i]?).getD "") ((ts[i + 1]?).getD ""))) = (nexts (wayOfTwo (waysOf dw)) ts).map V.int := by
          have e1 := nexts_range (wayOfTwo (waysOf dw)) "" ts (fun i => wayOfTwo (waysOf dw) ((ts[i]?).getD "") ((ts[i + 1]?).getD "")) (fun i x y h1 h2 => by rw [h1, h2]; rfl)
          rw [← e1, List.map_map, en, List.length_map]
          rfl
        rw [est] at h7
        have s67 := s6.trans s7
        have s57 := s15.trans s67
        -- more
        refine ⟨_, rfl, _, rfl, T1, folkOf dw, waysOf dw, v3, placeOf dp, rfl, wa5.on s67, im3.on (TS.same (s4.trans (s5.trans s67))), fun l zs H8 s8 nl hl8 iz => ?_⟩
        refine ⟨l, rfl, ⟨_, SqL.of hl8⟩, fun M nM => ?_⟩
        have lz := iz.length
        rw [List.length_map] at lz
        have few : (folkBeside (waysOf dw) (placeOf dp)).length ≤ 2 := by
          unfold folkBeside
          split <;> simp
        have tne : ts ≠ [] := fun e => nx (by rw [en, e]; rfl)
        have exl : xs = (ts.map V.str) := en
        have last : atI xs (-1) = some (.str (ts.getLast?.getD "")) := by
          have := atI_end (xs := xs) nx
          rw [this]
          congr 1
          rw [← Option.some_inj, ← List.getLast?_eq_some_getLast, en, List.getLast?_map, List.getLast?_eq_some_getLast tne]
          rfl
        refine lc_sift (walk_list (K := K) (a := l) (xs := zs)) (fun i => decide ((((folkBeside (waysOf dw) (placeOf dp))[i]?).getD ("", 0)).1 = ts.getLast?.getD "")) (fun i => .int (((folkBeside (waysOf dw) (placeOf dp))[i]?).getD ("", 0)).2) (by rw [lz]; exact Nat.le_trans few (by decide)) nM (fun H9 s9 => s9.seq (SqL.of hl8)) yAt_same (fun i v H9 H10 Z N hi9 s9 hy k1 k2 => ?_) fun H9 s9 h9 => ?_
        · obtain ⟨rfl, ev⟩ := hy
          obtain ⟨d, ed2, im⟩ := Ims.at iz ev
          rw [List.getElem?_map] at ed2
          obtain ⟨y, ey⟩ : ∃ y, (folkBeside (waysOf dw) (placeOf dp))[i]? = some y := ⟨_, List.getElem?_eq_getElem (by omega)⟩
          rw [ey] at ed2 k1 k2
          cases ed2
          have im9 := im.on (TS.same s9)
          obtain ⟨b, us, rfl, hb, hus⟩ : ∃ b us, v = .ref b ∧ H10 b = some (.tup us) ∧ Ims H10 us [.str y.1, .int y.2] := by
            cases im9 with
            | tup h s => exact ⟨_, _, rfl, h, s⟩
          obtain rfl : us = [.str y.1, .int y.2] := by
            cases hus with
            | cons h1 t1 =>
              cases t1 with
              | cons h2 t2 =>
                cases t2
                cases h1
                cases h2
                rfl
          have hs9 := seq_same (K := K) ((s67.trans s8).trans s9) (seq_of hs)
          have ix : ∀ Q' : VK, Q' (.str (ts.getLast?.getD "")) H10 → rIx K (.ref a) (.int (-1)) H10 Q' := fun Q' q' =>
            hs9.elim (fun h => .inl ⟨a, _, _, _, rfl, rfl, h, last, q'⟩) fun h => .inr (.inl ⟨a, _, _, _, rfl, rfl, h, last, q'⟩)
          refine ⟨b, _, rfl, SqT.of hb, rfl, _, _, rfl, _, _, rfl, rfl, rfl, ?_⟩
          refine ⟨_, rfl, _, rfl, 1, rfl, ix _ ⟨rfl, _, rfl, ?_⟩⟩
          rw [dec_str]
          by_cases e1 : y.1 = ts.getLast?.getD ""
          · rw [decide_eq_true e1]
            exact iteT ⟨_, rfl, k1 (decide_eq_true e1) _ (Same.refl _)⟩
          · rw [decide_eq_false e1]
            exact iteF (k2 (decide_eq_false e1) _ (Same.refl _))
        · have emo : (((List.range zs.length).filter fun (i : Nat) => decide ((((folkBeside (waysOf dw) (placeOf dp))[i]?).getD ("", 0)).1 = ts.getLast?.getD "")).map fun (i : Nat) => V.int (((folkBeside (waysOf dw) (placeOf dp))[i]?).getD ("", 0)).2) = (moreL (waysOf dw) (placeOf dp) (ts.getLast?.getD "")).map V.int := by
            rw [lz]
            have := filter_range_map (folkBeside (waysOf dw) (placeOf dp)) (fun y => decide (y.1 = ts.getLast?.getD "")) (fun y => V.int y.2) ("", 0)
            rw [this]
            unfold moreL
            rw [List.map_map]
            rfl
          rw [emo] at h9
          have h7' := s9 _ _ (s8 _ _ h7)
          have fin : ∀ H', Same H9 H' → Q (.bl (walkL (waysOf dw) (placeOf dp) n ts)) H' := fun H' s' => by
            have := q H' (((s57.trans s8).trans s9).trans s')
            unfold walkD at this
            rw [nf, ens] at this
            exact this
          unfold walkL at fin
          refine ⟨_, rfl, D, _, rfl, .inl (SqL.of h7'), rfl, flat_ints _, _, rfl, ?_⟩
          cases z0 : inV (.int 0) ((nexts (wayOfTwo (waysOf dw)) ts).map V.int) with
          | true =>
            rw [z0] at fin
            exact iteT (iteT (fin H9 (Same.refl _)))
          | false =>
            rw [z0] at fin
            refine iteF ⟨_, rfl, _, .inl ⟨_, SqL.of h9, rfl⟩, ?_⟩
            match em : moreL (waysOf dw) (placeOf dp) (ts.getLast?.getD "") with
            | [] =>
              rw [em] at fin
              exact iteT (fin H9 (Same.refl _))
            | m :: ms =>
              rw [em] at fin h9
              refine iteF ?_
              refine ⟨_, rfl, D, _, rfl, SqL.of h7', _, rfl, M, _, 0, _, rfl, rfl, SqL.of h9, atI_nat (j := 0) rfl, _, _, rfl, rfl, ?_⟩
              have fin' := fin H9 (Same.refl _)
              refine ⟨_, rfl, _, rfl, _, _, rfl, rfl, _, rfl, ?_⟩
              by_cases le : (nexts (wayOfTwo (waysOf dw)) ts).sum + m ≤ n
              · rw [decide_eq_true le]
                have le' : (nexts (wayOfTwo (waysOf dw)) ts).sum + ((m :: ms)[0]?).getD 0 ≤ n := le
                rw [decide_eq_true le'] at fin'
                refine iteT ⟨_, rfl, _, rfl, _, _, rfl, rfl, _, _, rfl, rfl, (by show (0 : Int) < 2; decide), rfl, ?_⟩
                rw [dec_int]
                exact fin'
              · rw [decide_eq_false le]
                have le' : ¬ (nexts (wayOfTwo (waysOf dw)) ts).sum + ((m :: ms)[0]?).getD 0 ≤ n := le
                rw [decide_eq_false le'] at fin'
                exact iteF fin'
end
end Cry
/-! The law's draws: a spring of figures and of a stirred number. -/
namespace Cry
open PySem PySem.Spec PyProof.Rows L2
abbrev bigS : Int := 2305843009213693951
/-- a spring stands at a -/
def SpringAt (H : Hp) (a : Addr) : Prop := ∃ fig stir cnt : Int, H a = some (.lst [.int fig, .int stir, .int cnt]) ∧ 0 ≤ fig ∧ 0 ≤ stir ∧ stir < bigS
theorem SpringAt.on {H H' : Hp} {a : Addr} (h : SpringAt H a) (s : Same H H') : SpringAt H' a := by
  obtain ⟨fig, stir, cnt, h1, r⟩ := h
  exact ⟨fig, stir, cnt, s _ _ h1, r⟩
theorem SpringAt.up {H : Hp} {a p : Addr} {o : HO} (h : SpringAt H a) (n : p ≠ a) : SpringAt (upd H p o) a := by
  obtain ⟨fig, stir, cnt, h1, r⟩ := h
  exact ⟨fig, stir, cnt, by rw [upd_ne (Ne.symm n)]; exact h1, r⟩
theorem SpringAt.ne {H : Hp} {a p : Addr} (h : SpringAt H a) (np : H p = none) : p ≠ a := by
  obtain ⟨fig, stir, cnt, h1, r⟩ := h
  rintro rfl
  rw [np] at h1
  cases h1
theorem SpringAt.new {H : Hp} {a p : Addr} {o : HO} (h : SpringAt H a) (np : H p = none) : SpringAt (upd H p o) a := h.up (h.ne np)
theorem SpringAt.free {H H' : Hp} {a p : Addr} (h : SpringAt H' a) (so : SameO a H H') (np : H' p = none) : H p = none := by
  cases e : H p with
  | none => rfl
  | some o =>
    have := so p o (h.ne np) e
    rw [np] at this
    cases this
theorem SpringAt.ts {H H' : Hp} {a : Addr} (h : SpringAt H a) (s : SameO a H H') : TS H H' := by
  obtain ⟨fig, stir, cnt, h1, r⟩ := h
  exact TS.sameO s fun ys e => by
    rw [h1] at e
    cases e
theorem cut_takeV (us : List V) (m : Nat) : cutV us none (some (m : Int)) = us.take m := by
  unfold cutV
  have h1 : HT.sIx us.length us.length (some (m : Int)) = min m us.length := by
    unfold HT.sIx
    simp only [Int.toNat_natCast]
    rw [if_neg (by omega)]
  have h0 : HT.sIx us.length 0 none = 0 := rfl
  rw [h1, h0, List.drop_zero, Nat.sub_zero]
  by_cases h : m ≤ us.length
  · rw [Nat.min_eq_left h]
  · rw [Nat.min_eq_right (by omega), List.take_of_length_le (Nat.le_refl _), List.take_of_length_le (by omega)]
section
variable {P : Program} {w : World} {K : PySem.W.Frag} {mg : Str → Option Value} {base : Heap}
theorem scSpring : FnScope ["script", "figures", "stir", "cell"] ["script"] (defScope sLSpring) := ⟨rfl, rfl, rfl, by decide +kernel, rfl, by decide +kernel, by decide +kernel⟩
def spSpring (K : PySem.W.Frag) : Sp := fun vs H Q _ => ∃ (a : Addr) (ns : List Int), vs = [.ref a] ∧ SqL K H a (ns.map V.int) ∧ ∀ p H', Same H H' → H p = none → SpringAt H' p → Q (.ref p) H'
theorem ok_spring {f : Addr} {fd : FuncData} (F : Fun K "_law_spring" "_law_spring" sLSpring f fd) (mA : mg "abs" = none) : FnOk P w K mg base CX0 1 f fd ["script"] (spSpring K) := by
  refine F.ok scSpring (fun vs H Q E h => ?_) (fun cdv A outer s H vs Q E hr h => ?_)
  · obtain ⟨a, ns, rfl, _⟩ := h
    rfl
  · obtain ⟨a, ns, rfl, hS, q⟩ := h
    refine ⟨_, pss_cons (ps_set (i := 1) scSpring.nd rfl (Or.inl rfl) pe_int)
      (pss_cons (ps_set (i := 2) scSpring.nd rfl (Or.inl rfl) pe_int)
      (pss_cons (ps_for PassesOwn.never rfl (pi_list (pe_slice sl_list (pv 0) po_none (po_some pe_int))) (pg_name (i := 3) scSpring.nd rfl (Or.inl rfl))
        (pss_cons (ps_if (pt_cmpR op_ge (pe_callB call_abs (by rfl) mA (by decide +kernel) (pa_cons (pv 3) pa_nil)) (pe_op op_pow pe_int pe_int) (nomark _))
            (pss_one (ps_set (i := 1) scSpring.nd rfl (Or.inl rfl) (pe_op op_add (pe_op op_mulW (pv 1) (pe_op op_pow pe_int pe_int)) (pe_op op_mod (pe_callB call_abs (by rfl) mA (by decide +kernel) (pa_cons (pv 3) pa_nil)) (pe_op op_pow pe_int pe_int))))) pss_nil)
        (pss_one (ps_set (i := 2) scSpring.nd rfl (Or.inl rfl) (pe_op op_mod (pe_op op_add (pe_op op_add (pe_op op_mul (pv 2) pe_int) (pe_op op_mod (pv 3) pe_int)) pe_int) pe_int)))))
      (pss_one (ps_ret (pe_lst (pa_cons (pv 1) (pa_cons (pv 2) (pa_cons pe_int pa_nil)))))))), ?_⟩
    refine ⟨_, rfl, 63, rfl, a, _, rfl, hS, fun p np => ?_⟩
    rw [show (63 : Int) = ((63 : Nat) : Int) from rfl, cut_takeV, ← List.map_take]
    have s1 : Same H (upd H p (.lst ((ns.take 63).map V.int))) := same_new np
    refine ⟨p, rfl, ⟨_, SqL.of upd_same⟩, for_list (K := K) (a := p) (xs := (ns.take 63).map V.int) (fun i σ H2 => H2 = upd H p (.lst ((ns.take 63).map V.int)) ∧ ∃ (g t : Int) (u : Option V), σ = [some (.ref a), some (.int g), some (.int t), u] ∧ 0 ≤ g ∧ g.natAbs < 2 ^ (200 * i + 1) ∧ 0 ≤ t ∧ t < bigS)
      ⟨rfl, 0, 88651, none, rfl, by decide, by decide, by decide, by decide⟩ (fun i σ H2 _ ⟨e, _⟩ => by rw [e]; exact SqL.of upd_same) ?_ ?_⟩
    · rintro i y σ H2 hy ⟨rfl, g, t, u, rfl, g0, g1, t0, t1⟩
      have i63 : i < 63 := by
        have := (List.getElem?_eq_some_iff.mp hy).1
        rw [List.length_map, List.length_take] at this
        omega
      obtain ⟨z, rfl⟩ : ∃ z, y = V.int z := by
        rw [List.getElem?_map] at hy
        cases e : (ns.take 63)[i]? with
        | none =>
          rw [e] at hy
          cases hy
        | some z =>
          rw [e] at hy
          exact ⟨z, (Option.some.inj hy).symm⟩
      have stirs : ∀ g' : Int, 0 ≤ g' → g'.natAbs < 2 ^ (200 * (i + 1) + 1) → ∀ Dx : Ends, (∀ σ' H', (H' = upd H p (.lst ((ns.take 63).map V.int)) ∧ ∃ (g t : Int) (u : Option V), σ' = [some (.ref a), some (.int g), some (.int t), u] ∧ 0 ≤ g ∧ g.natAbs < 2 ^ (200 * (i + 1) + 1) ∧ 0 ≤ t ∧ t < bigS) → Dx.nx σ' H') →
          tAsg (tOp (rI (fun _ j => 0 < j) fun i j => .int (i % j)) (tOp (rI0 fun i j => .int (i + j)) (tOp (rI0 fun i j => .int (i + j)) (tOp (rI CMul fun i j => .int (i * j)) (tVar 2) (tC (.int 69069))) (tOp (rI (fun _ j => 0 < j) fun i j => .int (i % j)) (tVar 3) (tC (.int 2305843009213693921)))) (tC (.int 7))) (tC (.int 2305843009213693951))) (gName 2)
            Dx [some (.ref a), some (.int g'), some (.int t), some (.int z)] (upd H p (.lst ((ns.take 63).map V.int))) := by
        intro g' h0 h1 Dx hq
        refine ⟨_, rfl, _, _, rfl, rfl, .inr ⟨by decide, by decide⟩, _, rfl, _, _, rfl, rfl, (by show (0 : Int) < 2305843009213693921; decide), _, _, rfl, rfl, _, _, rfl, rfl, _, _, rfl, rfl, (by show (0 : Int) < bigS; decide), hq _ _ ⟨rfl, _, _, _, rfl, h0, h1, Int.emod_nonneg _ (by decide), Int.emod_lt_of_pos _ (by decide)⟩⟩
      have grow : (2 : Nat) ^ (200 * i + 1) ≤ 2 ^ (200 * (i + 1) + 1) := Nat.pow_le_pow_right (by decide) (by omega)
      have p60 : ((10 : Int) ^ (60 : Int).toNat).natAbs < 2 ^ 200 := by decide
      have p60' : (0 : Int) < (10 : Int) ^ (60 : Int).toNat := by decide
      refine ⟨_, rfl, z, rfl, _, _, rfl, rfl, ⟨by decide, by decide, by decide⟩, _, _, rfl, rfl, _, rfl, ?_⟩
      generalize hb : decide ((10 : Int) ^ (18 : Int).toNat ≤ if z < 0 then -z else z) = b
      cases b with
      | true =>
        refine iteT ?_
        refine ⟨_, rfl, _, _, rfl, rfl, ⟨by decide, by decide, by decide⟩, _, _, rfl, rfl, wide_mul g1 p60 (by omega) (by decide) (by omega), ?_⟩
        refine ⟨_, rfl, z, rfl, _, _, rfl, rfl, ⟨by decide, by decide, by decide⟩, _, _, rfl, rfl, p60', _, _, rfl, rfl, ?_⟩
        generalize hr' : (if z < 0 then -z else z) % (10 : Int) ^ (60 : Int).toNat = r
        have r0 : 0 ≤ r := by rw [← hr']; exact Int.emod_nonneg _ (by decide)
        have r1 : r < (10 : Int) ^ (60 : Int).toNat := by rw [← hr']; exact Int.emod_lt_of_pos _ p60'
        have big : (g * (10 : Int) ^ (60 : Int).toNat + r).natAbs < 2 ^ (200 * (i + 1) + 1) := by
          generalize hT : (10 : Int) ^ (60 : Int).toNat = T at *
          have m1 : (g * T).natAbs = g.natAbs * T.natAbs := Int.natAbs_mul _ _
          have m2 : (g * T + r).natAbs ≤ g.natAbs * T.natAbs + r.natAbs := by rw [← m1]; exact Int.natAbs_add_le _ _
          have m3 : r.natAbs < T.natAbs := by omega
          have m4 : g.natAbs * T.natAbs + r.natAbs < (g.natAbs + 1) * T.natAbs := by
            rw [Nat.add_mul, Nat.one_mul]
            omega
          have m5 : (g.natAbs + 1) * T.natAbs ≤ 2 ^ (200 * i + 1) * 2 ^ 200 := Nat.mul_le_mul g1 (Nat.le_of_lt p60)
          rw [← Nat.pow_add] at m5
          have m6 : 200 * i + 1 + 200 = 200 * (i + 1) + 1 := by omega
          rw [m6] at m5
          omega
        refine stirs _ ?_ big _ fun σ' H' x => x
        exact Int.add_nonneg (Int.mul_nonneg g0 (Int.le_of_lt p60')) r0
      | false =>
        refine iteF ?_
        exact stirs g g0 (Nat.lt_of_lt_of_le g1 grow) _ fun σ' H' x => x
    · rintro σ H2 ⟨rfl, g, t, u, rfl, g0, g1, t0, t1⟩
      exact ⟨_, rfl, _, rfl, by show 3 ≤ sizeLine; decide, fun l nl => q l _ (s1.trans (same_new nl)) (s1.free nl) ⟨g, t, 0, upd_same, g0, t0, t1⟩⟩
/-! ### draw -/
theorem scSDraw : FnScope ["spring", "many", "found", "stir"] ["spring", "many"] (defScope sDraw) := ⟨rfl, rfl, rfl, by decide +kernel, rfl, by decide +kernel, by decide +kernel⟩
def spSDraw : Sp := fun vs H Q _ => ∃ (a : Addr) (m : Int), vs = [.ref a, .int m] ∧ SpringAt H a ∧ 1 ≤ m ∧ m ≤ 10000000000000 ∧ ∀ (r : Nat) H', (r : Int) < m → SameO a H H' → SpringAt H' a → Q (.int (r : Int)) H'
theorem ok_sdraw {f : Addr} {fd : FuncData} (F : Fun K "_law_draw" "_law_draw" sDraw f fd) : FnOk P w K mg base CX0 1 f fd ["spring", "many"] spSDraw := by
  refine F.ok scSDraw (fun vs H Q E h => ?_) (fun cdv A outer s H vs Q E hr h => ?_)
  · obtain ⟨a, m, rfl, _⟩ := h
    rfl
  · obtain ⟨a, m, rfl, ⟨fig, stir, cnt, ha, f0, t0, t1⟩, m1, m2, q⟩ := h
    refine ⟨_, pss_cons (ps_if (pt_cmpR op_gt (pe_ix ix_list (pv 0) pe_int (fun _ _ => rfl)) pe_int (nomark _))
        (pss_cons (ps_set (i := 2) scSDraw.nd rfl (Or.inl rfl) (pe_op op_mod (pe_ix ix_list (pv 0) pe_int (fun _ _ => rfl)) (pv 1)))
        (pss_cons (ps_asg (pe_op op_fdivW (pe_ix ix_list (pv 0) pe_int (fun _ _ => rfl)) (pv 1)) (pg_sub (pv 0) pe_int set_list))
        (pss_one (ps_ret (pv 2))))) pss_nil)
      (pss_cons (ps_asg (pe_op op_add (pe_ix ix_list (pv 0) pe_int (fun _ _ => rfl)) pe_int) (pg_sub (pv 0) pe_int set_list))
      (pss_cons (ps_set (i := 3) scSDraw.nd rfl (Or.inl rfl) (pe_op op_mod (pe_op op_mul (pe_ix ix_list (pv 0) pe_int (fun _ _ => rfl)) (pe_ix ix_list (pv 0) pe_int (fun _ _ => rfl))) pe_int))
      (pss_cons (ps_asg (pe_op op_mod (pe_op op_add (pe_op op_add (pv 3) (pe_op op_mul (pe_op op_mul pe_int (pe_ix ix_list (pv 0) pe_int (fun _ _ => rfl))) (pe_ix ix_list (pv 0) pe_int (fun _ _ => rfl)))) pe_int) pe_int) (pg_sub (pv 0) pe_int set_list))
      (pss_one (ps_ret (pe_op op_mod (pe_op op_fdiv (pe_ix ix_list (pv 0) pe_int (fun _ _ => rfl)) pe_int) (pv 1))))))), ?_⟩
    have hm0 : (0 : Int) < m := by omega
    have t1' : stir < 2305843009213693951 := t1
    have fin : ∀ (z : Int) (H' : Hp), 0 ≤ z → z < m → SameO a H H' → SpringAt H' a → Q (.int z) H' := fun z H' z0 z1 so sp => by
      obtain ⟨r, rfl⟩ := Int.eq_ofNat_of_zero_le z0
      exact q r H' z1 so sp
    refine ⟨_, rfl, a, _, 0, _, rfl, rfl, SqL.of ha, atI_nat (j := 0) rfl, _, _, rfl, rfl, _, rfl, ?_⟩
    by_cases fp : 0 < fig
    · rw [decide_eq_true fp]
      refine iteT ⟨_, rfl, a, _, 0, _, rfl, rfl, SqL.of ha, atI_nat (j := 0) rfl, _, rfl, _, _, rfl, rfl, hm0, ?_⟩
      refine ⟨_, rfl, a, _, 0, _, rfl, rfl, SqL.of ha, atI_nat (j := 0) rfl, _, rfl, _, _, rfl, rfl, wide_div (b := 44) hm0 (by omega) (by decide) (by decide), ?_⟩
      refine ⟨_, rfl, a, _, 0, 0, rfl, rfl, ha, rfl, ?_⟩
      exact ⟨_, rfl, fin _ _ (Int.emod_nonneg _ (by omega)) (Int.emod_lt_of_pos _ hm0) sameO_at ⟨_, stir, cnt, upd_same, Int.ediv_nonneg f0 (by omega), t0, t1⟩⟩
    · rw [decide_eq_false fp]
      refine iteF ⟨_, rfl, a, _, 2, _, rfl, rfl, SqL.of ha, atI_nat (j := 2) rfl, _, _, rfl, rfl, ?_⟩
      refine ⟨_, rfl, a, _, 2, 2, rfl, rfl, ha, rfl, ?_⟩
      have ha1 : (upd H a (.lst [.int fig, .int stir, .int (cnt + 1)])) a = some (.lst [.int fig, .int stir, .int (cnt + 1)]) := upd_same
      refine ⟨_, rfl, a, _, 1, _, rfl, rfl, SqL.of ha1, atI_nat (j := 1) rfl, _, rfl, a, _, 1, _, rfl, rfl, SqL.of ha1, atI_nat (j := 1) rfl, _, _, rfl, rfl, .inl ⟨by omega, by omega⟩, _, _, rfl, rfl, (by show (0 : Int) < bigS; decide), ?_⟩
      refine ⟨_, rfl, _, rfl, a, _, 2, _, rfl, rfl, SqL.of ha1, atI_nat (j := 2) rfl, _, _, rfl, rfl, .inl ⟨by decide, by decide⟩, _, rfl, a, _, 1, _, rfl, rfl, SqL.of ha1, atI_nat (j := 1) rfl, _, _, rfl, rfl, .inr ⟨by omega, by omega⟩, _, _, rfl, rfl, _, _, rfl, rfl, _, _, rfl, rfl, (by show (0 : Int) < bigS; decide), ?_⟩
      refine ⟨_, rfl, a, _, 1, 1, rfl, rfl, ha1, rfl, ?_⟩
      refine ⟨_, rfl, a, _, 1, _, rfl, rfl, SqL.of upd_same, atI_nat (j := 1) rfl, _, _, rfl, rfl, ⟨by decide, by decide⟩, _, rfl, _, _, rfl, rfl, hm0, ?_⟩
      exact fin _ _ (Int.emod_nonneg _ (by omega)) (Int.emod_lt_of_pos _ hm0) (sameO_at.trans sameO_at) ⟨fig, _, cnt + 1, upd_same, f0, Int.emod_nonneg _ (by decide), Int.emod_lt_of_pos _ (by decide)⟩
end
end Cry
/-! The law's draws: sameness of truths, names. -/
namespace Cry
open PySem PySem.Spec PyProof.Rows L2
section
variable {P : Program} {w : World} {K : PySem.W.Frag} {mg : Str → Option Value} {base : Heap}
theorem scSame : FnScope ["found", "due"] ["found", "due"] (defScope sLSame) := ⟨rfl, rfl, rfl, by decide +kernel, rfl, by decide +kernel, by decide +kernel⟩
def spSame : Sp := fun vs H Q _ => ∃ x y : Bool, vs = [.bl x, .bl y] ∧ ∀ H', Same H H' → Q (.bl (decide (V.bl x = V.bl y))) H'
theorem ok_same {f : Addr} {fd : FuncData} (F : Fun K "_law_same" "_law_same" sLSame f fd) (B : Blt mg) : FnOk P w K mg base CX0 1 f fd ["found", "due"] spSame := by
  refine F.ok scSame (fun vs H Q E h => ?_) (fun cdv A outer s H vs Q E hr h => ?_)
  · obtain ⟨x, y, rfl, _⟩ := h
    rfl
  · obtain ⟨x, y, rfl, q⟩ := h
    refine ⟨_, pss_cons (ps_if (pt_val (pe_callB call_isiT (by rfl) B.isi (by decide +kernel) (pa_cons (pv 1) (pa_cons (pe_tup (pa_cons (pe_bltn (v := .ty "list") (u := .type "list") (by rfl) B.list (by decide +kernel) rfl)
          (pa_cons (pe_bltn (v := .ty "tuple") (u := .type "tuple") (by rfl) B.tuple (by decide +kernel) rfl) pa_nil))) pa_nil)))) (pss_cons ps_never (pss_one ps_never)) pss_nil)
      (pss_cons (ps_if (PW.pt (pw_or (pt_cmpR op_isN (pv 1) pe_non (nomark _)) (pw_or1 (pt_cmpR op_isN (pv 0) pe_non (nomark _))))) (pss_one ps_never) pss_nil)
      (pss_cons (ps_if (PW.pt (pw_or (pt_cmpR op_ne (pe_callB call_isi (by rfl) B.isi (by decide +kernel) (pa_cons (pv 1) (pa_cons (pe_bltn (v := .ty "bool") (u := .type "bool") (by rfl) B.bool (by decide +kernel) rfl) pa_nil)))
            (pe_callB call_isi (by rfl) B.isi (by decide +kernel) (pa_cons (pv 0) (pa_cons (pe_bltn (v := .ty "bool") (u := .type "bool") (by rfl) B.bool (by decide +kernel) rfl) pa_nil))) (nomark _))
          (pw_or1 (pt_cmpR op_ne (pe_callB call_isi (by rfl) B.isi (by decide +kernel) (pa_cons (pv 1) (pa_cons (pe_bltn (v := .ty "str") (u := .type "str") (by rfl) B.str (by decide +kernel) rfl) pa_nil)))
            (pe_callB call_isi (by rfl) B.isi (by decide +kernel) (pa_cons (pv 0) (pa_cons (pe_bltn (v := .ty "str") (u := .type "str") (by rfl) B.str (by decide +kernel) rfl) pa_nil))) (nomark _))))) (pss_one (ps_ret pe_bl)) pss_nil)
      (pss_one (ps_ret (pe_cmpR op_eq (pv 0) (pv 1) (nomark _)))))), ?_⟩
    refine ⟨_, rfl, by decide, fun p np => ?_⟩
    have s1 : Same H (upd H p (.tup [.ty "list", .ty "tuple"])) := same_new np
    have fin : PySem.W.kitAny K (.type (tyD (.bool y))) [.type "list", .type "tuple"] = some false := by
      have h1 : decide (tyD (.bool y) ∈ ["list"]) = false := by
        show decide (("bool" : String) ∈ ["list"]) = false
        decide
      have h2 : decide (tyD (.bool y) ∈ ["tuple"]) = false := by
        show decide (("bool" : String) ∈ ["tuple"]) = false
        decide
      refine kitAny_cons (kit_ty (kD_list (.bool y))) (fun e => ?_) (fun e => absurd (h1.symm.trans e) (by decide))
      refine kitAny_cons (kit_ty (kD_tuple (.bool y))) (fun e2 => ?_) (fun e2 => absurd (h2.symm.trans e2) (by decide))
      exact kitAny_nil
    refine ⟨_, p, _, _, _, _, rfl, upd_same, .cons (.ty "list") (.cons (.ty "tuple") .nil), (Da.bl y).ty, fin, _, rfl, iteF ?_⟩
    refine ⟨_, rfl, rfl, _, rfl, ?_⟩
    rw [decide_eq_false (show ¬ V.bl y = V.non from fun e => nomatch e)]
    refine iteF ⟨_, rfl, rfl, _, rfl, ?_⟩
    rw [decide_eq_false (show ¬ V.bl x = V.non from fun e => nomatch e)]
    refine iteF ?_
    refine ⟨_, rfl, _, _, _, _, _, rfl, .ty "bool", (Da.bl y).ty, kit_ty (kD_bool (.bool y)), _, rfl, _, _, _, _, _, rfl, .ty "bool", (Da.bl x).ty, kit_ty (kD_bool (.bool x)), rfl, _, rfl, ?_⟩
    refine iteF ?_
    refine ⟨_, rfl, _, _, _, _, _, rfl, .ty "str", (Da.bl y).ty, kit_ty (kD_str (.bool y)), _, rfl, _, _, _, _, _, rfl, .ty "str", (Da.bl x).ty, kit_ty (kD_str (.bool x)), rfl, _, rfl, ?_⟩
    refine iteF ?_
    exact ⟨_, rfl, _, rfl, rfl, q _ s1⟩
/-! ### names -/
def poolS : List Str := ["a", "ab", "abcdefgh", "b", "ba", "c", "d", "dd", "e", "f", "g", "zz"]
theorem pool_ok : (∀ x ∈ poolS, nameOkS x = true) ∧ poolS.Nodup := by
  constructor
  · decide +kernel
  · decide +kernel
theorem map_eraseIdx {α β : Type} (f : α → β) : ∀ (xs : List α) (i : Nat), (xs.map f).eraseIdx i = (xs.eraseIdx i).map f
  | [], _ => rfl
  | _ :: _, 0 => rfl
  | x :: xs, i + 1 => by
    show f x :: (xs.map f).eraseIdx i = f x :: (xs.eraseIdx i).map f
    rw [map_eraseIdx f xs i]
theorem scFolk : FnScope ["spring", "many", "pool", "k"] ["spring", "many"] (defScope sLFolk) := ⟨rfl, rfl, rfl, by decide +kernel, rfl, by decide +kernel, by decide +kernel⟩
def spFolk : Sp := fun vs H Q _ => ∃ (a : Addr) (m : Nat), vs = [.ref a, .int (m : Int)] ∧ SpringAt H a ∧ 1 ≤ m ∧ m ≤ 12 ∧ ∀ (l : Addr) (names : List Str) (H' : Hp), H l = none → SameO a H H' → H' l = some (.lst (names.map V.str)) → NamesOk names m → names.length = m → SpringAt H' a → Q (.ref l) H'
theorem ok_folk {f f1 : Addr} {fd fd1 : FuncData} (F : Fun K "_law_folk" "_law_folk" sLFolk f fd) (mL : mg "len" = none) (mS : mg "sorted" = none) (mR : mg "range" = none) (D1 : Def K mg "_law_draw" f1 fd1 ["spring", "many"]) (G1 : FnOk P w K mg base CX0 1 f1 fd1 ["spring", "many"] spSDraw) : FnOk P w K mg base CX0 2 f fd ["spring", "many"] spFolk := by
  refine F.ok scFolk (fun vs H Q E h => ?_) (fun cdv A outer s H vs Q E hr h => ?_)
  · obtain ⟨a, m, rfl, _⟩ := h
    rfl
  · obtain ⟨a, m, rfl, hB, m1, m12, q⟩ := h
    refine ⟨_, pss_cons (ps_set (i := 2) scFolk.nd rfl (Or.inr rfl) (pe_lst (pa_cons pe_str (pa_cons pe_str (pa_cons pe_str (pa_cons pe_str (pa_cons pe_str (pa_cons pe_str (pa_cons pe_str (pa_cons pe_str (pa_cons pe_str (pa_cons pe_str (pa_cons pe_str (pa_cons pe_str pa_nil))))))))))))))
      (pss_one (ps_ret (pe_callB (cr_sortedT hr.units) (by rfl) mS (by decide +kernel) (pa_cons (pe_lc (own := [("k", 3)]) (g := gName 3) (tt := tYes)
        (te := tBM K "list" rPopAt (tVar 2) (tCons (tCall spSDraw [] E0 (tCons (tVar 0) (tCons (tCB (rLenS K) (tCons (tVar 2) tNil)) tNil))) tNil)) rfl scFolk.nd
        (pi_range1 (by rfl) mR (pa_cons (pv 1) pa_nil))
        (blkOk_by (N := ["spring", "many", "pool", "k"]) (sc := defScope sLFolk) (by decide +kernel))
        (fun _ _ _ _ _ => pg_name (i := 3) scFolk.nd rfl (Or.inl rfl)) (fun _ _ _ _ _ => pts_nil)
        (fun _ _ _ _ _ => pe_bm PySem.F.plainAttrs_list PySem.F.slot_list_pop PySem.F.type_list_pop mt_popAt (pv 2) (pa_cons (pe_call G1 hr (by rfl) D1.at_ D1.kp D1.b .nil pass0 (pa_cons (pv 0) (pa_cons (pe_callB cr_lenS (by rfl) mL (by decide +kernel) (pa_cons (pv 2) pa_nil)) pa_nil))) pa_nil))) pa_nil)))), ?_⟩
    refine ⟨by decide, fun l nl => ?_⟩
    have hpool : ([V.str "a", .str "ab", .str "abcdefgh", .str "b", .str "ba", .str "c", .str "d", .str "dd", .str "e", .str "f", .str "g", .str "zz"] : List V) = poolS.map V.str := rfl
    rw [hpool]
    have s1 : Same H (upd H l (.lst (poolS.map V.str))) := same_new nl
    have nla := hB.ne nl
    refine ⟨_, rfl, m, rfl, by omega, by omega, fun D nD => ?_⟩
    have nDl : l ≠ D := by
      rintro rfl
      rw [upd_same] at nD
      cases nD
    have nDH : H D = none := by
      rw [upd_ne (Ne.symm nDl)] at nD
      exact nD
    have B1 : SpringAt (upd H l (.lst (poolS.map V.str))) a := hB.new nl
    have nDa := B1.ne nD
    have lp : poolS.length = 12 := rfl
    have mt : ((m : Int)).toNat = m := by omega
    rw [mt]
    refine lc_it (walk_range (lo := 0) (n := m)) (fun i H2 => ∃ acc L : List Str, H2 D = some (.lst (acc.map V.str)) ∧ H2 l = some (.lst (L.map V.str)) ∧ (acc ++ L).Perm poolS ∧ acc.length = i ∧ SpringAt H2 a ∧ SameO a H H2)
      ⟨[], poolS, upd_same, by rw [upd_ne nDl, upd_same], .refl _, rfl, B1.new nD, sameO_new (SameO.of s1) nDH⟩ (fun _ _ _ _ => True.intro) ?_ ?_
    · rintro i x H2 H3 hi ⟨acc, L, hacc, hL, pm, la, hB2, so⟩ ⟨rfl, rfl⟩
      have len : acc.length + L.length = 12 := by
        have := pm.length_eq
        rwa [List.length_append] at this
      refine ⟨rfl, _, rfl, .inl ⟨rfl, _, SqL.of hL⟩, _, rfl, _, rfl, l, _, rfl, .inl (SqL.of hL), ?_⟩
      refine ⟨a, _, rfl, hB2, by rw [List.length_map]; omega, by rw [List.length_map]; omega, fun r H4 r1 so4 hB4 => ?_⟩
      rw [List.length_map] at r1
      have hL4 := so4 l _ nla hL
      have hacc4 := so4 D _ nDa hacc
      have lt : r < L.length := by omega
      have eL : (L.map V.str)[r]? = some (.str L[r]) := by rw [List.getElem?_map, List.getElem?_eq_getElem lt]; rfl
      refine ⟨l, L.map V.str, (r : Int), r, .str L[r], rfl, rfl, hL4, by omega, by omega, seqIx_nat (by omega) (by rw [List.length_map]; exact r1), eL, acc.map V.str, ?_, ?_, acc ++ [L[r]], L.eraseIdx r, ?_, ?_, ?_, ?_, ?_, ?_⟩
      · rw [upd_ne (Ne.symm nDl)]
        exact hacc4
      · rw [List.length_map]
        exact Nat.lt_of_lt_of_le (show acc.length < 20000 by omega) (by decide)
      · rw [upd_same, List.map_append]
        rfl
      · rw [upd_ne nDl, upd_same, map_eraseIdx]
      · rw [List.append_assoc]
        exact ((eraseIdx_perm (List.getElem?_eq_getElem lt)).append_left acc).trans pm
      · simp [la]
      · exact (hB4.up nla).up nDa
      · exact sameO_new (sameO_new (so.trans so4) nl) nDH
    · rintro H2 ⟨acc, L, hacc, hL, pm, la, hB2, so⟩
      have nd : acc.Nodup := by
        have := pm.nodup_iff.mpr pool_ok.2
        rw [List.nodup_append] at this
        exact this.1
      have okn : ∀ x ∈ acc, nameOkS x = true := fun x hx => pool_ok.1 x (pm.mem_iff.mp (List.mem_append_left _ hx))
      have pr := sortB_perm PyData.str acc
      refine ⟨D, acc, rfl, SqL.of hacc, fun p np => ?_⟩
      have lenm : (sortB PyData.str acc).length = m := by rw [pr.length_eq]; exact la
      exact q p _ _ (hB2.free so np) (sameO_new so (hB2.free so np)) upd_same ⟨fun x hx => okn x (pr.mem_iff.mp hx), by omega, by omega, sortS_rise nd, pr.nodup_iff.mpr nd, sortS_pw nd⟩ lenm (hB2.new np)
end
end Cry
/-! The law's draws: a web. -/
namespace Cry
open PySem PySem.Spec PyProof.Rows L2
section
variable {P : Program} {w : World} {K : PySem.W.Frag} {mg : Str → Option Value} {base : Heap}
/-- sizes that a way may be drawn by -/
def SizesOk (sizes : List Int) : Prop := 1 ≤ sizes.length ∧ sizes.length ≤ 12 ∧ ∀ s ∈ sizes, 1 ≤ s ∧ s ≤ 1000000000000
/-- midway: the names at Nl, the pairs at D, the sizes at Z -/
structure SMid (H0 : Hp) (a Nl D Z : Addr) (names : List Str) (sizes : List Int) (H : Hp) (es : Ents) : Prop where
  so : SameO a H0 H
  sp : SpringAt H a
  nl : H Nl = some (.lst (names.map V.str))
  dt : H D = some (.dT (ents es))
  sz : H Z = some (.lst (sizes.map V.int))
  ok : EntOk names false es
  frD : H0 D = none
  ne : Nl ≠ D
  da : D ≠ a
  na : Nl ≠ a
  za : Z ≠ a
  zd : Z ≠ D
theorem SMid.draw {H0 H H' : Hp} {a Nl D Z : Addr} {names : List Str} {sizes : List Int} {es : Ents} (m : SMid H0 a Nl D Z names sizes H es) (so : SameO a H H') (B : SpringAt H' a) : SMid H0 a Nl D Z names sizes H' es :=
  ⟨m.so.trans so, B, so _ _ m.na m.nl, so _ _ m.da m.dt, so _ _ m.za m.sz, m.ok, m.frD, m.ne, m.da, m.na, m.za, m.zd⟩
theorem SMid.new {H0 H : Hp} {a Nl D Z p : Addr} {names : List Str} {sizes : List Int} {es : Ents} {o : HO} (m : SMid H0 a Nl D Z names sizes H es) (np : H p = none) : SMid H0 a Nl D Z names sizes (upd H p o) es :=
  ⟨sameO_new m.so (m.sp.free m.so np), m.sp.new np, same_new np _ _ m.nl, same_new np _ _ m.dt, same_new np _ _ m.sz, m.ok, m.frD, m.ne, m.da, m.na, m.za, m.zd⟩
theorem sput_pair {H0 H2 : Hp} {a Nl D Z : Addr} {names : List Str} {sizes : List Int} {es : Ents} (mid : SMid H0 a Nl D Z names sizes H2 es) (pw : names.Pairwise fun x y => ltS x y = true) (hl : es.length ≤ 1000)
    {Dx : Ends} {σ : Slots} {tv : TE} {i1 i2 j1 j2 : Nat} (hv : ∀ W : VK, (∀ (r : Int) H3, 1 ≤ r → r ≤ 1000000000000 → SMid H0 a Nl D Z names sizes H3 es → W (.int r) H3) → tv σ H2 W)
    (s3 : σ[3]? = some (some (.ref Nl))) (s4 : σ[4]? = some (some (.ref D))) (e1 : σ[i1]? = some (some (.int (j1 : Int)))) (e2 : σ[i2]? = some (some (.int (j2 : Int))))
    (lt : j1 < j2) (lt2 : j2 < names.length) (q : ∀ es' H', SMid H0 a Nl D Z names sizes H' es' → es'.length ≤ es.length + 1 → Dx.nx σ H') :
    sDPut (tVar 4) (tTup (tCons (tOp (rIxL K) (tVar 3) (tVar i1)) (tCons (tOp (rIxL K) (tVar 3) (tVar i2)) tNil))) tv Dx σ H2 := by
  refine hv _ fun r H3 r1 r2 m3 => ?_
  have g1 : (names.map V.str)[j1]? = some (.str names[j1]) := by
    rw [List.getElem?_map, List.getElem?_eq_getElem (by omega)]
    rfl
  have g2 : (names.map V.str)[j2]? = some (.str names[j2]) := by
    rw [List.getElem?_map, List.getElem?_eq_getElem lt2]
    rfl
  refine ⟨_, s4, _, s3, _, e1, Nl, _, _, _, rfl, rfl, SqL.of m3.nl, atI_nat g1, _, s3, _, e2, Nl, _, _, _, rfl, rfl, SqL.of m3.nl, atI_nat g2, by show 2 ≤ sizeLine; decide, fun t nt => ?_⟩
  have m4 := m3.new (o := .tup [.str names[j1], .str names[j2]]) nt
  refine ⟨D, _, rfl, DPut.t (k := pK (names[j1], names[j2])) m4.dt upd_same (by unfold ents; rw [List.length_map]; exact Nat.lt_of_le_of_lt hl (by decide)), ?_⟩
  rw [putE_ents]
  refine q (putE es (names[j1], names[j2]) r) _ ⟨sameO_new m4.so m4.frD, m4.sp.up m4.da, ?_, upd_same, ?_, ?_, m4.frD, m4.ne, m4.da, m4.na, m4.za, m4.zd⟩ (putE_len _ _ _)
  · rw [upd_ne m4.ne]
    exact m4.nl
  · rw [upd_ne m4.zd]
    exact m4.sz
  · exact m4.ok.put (List.getElem_mem _) (List.getElem_mem _) (List.pairwise_iff_getElem.mp pw j1 j2 (by omega) lt2 lt) r1 r2 (fun e => nomatch e)
abbrev nSWeb : List Str := ["spring", "most", "sizes", "names", "pairs", "at", "ahead", "size", "turn", "one", "other", "pair"]
theorem scSWeb : FnScope nSWeb ["spring", "most", "sizes"] (defScope sWeb) := ⟨rfl, rfl, rfl, by decide +kernel, rfl, by decide +kernel, by decide +kernel⟩
def spSWeb : Sp := fun vs H Q _ => ∃ (a Z : Addr) (m : Nat) (sizes : List Int), vs = [.ref a, .int (m : Int), .ref Z] ∧ SpringAt H a ∧ H Z = some (.lst (sizes.map V.int)) ∧ Z ≠ a ∧ SizesOk sizes ∧ 1 ≤ m ∧ m ≤ 12 ∧
  ∀ (T : Addr) (names : List Str) (ways : List Way) (H' : Hp), H T = none → SameO a H H' → WebAt H' T names ways → WebOk names ways → PairsNd ways → names.length ≤ m → ways.length ≤ 40 → SpringAt H' a → Q (.ref T) H'
theorem pick3 {x y z : Int} {r : Nat} (h : r < 3) : ∃ v, [V.int x, V.int y, V.int z][r]? = some (.int v) ∧ (v = x ∨ v = y ∨ v = z) := by
  have c : r = 0 ∨ r = 1 ∨ r = 2 := by omega
  rcases c with rfl | rfl | rfl
  · exact ⟨x, rfl, .inl rfl⟩
  · exact ⟨y, rfl, .inr (.inl rfl)⟩
  · exact ⟨z, rfl, .inr (.inr rfl)⟩
theorem pick2 {x y : Int} {r : Nat} (h : r < 2) : ∃ v, [V.int x, V.int y][r]? = some (.int v) ∧ (v = x ∨ v = y) := by
  have c : r = 0 ∨ r = 1 := by omega
  rcases c with rfl | rfl
  · exact ⟨x, rfl, .inl rfl⟩
  · exact ⟨y, rfl, .inr rfl⟩
theorem ok_sweb {f f1 f2 : Addr} {fd fd1 fd2 : FuncData} (F : Fun K "_law_web" "_law_web" sWeb f fd) (mL : mg "len" = none) (mR : mg "range" = none) (mS : mg "sorted" = none) (D1 : Def K mg "_law_draw" f1 fd1 ["spring", "many"]) (G1 : FnOk P w K mg base CX0 1 f1 fd1 ["spring", "many"] spSDraw)
    (D2 : Def K mg "_law_folk" f2 fd2 ["spring", "many"]) (G2 : FnOk P w K mg base CX0 2 f2 fd2 ["spring", "many"] spFolk) : FnOk P w K mg base CX0 3 f fd ["spring", "most", "sizes"] spSWeb := by
  refine F.ok scSWeb (fun vs H Q E h => ?_) (fun cdv A outer s H vs Q E hr h => ?_)
  · obtain ⟨a, Z, m, sizes, rfl, _⟩ := h
    rfl
  · obtain ⟨a, Z, m, sizes, rfl, hB, hZ, nza, so_, m1, m12, q⟩ := h
    have hr1 := hr.mono (show 1 ≤ 2 by decide)
    refine ⟨_, pss_cons (ps_set (i := 3) scSWeb.nd rfl (Or.inl rfl) (pe_call G2 hr (by rfl) D2.at_ D2.kp D2.b .nil pass0 (pa_cons (pv 0) (pa_cons (pe_op op_add pe_int (pe_call G1 hr1 (by rfl) D1.at_ D1.kp D1.b .nil pass0 (pa_cons (pv 0) (pa_cons (pv 1) pa_nil)))) pa_nil))))
      (pss_cons (ps_set (i := 4) scSWeb.nd rfl (Or.inr rfl) pe_dnewT)
      (pss_cons (ps_for PassesOwn.never rfl (pi_range2 (by rfl) mR (pa_cons pe_int (pa_cons (pe_callB cr_lenS (by rfl) mL (by decide +kernel) (pa_cons (pv 3) pa_nil)) pa_nil))) (pg_name (i := 5) scSWeb.nd rfl (Or.inl rfl))
        (pss_cons (ps_set (i := 6) scSWeb.nd rfl (Or.inl rfl) (pe_ix ix_list (pe_lst (pa_cons (pe_op op_sub (pv 5) pe_int) (pa_cons pe_int (pa_cons (pe_call G1 hr1 (by rfl) D1.at_ D1.kp D1.b .nil pass0 (pa_cons (pv 0) (pa_cons (pv 5) pa_nil))) pa_nil)))) (pe_call G1 hr1 (by rfl) D1.at_ D1.kp D1.b .nil pass0 (pa_cons (pv 0) (pa_cons pe_int pa_nil))) (fun _ _ => rfl)))
        (pss_cons (ps_set (i := 7) scSWeb.nd rfl (Or.inl rfl) (pe_ix ix_list (pv 2) (pe_call G1 hr1 (by rfl) D1.at_ D1.kp D1.b .nil pass0 (pa_cons (pv 0) (pa_cons (pe_callB cr_lenS (by rfl) mL (by decide +kernel) (pa_cons (pv 2) pa_nil)) pa_nil))) (fun _ _ => rfl)))
        (pss_one (ps_if (pt_cmpR op_gt (pe_call G1 hr1 (by rfl) D1.at_ D1.kp D1.b .nil pass0 (pa_cons (pv 0) (pa_cons pe_int pa_nil))) pe_int (nomark _))
          (pss_one (ps_dput (u1 hr.units) (pv 4) (pe_tup (pa_cons (pe_ix ix_list (pv 3) (pv 6) (fun _ _ => rfl)) (pa_cons (pe_ix ix_list (pv 3) (pv 5) (fun _ _ => rfl)) pa_nil))) (pe_op op_add pe_int (pe_call G1 hr1 (by rfl) D1.at_ D1.kp D1.b .nil pass0 (pa_cons (pv 0) (pa_cons (pv 7) pa_nil)))) (by rfl))) pss_nil)))))
      (pss_cons (ps_for PassesOwn.never rfl (pi_range1 (by rfl) mR (pa_cons (pe_call G1 hr1 (by rfl) D1.at_ D1.kp D1.b .nil pass0 (pa_cons (pv 0) (pa_cons
            (pe_ix ix_list (pe_lst (pa_cons pe_int (pa_cons (pe_op op_add (pe_callB cr_lenS (by rfl) mL (by decide +kernel) (pa_cons (pv 3) pa_nil)) pe_int) pa_nil))) (pe_call G1 hr1 (by rfl) D1.at_ D1.kp D1.b .nil pass0 (pa_cons (pv 0) (pa_cons pe_int pa_nil))) (fun _ _ => rfl)) pa_nil))) pa_nil)) (pg_name (i := 8) scSWeb.nd rfl (Or.inl rfl))
        (pss_cons (ps_par rfl scSWeb.nd (i := 9) (j := 10) rfl rfl (by decide) rfl rfl (pa_cons (pe_call G1 hr1 (by rfl) D1.at_ D1.kp D1.b .nil pass0 (pa_cons (pv 0) (pa_cons (pe_callB cr_lenS (by rfl) mL (by decide +kernel) (pa_cons (pv 3) pa_nil)) pa_nil)))
            (pa_cons (pe_call G1 hr1 (by rfl) D1.at_ D1.kp D1.b .nil pass0 (pa_cons (pv 0) (pa_cons (pe_callB cr_lenS (by rfl) mL (by decide +kernel) (pa_cons (pv 3) pa_nil)) pa_nil))) pa_nil)) (by rfl))
          (pss_one (ps_if (pt_cmpR op_lt (pv 9) (pv 10) (nomark _))
            (pss_one (ps_dput (u1 hr.units) (pv 4) (pe_tup (pa_cons (pe_ix ix_list (pv 3) (pv 9) (fun _ _ => rfl)) (pa_cons (pe_ix ix_list (pv 3) (pv 10) (fun _ _ => rfl)) pa_nil)))
              (pe_op op_add pe_int (pe_call G1 hr1 (by rfl) D1.at_ D1.kp D1.b .nil pass0 (pa_cons (pv 0) (pa_cons (pe_ix ix_list (pv 2) (pe_call G1 hr1 (by rfl) D1.at_ D1.kp D1.b .nil pass0 (pa_cons (pv 0) (pa_cons (pe_callB cr_lenS (by rfl) mL (by decide +kernel) (pa_cons (pv 2) pa_nil)) pa_nil))) (fun _ _ => rfl)) pa_nil)))) (by rfl))) pss_nil))))
      (pss_one (ps_ret (pe_tup (pa_cons (pv 3) (pa_cons (pe_lc (own := [("pair", 11)]) (g := gName 11) (tt := tYes)
          (te := tOp (rCatT K) (tVar 11) (tTup (tCons (tDGet (tVar 4) (tVar 11)) tNil))) rfl scSWeb.nd
          (pi_list (pe_callB (cr_sortedDT rfl hr.units) (by rfl) mS (by decide +kernel) (pa_cons (pv 4) pa_nil))) (blkOk_by (N := nSWeb) (sc := defScope sWeb) (by decide +kernel))
          (fun _ _ _ _ _ => pg_name (i := 11) scSWeb.nd rfl (Or.inl rfl)) (fun _ _ _ _ _ => pts_nil)
          (fun _ _ _ _ _ => pe_op op_catT (pv 11) (pe_tup (pa_cons (pe_dget (u1 hr.units) (pv 4) (pv 11) (fun _ _ => rfl)) pa_nil)))) pa_nil)))))))), ?_⟩
    obtain ⟨sz1, sz12, szb⟩ := so_
    have lsz : (sizes.map V.int).length = sizes.length := List.length_map ..
    refine ⟨_, rfl, _, rfl, _, rfl, a, m, rfl, hB, by omega, by omega, fun r H1 r1 so1 B1 => ⟨_, _, rfl, rfl, ?_⟩⟩
    refine ⟨a, r + 1, ?_, B1, by omega, by omega, fun Nl names H2 nNl so2 hNl NO lnm B2 => ?_⟩
    · show [V.ref a, V.int (1 + (r : Int))] = [V.ref a, V.int ((r + 1 : Nat) : Int)]
      rw [show (1 : Int) + (r : Int) = ((r + 1 : Nat) : Int) by omega]
    have nNa := B1.ne nNl
    intro D nD
    have so12 : SameO a H H2 := so1.trans so2
    have hZ2 := so12 _ _ nza hZ
    have nND : Nl ≠ D := by
      rintro rfl
      rw [nD] at hNl
      cases hNl
    have nZD : Z ≠ D := by
      rintro rfl
      rw [nD] at hZ2
      cases hZ2
    have mid0 : SMid H a Nl D Z names sizes (upd H2 D (.dT [])) [] :=
      ⟨sameO_new so12 (B2.free so12 nD), B2.new nD, by rw [upd_ne nND]; exact hNl, upd_same, by rw [upd_ne nZD]; exact hZ2, ⟨(fun e he => nomatch he), List.nodup_nil⟩, B2.free so12 nD, nND, B2.ne nD, nNa, nza, nZD⟩
    have lnV : (names.map V.str).length = names.length := List.length_map ..
    have len12 : names.length ≤ 12 := by omega
    refine ⟨_, rfl, Nl, _, rfl, .inl (SqL.of mid0.nl), 1, (names.map V.str).length, rfl, ⟨by decide, by decide, by omega, by omega⟩, ?_⟩
    refine for_it (walk_range (lo := 1) (n := (((names.map V.str).length : Int) - 1).toNat)) (fun i σ H2 => ∃ (u5 u6 u7 : Option V) (es : Ents), σ = [some (.ref a), some (.int (m : Int)), some (.ref Z), some (.ref Nl), some (.ref D), u5, u6, u7, none, none, none, none] ∧ SMid H a Nl D Z names sizes H2 es ∧ es.length ≤ i)
      ⟨none, none, none, [], rfl, mid0, by simp⟩ (fun _ _ _ _ _ => True.intro) ?_ ?_
    · rintro i x σ H4 H5 hi ⟨u5, u6, u7, es, rfl, mid, hl⟩ ⟨rfl, rfl⟩
      rw [lnV] at hi
      have li : i + 1 < names.length := by omega
      have e1 : (1 : Int) + (i : Nat) = ((i + 1 : Nat) : Int) := by omega
      show gName 5 (.int ((1 : Int) + (i : Nat))) _ _ _
      rw [e1]
      -- ahead
      refine ⟨_, rfl, _, _, rfl, rfl, _, rfl, _, rfl, a, _, rfl, mid.sp, by omega, by omega, fun r2 H6 r2l so6 B6 => ⟨by show 3 ≤ sizeLine; decide, fun p np => ?_⟩⟩
      have mid6 := (mid.draw so6 B6).new (o := .lst [.int (((i + 1 : Nat) : Int) - 1), .int 0, .int (r2 : Int)]) np
      have npa := B6.ne np
      refine ⟨_, rfl, a, _, rfl, mid6.sp, by decide, by decide, fun r3 H7 r3l so7 B7 => ?_⟩
      have mid7 := mid6.draw so7 B7
      obtain ⟨v, ev, cv⟩ := pick3 (x := ((i + 1 : Nat) : Int) - 1) (y := 0) (z := (r2 : Int)) (r := r3) (by omega)
      obtain ⟨j1, rfl, j1l⟩ : ∃ j1 : Nat, v = (j1 : Int) ∧ j1 < i + 1 := by
        rcases cv with h | h | h
        · exact ⟨i, by omega, by omega⟩
        · exact ⟨0, by omega, by omega⟩
        · exact ⟨r2, h, by omega⟩
      refine ⟨p, _, _, _, rfl, rfl, SqL.of (so7 _ _ npa upd_same), atI_nat ev, ?_⟩
      -- size
      refine ⟨_, rfl, _, rfl, _, rfl, Z, _, rfl, .inl (SqL.of mid7.sz), a, _, rfl, mid7.sp, by rw [lsz]; omega, by rw [lsz]; omega, fun r4 H8 r4l so8 B8 => ?_⟩
      have mid8 := mid7.draw so8 B8
      rw [lsz] at r4l
      have l4 : r4 < sizes.length := by omega
      have e4 : (sizes.map V.int)[r4]? = some (.int sizes[r4]) := by rw [List.getElem?_map, List.getElem?_eq_getElem l4]; rfl
      have b4 := szb _ (List.getElem_mem l4)
      refine ⟨Z, _, _, _, rfl, rfl, SqL.of mid8.sz, atI_nat e4, ?_⟩
      -- the coin
      refine ⟨_, rfl, a, _, rfl, mid8.sp, by decide, by decide, fun r5 H9 r5l so9 B9 => ⟨_, _, rfl, rfl, _, rfl, ?_⟩⟩
      have mid9 := mid8.draw so9 B9
      by_cases rp : (0 : Int) < (r5 : Int)
      · rw [decide_eq_true rp]
        refine iteT (sput_pair mid9 NO.pw (by omega) (fun W k => ?_) rfl rfl (i1 := 6) (i2 := 5) (j1 := j1) (j2 := i + 1) rfl rfl j1l li fun es' H' mid' le => ⟨_, _, _, es', rfl, mid', by omega⟩)
        exact ⟨_, rfl, _, rfl, a, _, rfl, mid9.sp, b4.1, by omega, fun r6 H10 r6l so10 B10 => ⟨_, _, rfl, rfl, k _ _ (by omega) (by omega) (mid9.draw so10 B10)⟩⟩
      · rw [decide_eq_false rp]
        exact iteF ⟨_, _, _, es, rfl, mid9, by omega⟩
    · rintro σ H4 ⟨u5, u6, u7, es, rfl, mid, hl⟩
      rw [lnV] at hl
      have len1 := NO.one
      refine ⟨_, rfl, _, rfl, Nl, _, rfl, .inl (SqL.of mid.nl), _, _, rfl, rfl, by show 2 ≤ sizeLine; decide, fun l nl => ?_⟩
      have mid5 := mid.new (o := .lst [.int 1, .int (((names.map V.str).length : Int) + 1)]) nl
      have nla := mid.sp.ne nl
      refine ⟨_, rfl, a, _, rfl, mid5.sp, by decide, by decide, fun r H5 r1 so5 B5 => ?_⟩
      have mid6 := mid5.draw so5 B5
      obtain ⟨X, eX, cX⟩ := pick2 (x := 1) (y := ((names.map V.str).length : Int) + 1) (r := r) (by omega)
      have X1 : 1 ≤ X := by omega
      have X2 : X ≤ 13 := by omega
      refine ⟨l, _, _, _, rfl, rfl, SqL.of (so5 _ _ nla upd_same), atI_nat eX, a, X, rfl, mid6.sp, X1, by omega, fun t H6 tl so6 B6 => ?_⟩
      have mid7 := mid6.draw so6 B6
      refine ⟨(t : Int), rfl, by omega, by omega, ?_⟩
      rw [show ((t : Int)).toNat = t from by omega]
      refine for_it (walk_range (lo := 0) (n := t)) (fun i σ H2 => ∃ (u5 u6 u7 u8 u9 u10 : Option V) (es : Ents), σ = [some (.ref a), some (.int (m : Int)), some (.ref Z), some (.ref Nl), some (.ref D), u5, u6, u7, u8, u9, u10, none] ∧ SMid H a Nl D Z names sizes H2 es ∧ es.length ≤ 12 + i)
        ⟨u5, u6, u7, none, none, none, es, rfl, mid7, by omega⟩ (fun _ _ _ _ _ => True.intro) ?_ ?_
      · rintro i x σ H7 H8 hi ⟨u5, u6, u7, u8, u9, u10, es, rfl, mid, hl⟩ ⟨rfl, rfl⟩
        refine ⟨_, rfl, _, rfl, Nl, _, rfl, .inl (SqL.of mid.nl), a, _, rfl, mid.sp, by omega, by omega, fun v1 H9 v1l so9 B9 => ?_⟩
        have mid9 := mid.draw so9 B9
        refine ⟨_, rfl, _, rfl, Nl, _, rfl, .inl (SqL.of mid9.nl), a, _, rfl, mid9.sp, by omega, by omega, fun w1 H10 w1l so10 B10 => ?_⟩
        have mid10 := mid9.draw so10 B10
        refine ⟨_, _, rfl, _, rfl, _, rfl, _, _, rfl, rfl, _, rfl, ?_⟩
        by_cases lt : (v1 : Int) < (w1 : Int)
        · rw [decide_eq_true lt]
          refine iteT (sput_pair mid10 NO.pw (by omega) (fun W k => ?_) rfl rfl (i1 := 9) (i2 := 10) (j1 := v1) (j2 := w1) rfl rfl (by omega) (by omega) fun es' H' mid' le => ⟨_, _, _, _, _, _, es', rfl, mid', by omega⟩)
          refine ⟨_, rfl, _, rfl, _, rfl, _, rfl, Z, _, rfl, .inl (SqL.of mid10.sz), a, _, rfl, mid10.sp, by rw [lsz]; omega, by rw [lsz]; omega, fun r4 H11 r4l so11 B11 => ?_⟩
          have mid11 := mid10.draw so11 B11
          rw [lsz] at r4l
          have l4 : r4 < sizes.length := by omega
          have e4 : (sizes.map V.int)[r4]? = some (.int sizes[r4]) := by rw [List.getElem?_map, List.getElem?_eq_getElem l4]; rfl
          have b4 := szb _ (List.getElem_mem l4)
          exact ⟨Z, _, _, _, rfl, rfl, SqL.of mid11.sz, atI_nat e4, a, _, rfl, mid11.sp, b4.1, by omega, fun r6 H12 r6l so12 B12 => ⟨_, _, rfl, rfl, k _ _ (by omega) (by omega) (mid11.draw so12 B12)⟩⟩
        · rw [decide_eq_false lt]
          exact iteF ⟨_, _, _, _, _, _, es, rfl, mid10, by omega⟩
      · rintro σ H7 ⟨u5, u6, u7, u8, u9, u10, es, rfl, mid, hl⟩
        obtain ⟨wok, _⟩ := waysE_ok (m := m) (near := false) ⟨NO.ok, NO.one, by omega, NO.up, NO.nd, NO.pw⟩ (by omega) mid.ok (by omega)
        have wl : (waysE es).length ≤ 40 := by
          unfold waysE
          rw [List.length_map, (sortB_perm _ _).length_eq, List.length_map]
          omega
        have wlen : (sortB pD (es.map Prod.fst)).length = (waysE es).length := by
          unfold waysE
          rw [List.length_map]
        refine ⟨_, rfl, _, rfl, D, _, es.map Prod.fst, rfl, mid.dt, by unfold ents; rw [List.map_map, List.map_map]; rfl, fun S us nS im => ?_⟩
        have mid8 := mid.new (o := .lst us) nS
        have lu := im.length
        rw [List.length_map, wlen] at lu
        have tsS : TS H7 (upd H7 S (.lst us)) := TS.new nS
        refine ⟨S, rfl, ⟨us, SqL.of upd_same⟩, fun W nW => ?_⟩
        refine lc_gen (walk_list (K := K) (a := S) (xs := us)) TS (fun _ H' => Same (upd H7 S (.lst us)) H') (fun i y H' => ∀ p, (sortB pD (es.map Prod.fst))[i]? = some p → Im H' y (wayD3 (p.1, p.2, lookE es p))) (by rw [lu]; exact Nat.le_trans wl (by decide))
          (fun H' acc acc' h => TS.lst h) (fun i H' acc acc' _ gd => same_at gd nW) (fun j y H' H'' t h p e => (h p e).on t) (same_new nW) (fun i H' gd => gd.seq (SqL.of upd_same)) (fun i y H8 H9 acc Z' hi2 s8 hacc hy k => ?_) (fun H8 ys s8 h8 hlen hR => ?_)
        · obtain ⟨rfl, ex⟩ := hy
          obtain ⟨p, ep⟩ : ∃ p, (sortB pD (es.map Prod.fst))[i]? = some p := ⟨_, List.getElem?_eq_getElem (by omega)⟩
          obtain ⟨d, ed, imd⟩ := Ims.at im ex
          rw [List.getElem?_map, ep] at ed
          cases ed
          have imd9 := (imd.on tsS).on (TS.same s8)
          obtain ⟨b, xs, rfl, hb, hxs⟩ : ∃ b xs, y = .ref b ∧ H9 b = some (.tup xs) ∧ Ims H9 xs [.str p.1, .str p.2] := by
            cases imd9 with
            | tup h s => exact ⟨_, _, rfl, h, s⟩
          obtain rfl : xs = [.str p.1, .str p.2] := by
            cases hxs with
            | cons h1 t1 =>
              cases t1 with
              | cons h2 t2 =>
                cases t2
                cases h1
                cases h2
                rfl
          have pm : p ∈ es.map Prod.fst := (sortB_perm _ _).mem_iff.mp (List.mem_of_getElem? ep)
          have hD9 := s8 _ _ mid8.dt
          have gv : DGet H9 D (.ref b) (some (.int (lookE es p))) := by
            have := DGet.t (k := pK p) hD9 hb
            rw [(lookE_val pm).1] at this
            exact this
          refine ⟨rfl, ⟨_, rfl, _, rfl, _, rfl, D, _, rfl, gv, by show 1 ≤ sizeLine; decide, fun u nu => ?_⟩⟩
          have su : Same H9 (upd H9 u (.tup [.int (lookE es p)])) := same_new nu
          refine ⟨b, u, _, _, rfl, rfl, SqT.of (su _ _ hb), SqT.of upd_same, by simp, by show 3 ≤ sizeLine; decide, fun e => (nomatch e), fun _ v nv => ?_⟩
          have sv : Same (upd H9 u (.tup [.int (lookE es p)])) (upd (upd H9 u (.tup [.int (lookE es p)])) v (.tup [.str p.1, .str p.2, .int (lookE es p)])) := same_new nv
          refine k _ _ (sv _ _ (su _ _ hacc)) (TS.same (su.trans sv)) ((s8.trans su).trans sv) fun p' e' => ?_
          rw [ep] at e'
          cases e'
          exact way_im upd_same
        · refine ⟨by show 2 ≤ sizeLine; decide, fun T nT => ?_⟩
          have mid10 : SMid H a Nl D Z names sizes H8 es := ⟨mid8.so.trans (SameO.of s8), mid8.sp.on s8, s8 _ _ mid8.nl, s8 _ _ mid8.dt, s8 _ _ mid8.sz, mid8.ok, mid8.frD, mid8.ne, mid8.da, mid8.na, mid8.za, mid8.zd⟩
          have sT : Same H8 (upd H8 T (.tup [.ref Nl, .ref W])) := same_new nT
          have ims : Ims H8 ys ((waysE es).map wayD3) := by
            refine Ims.of (by rw [hlen, List.length_map, lu]) fun i v d h1 h2 => ?_
            unfold waysE at h2
            rw [List.map_map, List.getElem?_map] at h2
            cases e : (sortB pD (es.map Prod.fst))[i]? with
            | none =>
              rw [e] at h2
              cases h2
            | some p =>
              rw [e] at h2
              cases h2
              exact hR i v h1 p e
          exact q T names (waysE es) _ (mid10.sp.free mid10.so nT) (mid10.new nT).so ⟨Nl, W, ys, upd_same, sT _ _ mid10.nl, sT _ _ h8, ims.on (TS.same sT)⟩ wok (waysE_nd mid.ok) (by omega) wl (mid10.new nT).sp
end
end Cry
/-! A call by keywords alone, told in the order of the parameters turned about. -/
namespace Cry
open PySem PySem.Spec PyProof.Rows L2
/-- every parameter is given by its name, the last one first -/
def KwRev (K : PySem.W.Frag) (fd : FuncData) (ps ks : List Str) : Prop := ∀ (s : Shared) (ws : List Value), K.In s.heap → ws.length = ps.length → BindsTo s fd ⟨[], ks.zip ws⟩ (ps.zip ws.reverse)
def tCallKR (sp : Sp) (E : XK) (tk : TA) : TE := fun σ H Q => tk σ H fun zs H2 => sp zs.reverse H2 Q E
theorem vals_rev : ∀ {zs : List V} {ws : List Value}, Vals zs ws → Vals zs.reverse ws.reverse
  | _, _, .nil => .nil
  | _, _, .cons h t => by
    rw [List.reverse_cons, List.reverse_cons]
    exact (vals_rev t).append (.cons h .nil)
section
variable {X : Cx} {CX : CXT} {k : Nat} {f : Addr} {fd : FuncData} {ps ks : List Str} {sp : Sp} {E : XK} {x : Str} {p pos : Pos} {kws : List Keyword} {tk : TA}
theorem pe_callKR (F : FnOk X.prog X.w X.K X.mg X.base CX k f fd ps sp) (hr : Room k X.A) (hg : Gl X x) (hm : X.mg x = some (.ref f)) (hk : PySem.W.keepIn X.K (.ref f) = true) (hb : KwRev X.K fd ps ks) (hx : Passes CX X E)
    (hkw : PK X kws tk) (hall : (backToKw pos (keywordEach kws X.env)).all (·.1.isSome) = true := by rfl) (hks : (backToKw pos (keywordEach kws X.env)).filterMap (·.1) = ks := by rfl)
    (hdb : (x == ("__debug__" : Str)) = false := by decide) (hpl : ((backTo pos (starEach [] X.env)).any (·.1) || (backToKw pos (keywordEach kws X.env)).any (·.1.isNone)) = false := by rfl) :
    PE X (.Call (.Name x p) [] kws pos) (tCallKR sp E tk) := by
  refine ⟨fun pins s σ H Q I h => wpAny_Call_Name_kw (ld_glob I hg hm ?_ hdb)⟩
  refine PySem.W.callWith_KW0 (h₀ := X.base) I.ok.mod.kin hk hall (thn (hkw.run pos pins s σ H _ I h) fun ws s2 ⟨zs, H2, I2, rz, q2⟩ => ⟨I2.kIn, ?_⟩) hpl
  rw [hks]
  have rr := vals_rev rz
  have hl : ws.reverse.length = ps.length := by rw [← rr.length]; exact F.len _ _ _ _ q2
  refine wpAny_call (codeAny_mono (F.run X.A X.stack s2 H2 ⟨[], ks.zip ws⟩ ws.reverse zs.reverse Q E hr I2.env0 (hb s2 ws I2.kIn (by rw [← hl, List.length_reverse])) rr q2) fun r s' hq => ?_)
  cases r with
  | error e => exact hx pins σ H2 s2 e s' I2 hq
  | ok fl =>
    cases fl with
    | ret u => exact I2.after hq
    | next => exact False.elim hq
    | brk => exact False.elim hq
    | cont => exact False.elim hq
end
theorem Fun.kwrev {K : PySem.W.Frag} {x qual : Str} {st : Stmt} {f : Addr} {fd : FuncData} {ps ks : List Str} (F : Fun K x qual st f fd)
    (h : ∀ (kV doc pm : Value) (an : Option Addr) (cdv ct : Value) (ws : List Value), ws.length = ps.length → bindArgs (PySem.W.fnOf x qual (defArgs st) (defBody st) (defScope st) .none kV doc pm an cdv ct) ⟨[], ks.zip ws⟩ = pure (ps.zip ws.reverse)) : KwRev K fd ps ks := by
  obtain ⟨oc, od, kV, doc, pm, an, cdv, ct, osl, rfl, lk, hcd⟩ := F.ex
  exact fun s ws _ hl => BindsTo.of_eq (h kV doc pm an cdv ct ws hl)
theorem kw_is_walk {K : PySem.W.Frag} {f : Addr} {fd : FuncData} (F : Fun K "is_walk" "is_walk" sIsWalk f fd) : KwRev K fd ["web", "starters", "place", "beat", "thing"] ["thing", "beat", "place", "starters", "web"] :=
  Fun.kwrev F fun _ _ _ _ _ _ ws hl => match ws, hl with | [_, _, _, _, _], _ => rfl
end Cry
/-! Facts: beats between two, data that can be asked whether they are alike. -/
namespace Cry
open PySem PySem.Spec PyProof.Rows L2
theorem pairs_one {ways : List Way} (nd : PairsNd ways) {y z : Way} (hy : y ∈ ways) (hz : z ∈ ways) (h1 : y.1 = z.1) (h2 : y.2.1 = z.2.1) : y = z := by
  induction ways with
  | nil => cases hy
  | cons x ways ih =>
    unfold PairsNd at nd
    rw [List.map_cons, List.nodup_cons] at nd
    rcases List.mem_cons.mp hy with rfl | hy2
    · rcases List.mem_cons.mp hz with rfl | hz2
      · rfl
      · exact absurd (List.mem_map.mpr ⟨z, hz2, (Prod.ext h1 h2 : (y.1, y.2.1) = (z.1, z.2.1)).symm⟩) nd.1
    · rcases List.mem_cons.mp hz with rfl | hz2
      · exact absurd (List.mem_map.mpr ⟨y, hy2, (Prod.ext h1 h2 : (y.1, y.2.1) = (z.1, z.2.1))⟩) nd.1
      · exact ih nd.2 hy2 hz2
theorem between_of {ways : List Way} (pn : PairsNd ways) {y : Way} (hy : y ∈ ways) : between ways y.1 y.2.1 = y.2.2 := by
  unfold between
  cases e : ways.find? fun z => decide (z.1 = y.1) && decide (z.2.1 = y.2.1) with
  | none =>
    rw [List.find?_eq_none] at e
    have := e y hy
    simp at this
  | some z =>
    have h1 := List.find?_some e
    have h2 := List.mem_of_find?_eq_some e
    rw [Bool.and_eq_true, decide_eq_true_eq, decide_eq_true_eq] at h1
    rw [pairs_one pn h2 hy h1.1 h1.2]
    rfl
theorem Sm.shaped {B k : Nat} {d : PyData} (h : Sm B k d) (hk : k ≤ 64) : SeqAt.shaped d = true := by
  unfold SeqAt.shaped
  rw [h.lay, decide_eq_true (Nat.le_trans h.dp hk)]
  rfl
theorem list_dp {K : PySem.W.Frag} {H : Hp} {l : Addr} {vs : List V} {ds : List PyData} (hl : H l = some (.lst vs)) (im : Ims H vs ds) : Dp K H (.ref l) (.list ds) := .lst (SqL.of hl) im.dp
mutual
theorem eqv_self : ∀ d : PyData, d.canLay0 = true → PyData.eqv d d = true
  | .none, _ => rfl
  | .bool b, _ => by cases b <;> rfl
  | .int i, _ => by
    show (i == i) = true
    simp
  | .str x, _ => by
    rw [eqv_str]
    exact decide_eq_true rfl
  | .list ds, h => eqvs_self ds h
  | .tuple ds, h => eqvs_self ds h
theorem eqvs_self : ∀ ds : List PyData, PyData.canLayAll0 ds = true → PyData.eqvAll ds ds = true
  | [], _ => rfl
  | d :: ds, h => by
    have h2 : (d.canLay0 && PyData.canLayAll0 ds) = true := h
    rw [Bool.and_eq_true] at h2
    show (PyData.eqv d d && PyData.eqvAll ds ds) = true
    rw [eqv_self d h2.1, eqvs_self ds h2.2]
    rfl
end
end Cry
/-! The law's draws: a lot, a place. -/
namespace Cry
open PySem PySem.Spec PyProof.Rows L2
theorem inNames_mem {x : Str} {names : List Str} : inNames x names = true ↔ x ∈ names := by
  unfold inNames inV
  rw [List.any_eq_true]
  constructor
  · rintro ⟨v, hv, e⟩
    obtain ⟨y, hy, rfl⟩ := List.mem_map.mp hv
    have : decide (y = x) = true := e
    rw [← of_decide_eq_true this]
    exact hy
  · intro h
    exact ⟨.str x, List.mem_map.mpr ⟨x, h, rfl⟩, show decide (x = x) = true from decide_eq_true rfl⟩
theorem eqv_row_nil (ds : List PyData) : PyData.eqv (.list ds) (.list []) = ds.isEmpty := by
  cases ds <;> rfl
theorem shaped_strs {xs : List Str} (ok : ∀ x ∈ xs, nameOkS x = true) (few : xs.length ≤ 1000) : SeqAt.shaped (.list (xs.map PyData.str)) = true := by
  refine Sm.shaped (Sm.list (B := 8) (k := 0) (C := 10000) (fun e he => ?_) ?_) (by decide)
  · obtain ⟨x, hx, rfl⟩ := List.mem_map.mp he
    exact Sm.str (ok x hx)
  · rw [List.length_map]
    omega
theorem shaped_nil : SeqAt.shaped (.list []) = true := by decide +kernel
theorem strs_dp {K : PySem.W.Frag} {H : Hp} {l : Addr} {xs : List Str} (h : H l = some (.lst (xs.map V.str))) : Dp K H (.ref l) (.list (xs.map PyData.str)) := .lst (SqL.of h) (Ims.strs xs).dp
theorem str_at {xs : List Str} {r : Nat} (h : r < xs.length) : (xs.map V.str)[r]? = some (.str xs[r]) := by
  rw [List.getElem?_map, List.getElem?_eq_getElem h]
  rfl
/-- a web is not the spring -/
theorem WebAt.apartS {H : Hp} {T a : Addr} {names : List Str} {ways : List Way} (hw : WebAt H T names ways) (sp : SpringAt H a) (ne : names ≠ []) :
    ∃ F W ws, H T = some (.tup [.ref F, .ref W]) ∧ H F = some (.lst (names.map V.str)) ∧ H W = some (.lst ws) ∧ Ims H ws (ways.map wayD3) ∧ T ≠ a ∧ F ≠ a ∧ W ≠ a := by
  obtain ⟨F, W, ws, hT, hF, hW, hI⟩ := hw
  obtain ⟨fig, stir, cnt, ha, _⟩ := sp
  refine ⟨F, W, ws, hT, hF, hW, hI, ?_, ?_, ?_⟩
  · rintro rfl
    rw [ha] at hT
    cases hT
  · rintro rfl
    rw [ha] at hF
    cases names with
    | nil => exact ne rfl
    | cons x r => cases hF
  · rintro rfl
    rw [ha] at hW
    cases hW
    cases ways with
    | nil => cases hI
    | cons y r =>
      cases hI with
      | cons h1 _ => cases h1
theorem WebAt.so {H H' : Hp} {T a : Addr} {names : List Str} {ways : List Way} (hw : WebAt H T names ways) (sp : SpringAt H a) (so : SameO a H H') (ne : names ≠ []) : WebAt H' T names ways := by
  obtain ⟨F, W, ws, hT, hF, hW, hI, n1, n2, n3⟩ := hw.apartS sp ne
  exact ⟨F, W, ws, so _ _ n1 hT, so _ _ n2 hF, so _ _ n3 hW, hI.on (sp.ts so)⟩
structure LotOk (names lot : List Str) : Prop where
  ne : lot ≠ []
  nd : lot.Nodup
  mem : ∀ x ∈ lot, x ∈ names
  few : lot.length ≤ names.length
section
variable {P : Program} {w : World} {K : PySem.W.Frag} {mg : Str → Option Value} {base : Heap}
abbrev nLot : List Str := ["spring", "names", "found", "name"]
theorem scLot : FnScope nLot ["spring", "names"] (defScope sLLot) := ⟨rfl, rfl, rfl, by decide +kernel, rfl, by decide +kernel, by decide +kernel⟩
def spLot : Sp := fun vs H Q _ => ∃ (a N : Addr) (names : List Str), vs = [.ref a, .ref N] ∧ SpringAt H a ∧ H N = some (.lst (names.map V.str)) ∧ names ≠ [] ∧ names.length ≤ 60 ∧ names.Nodup ∧ (∀ x ∈ names, nameOkS x = true) ∧
  ∀ (l : Addr) (lot : List Str) (H' : Hp), H l = none → SameO a H H' → SpringAt H' a → H' l = some (.lst (lot.map V.str)) → LotOk names lot → Q (.ref l) H'
theorem ok_lot {f f1 : Addr} {fd fd1 : FuncData} (F : Fun K "_law_lot" "_law_lot" sLLot f fd) (mL : mg "len" = none) (D1 : Def K mg "_law_draw" f1 fd1 ["spring", "many"]) (G1 : FnOk P w K mg base CX0 1 f1 fd1 ["spring", "many"] spSDraw) : FnOk P w K mg base CX0 2 f fd ["spring", "names"] spLot := by
  refine F.ok scLot (fun vs H Q E h => ?_) (fun cdv A outer s H vs Q E hr h => ?_)
  · obtain ⟨a, N, names, rfl, _⟩ := h
    rfl
  · obtain ⟨a, N, names, rfl, sp, hN, ne, l60, nd, okn, q⟩ := h
    have nNa : N ≠ a := by
      obtain ⟨fig, stir, cnt, ha, _⟩ := sp
      rintro rfl
      rw [ha] at hN
      cases names with
      | nil => exact ne rfl
      | cons x r => cases hN
    refine ⟨_, pss_cons (ps_setLc (i := 2) (own := [("name", 3)]) (g := gName 3) (tt := tTest (tOp rEq (tCall spSDraw [] E0 (tCons (tVar 0) (tCons (tC (.int 3)) tNil))) (tC (.int 0)))) (te := tVar 3) (by rfl) scLot.nd rfl rfl (sw_true rfl rfl rfl (by decide +kernel))
          (pi_list (pv 1)) (blkOk_by (N := nLot) (sc := defScope sLLot) (by decide +kernel)) (fun _ _ _ _ _ => pg_name (i := 3) scLot.nd rfl (Or.inl rfl))
          (fun _ _ _ _ _ => pts_one (pt_cmpR op_eq (pe_call G1 hr (by rfl) D1.at_ D1.kp D1.b .nil pass0 (pa_cons (pv 0) (pa_cons pe_int pa_nil))) pe_int (nomark _))) (fun _ _ _ _ _ => pv 3))
      (pss_cons (ps_if (pt_cmpR (op_eqD hr.units) (pv 2) (pe_lst pa_nil) (nomark _)) (pss_one (ps_set (i := 2) scLot.nd rfl (Or.inl rfl) (pe_lst (pa_cons (pe_ix ix_list (pv 1)
            (pe_call G1 hr (by rfl) D1.at_ D1.kp D1.b .nil pass0 (pa_cons (pv 0) (pa_cons (pe_callB cr_lenS (by rfl) mL (by decide +kernel) (pa_cons (pv 1) pa_nil)) pa_nil))) (fun _ _ => rfl)) pa_nil)))) pss_nil)
      (pss_one (ps_ret (pe_ix ix_list (pe_lst (pa_cons (pv 2) (pa_cons (pe_revL (pv 2)) pa_nil))) (pe_call G1 hr (by rfl) D1.at_ D1.kp D1.b .nil pass0 (pa_cons (pv 0) (pa_cons pe_int pa_nil))) (fun _ _ => rfl))))), ?_⟩
    -- the last row
    have fin : ∀ (F' : Addr) (lot : List Str) (H' : Hp), H F' = none → F' ≠ a → SameO a H H' → SpringAt H' a → H' F' = some (.lst (lot.map V.str)) → LotOk names lot →
        tRet (tOp (rIxL K) (tLst (tCons (tVar 2) (tCons (tRevL K (tVar 2)) tNil))) (tCall spSDraw [] E0 (tCons (tVar 0) (tCons (tC (.int 2)) tNil)))) { nx := fun _ H' => Q .non H', rt := Q } [some (.ref a), some (.ref N), some (.ref F'), none] H' := by
      intro F' lot H' nF nFa so sp' hF ok
      refine ⟨_, rfl, _, rfl, F', _, rfl, SqL.of hF, fun p np => ⟨by show 2 ≤ sizeLine; decide, fun y ny => ?_⟩⟩
      have sp2 := (sp'.new (o := .lst (lot.map V.str).reverse) np).new (o := .lst [.ref F', .ref p]) ny
      have s2 := (same_new (o := .lst (lot.map V.str).reverse) np).trans (same_new (o := .lst [.ref F', .ref p]) ny)
      refine ⟨_, rfl, a, _, rfl, sp2, by decide, by decide, fun r H4 rl so4 sp4 => ?_⟩
      have nya : y ≠ a := (sp'.new np).ne ny
      have npa : p ≠ a := sp'.ne np
      have so5 : SameO a H H4 := (so.trans (SameO.of s2)).trans so4
      have c : r = 0 ∨ r = 1 := by omega
      have hy4 := so4 _ _ nya (upd_same (H := upd H' p (.lst (lot.map V.str).reverse)))
      rcases c with rfl | rfl
      · refine ⟨y, _, _, _, rfl, rfl, SqL.of hy4, atI_nat (j := 0) rfl, q F' lot H4 nF so5 sp4 ?_ ok⟩
        exact so4 _ _ nFa (s2 _ _ hF)
      · refine ⟨y, _, _, _, rfl, rfl, SqL.of hy4, atI_nat (j := 1) rfl, q p lot.reverse H4 (sp'.free so np) so5 sp4 ?_ ⟨by simpa using ok.ne, List.pairwise_reverse.mpr (ok.nd.imp fun h => Ne.symm h), fun x hx => ok.mem x (List.mem_reverse.mp hx), by rw [List.length_reverse]; exact ok.few⟩⟩
        rw [so4 _ _ npa (same_new ny _ _ upd_same), List.map_reverse]
    refine ⟨_, rfl, N, rfl, ⟨_, SqL.of hN⟩, fun D nD => ?_⟩
    have nDa := sp.ne nD
    have lV : (names.map V.str).length = names.length := List.length_map ..
    refine lc_it (walk_list (K := K) (a := N) (xs := names.map V.str)) (fun i H' => SameO a H H' ∧ SpringAt H' a ∧ ∃ acc : List Str, H' D = some (.lst (acc.map V.str)) ∧ acc.Sublist (names.take i))
      ⟨sameO_new (fun _ _ _ e => e) nD, sp.new nD, [], upd_same, List.nil_sublist _⟩ (fun i H' _ gd => SqL.of (gd.1 _ _ nNa hN)) ?_ ?_
    · rintro i x H2 H3 hi ⟨so, sp2, acc, hacc, sub⟩ ⟨rfl, ex⟩
      rw [lV] at hi
      rw [str_at hi] at ex
      cases ex
      have tk : names.take (i + 1) = names.take i ++ [names[i]] := by
        rw [List.take_add_one, List.getElem?_eq_getElem hi]
        rfl
      have lacc := sub.length_le
      rw [List.length_take] at lacc
      refine ⟨rfl, ⟨_, rfl, a, _, rfl, sp2, by decide, by decide, fun r H4 rl so4 sp4 => ⟨rfl, _, rfl, ?_⟩⟩⟩
      rw [dec_int]
      by_cases e0 : (r : Int) = 0
      · rw [decide_eq_true e0]
        refine iteT ⟨_, rfl, acc.map V.str, so4 _ _ nDa hacc, ?_, sameO_new (so.trans so4) nD, sp4.up nDa, acc ++ [names[i]], ?_, ?_⟩
        · rw [List.length_map]
          exact Nat.lt_of_lt_of_le (show acc.length < 100 by omega) (by decide)
        · rw [upd_same, List.map_append]
          rfl
        · rw [tk]
          exact sub.append (List.Sublist.refl _)
      · rw [decide_eq_false e0]
        refine iteF ⟨so.trans so4, sp4, acc, so4 _ _ nDa hacc, ?_⟩
        rw [tk]
        exact sub.trans (List.sublist_append_left _ _)
    · rintro H2 ⟨so, sp2, acc, hacc, sub⟩
      rw [lV, List.take_length] at sub
      have oka : ∀ x ∈ acc, nameOkS x = true := fun x hx => okn x (sub.subset hx)
      have la := sub.length_le
      refine ⟨_, rfl, Nat.zero_le _, fun l nl => ?_⟩
      have s1 : Same H2 (upd H2 l (.lst [])) := same_new nl
      refine ⟨_, _, strs_dp (s1 _ _ hacc), .lst (SqL.of upd_same) .nil, shaped_strs oka (by omega), shaped_nil, _, rfl, ?_⟩
      rw [eqv_row_nil]
      cases acc with
      | nil =>
        refine iteT ?_
        refine ⟨_, rfl, _, rfl, _, rfl, N, _, rfl, .inl (SqL.of (s1 _ _ (so _ _ nNa hN))), a, _, rfl, sp2.new nl, ?_, ?_, fun r H3 rl so3 sp3 => ?_⟩
        · rw [lV]
          have := List.length_pos_iff.mpr ne
          omega
        · rw [lV]
          omega
        · rw [lV] at rl
          have lt : r < names.length := by omega
          have soA : SameO a H H3 := (so.trans (SameO.of s1)).trans so3
          refine ⟨N, _, _, _, rfl, rfl, SqL.of (soA _ _ nNa hN), atI_nat (str_at lt), by show 1 ≤ sizeLine; decide, fun l2 nl2 => ?_⟩
          refine fin l2 [names[r]] _ (sp3.free soA nl2) (sp3.ne nl2) (sameO_new soA (sp3.free soA nl2)) (sp3.new nl2) upd_same ⟨by simp, by simp, fun x hx => ?_, ?_⟩
          · rw [List.mem_singleton.mp hx]
            exact List.getElem_mem lt
          · show 1 ≤ names.length
            omega
      | cons x r =>
        refine iteF ?_
        exact fin D (x :: r) _ nD nDa (so.trans (SameO.of s1)) (sp2.new nl) (s1 _ _ hacc) ⟨by simp, sub.nodup nd, fun y hy => sub.subset hy, la⟩
/-! ### a place -/
/-- a place of the web: somebody's, or a spot's -/
def PlaceIs (names : List Str) (ways : List Way) (p : Way) : Prop := (p.1 = p.2.1 ∧ p.1 ∈ names ∧ p.2.2 = 0) ∨ ∃ y ∈ ways, p.1 = y.1 ∧ p.2.1 = y.2.1 ∧ 1 ≤ p.2.2 ∧ p.2.2 < y.2.2
abbrev nPlace : List Str := ["spring", "land", "one", "other", "beats", "at", "name"]
theorem scPlace : FnScope nPlace ["spring", "land"] (defScope sLPlace) := ⟨rfl, rfl, rfl, by decide +kernel, rfl, by decide +kernel, by decide +kernel⟩
def spSPlace : Sp := fun vs H Q _ => ∃ (a T : Addr) (names : List Str) (ways : List Way), vs = [.ref a, .ref T] ∧ SpringAt H a ∧ WebAt H T names ways ∧ WebOk names ways ∧
  ∀ (v : V) (p : Way) (H' : Hp), SameO a H H' → SpringAt H' a → Im H' v (wayD3 p) → PlaceIs names ways p → Q v H'
theorem WebOk.ne {names : List Str} {ways : List Way} (h : WebOk names ways) : names ≠ [] := fun e => by
  have := h.one
  rw [e] at this
  exact absurd this (by decide)
theorem WebOk.tri {names : List Str} {ways : List Way} (h : WebOk names ways) {y : Way} (hy : y ∈ ways) : TriOk y := by
  have k := h.way y hy
  exact ⟨k.1, k.2.1, by omega, k.2.2.2.1⟩
theorem shaped_ways {names : List Str} {ways : List Way} (wok : WebOk names ways) : SeqAt.shaped (.list (ways.map wayD3)) = true := by
  refine Sm.shaped (Sm.list (B := 130) (k := 1) (C := 50000) (fun e he => ?_) ?_) (by decide)
  · obtain ⟨y, hy, rfl⟩ := List.mem_map.mp he
    exact Sm.way (wok.tri hy)
  · have := wok.few
    rw [List.length_map]
    omega
theorem pick4 {x y z u : Int} {r : Nat} (h : r < 4) : ∃ v, [V.int x, V.int y, V.int z, V.int u][r]? = some (.int v) ∧ (v = x ∨ v = y ∨ v = z ∨ v = u) := by
  have c : r = 0 ∨ r = 1 ∨ r = 2 ∨ r = 3 := by omega
  rcases c with rfl | rfl | rfl | rfl
  · exact ⟨x, rfl, .inl rfl⟩
  · exact ⟨y, rfl, .inr (.inl rfl)⟩
  · exact ⟨z, rfl, .inr (.inr (.inl rfl))⟩
  · exact ⟨u, rfl, .inr (.inr (.inr rfl))⟩
theorem way_at {H : Hp} {ws : List V} {ways : List Way} (hI : Ims H ws (ways.map wayD3)) {r : Nat} (h : r < ways.length) : ∃ b, ws[r]? = some (.ref b) ∧ H b = some (.tup [.str ways[r].1, .str ways[r].2.1, .int ways[r].2.2]) := by
  obtain ⟨v, e, im⟩ := Ims.get (d := wayD3 ways[r]) hI (by rw [List.getElem?_map, List.getElem?_eq_getElem h]; rfl)
  obtain ⟨b, rfl, hb⟩ := im_way im
  exact ⟨b, e, hb⟩
theorem ok_splace {f f1 : Addr} {fd fd1 : FuncData} (F : Fun K "_law_place" "_law_place" sLPlace f fd) (mL : mg "len" = none) (D1 : Def K mg "_law_draw" f1 fd1 ["spring", "many"]) (G1 : FnOk P w K mg base CX0 1 f1 fd1 ["spring", "many"] spSDraw) : FnOk P w K mg base CX0 2 f fd ["spring", "land"] spSPlace := by
  refine F.ok scPlace (fun vs H Q E h => ?_) (fun cdv A outer s H vs Q E hr h => ?_)
  · obtain ⟨a, T, names, ways, rfl, _⟩ := h
    rfl
  · obtain ⟨a, T, names, ways, rfl, sp, hw, wok, q⟩ := h
    refine ⟨_, pss_cons (ps_if (PW.pt (pw_and (pt_cmpR (op_neD hr.units) (pe_ix ix_tup (pv 1) pe_int (fun _ _ => rfl)) (pe_lst pa_nil) (nomark _)) (pw_and1 (pt_cmpR op_gt (pe_call G1 hr (by rfl) D1.at_ D1.kp D1.b .nil pass0 (pa_cons (pv 0) (pa_cons pe_int pa_nil))) pe_int (nomark _)))))
        (pss_cons (ps_asg (pe_ix ix_list (pe_ix ix_tup (pv 1) pe_int (fun _ _ => rfl)) (pe_call G1 hr (by rfl) D1.at_ D1.kp D1.b .nil pass0 (pa_cons (pv 0) (pa_cons (pe_callB cr_lenS (by rfl) mL (by decide +kernel) (pa_cons (pe_ix ix_tup (pv 1) pe_int (fun _ _ => rfl)) pa_nil)) pa_nil))) (fun _ _ => rfl))
            (pg_tup rfl (pgs_cons (pg_name (i := 2) scPlace.nd rfl (Or.inl rfl)) (pgs_cons (pg_name (i := 3) scPlace.nd rfl (Or.inl rfl)) (pgs_cons (pg_name (i := 4) scPlace.nd rfl (Or.inl rfl)) pgs_nil)))))
        (pss_one (ps_if (pt_cmpR op_gt (pv 4) pe_int (nomark _))
          (pss_cons (ps_set (i := 5) scPlace.nd rfl (Or.inl rfl) (pe_ix ix_list (pe_lst (pa_cons (pe_op op_add pe_int (pe_call G1 hr (by rfl) D1.at_ D1.kp D1.b .nil pass0 (pa_cons (pv 0) (pa_cons (pe_op op_sub (pv 4) pe_int) pa_nil))))
                (pa_cons pe_int (pa_cons (pe_op op_sub (pv 4) pe_int) (pa_cons (pe_op op_fdiv (pv 4) pe_int) pa_nil))))) (pe_call G1 hr (by rfl) D1.at_ D1.kp D1.b .nil pass0 (pa_cons (pv 0) (pa_cons pe_int pa_nil))) (fun _ _ => rfl)))
          (pss_one (ps_ret (pe_tup (pa_cons (pv 2) (pa_cons (pv 3) (pa_cons (pv 5) pa_nil))))))) pss_nil))) pss_nil)
      (pss_cons (ps_set (i := 6) scPlace.nd rfl (Or.inl rfl) (pe_ix ix_list (pe_ix ix_tup (pv 1) pe_int (fun _ _ => rfl)) (pe_call G1 hr (by rfl) D1.at_ D1.kp D1.b .nil pass0 (pa_cons (pv 0) (pa_cons (pe_callB cr_lenS (by rfl) mL (by decide +kernel) (pa_cons (pe_ix ix_tup (pv 1) pe_int (fun _ _ => rfl)) pa_nil)) pa_nil))) (fun _ _ => rfl)))
      (pss_one (ps_ret (pe_tup (pa_cons (pv 6) (pa_cons (pv 6) (pa_cons pe_int pa_nil))))))), ?_⟩
    have ne := wok.ne
    have few := wok.few
    -- somebody's
    have last : ∀ (u2 u3 u4 u5 : Option V) (H' : Hp), SameO a H H' → SpringAt H' a →
        (tSeq (tAsg (tOp (rIxL K) (tOp (rIxT K) (tVar 1) (tC (.int 0))) (tCall spSDraw [] E0 (tCons (tVar 0) (tCons (tCB (rLenS K) (tCons (tOp (rIxT K) (tVar 1) (tC (.int 0))) tNil)) tNil)))) (gName 6)) (tRet (tTup (tCons (tVar 6) (tCons (tVar 6) (tCons (tC (.int 0)) tNil))))))
          { nx := fun _ H' => Q .non H', rt := Q } [some (.ref a), some (.ref T), u2, u3, u4, u5, none] H' := by
      intro u2 u3 u4 u5 H' so sp'
      obtain ⟨F', W, ws, hT, hF, hW, hI, n1, n2, n3⟩ := (hw.so sp so ne).apartS sp' ne
      have lV : (names.map V.str).length = names.length := List.length_map ..
      have lp := List.length_pos_iff.mpr ne
      have m60 := wok.most
      refine ⟨_, rfl, T, _, 0, _, rfl, rfl, SqT.of hT, atI_nat (j := 0) rfl, _, rfl, _, rfl, T, _, 0, _, rfl, rfl, SqT.of hT, atI_nat (j := 0) rfl, F', _, rfl, .inl (SqL.of hF), a, _, rfl, sp', by rw [lV]; omega, by rw [lV]; omega, fun r H4 rl so4 sp4 => ?_⟩
      rw [lV] at rl
      have lt : r < names.length := by omega
      refine ⟨F', _, _, _, rfl, rfl, SqL.of (so4 _ _ n2 hF), atI_nat (str_at lt), ?_⟩
      refine ⟨_, rfl, _, rfl, by show 3 ≤ sizeLine; decide, fun y ny => ?_⟩
      exact q _ (names[r], names[r], 0) _ (sameO_new (so.trans so4) (sp4.free (so.trans so4) ny)) (sp4.new ny) (way_im upd_same) (.inl ⟨rfl, List.getElem_mem lt, rfl⟩)
    obtain ⟨F', W, ws, hT, hF, hW, hI, n1, n2, n3⟩ := hw.apartS sp ne
    have lw := hI.length
    rw [List.length_map] at lw
    refine ⟨_, rfl, T, _, 1, _, rfl, rfl, SqT.of hT, atI_nat (j := 1) rfl, Nat.zero_le _, fun l nl => ?_⟩
    have s1 : Same H (upd H l (.lst [])) := same_new nl
    refine ⟨_, _, .lst (SqL.of (s1 _ _ hW)) (hI.on (TS.same s1)).dp, .lst (SqL.of upd_same) .nil, shaped_ways wok, shaped_nil, _, rfl, ?_⟩
    rw [eqv_row_nil]
    cases hways : ways with
    | nil => exact iteF (last _ _ _ _ _ (SameO.of s1) (sp.new nl))
    | cons y0 r0 =>
      have lpos : 1 ≤ ways.length := by rw [hways]; simp
      refine iteT ⟨_, rfl, a, _, rfl, sp.new nl, by decide, by decide, fun r H4 rl so4 sp4 => ⟨_, _, rfl, rfl, _, rfl, ?_⟩⟩
      have soA : SameO a H H4 := (SameO.of s1).trans so4
      by_cases rp : (0 : Int) < (r : Int)
      · rw [decide_eq_true rp]
        refine iteT ?_
        have hT4 := soA _ _ n1 hT
        have hW4 := soA _ _ n3 hW
        refine ⟨_, rfl, T, _, 1, _, rfl, rfl, SqT.of hT4, atI_nat (j := 1) rfl, _, rfl, _, rfl, T, _, 1, _, rfl, rfl, SqT.of hT4, atI_nat (j := 1) rfl, W, _, rfl, .inl (SqL.of hW4), a, _, rfl, sp4, by omega, by omega, fun r5 H5 r5l so5 sp5 => ?_⟩
        have soB := soA.trans so5
        have lt : r5 < ways.length := by omega
        obtain ⟨b, eb, hb⟩ := way_at (hI.on (sp.ts soB)) lt
        refine ⟨W, _, _, _, rfl, rfl, SqL.of (so5 _ _ n3 hW4), atI_nat eb, b, _, rfl, SqT.of hb, rfl, _, _, rfl, _, _, rfl, _, _, rfl, rfl, ?_⟩
        have hy := List.getElem_mem lt
        have k := wok.way _ hy
        generalize ways[r5] = y at hb hy k
        refine ⟨_, rfl, _, _, rfl, rfl, _, rfl, ?_⟩
        by_cases b1 : 1 < y.2.2
        · rw [decide_eq_true b1]
          refine iteT ?_
          refine ⟨_, rfl, _, rfl, _, _, rfl, rfl, a, _, rfl, sp5, by omega, by omega, fun r6 H6 r6l so6 sp6 => ⟨_, _, rfl, rfl, ?_⟩⟩
          refine ⟨_, rfl, _, _, rfl, rfl, _, rfl, _, _, rfl, rfl, ⟨by decide, by decide⟩, by show 4 ≤ sizeLine; decide, fun z nz => ?_⟩
          have sp7 := sp6.new (o := .lst [.int (1 + (r6 : Int)), .int 1, .int (y.2.2 - 1), .int (y.2.2 / 2)]) nz
          refine ⟨_, rfl, a, _, rfl, sp7, by decide, by decide, fun r7 H7 r7l so7 sp7 => ?_⟩
          obtain ⟨v, ev, cv⟩ := pick4 (x := 1 + (r6 : Int)) (y := 1) (z := y.2.2 - 1) (u := y.2.2 / 2) (r := r7) (by omega)
          have vb : 1 ≤ v ∧ v < y.2.2 := by omega
          refine ⟨z, _, _, _, rfl, rfl, SqL.of (so7 _ _ (sp6.ne nz) upd_same), atI_nat ev, ?_⟩
          refine ⟨_, rfl, _, rfl, _, rfl, by show 3 ≤ sizeLine; decide, fun t nt => ?_⟩
          have soC : SameO a H H7 := ((soB.trans so6).trans (SameO.of (same_new nz))).trans so7
          exact q _ (y.1, y.2.1, v) _ (sameO_new soC (sp7.free soC nt)) (sp7.new nt) (way_im upd_same) (.inr ⟨y, hy, rfl, rfl, vb.1, vb.2⟩)
        · rw [decide_eq_false b1]
          exact iteF (last _ _ _ _ _ soB sp5)
      · rw [decide_eq_false rp]
        exact iteF (last _ _ _ _ _ soA sp4)
end
end Cry
/-! The law's draws: who is gone by; the beats of a walk. -/
namespace Cry
open PySem PySem.Spec PyProof.Rows L2
def pairS (x y : Str) : PyData := .tuple [.str x, .str y]
theorem shaped_pair {x y : Str} (h1 : nameOkS x = true) (h2 : nameOkS y = true) : SeqAt.shaped (pairS x y) = true := by
  unfold SeqAt.shaped pairS
  simp [PyData.canLay0, PyData.canLayAll0, name_strOk h1, name_strOk h2, PyData.depth, PyData.depthAll]
theorem eqv_pairS (a b x y : Str) : PyData.eqv (pairS a b) (pairS x y) = (decide (a = x) && decide (b = y)) := by
  show PyData.eqv (.tuple [.str a, .str b]) (.tuple [.str x, .str y]) = _
  simp only [PyData.eqv, PyData.eqvAll, beq_str, Bool.and_true]
/-- a constant is stored -/
theorem asg_c {v : V} {i : Nat} {u : L2.TS} {D : Ends} {σ : Slots} {H : Hp} (h : u D (σ.set i (some v)) H) : tSeq (tAsg (tC v) (gName i)) u D σ H := h
theorem seq_o {t u : L2.TS} {D : Ends} {σ : Slots} {H : Hp} (h : t { D with nx := u D } σ H) : tSeq t u D σ H := h
/-- the beats of the ways of these two, as they stand -/
def beatsOf (ways : List Way) (x y : Str) : List Int := (ways.filter fun z => decide (z.1 = x) && decide (z.2.1 = y)).map fun z => z.2.2
section
variable {K : PySem.W.Frag}
theorem lc_pairs {H1 : Hp} {W : Addr} {ws : List V} {names : List Str} {ways : List Way} (wok : WebOk names ways) (hW : H1 W = some (.lst ws)) (im : Ims H1 ws (ways.map wayD3)) {x y : Str} (ox : nameOkS x = true) (oy : nameOkS y = true)
    {σ : Slots} {j : Nat} {tp : TE} (hj : ∀ v, ((wipe σ [j]).set j (some v))[j]? = some (some v)) (hwp : ∀ v, wipe ((wipe σ [j]).set j (some v)) [j] = wipe σ [j])
    (hp : ∀ v H' (Q' : VK), Same H1 H' → (∀ u H2, Same H' H2 → Dp K H2 u (pairS x y) → Q' u H2) → tp ((wipe σ [j]).set j (some v)) H' Q')
    {D : Addr} (nD : H1 D = none) {Qd : Hp → Prop} (hd : ∀ H2, Same H1 H2 → H2 D = some (.lst ((beatsOf ways x y).map V.int)) → Qd H2) :
    ∃ Wf : Nat → Nat → Hp → Prop, (∃ m, Wf 0 m (upd H1 D (.lst []))) ∧ ∀ i m H, Wf i m H → ((Itl K W).stop i H ∧ Qd H) ∨
      ((Itl K W).go i H ∧ ∃ Nx : Hp → Prop, (∀ H', Nx H' → ∃ m', m' < m ∧ Wf (i + 1) m' H') ∧ ∀ v H', (Itl K W).yld i H v H' → gName j v (wipe σ [j]) H' fun σ2 H2 => wipe σ2 [j] = wipe σ [j] ∧
        tTest (tOp (rEqD K) (tSl (rSlT K) (tVar j) tNoPart (tPart (tC (.int 2)))) tp) σ2 H2 fun b H3 => if b = true then tOp (rIxT K) (tVar j) (tC (.int 2)) σ2 H3 fun y H4 => ∃ acc, H4 D = some (.lst acc) ∧ acc.length < sizeLine ∧ Nx (upd H4 D (.lst (acc ++ [y]))) else Nx H3) := by
  have lw := im.length
  rw [List.length_map] at lw
  have few := wok.few
  have dW : Way := ("", "", 0)
  refine lc_sift (walk_list (K := K) (a := W) (xs := ws)) (fun i => decide (((ways[i]?).getD ("", "", 0)).1 = x) && decide (((ways[i]?).getD ("", "", 0)).2.1 = y)) (fun i => .int ((ways[i]?).getD ("", "", 0)).2.2) (by rw [lw]; exact Nat.le_trans few (by decide)) nD
    (fun H2 s2 => s2.seq (SqL.of hW)) yAt_same (fun i v H2 H3 Z N hi s2 hy k1 k2 => ?_) fun H2 s2 h2 => hd H2 s2 ?_
  · obtain ⟨rfl, ev⟩ := hy
    have lt : i < ways.length := by omega
    obtain ⟨b, eb, hb⟩ := way_at (im.on (TS.same s2)) lt
    rw [ev] at eb
    cases eb
    have k := wok.way _ (List.getElem_mem lt)
    rw [List.getElem?_eq_getElem lt] at k1 k2
    generalize ways[i] = z at hb k k1 k2
    refine ⟨hwp _, _, hj _, 2, rfl, b, _, rfl, SqT.of hb, (by show ¬ (HT.sIx 3 0 none = 0 ∧ HT.sIx 3 3 (some 2) = 3); decide), fun p np => ?_⟩
    have s3 : Same H3 (upd H3 p (.tup (cutV [.str z.1, .str z.2.1, .int z.2.2] none (some 2)))) := same_new np
    refine hp _ _ _ (s2.trans s3) fun u H4 s4 hu => ?_
    have hp4 : H4 p = some (.tup [.str z.1, .str z.2.1]) := s4 _ _ upd_same
    refine ⟨pairS z.1 z.2.1, pairS x y, .tup (SqT.of hp4) (.cons (.str _) (.cons (.str _) .nil)), hu, shaped_pair k.1 k.2.1, shaped_pair ox oy, _, rfl, ?_⟩
    rw [eqv_pairS]
    have s34 := s3.trans s4
    cases e : decide (z.1 = x) && decide (z.2.1 = y) with
    | true => exact iteT ⟨_, hj _, b, _, 2, _, rfl, rfl, SqT.of (s34 _ _ hb), atI_nat (j := 2) rfl, k1 e H4 s34⟩
    | false => exact iteF (k2 e H4 s34)
  · rw [h2, lw]
    have e := filter_range_map ways (fun z => decide (z.1 = x) && decide (z.2.1 = y)) (fun z => V.int z.2.2) ("", "", 0)
    rw [e]
    unfold beatsOf
    rw [List.map_map]
    rfl
end
section
variable {P : Program} {w : World} {K : PySem.W.Frag} {mg : Str → Option Value} {base : Heap}
theorem SpringAt.ne0 {H : Hp} {a S : Addr} {xs : List Str} (h : SpringAt H a) (hS : H S = some (.lst (xs.map V.str))) (he : xs ≠ [] := by first | assumption | simp_all) : S ≠ a := by
  obtain ⟨fig, stir, cnt, ha, _⟩ := h
  rintro rfl
  rw [ha] at hS
  cases xs with
  | nil => exact he rfl
  | cons x r => cases hS
/-! ### the beats of a walk -/
theorem minS_ok {x y : Str} (h1 : nameOkS x = true) (h2 : nameOkS y = true) : nameOkS (minS x y) = true ∧ nameOkS (maxS x y) = true := by
  unfold minS maxS
  constructor <;> split <;> assumption
abbrev nSum : List Str := ["land", "walk", "total", "one", "other", "pair", "way"]
theorem scSum : FnScope nSum ["land", "walk"] (defScope sLSum) := ⟨rfl, rfl, rfl, by decide +kernel, rfl, by decide +kernel, by decide +kernel⟩
def spSum : Sp := fun vs H Q _ => ∃ (T l : Addr) (names : List Str) (ways : List Way) (walk : List Str), vs = [.ref T, .ref l] ∧ WebAt H T names ways ∧ WebOk names ways ∧ H l = some (.lst (walk.map V.str)) ∧ (∀ x ∈ walk, nameOkS x = true) ∧
  ∀ (t : Int) (H' : Hp), Same H H' → 0 ≤ t → Q (.int t) H'
theorem beats_nonneg {names : List Str} {ways : List Way} (wok : WebOk names ways) (x y : Str) : 0 ≤ (beatsOf ways x y).sum := by
  have : ∀ zs : List Int, (∀ z ∈ zs, 0 ≤ z) → 0 ≤ zs.sum := by
    intro zs
    induction zs with
    | nil => exact fun _ => Int.le_refl 0
    | cons z zs ih =>
      intro h
      rw [List.sum_cons]
      have h1 := h z List.mem_cons_self
      have h2 := ih fun u hu => h u (List.mem_cons_of_mem _ hu)
      omega
  refine this _ fun z hz => ?_
  obtain ⟨u, hu, rfl⟩ := List.mem_map.mp hz
  have := (wok.way u (List.mem_filter.mp hu).1).2.2.1
  omega
theorem ok_sum {f : Addr} {fd : FuncData} (F : Fun K "_law_sum" "_law_sum" sLSum f fd) (mZ : mg "zip" = none) (mMin : mg "min" = none) (mMax : mg "max" = none) (mS : mg "sum" = none) : FnOk P w K mg base CX0 1 f fd ["land", "walk"] spSum := by
  refine F.ok scSum (fun vs H Q E h => ?_) (fun cdv A outer s H vs Q E hr h => ?_)
  · obtain ⟨T, l, names, ways, walk, rfl, _⟩ := h
    rfl
  · obtain ⟨T, l, names, ways, walk, rfl, hw, wok, hl, okw, q⟩ := h
    refine ⟨_, pss_cons (ps_set (i := 2) scSum.nd rfl (Or.inl rfl) pe_int)
      (pss_cons (ps_for PassesOwn.never rfl (RZ.pi_zipA (by rfl) mZ (pa_cons (pv 1) (pa_cons (pe_slice (sl_list.or sl_tup) (pv 1) (po_some pe_int) po_none) pa_nil))) (pg_tup rfl (pgs_cons (pg_name (i := 3) scSum.nd rfl (Or.inl rfl)) (pgs_cons (pg_name (i := 4) scSum.nd rfl (Or.inl rfl)) pgs_nil)))
        (pss_cons (ps_set (i := 5) scSum.nd rfl (Or.inr rfl) (pe_tup (pa_cons (pe_callB (cr_minS rfl) (by rfl) mMin (by decide +kernel) (pa_cons (pv 3) (pa_cons (pv 4) pa_nil))) (pa_cons (pe_callB (cr_maxS rfl) (by rfl) mMax (by decide +kernel) (pa_cons (pv 3) (pa_cons (pv 4) pa_nil))) pa_nil))))
        (pss_one (ps_set (i := 2) scSum.nd rfl (Or.inl rfl) (pe_op op_add (pv 2) (pe_callB (cr_sum rfl) (by rfl) mS (by decide +kernel) (pa_cons (pe_lc (own := [("way", 6)]) (g := gName 6)
            (tt := tTest (tOp (rEqD K) (tSl (rSlT K) (tVar 6) tNoPart (tPart (tC (.int 2)))) (tVar 5))) (te := tOp (rIxT K) (tVar 6) (tC (.int 2))) rfl scSum.nd (pi_list (pe_ix ix_tup (pv 0) pe_int (fun _ _ => rfl))) (blkOk_by (N := nSum) (sc := defScope sLSum) (by decide +kernel))
            (fun _ _ _ _ _ => pg_name (i := 6) scSum.nd rfl (Or.inl rfl)) (fun _ _ _ _ _ => pts_one (pt_cmpR (op_eqD hr.units) (pe_slice sl_tup (pv 6) po_none (po_some pe_int)) (pv 5) (nomark _)))
            (fun _ _ _ _ _ => pe_ix ix_tup (pv 6) pe_int (fun _ _ => rfl))) pa_nil)))))))
      (pss_one (ps_ret (pv 2)))), ?_⟩
    refine asg_c (seq_o ?_)
    unfold tFor
    refine zip_tail (K := K) (i := 1) (a := l) (xs := walk.map V.str) ?_ (.inl (SqL.of hl)) ?_
    · rfl
    intro J H1 s1 wk
    have lV : (walk.map V.str).length = walk.length := List.length_map ..
    refine for_it wk (fun i σ H2 => Same H1 H2 ∧ ∃ (t : Int) (u3 u4 u5 : Option V), σ = [some (.ref T), some (.ref l), some (.int t), u3, u4, u5, none] ∧ 0 ≤ t) ⟨Same.refl _, 0, none, none, none, rfl, Int.le_refl 0⟩ (fun i σ H2 _ gd => gd.1) ?_ ?_
    · rintro i v σ H2 H3 hi ⟨s2, t, u3, u4, u5, rfl, t0⟩ ⟨Tp, u, v', rfl, nT, rfl, eu, ev⟩
      rw [lV] at hi
      have e1 : (walk.map V.str)[i]? = some (.str walk[i]) := str_at (by omega)
      have e2 : (walk.map V.str)[i + 1]? = some (.str walk[i + 1]) := str_at (by omega)
      dsimp only at eu ev
      rw [e1] at eu
      rw [e2] at ev
      cases eu
      cases ev
      have o1 := okw _ (List.getElem_mem (show i < walk.length by omega))
      have o2 := okw _ (List.getElem_mem (show i + 1 < walk.length by omega))
      generalize walk[i] = x at o1 ⊢
      generalize walk[i + 1] = y at o2 ⊢
      have s3 : Same H2 (upd H2 Tp (.tup [.str x, .str y])) := same_new nT
      obtain ⟨om, ox⟩ := minS_ok o1 o2
      refine ⟨Tp, _, rfl, SqT.of upd_same, rfl, _, _, rfl, _, _, rfl, rfl, ?_⟩
      refine ⟨_, rfl, _, rfl, x, y, rfl, _, rfl, _, rfl, x, y, rfl, by show 2 ≤ sizeLine; decide, fun p np => ?_⟩
      have s4 := s3.trans (same_new (o := .tup [.str (minS x y), .str (maxS x y)]) np)
      obtain ⟨F', W, ws, hT, hF, hW, hI⟩ := hw.on ((s1.trans s2).trans s4)
      refine ⟨_, rfl, _, rfl, T, _, 1, _, rfl, rfl, SqT.of hT, atI_nat (j := 1) rfl, W, rfl, ⟨_, SqL.of hW⟩, fun D nD => ?_⟩
      refine lc_pairs wok hW hI om ox (fun _ => rfl) (fun _ => rfl) (fun v H' Q' s' k => ⟨_, rfl, k _ _ (Same.refl _) (.tup (SqT.of (s' _ _ upd_same)) (.cons (.str _) (.cons (.str _) .nil)))⟩) nD fun H5 s5 h5 => ?_
      exact ⟨D, _, rfl, SqL.of h5, _, _, rfl, rfl, (s2.trans s4).trans s5, _, _, _, _, rfl, by have := beats_nonneg wok (minS x y) (maxS x y); omega⟩
    · rintro σ H2 ⟨s2, t, u3, u4, u5, rfl, t0⟩
      exact ⟨_, rfl, q t H2 (s1.trans s2) t0⟩
/-! ### a walk gone by draws -/
abbrev nGone : List Str := ["spring", "land", "begin", "found", "turn", "some", "way"]
theorem scGone : FnScope nGone ["spring", "land", "begin"] (defScope sLGone) := ⟨rfl, rfl, rfl, by decide +kernel, rfl, by decide +kernel, by decide +kernel⟩
structure WalkOk (names walk : List Str) : Prop where
  ne : walk ≠ []
  mem : ∀ x ∈ walk, x ∈ names
  few : walk.length ≤ 301
def spGone : Sp := fun vs H Q _ => ∃ (a T : Addr) (names : List Str) (ways : List Way) (b : Str), vs = [.ref a, .ref T, .str b] ∧ SpringAt H a ∧ WebAt H T names ways ∧ WebOk names ways ∧ b ∈ names ∧
  ∀ (l : Addr) (walk : List Str) (H' : Hp), H l = none → SameO a H H' → SpringAt H' a → H' l = some (.lst (walk.map V.str)) → WalkOk names walk → Q (.ref l) H'
theorem ok_gone {f f1 : Addr} {fd fd1 : FuncData} (F : Fun K "_law_gone" "_law_gone" sLGone f fd) (mL : mg "len" = none) (mR : mg "range" = none) (D1 : Def K mg "_law_draw" f1 fd1 ["spring", "many"]) (G1 : FnOk P w K mg base CX0 1 f1 fd1 ["spring", "many"] spSDraw) : FnOk P w K mg base CX0 2 f fd ["spring", "land", "begin"] spGone := by
  refine F.ok scGone (fun vs H Q E h => ?_) (fun cdv A outer s H vs Q E hr h => ?_)
  · obtain ⟨a, T, names, ways, b, rfl, _⟩ := h
    rfl
  · obtain ⟨a, T, names, ways, b, rfl, sp, hw, wok, hb, q⟩ := h
    refine ⟨_, pss_cons (ps_set (i := 3) scGone.nd rfl (Or.inr rfl) (pe_lst (pa_cons (pv 2) pa_nil)))
      (pss_cons (ps_for PassesOwn.never rfl (pi_range1 (by rfl) mR (pa_cons (pe_call G1 hr (by rfl) D1.at_ D1.kp D1.b .nil pass0 (pa_cons (pv 0) (pa_cons (pe_ix ix_list (pe_lst (pa_cons pe_int (pa_cons pe_int (pa_cons pe_int (pa_cons pe_int pa_nil)))))
            (pe_call G1 hr (by rfl) D1.at_ D1.kp D1.b .nil pass0 (pa_cons (pv 0) (pa_cons pe_int pa_nil))) (fun _ _ => rfl)) pa_nil))) pa_nil)) (pg_name (i := 4) scGone.nd rfl (Or.inl rfl))
        (pss_cons (ps_setLc (i := 5) (own := [("way", 6)]) (g := gName 6) (tt := tTest (tOp rEq (tOp (rIxT K) (tVar 6) (tC (.int 0))) (tOp (rIxL K) (tVar 3) (tUn (rU fun i => .int (-i)) (tC (.int 1)))))) (te := tOp (rIxT K) (tVar 6) (tC (.int 1))) (by rfl) scGone.nd rfl rfl (sw_true rfl rfl rfl (by decide +kernel))
            (pi_list (pe_ix ix_tup (pv 1) pe_int (fun _ _ => rfl))) (blkOk_by (N := nGone) (sc := defScope sLGone) (by decide +kernel)) (fun _ _ _ _ _ => pg_name (i := 6) scGone.nd rfl (Or.inl rfl))
            (fun _ _ _ _ _ => pts_one (pt_cmpR op_eq (pe_ix ix_tup (pv 6) pe_int (fun _ _ => rfl)) (pe_ix ix_list (pv 3) (pe_un un_neg pe_int) (fun _ _ => rfl)) (nomark _))) (fun _ _ _ _ _ => pe_ix ix_tup (pv 6) pe_int (fun _ _ => rfl)))
        (pss_cons (ps_set (i := 5) scGone.nd rfl (Or.inl rfl) (pe_op op_cat (pv 5) (pe_lc (own := [("way", 6)]) (g := gName 6) (tt := tTest (tOp rEq (tOp (rIxT K) (tVar 6) (tC (.int 1))) (tOp (rIxL K) (tVar 3) (tUn (rU fun i => .int (-i)) (tC (.int 1)))))) (te := tOp (rIxT K) (tVar 6) (tC (.int 0))) rfl scGone.nd
            (pi_list (pe_ix ix_tup (pv 1) pe_int (fun _ _ => rfl))) (blkOk_by (N := nGone) (sc := defScope sLGone) (by decide +kernel)) (fun _ _ _ _ _ => pg_name (i := 6) scGone.nd rfl (Or.inl rfl))
            (fun _ _ _ _ _ => pts_one (pt_cmpR op_eq (pe_ix ix_tup (pv 6) pe_int (fun _ _ => rfl)) (pe_ix ix_list (pv 3) (pe_un un_neg pe_int) (fun _ _ => rfl)) (nomark _))) (fun _ _ _ _ _ => pe_ix ix_tup (pv 6) pe_int (fun _ _ => rfl)))))
        (pss_one (ps_if (pt_cmpR (op_neD hr.units) (pv 5) (pe_lst pa_nil) (nomark _)) (pss_one (ps_expr (pe_bm PySem.F.plainAttrs_list PySem.F.slot_list_append PySem.F.type_list_append mt_append (pv 3) (pa_cons
            (pe_ix ix_list (pv 5) (pe_call G1 hr (by rfl) D1.at_ D1.kp D1.b .nil pass0 (pa_cons (pv 0) (pa_cons (pe_callB cr_lenS (by rfl) mL (by decide +kernel) (pa_cons (pv 5) pa_nil)) pa_nil))) (fun _ _ => rfl)) pa_nil)))) pss_nil)))))
      (pss_one (ps_ret (pv 3)))), ?_⟩
    have ne := wok.ne
    have few := wok.few
    refine ⟨_, rfl, by show 1 ≤ sizeLine; decide, fun l nl => ?_⟩
    have nla := sp.ne nl
    have s1 : Same H (upd H l (.lst [.str b])) := same_new nl
    have sp1 := sp.new (o := .lst [.str b]) nl
    refine ⟨_, rfl, by show 4 ≤ sizeLine; decide, fun z nz => ?_⟩
    have s2 := s1.trans (same_new (o := .lst [.int 2, .int 12, .int 12, .int 300]) nz)
    have sp2 := sp1.new (o := .lst [.int 2, .int 12, .int 12, .int 300]) nz
    have nlz : l ≠ z := by
      rintro rfl
      rw [upd_same] at nz
      cases nz
    refine ⟨_, rfl, a, _, rfl, sp2, by decide, by decide, fun r H3 rl so3 sp3 => ?_⟩
    obtain ⟨v, ev, cv⟩ := pick4 (x := 2) (y := 12) (z := 12) (u := 300) (r := r) (by omega)
    refine ⟨z, _, _, _, rfl, rfl, SqL.of (so3 _ _ (sp1.ne nz) upd_same), atI_nat ev, a, v, rfl, sp3, by omega, by omega, fun t H4 tl so4 sp4 => ?_⟩
    have so14 : SameO a H H4 := ((SameO.of s2).trans so3).trans so4
    have hl4 : H4 l = some (.lst ([b].map V.str)) := so4 _ _ nla (so3 _ _ nla (same_new nz _ _ upd_same))
    refine ⟨(t : Int), rfl, by omega, by omega, ?_⟩
    rw [show ((t : Int)).toNat = t from by omega]
    have t300 : t ≤ 300 := by omega
    refine for_it (walk_range (lo := 0) (n := t)) (fun i σ H2 => SameO a H H2 ∧ SpringAt H2 a ∧ ∃ (walk : List Str) (u4 u5 : Option V), σ = [some (.ref a), some (.ref T), some (.str b), some (.ref l), u4, u5, none] ∧ H2 l = some (.lst (walk.map V.str)) ∧ walk ≠ [] ∧ (∀ x ∈ walk, x ∈ names) ∧ walk.length ≤ 1 + i)
      ⟨so14, sp4, [b], none, none, rfl, hl4, by simp, fun x hx => by rw [List.mem_singleton.mp hx]; exact hb, by simp⟩ (fun _ _ _ _ _ => True.intro) ?_ ?_
    · rintro i x σ H5 H6 hi ⟨so5, sp5, walk, u4, u5, rfl, hl5, nw, mw, lw⟩ ⟨rfl, rfl⟩
      have lastv : atI (walk.map V.str) (-1) = some (.str (walk.getLast nw)) := by
        rw [atI_end (xs := walk.map V.str) (by simpa using nw), List.getLast_map]
      generalize walk.getLast nw = lst at lastv
      obtain ⟨F', W, ws, hT, hF, hW, hI, n1, n2, n3⟩ := (hw.so sp so5 ne).apartS sp5 ne
      have lws := hI.length
      rw [List.length_map] at lws
      -- the comprehensions
      refine ⟨_, rfl, T, _, 1, _, rfl, rfl, SqT.of hT, atI_nat (j := 1) rfl, W, rfl, ⟨_, SqL.of hW⟩, fun D nD => ?_⟩
      refine lc_sift (walk_list (K := K) (a := W) (xs := ws)) (fun j => decide (((ways[j]?).getD ("", "", 0)).1 = lst)) (fun j => .str ((ways[j]?).getD ("", "", 0)).2.1) (by rw [lws]; exact Nat.le_trans few (by decide)) nD
        (fun H7 s7 => s7.seq (SqL.of hW)) yAt_same (fun j v H7 H8 Z N hj s7 hy k1 k2 => ?_) fun H7 s7 h7 => ?_
      · obtain ⟨rfl, ev⟩ := hy
        have lt : j < ways.length := by omega
        obtain ⟨c, ec, hc⟩ := way_at (hI.on (TS.same s7)) lt
        rw [ev] at ec
        cases ec
        rw [List.getElem?_eq_getElem lt] at k1 k2
        generalize ways[j] = y at hc k1 k2
        refine ⟨rfl, _, rfl, c, _, 0, _, rfl, rfl, SqT.of hc, atI_nat (j := 0) rfl, _, rfl, 1, rfl, l, _, _, _, rfl, rfl, SqL.of (s7 _ _ hl5), lastv, rfl, _, rfl, ?_⟩
        rw [dec_str]
        by_cases e : y.1 = lst
        · rw [decide_eq_true e]
          exact iteT ⟨_, rfl, c, _, 1, _, rfl, rfl, SqT.of hc, atI_nat (j := 1) rfl, k1 (decide_eq_true e) _ (Same.refl _)⟩
        · rw [decide_eq_false e]
          exact iteF (k2 (decide_eq_false e) _ (Same.refl _))
      · have hW7 := s7 _ _ hW
        have hI7 := hI.on (TS.same s7)
        refine ⟨_, rfl, _, rfl, T, _, 1, _, rfl, rfl, SqT.of (s7 _ _ hT), atI_nat (j := 1) rfl, W, rfl, ⟨_, SqL.of hW7⟩, fun D2 nD2 => ?_⟩
        refine lc_sift (walk_list (K := K) (a := W) (xs := ws)) (fun j => decide (((ways[j]?).getD ("", "", 0)).2.1 = lst)) (fun j => .str ((ways[j]?).getD ("", "", 0)).1) (by rw [lws]; exact Nat.le_trans few (by decide)) nD2
          (fun H8 s8 => s8.seq (SqL.of hW7)) yAt_same (fun j v H8 H9 Z N hj s8 hy k1 k2 => ?_) fun H8 s8 h8 => ?_
        · obtain ⟨rfl, ev⟩ := hy
          have lt : j < ways.length := by omega
          obtain ⟨c, ec, hc⟩ := way_at (hI7.on (TS.same s8)) lt
          rw [ev] at ec
          cases ec
          rw [List.getElem?_eq_getElem lt] at k1 k2
          generalize ways[j] = y at hc k1 k2
          refine ⟨rfl, _, rfl, c, _, 1, _, rfl, rfl, SqT.of hc, atI_nat (j := 1) rfl, _, rfl, 1, rfl, l, _, _, _, rfl, rfl, SqL.of (s8 _ _ (s7 _ _ hl5)), lastv, rfl, _, rfl, ?_⟩
          rw [dec_str]
          by_cases e : y.2.1 = lst
          · rw [decide_eq_true e]
            exact iteT ⟨_, rfl, c, _, 0, _, rfl, rfl, SqT.of hc, atI_nat (j := 0) rfl, k1 (decide_eq_true e) _ (Same.refl _)⟩
          · rw [decide_eq_false e]
            exact iteF (k2 (decide_eq_false e) _ (Same.refl _))
        · -- some
          have e1 := filter_range_map ways (fun z => decide (z.1 = lst)) (fun z => V.str z.2.1) ("", "", 0)
          have e2 := filter_range_map ways (fun z => decide (z.2.1 = lst)) (fun z => V.str z.1) ("", "", 0)
          rw [lws, e1] at h7
          rw [lws, e2] at h8
          have l1 : (ways.filter fun z => decide (z.1 = lst)).length ≤ 150 := Nat.le_trans (List.length_filter_le _ _) few
          have l2 : (ways.filter fun z => decide (z.2.1 = lst)).length ≤ 150 := Nat.le_trans (List.length_filter_le _ _) few
          refine ⟨D, D2, _, _, rfl, rfl, s8 _ _ h7, h8, ?_, fun S nS => ?_⟩
          · rw [List.length_map, List.length_map]
            exact Nat.le_trans (show _ ≤ 300 by omega) (by decide)
          · obtain ⟨cand, hcand, okc⟩ : ∃ cand : List Str, ((ways.filter fun z => decide (z.1 = lst)).map (fun z => V.str z.2.1) ++ (ways.filter fun z => decide (z.2.1 = lst)).map (fun z => V.str z.1)) = cand.map V.str ∧ ∀ x ∈ cand, x ∈ names := by
              refine ⟨(ways.filter fun z => decide (z.1 = lst)).map (fun z => z.2.1) ++ (ways.filter fun z => decide (z.2.1 = lst)).map (fun z => z.1), ?_, fun x hx => ?_⟩
              · rw [List.map_append, List.map_map, List.map_map]
                rfl
              · rcases List.mem_append.mp hx with h | h
                · obtain ⟨y, hy, rfl⟩ := List.mem_map.mp h
                  exact inNames_mem.mp (wok.way y (List.mem_filter.mp hy).1).2.2.2.2.2.1
                · obtain ⟨y, hy, rfl⟩ := List.mem_map.mp h
                  exact inNames_mem.mp (wok.way y (List.mem_filter.mp hy).1).2.2.2.2.1
            have lc300 : cand.length ≤ 300 := by
              have := congrArg List.length hcand
              rw [List.length_append, List.length_map, List.length_map, List.length_map] at this
              omega
            rw [hcand]
            have s9 : Same H6 (upd H8 S (.lst (cand.map V.str))) := (s7.trans s8).trans (same_new nS)
            have hS : (upd H8 S (.lst (cand.map V.str))) S = some (.lst (cand.map V.str)) := upd_same
            have sp9 := sp5.on s9
            generalize (upd H8 S (.lst (cand.map V.str))) = H9 at s9 hS sp9
            refine ⟨_, rfl, Nat.zero_le _, fun e0 ne0 => ?_⟩
            have s10 : Same H9 (upd H9 e0 (.lst [])) := same_new ne0
            refine ⟨_, _, strs_dp (s10 _ _ hS), .lst (SqL.of upd_same) .nil, shaped_strs (fun x hx => wok.ok x (okc x hx)) (by omega), shaped_nil, _, rfl, ?_⟩
            rw [eqv_row_nil]
            have soB : SameO a H (upd H9 e0 (.lst [])) := so5.trans (SameO.of (s9.trans s10))
            have sp10 := sp9.new (o := .lst []) ne0
            have hl10 : (upd H9 e0 (.lst [])) l = some (.lst (walk.map V.str)) := s10 _ _ (s9 _ _ hl5)
            cases hcd : cand with
            | nil => exact iteF ⟨soB, sp10, walk, _, _, rfl, hl10, nw, mw, by omega⟩
            | cons c0 cr =>
              have nSa : S ≠ a := sp9.ne0 hS
              have lcV : (cand.map V.str).length = cand.length := List.length_map ..
              have cp : 1 ≤ cand.length := by rw [hcd]; simp
              refine iteT ⟨_, rfl, .inl ⟨rfl, _, SqL.of hl10⟩, _, rfl, _, rfl, _, rfl, S, _, rfl, .inl (SqL.of (s10 _ _ hS)), a, _, rfl, sp10, by rw [lcV]; omega, by rw [lcV]; omega, fun r H11 rl so11 sp11 => ?_⟩
              rw [lcV] at rl
              have lt : r < cand.length := by omega
              have hl11 := so11 _ _ nla hl10
              refine ⟨S, _, _, _, rfl, rfl, SqL.of (so11 _ _ nSa (s10 _ _ hS)), atI_nat (str_at lt), l, _, _, rfl, rfl, hl11, ?_, ?_⟩
              · rw [List.length_map]
                exact Nat.lt_of_lt_of_le (show walk.length < 400 by omega) (by decide)
              · have soC := soB.trans so11
                have nHl : H l = none := nl
                refine ⟨sameO_new soC nHl, sp11.up nla, walk ++ [cand[r]], _, _, rfl, ?_, by simp, fun x hx => ?_, by rw [List.length_append, List.length_singleton]; omega⟩
                · rw [upd_same, List.map_append]
                  rfl
                · rcases List.mem_append.mp hx with h | h
                  · exact mw x h
                  · rw [List.mem_singleton.mp h]
                    exact okc _ (List.getElem_mem lt)
    · rintro σ H5 ⟨so5, sp5, walk, u4, u5, rfl, hl5, nw, mw, lw⟩
      exact ⟨_, rfl, q l walk H5 nl so5 sp5 hl5 ⟨nw, mw, by omega⟩⟩
end
end Cry
/-! The law's own look at a walk: its words, and that they are the program's. -/
namespace Cry
open PySem PySem.Spec PyProof.Rows L2
theorem nexts_get {α β : Type} (g : α → α → β) : ∀ (xs : List α) (i : Nat) (x y : α), xs[i]? = some x → xs[i + 1]? = some y → (nexts g xs)[i]? = some (g x y)
  | [], i, x, y, h, _ => by simp at h
  | [_], i, x, y, _, h => by simp at h
  | a :: b :: r, 0, x, y, h1, h2 => by
    simp at h1 h2
    subst h1
    subst h2
    rfl
  | a :: b :: r, i + 1, x, y, h1, h2 => by
    show (g a b :: nexts g (b :: r))[i + 1]? = _
    rw [List.getElem?_cons_succ]
    exact nexts_get g (b :: r) i x y (by simpa using h1) (by simpa using h2)
/-- the step from the one to the other, None where there is none -/
def stepD (ways : List Way) (d e : PyData) : Option Int :=
  match d, e with
  | .str x, .str y => (beatsOf ways (minS x y) (maxS x y))[0]?
  | _, _ => none
def endOk (n total : Int) : Bool := decide (total ≤ n) && decide ((n - total) % 2 = 0)
def tailD (ways : List Way) (p : Way) (n : Int) (last : Str) (total : Int) : Bool :=
  if p.1 = p.2.1 then decide (last = p.1) && endOk n total
  else if last = p.1 then endOk n (total + p.2.2) else decide (last = p.2.1) && endOk n (total + (((beatsOf ways p.1 p.2.1)[0]?).getD 0 - p.2.2))
def firstIn (lot : List Str) (d : PyData) : Bool := (lot.map PyData.str).any fun z => PyData.eqv z d
def sumSteps (xs : List (Option Int)) : Int := (xs.map fun o => o.getD 0).sum
def dueD (ways : List Way) (lot : List Str) (p : Way) (n : Int) (d : PyData) : Bool :=
  rowD d && decide ((itemsD d).length ≠ 0) && firstIn lot (((itemsD d)[0]?).getD .none) && (nexts (stepD ways) (itemsD d)).all (fun o => o.isSome) && tailD ways p n (textOf ((itemsD d).getLast?.getD .none)) (sumSteps (nexts (stepD ways) (itemsD d)))
/-! ### the same as the program's -/
theorem firstIn_str {lot : List Str} {d : PyData} : firstIn lot d = true ↔ ∃ x ∈ lot, d = .str x := by
  unfold firstIn
  rw [List.any_eq_true]
  constructor
  · rintro ⟨z, hz, e⟩
    obtain ⟨x, hx, rfl⟩ := List.mem_map.mp hz
    refine ⟨x, hx, ?_⟩
    cases d with
    | str y =>
      rw [eqv_str] at e
      rw [of_decide_eq_true e]
    | _ => exact absurd e (by simp [PyData.eqv])
  · rintro ⟨x, hx, rfl⟩
    exact ⟨.str x, List.mem_map.mpr ⟨x, hx, rfl⟩, by rw [eqv_str]; exact decide_eq_true rfl⟩
theorem between_beats (ways : List Way) (x y : Str) : between ways x y = ((beatsOf ways x y)[0]?).getD 0 := by
  unfold between beatsOf
  induction ways with
  | nil => rfl
  | cons z ways ih =>
    rw [List.find?_cons, List.filter_cons]
    cases e : decide (z.1 = x) && decide (z.2.1 = y) with
    | true => rfl
    | false => exact ih
theorem beats_pos {names : List Str} {ways : List Way} (wok : WebOk names ways) {x y : Str} {b : Int} (h : (beatsOf ways x y)[0]? = some b) : 1 ≤ b := by
  obtain ⟨z, hz, rfl⟩ := List.mem_map.mp (List.mem_of_getElem? h)
  exact (wok.way z (List.mem_filter.mp hz).1).2.2.1
theorem getLast_getD_map {α β : Type} (f : α → β) (d : α) (xs : List α) : (xs.map f).getLast?.getD (f d) = f (xs.getLast?.getD d) := by
  rw [List.getLast?_map]
  cases xs.getLast? <;> rfl
theorem last_text (ts : List Str) (ne : ts ≠ []) : textOf ((ts.map PyData.str).getLast?.getD .none) = ts.getLast?.getD "" := by
  rw [List.getLast?_map]
  cases h : ts.getLast? with
  | none => exact absurd (List.getLast?_eq_none_iff.mp h) ne
  | some x => rfl
theorem steps_strs {names : List Str} {ways : List Way} (wok : WebOk names ways) : ∀ ts : List Str, ((nexts (stepD ways) (ts.map PyData.str)).all fun o => o.isSome) = !(inV (.int 0) ((nexts (wayOfTwo ways) ts).map V.int)) ∧
    (((nexts (stepD ways) (ts.map PyData.str)).all fun o => o.isSome) = true → sumSteps (nexts (stepD ways) (ts.map PyData.str)) = (nexts (wayOfTwo ways) ts).sum)
  | [] => ⟨rfl, fun _ => rfl⟩
  | [_] => ⟨rfl, fun _ => rfl⟩
  | x :: y :: r => by
    obtain ⟨ih1, ih2⟩ := steps_strs wok (y :: r)
    have e0 : wayOfTwo ways x y = ((beatsOf ways (minS x y) (maxS x y))[0]?).getD 0 := between_beats _ _ _
    have e1 : nexts (stepD ways) ((x :: y :: r).map PyData.str) = (beatsOf ways (minS x y) (maxS x y))[0]? :: nexts (stepD ways) ((y :: r).map PyData.str) := rfl
    have e2 : nexts (wayOfTwo ways) (x :: y :: r) = wayOfTwo ways x y :: nexts (wayOfTwo ways) (y :: r) := rfl
    rw [e1, e2]
    have e3 : inV (.int 0) ((wayOfTwo ways x y :: nexts (wayOfTwo ways) (y :: r)).map V.int) = (decide (wayOfTwo ways x y = 0) || inV (.int 0) ((nexts (wayOfTwo ways) (y :: r)).map V.int)) := by
      show (eqV (V.int (wayOfTwo ways x y)) (V.int 0) || _) = _
      congr 1
    rw [e3, List.all_cons, ih1]
    have e4 : sumSteps ((beatsOf ways (minS x y) (maxS x y))[0]? :: nexts (stepD ways) ((y :: r).map PyData.str)) = ((beatsOf ways (minS x y) (maxS x y))[0]?).getD 0 + sumSteps (nexts (stepD ways) ((y :: r).map PyData.str)) := by
      unfold sumSteps
      rw [List.map_cons, List.sum_cons]
    rw [e4, List.sum_cons, ← e0]
    cases h : (beatsOf ways (minS x y) (maxS x y))[0]? with
    | none =>
      rw [h] at e0
      have z : wayOfTwo ways x y = 0 := e0
      exact ⟨by rw [decide_eq_true z]; rfl, fun e => absurd e (by simp)⟩
    | some b =>
      rw [h] at e0
      have bp := beats_pos wok h
      have z : wayOfTwo ways x y = b := e0
      refine ⟨by rw [decide_eq_false (show ¬ wayOfTwo ways x y = 0 by omega)]; simp, fun e => ?_⟩
      rw [ih2 (by rw [ih1]; simpa using e)]
theorem steps_bad {ways : List Way} : ∀ (ds : List PyData) (k : Nat) (d : PyData), ds[k + 1]? = some d → (∀ x, d ≠ .str x) → ((nexts (stepD ways) ds).all fun o => o.isSome) = false := by
  intro ds k d h nd
  cases hk : ds[k]? with
  | none =>
    have := List.getElem?_eq_none_iff.mp hk
    have := (List.getElem?_eq_some_iff.mp h).1
    omega
  | some e =>
    have := nexts_get (stepD ways) ds k e d hk h
    have st : stepD ways e d = none := by
      unfold stepD
      cases e <;> cases d <;> first | rfl | skip
      exact absurd rfl (nd _)
    rw [st] at this
    rw [List.all_eq_false]
    exact ⟨none, List.mem_of_getElem? this, by simp⟩
theorem more_tail {names : List Str} {ways : List Way} (wok : WebOk names ways) {p : Way} (hp : PlaceIs names ways p) (n total : Int) (last : Str) :
    (!(moreL ways p last).isEmpty && (decide (total + ((moreL ways p last)[0]?).getD 0 ≤ n) && decide ((n - (total + ((moreL ways p last)[0]?).getD 0)) % 2 = 0))) = tailD ways p n last total := by
  unfold moreL folkBeside tailD
  rw [between_beats]
  rcases hp with ⟨h1, h2, h3⟩ | ⟨y, hy, h1, h2, h3, h4⟩
  · rw [if_pos h3, if_pos h1]
    by_cases e : p.1 = last
    · have e' : last = p.1 := e.symm
      simp [e, endOk]
    · have e' : ¬ last = p.1 := fun z => e z.symm
      simp [e, e']
  · have lt := (wok.way y hy).2.2.2.2.2.2
    have ne : ¬ p.1 = p.2.1 := by
      rw [h1, h2]
      intro z
      unfold ltS at lt
      rw [z] at lt
      exact absurd (of_decide_eq_true lt) (List.lt_irrefl _)
    rw [if_neg (show ¬ p.2.2 = 0 by omega), if_neg ne]
    by_cases e : last = p.1
    · have e' : ¬ p.2.1 = p.1 := fun z => ne z.symm
      subst e
      simp [e', endOk]
    · have e2 : ¬ p.1 = last := fun z => e z.symm
      rw [if_neg e]
      by_cases e3 : last = p.2.1
      · have e4 : p.2.1 = last := e3.symm
        simp [e2, e4, endOk]
      · have e4 : ¬ p.2.1 = last := fun z => e3 z.symm
        simp [e2, e3, e4]
theorem due_walk {names : List Str} {ways : List Way} (wok : WebOk names ways) {lot : List Str} {p : Way} (hp : PlaceIs names ways p) (n : Int) {d : PyData} (okt : ∀ x, .str x ∈ itemsD d → nameOkS x = true) :
    dueD ways lot p n d = walkD ways lot p n d := by
  unfold dueD walkD namesFromD
  cases rowD d with
  | false => rfl
  | true =>
    by_cases l0 : (itemsD d).length = 0
    · rw [decide_eq_false (show ¬ (itemsD d).length ≠ 0 by omega)]
      rfl
    · rw [decide_eq_true (show (itemsD d).length ≠ 0 by omega), Bool.true_and, Bool.true_and, Bool.true_and]
      by_cases al : (itemsD d).all nameD = true
      · -- all of them texts
        obtain ⟨ts, hts⟩ : ∃ ts : List Str, itemsD d = ts.map PyData.str := by
          rw [List.all_eq_true] at al
          refine ⟨(itemsD d).map textOf, ?_⟩
          rw [List.map_map]
          refine (List.map_id _).symm.trans (List.map_congr_left fun e he => ?_)
          have := al e he
          cases e with
          | str x => rfl
          | _ => exact absurd this (by simp [nameD])
        have ens := namesD_strs hts
        rw [al, ens, hts, Bool.true_and]
        have tne : ts ≠ [] := fun e => l0 (by rw [hts, e]; rfl)
        obtain ⟨s1, s2⟩ := steps_strs wok ts
        have f1 : firstIn lot (((ts.map PyData.str)[0]?).getD .none) = inNames ((ts[0]?).getD "") lot := by
          cases ts with
          | nil => exact absurd rfl tne
          | cons x r =>
            show firstIn lot (.str x) = inNames x lot
            by_cases h : x ∈ lot
            · rw [inNames_mem.mpr h, firstIn_str.mpr ⟨x, h, rfl⟩]
            · have a1 : inNames x lot = false := by
                cases z : inNames x lot with
                | false => rfl
                | true => exact absurd (inNames_mem.mp z) h
              have a2 : firstIn lot (.str x) = false := by
                cases z : firstIn lot (.str x) with
                | false => rfl
                | true =>
                  obtain ⟨u, hu, e⟩ := firstIn_str.mp z
                  cases e
                  exact absurd hu h
              rw [a1, a2]
        rw [f1, s1, last_text ts tne]
        cases inNames ((ts[0]?).getD "") lot with
        | false => rfl
        | true =>
          rw [Bool.true_and, Bool.true_and]
          unfold walkL
          cases z : inV (.int 0) ((nexts (wayOfTwo ways) ts).map V.int) with
          | true => rfl
          | false =>
            rw [s2 (by rw [s1, z]; rfl), more_tail wok hp]
      · -- one of them is no text
        have af : (itemsD d).all nameD = false := by
          cases z : (itemsD d).all nameD with
          | false => rfl
          | true => exact absurd z al
        rw [af, Bool.false_and, Bool.false_and]
        rw [List.all_eq_false] at af
        obtain ⟨e, he, ne⟩ := af
        have nstr : ∀ x, e ≠ .str x := fun x hx => ne (by
          subst hx
          exact okt x he)
        obtain ⟨k, hk⟩ := List.getElem?_of_mem he
        cases k with
        | zero =>
          have : firstIn lot (((itemsD d)[0]?).getD .none) = false := by
            rw [hk]
            cases z : firstIn lot ((some e).getD .none) with
            | false => rfl
            | true =>
              obtain ⟨u, _, e2⟩ := firstIn_str.mp z
              exact absurd e2 (nstr u)
          rw [this]
          rfl
        | succ k =>
          rw [steps_bad (ways := ways) _ k e hk nstr]
          simp
end Cry
/-! The law's own look at a walk, as it stands. -/
namespace Cry
open PySem PySem.Spec PyProof.Rows L2
theorem nx_o {D : Ends} {σ : Slots} {H : Hp} (h : D.nx σ H) : tNext D σ H := h
theorem op_notInR {X : Cx} {k : Nat} (hr : Room k X.A) : OpR X (compareOp .NotIn) (rNotInD X.K) := op_notInD (by have := hr.un; omega)
theorem shaped_beats {names : List Str} {ways : List Way} (wok : WebOk names ways) (x y : Str) : SeqAt.shaped (.list ((beatsOf ways x y).map PyData.int)) = true := by
  refine Sm.shaped (Sm.list (B := 41) (k := 0) (C := 10000) (fun e he => ?_) ?_) (by decide)
  · obtain ⟨b, hb, rfl⟩ := List.mem_map.mp he
    obtain ⟨z, hz, rfl⟩ := List.mem_map.mp hb
    have k := wok.way z (List.mem_filter.mp hz).1
    exact Sm.int (by omega) k.2.2.2.1
  · have := wok.few
    have h2 : (beatsOf ways x y).length ≤ ways.length := by
      unfold beatsOf
      rw [List.length_map]
      exact List.length_filter_le _ _
    rw [List.length_map]
    omega
theorem da_pair {H : Hp} {a : Addr} {x y : Str} {K : PySem.W.Frag} (h : H a = some (.tup [.str x, .str y])) : Dp K H (.ref a) (pairS x y) := .tup (SqT.of h) (.cons (.str _) (.cons (.str _) .nil))
section
variable {P : Program} {w : World} {K : PySem.W.Frag} {mg : Str → Option Value} {base : Heap}
abbrev nDue : List Str := ["land", "lot", "there", "when", "what", "total", "one", "other", "pair", "some", "beats", "way"]
theorem scDue : FnScope nDue ["land", "lot", "there", "when", "what"] (defScope sDue) := ⟨rfl, rfl, rfl, by decide +kernel, rfl, by decide +kernel, by decide +kernel⟩
/-- what may be judged -/
structure WhatOk (d : PyData) : Prop where
  few : (itemsD d).length ≤ 1000
  txt : ∀ x, .str x ∈ itemsD d → nameOkS x = true
  sh : ∀ e ∈ itemsD d, SeqAt.shaped e = true
theorem shaped_nodict {d : PyData} (h : SeqAt.shaped d = true) : d.hasDict = false := by
  unfold SeqAt.shaped at h
  simp only [Bool.and_eq_true] at h
  exact lay_nodict d h.1
def spDue : Sp := fun vs H Q _ => ∃ (T l : Addr) (vp vt : V) (names lot : List Str) (ways : List Way) (p : Way) (n : Int) (d : PyData), vs = [.ref T, .ref l, vp, .int n, vt] ∧ WebAt H T names ways ∧ WebOk names ways ∧ H l = some (.lst (lot.map V.str)) ∧ LotOk names lot ∧
  Im H vp (wayD3 p) ∧ PlaceIs names ways p ∧ Da H vt d ∧ WhatOk d ∧ ∀ H', Same H H' → Q (.bl (dueD ways lot p n d)) H'
theorem ok_due {f : Addr} {fd : FuncData} (F : Fun K "_law_due" "_law_due" sDue f fd) (B : Blt mg) (mMin : mg "min" = none) (mMax : mg "max" = none) : FnOk P w K mg base CX0 1 f fd ["land", "lot", "there", "when", "what"] spDue := by
  refine F.ok scDue (fun vs H Q E h => ?_) (fun cdv A outer s H vs Q E hr h => ?_)
  · obtain ⟨T, l, vp, vt, names, lot, ways, p, n, d, rfl, _⟩ := h
    rfl
  · obtain ⟨T, l, vp, vt, names, lot, ways, p, n, d, rfl, hw, wok, hl, lok, ip, hp, hd, wh, q⟩ := h
    refine ⟨_, pss_cons (ps_if (PW.pt (pw_or (pt_not (pt_val (pe_callB call_isiT (by rfl) B.isi (by decide +kernel) (pa_cons (pv 4) (pa_cons (pe_tup (pa_cons (pe_bltn (v := .ty "list") (u := .type "list") (by rfl) B.list (by decide +kernel) rfl)
              (pa_cons (pe_bltn (v := .ty "tuple") (u := .type "tuple") (by rfl) B.tuple (by decide +kernel) rfl) pa_nil))) pa_nil)))))
          (pw_or (pt_cmpR op_eq (pe_callB call_len_seq (by rfl) B.len (by decide +kernel) (pa_cons (pv 4) pa_nil)) pe_int (nomark _)) (pw_or1 (pt_cmpR (op_notInR hr) (pe_ix ix_seq (pv 4) pe_int (fun _ _ => rfl)) (pv 1) rfl))))) (pss_one (ps_ret pe_bl)) pss_nil)
      (pss_cons (ps_set (i := 5) scDue.nd rfl (Or.inl rfl) pe_int)
      (pss_cons (ps_for PassesOwn.never rfl (RZ.pi_zipA (by rfl) B.zip (pa_cons (pv 4) (pa_cons (pe_slice (sl_list.or sl_tup) (pv 4) (po_some pe_int) po_none) pa_nil))) (pg_tup rfl (pgs_cons (pg_name (i := 6) scDue.nd rfl (Or.inl rfl)) (pgs_cons (pg_name (i := 7) scDue.nd rfl (Or.inl rfl)) pgs_nil)))
        (pss_cons (ps_if (PW.pt (pw_or (pt_not (pt_val (pe_callB call_isi (by rfl) B.isi (by decide +kernel) (pa_cons (pv 6) (pa_cons (pe_bltn (v := .ty "str") (u := .type "str") (by rfl) B.str (by decide +kernel) rfl) pa_nil)))))
            (pw_or1 (pt_not (pt_val (pe_callB call_isi (by rfl) B.isi (by decide +kernel) (pa_cons (pv 7) (pa_cons (pe_bltn (v := .ty "str") (u := .type "str") (by rfl) B.str (by decide +kernel) rfl) pa_nil)))))))) (pss_one (ps_ret pe_bl)) pss_nil)
        (pss_cons (ps_set (i := 8) scDue.nd rfl (Or.inr rfl) (pe_tup (pa_cons (pe_callB (cr_minS rfl) (by rfl) mMin (by decide +kernel) (pa_cons (pv 6) (pa_cons (pv 7) pa_nil))) (pa_cons (pe_callB (cr_maxS rfl) (by rfl) mMax (by decide +kernel) (pa_cons (pv 6) (pa_cons (pv 7) pa_nil))) pa_nil))))
        (pss_cons (ps_setLc (i := 9) (own := [("way", 11)]) (g := gName 11) (tt := tTest (tOp (rEqD K) (tSl (rSlT K) (tVar 11) tNoPart (tPart (tC (.int 2)))) (tVar 8))) (te := tOp (rIxT K) (tVar 11) (tC (.int 2))) (by rfl) scDue.nd rfl rfl (sw_true rfl rfl rfl (by decide +kernel))
            (pi_list (pe_ix ix_tup (pv 0) pe_int (fun _ _ => rfl))) (blkOk_by (N := nDue) (sc := defScope sDue) (by decide +kernel)) (fun _ _ _ _ _ => pg_name (i := 11) scDue.nd rfl (Or.inl rfl))
            (fun _ _ _ _ _ => pts_one (pt_cmpR (op_eqD hr.units) (pe_slice sl_tup (pv 11) po_none (po_some pe_int)) (pv 8) (nomark _))) (fun _ _ _ _ _ => pe_ix ix_tup (pv 11) pe_int (fun _ _ => rfl)))
        (pss_cons (ps_if (pt_cmpR (op_eqD hr.units) (pv 9) (pe_lst pa_nil) (nomark _)) (pss_one (ps_ret pe_bl)) pss_nil)
        (pss_one (ps_set (i := 5) scDue.nd rfl (Or.inl rfl) (pe_op op_add (pv 5) (pe_ix ix_list (pv 9) pe_int (fun _ _ => rfl))))))))))
      (pss_cons (ps_if (pt_cmpR op_ne (pe_ix ix_tup (pv 2) pe_int (fun _ _ => rfl)) (pe_ix ix_tup (pv 2) pe_int (fun _ _ => rfl)) (nomark _))
          (pss_cons (ps_set (i := 10) scDue.nd rfl (Or.inl rfl) (pe_ix ix_list (pe_lc (own := [("way", 11)]) (g := gName 11) (tt := tTest (tOp (rEqD K) (tSl (rSlT K) (tVar 11) tNoPart (tPart (tC (.int 2)))) (tSl (rSlT K) (tVar 2) tNoPart (tPart (tC (.int 2)))))) (te := tOp (rIxT K) (tVar 11) (tC (.int 2))) rfl scDue.nd
              (pi_list (pe_ix ix_tup (pv 0) pe_int (fun _ _ => rfl))) (blkOk_by (N := nDue) (sc := defScope sDue) (by decide +kernel)) (fun _ _ _ _ _ => pg_name (i := 11) scDue.nd rfl (Or.inl rfl))
              (fun _ _ _ _ _ => pts_one (pt_cmpR (op_eqD hr.units) (pe_slice sl_tup (pv 11) po_none (po_some pe_int)) (pe_slice sl_tup (pv 2) po_none (po_some pe_int)) (nomark _))) (fun _ _ _ _ _ => pe_ix ix_tup (pv 11) pe_int (fun _ _ => rfl))) pe_int (fun _ _ => rfl)))
          (pss_cons (ps_if (pt_cmpR op_notIn_seq (pe_ix ix_seq (pv 4) (pe_un un_neg pe_int) (fun _ _ => rfl)) (pe_slice sl_tup (pv 2) po_none (po_some pe_int)) rfl) (pss_one (ps_ret pe_bl)) pss_nil)
          (pss_one (ps_set (i := 5) scDue.nd rfl (Or.inl rfl) (pe_op op_add (pv 5) (pe_ifExp (pt_cmpR op_eq (pe_ix ix_seq (pv 4) (pe_un un_neg pe_int) (fun _ _ => rfl)) (pe_ix ix_tup (pv 2) pe_int (fun _ _ => rfl)) (nomark _)) (pe_ix ix_tup (pv 2) pe_int (fun _ _ => rfl))
              (pe_op op_sub (pv 10) (pe_ix ix_tup (pv 2) pe_int (fun _ _ => rfl)))))))))
          (pss_one (ps_if (pt_cmpR op_ne (pe_ix ix_seq (pv 4) (pe_un un_neg pe_int) (fun _ _ => rfl)) (pe_ix ix_tup (pv 2) pe_int (fun _ _ => rfl)) (nomark _)) (pss_one (ps_ret pe_bl)) pss_nil)))
      (pss_one (ps_ret (pe_and (pe_cmpR op_le (pv 5) (pv 3) (nomark _)) (pe_one (pe_cmpR op_eq (pe_op op_mod (pe_op op_sub (pv 3) (pv 5)) pe_int) pe_int (nomark _))))))))), ?_⟩
    have no : ∀ H', Same H H' → dueD ways lot p n d = false → Q (.bl false) H' := fun H' s' e => by
      have := q H' s'
      rw [e] at this
      exact this
    obtain ⟨pa, rfl, hpa⟩ := im_way ip
    -- isinstance(what, (list, tuple))
    refine ⟨_, rfl, by decide, fun tt nt => ?_⟩
    have s0 : Same H (upd H tt (.tup [.ty "list", .ty "tuple"])) := same_new nt
    have kit : PySem.W.kitAny K (.type (tyD d)) [.type "list", .type "tuple"] = some (rowD d) := by
      have two : ∀ b1 b2 : Bool, kitB (tyD d) "list" = some b1 → kitB (tyD d) "tuple" = some b2 → PySem.W.kitAny K (.type (tyD d)) [.type "list", .type "tuple"] = some (b1 || b2) := by
        intro b1 b2 h1 h2
        refine kitAny_cons (kit_ty h1) (fun e => ?_) (fun e => by rw [e]; rfl)
        refine kitAny_cons (kit_ty h2) (fun e2 => ?_) (fun e2 => by rw [e, e2]; rfl)
        rw [e, e2]
        exact kitAny_nil
      rw [two _ _ (kD_list d) (kD_tuple d)]
      cases d <;> rfl
    refine ⟨_, tt, _, _, _, _, rfl, upd_same, .cons (.ty "list") (.cons (.ty "tuple") .nil), (hd.on s0).ty, kit, _, rfl, ?_⟩
    cases r : rowD d with
    | false => exact iteT (iteT (no _ s0 (by unfold dueD; rw [r]; rfl)))
    | true =>
      refine iteF ?_
      obtain ⟨a, xs, rfl, hs, hxl, hi⟩ := (hd.on s0).items r
      generalize (upd H tt (.tup [.ty "list", .ty "tuple"])) = H0 at s0 hs hi
      have few := wh.few
      refine ⟨_, rfl, a, xs, rfl, seq_of hs, rfl, _, rfl, ?_⟩
      rw [dec_int]
      by_cases l0 : xs.length = 0
      · rw [decide_eq_true (show ((xs.length : Nat) : Int) = 0 by omega)]
        exact iteT (iteT (no _ s0 (by unfold dueD; rw [decide_eq_false (show ¬ (itemsD d).length ≠ 0 by omega)]; simp)))
      · rw [decide_eq_false (show ¬ ((xs.length : Nat) : Int) = 0 by omega)]
        refine iteF ?_
        have lp : 0 < (itemsD d).length := by omega
        obtain ⟨x0, e0⟩ : ∃ x0, xs[0]? = some x0 := ⟨_, List.getElem?_eq_getElem (by omega)⟩
        have ed0 : (itemsD d)[0]? = some (itemsD d)[0] := List.getElem?_eq_getElem lp
        have hx0 := hi 0 x0 _ e0 ed0
        have sh0 := wh.sh _ (List.getElem_mem lp)
        have ix0 : ∀ Q' : VK, Q' x0 H0 → rIx K (.ref a) (.int 0) H0 Q' := fun Q' q' =>
          hs.elim (fun h => .inl ⟨a, _, _, _, rfl, rfl, SqL.of h, atI_nat (j := 0) e0, q'⟩) fun h => .inr (.inl ⟨a, _, _, _, rfl, rfl, SqT.of h, atI_nat (j := 0) e0, q'⟩)
        have okl : ∀ x ∈ lot, nameOkS x = true := fun x hx => wok.ok x (lok.mem x hx)
        have l60 : lot.length ≤ 60 := Nat.le_trans lok.few wok.most
        refine ⟨_, rfl, ix0 _ ⟨_, rfl, _, _, hx0.dp (shaped_nodict sh0), strs_dp (s0 _ _ hl), sh0, shaped_strs okl (by omega), _, rfl, ?_⟩⟩
        have ef1 : ((lot.map PyData.str).any fun z => PyData.eqv z (itemsD d)[0]) = firstIn lot (((itemsD d)[0]?).getD .none) := by
          rw [ed0]
          rfl
        rw [ef1]
        cases fi : firstIn lot (((itemsD d)[0]?).getD .none) with
        | false => exact iteT (no _ s0 (by unfold dueD; rw [fi]; simp))
        | true =>
          refine iteF ?_
          have edue : dueD ways lot p n d = ((nexts (stepD ways) (itemsD d)).all (fun o => o.isSome) && tailD ways p n (textOf ((itemsD d).getLast?.getD .none)) (sumSteps (nexts (stepD ways) (itemsD d)))) := by
            unfold dueD
            rw [r, fi, decide_eq_true (show (itemsD d).length ≠ 0 by omega), Bool.true_and, Bool.true_and, Bool.true_and]
          have nx : xs ≠ [] := fun e => l0 (by rw [e]; rfl)
          refine nx_o ?_
          dsimp only
          refine asg_c ?_
          refine seq_o ?_
          unfold tFor
          refine zip_tail (K := K) (i := 4) (a := a) (xs := xs) ?_ (hs.imp SqL.of fun h => ⟨SqT.of h, nx⟩) ?_
          · rfl
          intro J H1 s1 wk
          have lnx : (nexts (stepD ways) (itemsD d)).length = xs.length - 1 := by rw [nexts_len, hxl]
          refine for_it wk (fun i σ H2 => Same H1 H2 ∧ (∃ (u6 u7 u8 u9 : Option V), σ = [some (.ref T), some (.ref l), some (.ref pa), some (.int n), some (.ref a), some (.int (sumSteps ((nexts (stepD ways) (itemsD d)).take i))), u6, u7, u8, u9, none, none]) ∧ ((nexts (stepD ways) (itemsD d)).take i).all (fun o => o.isSome) = true)
            ⟨Same.refl _, ⟨none, none, none, none, rfl⟩, rfl⟩ (fun i σ H2 _ gd => gd.1) ?_ ?_
          · rintro i v σ H2 H3 hi' ⟨s2, ⟨u6, u7, u8, u9, rfl⟩, pre⟩ ⟨Tp, u, v', rfl, nT, rfl, eu, ev⟩
            dsimp only at eu ev
            obtain ⟨du, edu⟩ : ∃ du, (itemsD d)[i]? = some du := ⟨_, List.getElem?_eq_getElem (by omega)⟩
            obtain ⟨dv, edv⟩ : ∃ dv, (itemsD d)[i + 1]? = some dv := ⟨_, List.getElem?_eq_getElem (by omega)⟩
            have s3 : Same H2 (upd H2 Tp (.tup [u, v'])) := same_new nT
            have hu := ((hi i u du eu edu).on s1).on (s2.trans s3)
            have hv := ((hi (i + 1) v' dv ev edv).on s1).on (s2.trans s3)
            have stp := nexts_get (stepD ways) (itemsD d) i du dv edu edv
            have s03 := ((s0.trans s1).trans s2).trans s3
            have bad : stepD ways du dv = none → ∀ H', Same H H' → Q (.bl false) H' := fun e H' s' => no H' s' (by
              rw [edue]
              have : ((nexts (stepD ways) (itemsD d)).all fun o => o.isSome) = false := by
                rw [List.all_eq_false]
                exact ⟨none, List.mem_of_getElem? (by rw [stp, e]), by simp⟩
              rw [this]
              rfl)
            refine ⟨Tp, _, rfl, SqT.of upd_same, rfl, _, _, rfl, _, _, rfl, rfl, ?_⟩
            refine ⟨_, rfl, _, _, _, _, _, rfl, .ty "str", hu.ty, kit_ty (kD_str du), _, rfl, ?_⟩
            cases du with
            | str x =>
              refine iteF ⟨_, rfl, _, _, _, _, _, rfl, .ty "str", hv.ty, kit_ty (kD_str dv), _, rfl, ?_⟩
              cases dv with
              | str y =>
                refine iteF ?_
                obtain rfl : u = .str x := by
                  cases hu
                  rfl
                obtain rfl : v' = .str y := by
                  cases hv
                  rfl
                have o1 := wh.txt x (List.mem_of_getElem? edu)
                have o2 := wh.txt y (List.mem_of_getElem? edv)
                obtain ⟨om, ox⟩ := minS_ok o1 o2
                refine ⟨_, rfl, _, rfl, x, y, rfl, _, rfl, _, rfl, x, y, rfl, by show 2 ≤ sizeLine; decide, fun pp np => ?_⟩
                have s4 := s03.trans (same_new (o := .tup [.str (minS x y), .str (maxS x y)]) np)
                have s24 := (s2.trans s3).trans (same_new (o := .tup [.str (minS x y), .str (maxS x y)]) np)
                obtain ⟨F', W, ws, hT, hF, hW, hI⟩ := hw.on s4
                refine ⟨_, rfl, T, _, 1, _, rfl, rfl, SqT.of hT, atI_nat (j := 1) rfl, W, rfl, ⟨_, SqL.of hW⟩, fun D nD => ?_⟩
                refine lc_pairs wok hW hI om ox (fun _ => rfl) (fun _ => rfl) (fun v H' Q' s' k => ⟨_, rfl, k _ _ (Same.refl _) (da_pair (s' _ _ upd_same))⟩) nD fun H5 s5 h5 => ?_
                refine ⟨_, rfl, Nat.zero_le _, fun e1 ne1 => ?_⟩
                have s6 : Same H5 (upd H5 e1 (.lst [])) := same_new ne1
                refine ⟨_, _, .lst (SqL.of (s6 _ _ h5)) (Ims.ints _).dp, .lst (SqL.of upd_same) .nil, shaped_beats wok _ _, shaped_nil, _, rfl, ?_⟩
                rw [eqv_row_nil]
                have es : stepD ways (.str x) (.str y) = (beatsOf ways (minS x y) (maxS x y))[0]? := rfl
                cases hb : beatsOf ways (minS x y) (maxS x y) with
                | nil => exact iteT (bad (by rw [es, hb]; rfl) _ ((s4.trans s5).trans s6))
                | cons b bs =>
                  rw [hb] at h5 es
                  refine iteF ⟨_, rfl, _, rfl, D, _, 0, _, rfl, rfl, SqL.of (s6 _ _ h5), atI_nat (j := 0) rfl, _, _, rfl, rfl, ?_⟩
                  have tk : (nexts (stepD ways) (itemsD d)).take (i + 1) = (nexts (stepD ways) (itemsD d)).take i ++ [some b] := by
                    rw [List.take_add_one, stp, es]
                    rfl
                  refine ⟨(s24.trans s5).trans s6, ?_, ?_⟩
                  · have : sumSteps ((nexts (stepD ways) (itemsD d)).take (i + 1)) = sumSteps ((nexts (stepD ways) (itemsD d)).take i) + b := by
                      rw [tk]
                      unfold sumSteps
                      rw [List.map_append, List.sum_append]
                      simp
                    rw [this]
                    exact ⟨_, _, _, _, rfl⟩
                  · rw [tk, List.all_append, pre]
                    rfl
              | _ => exact iteT (bad rfl _ s03)
            | _ => exact iteT (iteT (bad (by cases dv <;> rfl) _ s03))
          · rintro σ H2 ⟨s2, ⟨u6, u7, u8, u9, rfl⟩, pre⟩
            rw [← lnx, List.take_length] at pre ⊢
            have s02 := (s0.trans s1).trans s2
            have fin : ∀ H', Same H H' → Q (.bl (tailD ways p n (textOf ((itemsD d).getLast?.getD .none)) (sumSteps (nexts (stepD ways) (itemsD d))))) H' := fun H' s' => by
              have := q H' s'
              rw [edue, pre, Bool.true_and] at this
              exact this
            generalize sumSteps (nexts (stepD ways) (itemsD d)) = total at fin
            -- the last one
            have nd : itemsD d ≠ [] := fun e => l0 (by rw [hxl, e]; rfl)
            obtain ⟨z, ez⟩ : ∃ z, (itemsD d).getLast?.getD .none = .str z := by
              cases hk : (itemsD d).length - 1 with
              | zero =>
                have e1 : (itemsD d).getLast?.getD .none = ((itemsD d)[0]?).getD .none := by
                  rw [List.getLast?_eq_getElem?, hk]
                obtain ⟨x, _, e2⟩ := firstIn_str.mp fi
                exact ⟨x, by rw [e1, e2]⟩
              | succ k =>
                have e1 : (itemsD d).getLast?.getD .none = ((itemsD d)[k + 1]?).getD .none := by
                  rw [List.getLast?_eq_getElem?, hk]
                obtain ⟨dv, edv⟩ : ∃ dv, (itemsD d)[k + 1]? = some dv := ⟨_, List.getElem?_eq_getElem (by omega)⟩
                rw [e1, edv]
                cases dv with
                | str x => exact ⟨x, rfl⟩
                | _ =>
                  have := steps_bad (ways := ways) (itemsD d) k _ edv (fun x e => nomatch e)
                  rw [pre] at this
                  exact absurd this (by decide)
            have lastv : atI xs (-1) = some (.str z) := by
              rw [atI_end nx]
              have e1 : xs[xs.length - 1]? = some (xs.getLast nx) := by
                rw [← List.getLast?_eq_getElem?, List.getLast?_eq_some_getLast nx]
              have e2 : (itemsD d)[xs.length - 1]? = some (.str z) := by
                rw [hxl, ← List.getLast?_eq_getElem?]
                rw [List.getLast?_eq_some_getLast nd] at ez ⊢
                exact congrArg some ez
              have key : ∀ v, Da H0 v (.str z) → v = .str z := fun v h => by
                cases h
                rfl
              exact congrArg some (key _ (hi _ _ _ e1 e2))
            rw [ez] at fin
            have fin' : ∀ H', Same H H' → Q (.bl (tailD ways p n z total)) H' := fin
            have ixl : ∀ H', Same H0 H' → ∀ Q' : VK, Q' (.str z) H' → rIx K (.ref a) (.int (-1)) H' Q' := fun H' s' Q' q' =>
              (seq_same (K := K) s' (seq_of hs)).elim (fun h => .inl ⟨a, _, _, _, rfl, rfl, h, lastv, q'⟩) fun h => .inr (.inl ⟨a, _, _, _, rfl, rfl, h, lastv, q'⟩)
            -- the last row
            have goEnd : ∀ (t : Int) (u10 : Option V) (H' : Hp), Q (.bl (endOk n t)) H' → tRet (tAndV (tOp (rI0 fun i j => .bl (decide (i ≤ j))) (tVar 5) (tVar 3)) (tOp rEq (tOp (rI (fun _ j => 0 < j) fun i j => .int (i % j)) (tOp (rI0 fun i j => .int (i - j)) (tVar 3) (tVar 5)) (tC (.int 2))) (tC (.int 0)))) { nx := fun _ H' => Q .non H', rt := Q }
                [some (.ref T), some (.ref l), some (.ref pa), some (.int n), some (.ref a), some (.int t), u6, u7, u8, u9, u10, none] H' := by
              intro t u10 H' hq
              unfold endOk at hq
              refine ⟨_, rfl, _, rfl, _, _, rfl, rfl, _, rfl, ?_⟩
              by_cases le : t ≤ n
              · rw [decide_eq_true le]
                rw [decide_eq_true le, Bool.true_and] at hq
                refine iteT ⟨_, rfl, _, rfl, _, _, rfl, rfl, _, _, rfl, rfl, (by show (0 : Int) < 2; decide), rfl, ?_⟩
                rw [dec_int]
                exact hq
              · rw [decide_eq_false le]
                rw [decide_eq_false le, Bool.false_and] at hq
                exact iteF hq
            have hpa2 := s02 _ _ hpa
            unfold tailD at fin'
            refine ⟨_, rfl, pa, _, 0, _, rfl, rfl, SqT.of hpa2, atI_nat (j := 0) rfl, _, rfl, pa, _, 1, _, rfl, rfl, SqT.of hpa2, atI_nat (j := 1) rfl, rfl, _, rfl, ?_⟩
            rw [dec_str]
            by_cases ep : p.1 = p.2.1
            · rw [decide_eq_true ep]
              rw [if_pos ep] at fin'
              refine iteF ⟨_, rfl, _, rfl, ixl _ (s1.trans s2) _ ⟨_, rfl, pa, _, 0, _, rfl, rfl, SqT.of hpa2, atI_nat (j := 0) rfl, rfl, _, rfl, ?_⟩⟩
              rw [dec_str]
              by_cases el : z = p.1
              · rw [decide_eq_true el]
                rw [decide_eq_true el, Bool.true_and] at fin'
                exact iteF (goEnd total none H2 (fin' H2 s02))
              · rw [decide_eq_false el]
                rw [decide_eq_false el, Bool.false_and] at fin'
                exact iteT (fin' H2 s02)
            · rw [decide_eq_false ep]
              rw [if_neg ep] at fin'
              refine iteT ?_
              obtain ⟨y, hy, py1, py2, p1, p2⟩ : ∃ y ∈ ways, p.1 = y.1 ∧ p.2.1 = y.2.1 ∧ 1 ≤ p.2.2 ∧ p.2.2 < y.2.2 := by
                rcases hp with ⟨h, _⟩ | h
                · exact absurd h ep
                · exact h
              have ky := wok.way y hy
              obtain ⟨F', W, ws, hT, hF, hW, hI⟩ := hw.on s02
              have cutp : cutV [V.str p.1, .str p.2.1, .int p.2.2] none (some 2) = [.str p.1, .str p.2.1] := rfl
              refine ⟨_, rfl, T, _, 1, _, rfl, rfl, SqT.of hT, atI_nat (j := 1) rfl, W, rfl, ⟨_, SqL.of hW⟩, fun D nD => ?_⟩
              refine lc_pairs wok hW hI (x := p.1) (y := p.2.1) (by rw [py1]; exact ky.1) (by rw [py2]; exact ky.2.1) (fun _ => rfl) (fun _ => rfl) (fun v H' Q' s' k => ⟨_, rfl, 2, rfl, pa, _, rfl, SqT.of (s' _ _ hpa2), (by show ¬ (HT.sIx 3 0 none = 0 ∧ HT.sIx 3 3 (some 2) = 3); decide), fun pp np => k _ _ (same_new np) (da_pair upd_same)⟩) nD fun H5 s5 h5 => ?_
              obtain ⟨b, bs, hb⟩ : ∃ b bs, beatsOf ways p.1 p.2.1 = b :: bs := by
                cases h : beatsOf ways p.1 p.2.1 with
                | cons b bs => exact ⟨b, bs, rfl⟩
                | nil =>
                  have : y.2.2 ∈ beatsOf ways p.1 p.2.1 := List.mem_map.mpr ⟨y, List.mem_filter.mpr ⟨hy, by rw [py1, py2]; simp⟩, rfl⟩
                  rw [h] at this
                  exact absurd this (by simp)
              rw [hb] at h5 fin'
              refine ⟨D, _, 0, _, rfl, rfl, SqL.of h5, atI_nat (j := 0) rfl, ?_⟩
              have s25 := s02.trans s5
              refine ⟨_, rfl, _, rfl, ixl _ ((s1.trans s2).trans s5) _ ⟨_, rfl, 2, rfl, pa, _, rfl, SqT.of (s5 _ _ hpa2), (by show ¬ (HT.sIx 3 0 none = 0 ∧ HT.sIx 3 3 (some 2) = 3); decide), fun pp np => ?_⟩⟩
              have s6 : Same H5 (upd H5 pp (.tup [.str p.1, .str p.2.1])) := same_new np
              refine ⟨pp, _, rfl, .inr (SqT.of (xs := [.str p.1, .str p.2.1]) upd_same), rfl, rfl, _, rfl, ?_⟩
              have einV : inV (.str z) [V.str p.1, .str p.2.1] = (decide (z = p.1) || decide (z = p.2.1)) := by
                show (eqV (.str p.1) (.str z) || (eqV (.str p.2.1) (.str z) || false)) = _
                have e1 : ∀ u : Str, eqV (.str u) (.str z) = decide (z = u) := fun u => by
                  show (u == z) = _
                  rw [beq_str]
                  by_cases h : u = z
                  · rw [h]
                  · rw [decide_eq_false h, decide_eq_false fun e => h e.symm]
                rw [e1, e1, Bool.or_false]
              rw [einV]
              by_cases el : z = p.1
              · rw [decide_eq_true el]
                rw [if_pos el] at fin'
                refine iteF ?_
                refine ⟨_, rfl, _, rfl, _, rfl, ixl _ (((s1.trans s2).trans s5).trans s6) _ ⟨_, rfl, pa, _, 0, _, rfl, rfl, SqT.of ((s5.trans s6) _ _ hpa2), atI_nat (j := 0) rfl, rfl, _, rfl, ?_⟩⟩
                rw [dec_str, decide_eq_true el]
                exact iteT ⟨_, rfl, pa, _, 2, _, rfl, rfl, SqT.of ((s5.trans s6) _ _ hpa2), atI_nat (j := 2) rfl, _, _, rfl, rfl, goEnd (total + p.2.2) _ _ (fin' _ (s25.trans s6))⟩
              · rw [decide_eq_false el, Bool.false_or]
                rw [if_neg el] at fin'
                by_cases el2 : z = p.2.1
                · rw [decide_eq_true el2]
                  rw [decide_eq_true el2, Bool.true_and] at fin'
                  refine iteF ?_
                  refine ⟨_, rfl, _, rfl, _, rfl, ixl _ (((s1.trans s2).trans s5).trans s6) _ ⟨_, rfl, pa, _, 0, _, rfl, rfl, SqT.of ((s5.trans s6) _ _ hpa2), atI_nat (j := 0) rfl, rfl, _, rfl, ?_⟩⟩
                  rw [dec_str, decide_eq_false el]
                  exact iteF ⟨_, rfl, _, rfl, pa, _, 2, _, rfl, rfl, SqT.of ((s5.trans s6) _ _ hpa2), atI_nat (j := 2) rfl, _, _, rfl, rfl, _, _, rfl, rfl, goEnd (total + (b - p.2.2)) _ _ (fin' _ (s25.trans s6))⟩
                · rw [decide_eq_false el2]
                  rw [decide_eq_false el2, Bool.false_and] at fin'
                  exact iteT (fin' _ (s25.trans s6))
end
end Cry
/-! Data in which a dict may stand, an empty one: its repr. -/
namespace Cry
open PySem PySem.Spec PyProof.Rows L2
/-- what a value stands for, in the machine's heap; dicts are empty -/
inductive RdZ (h : Heap) : Value → PyData → Prop
  | non : RdZ h .none .none
  | bl (b : Bool) : RdZ h (.bool b) (.bool b)
  | int (i : Int) (t : Tok) : RdZ h (.int i t) (.int i)
  | str (x : Str) (t : Tok) : RdZ h (.str x t) (.str x)
  | lst {a : Addr} {o : Obj} {us : Array Value} {n : Nat} {ds : List PyData} (ho : h.get? a = some o) (hc : o.cls = .type "list") (hd : o.data = .seq us n) (hl : us.toList.length = ds.length)
      (hi : ∀ (i : Nat) (u : Value) (d : PyData), us.toList[i]? = some u → ds[i]? = some d → RdZ h u d) : RdZ h (.ref a) (.list ds)
  | tup {a : Addr} {o : Obj} {us : Array Value} {n : Nat} {ds : List PyData} (ho : h.get? a = some o) (hc : o.cls = .type "tuple") (hd : o.data = .seq us n) (hl : us.toList.length = ds.length)
      (hi : ∀ (i : Nat) (u : Value) (d : PyData), us.toList[i]? = some u → ds[i]? = some d → RdZ h u d) : RdZ h (.ref a) (.tuple ds)
  | dic {a : Addr} {o : Obj} {es : Array DictEntry} {n : Nat} (ho : h.get? a = some o) (hc : o.cls = .type "dict") (hd : o.data = .dict es n) (he : es.toList = []) (hs : (a == sysModules) = false) : RdZ h (.ref a) (.dict [])
theorem readsAll_each {h : Heap} : ∀ {us : List Value} {ds : List PyData}, us.length = ds.length → (∀ (i : Nat) (u : Value) (d : PyData), us[i]? = some u → ds[i]? = some d → ∃ as, Reads h u d as) → ∃ as, ReadsAll h us ds as
  | [], [], _, _ => ⟨_, .nil⟩
  | u :: us, d :: ds, hl, hi => by
    obtain ⟨as, r1⟩ := hi 0 u d rfl rfl
    obtain ⟨bs, r2⟩ := readsAll_each (us := us) (ds := ds) (by simpa using hl) fun i u' d' h1 h2 => hi (i + 1) u' d' (by simpa using h1) (by simpa using h2)
    exact ⟨_, .cons r1 r2⟩
theorem RdZ.reads {h : Heap} {v : Value} {d : PyData} (r : RdZ h v d) : ∃ as, Reads h v d as := by
  induction r with
  | non => exact ⟨_, .none⟩
  | bl b => exact ⟨_, .bool b⟩
  | int i t => exact ⟨_, .int i t⟩
  | str x t => exact ⟨_, .str x t⟩
  | lst ho hc hd hl _ ih =>
    obtain ⟨as, ra⟩ := readsAll_each hl ih
    exact ⟨_, .list ho hc hd ra⟩
  | tup ho hc hd hl _ ih =>
    obtain ⟨as, ra⟩ := readsAll_each hl ih
    exact ⟨_, .tuple ho hc hd ra⟩
  | dic ho hc hd he hs =>
    refine ⟨_, .dict (as := []) (bs := []) ho hc hd ?_ ?_⟩
    · rw [he]
      exact .nil
    · rw [he]
      exact .nil
/-- the texts of the items -/
def ShowsZ (P : Program) (w : World) (h : Heap) (u : Value) (d : PyData) : Prop := d.showable = true → d.shown.length ≤ sizeLine → ∃ bs, ReadAtMost h d.depth bs ∧ ReprK P w bs h d.depth u d.shown
theorem showsAll_each {P : Program} {w : World} {h : Heap} : ∀ {us : List Value} {ds : List PyData}, us.length = ds.length → (∀ (i : Nat) (u : Value) (d : PyData), us[i]? = some u → ds[i]? = some d → ShowsZ P w h u d) →
    PyData.showableAll ds = true → (∀ t ∈ PyData.shownAll ds, t.length ≤ sizeLine) → ∃ bs, ReadAtMost h (PyData.depthAll ds) bs ∧ ReprAllK P w bs h (PyData.depthAll ds) us (PyData.shownAll ds)
  | [], [], _, _, _, _ => ⟨[], fun b hb => absurd hb (by simp), by simp only [PyData.shownAll]; exact .nil⟩
  | u :: us, d :: ds, hl, hi, hs, hz => by
    simp only [PyData.showableAll, Bool.and_eq_true] at hs
    simp only [PyData.shownAll, List.mem_cons] at hz
    obtain ⟨b1, p1, k1⟩ := hi 0 u d rfl rfl hs.1 (hz _ (.inl rfl))
    obtain ⟨b2, p2, k2⟩ := showsAll_each (us := us) (ds := ds) (by simpa using hl) (fun i u' d' h1 h2 => hi (i + 1) u' d' (by simpa using h1) (by simpa using h2)) hs.2 fun t ht => hz t (.inr ht)
    simp only [PyData.depthAll, PyData.shownAll]
    refine ⟨b1 ++ b2, (p1.mono (Nat.le_max_left _ _)).append (p2.mono (Nat.le_max_right _ _)), ?_⟩
    exact .cons ((k1.more fun b hb => List.mem_append.mpr (.inl hb)).level_le (Nat.le_max_left _ _)) (k2.more_le (fun b hb => List.mem_append.mpr (.inr hb)) (Nat.le_max_right _ _))
theorem depth_lst (ds : List PyData) : PyData.depthAll ds < (PyData.list ds).depth := by
  simp only [PyData.depth]
  omega
theorem depth_tup (ds : List PyData) : PyData.depthAll ds < (PyData.tuple ds).depth := by
  simp only [PyData.depth]
  omega
theorem RdZ.shows {P : Program} {w : World} {h : Heap} {v : Value} {d : PyData} (r : RdZ h v d) : ShowsZ P w h v d := by
  have nob : ∀ n, ReadAtMost h n [] := fun n b hb => absurd hb (by simp)
  induction r with
  | non => exact fun _ _ => ⟨[], nob _, by simp only [PyData.shown]; exact .of_is .none _ _ _⟩
  | bl b => exact fun _ _ => ⟨[], nob _, by simp only [PyData.shown]; exact .of_is (.bool b) _ _ _⟩
  | int i t => exact fun hs _ => ⟨[], nob _, by simp only [PyData.shown]; exact .of_is (.int t (of_decide_eq_true (by simpa only [PyData.showable] using hs))) _ _ _⟩
  | str x t => exact fun _ hz => ⟨[], nob _, by simp only [PyData.shown] at hz ⊢; exact .of_is (.str x t hz) _ _ _⟩
  | @lst a o us n ds ho hc hd hl hi ih =>
    intro hs hz
    obtain ⟨as, rd⟩ := (RdZ.lst ho hc hd hl hi).reads
    simp only [PyData.shown] at hz
    obtain ⟨bs, pb, kb⟩ := showsAll_each hl ih (by simpa only [PyData.showable] using hs) fun t ht => Nat.le_trans (listText_mem_le ht) hz
    have out : a ∉ bs := not_mem_of_deeper rd (depth_lst ds) pb
    refine ⟨a :: bs, .cons rd (Nat.le_of_lt (depth_lst ds)) pb, ?_⟩
    simp only [PyData.depth, PyData.shown]
    obtain ⟨l⟩ := us
    cases l with
    | nil =>
      have e0 : ds = [] := List.length_eq_zero_iff.mp (by simpa using hl.symm)
      subst e0
      simp only [PyData.shownAll, listText_nil]
      exact .listEmpty ho hc hd
    | cons u l => exact .list ho hc hd out (by simpa using kb.length_eq) fun i y e => kb.item i y (by simpa using e)
  | @tup a o us n ds ho hc hd hl hi ih =>
    intro hs hz
    obtain ⟨as, rd⟩ := (RdZ.tup ho hc hd hl hi).reads
    simp only [PyData.shown] at hz
    obtain ⟨bs, pb, kb⟩ := showsAll_each hl ih (by simpa only [PyData.showable] using hs) fun t ht => Nat.le_trans (tupleText_mem_le ht) hz
    have out : a ∉ bs := not_mem_of_deeper rd (depth_tup ds) pb
    refine ⟨a :: bs, .cons rd (Nat.le_of_lt (depth_tup ds)) pb, ?_⟩
    simp only [PyData.depth, PyData.shown]
    exact .tuple ho hc hd out kb
  | @dic a o es n ho hc hd he hs =>
    intro _ _
    obtain ⟨as, rd⟩ := (RdZ.dic ho hc hd he hs).reads
    refine ⟨[a], .cons rd (Nat.zero_le _) (nob 0), ?_⟩
    have e1 : (PyData.dict []).depth = 0 + 1 := by simp [PyData.depth, PyData.depthKv]
    have e2 : (PyData.dict []).shown = dictText [] := by simp [PyData.shown, PyData.shownKv]
    rw [e1, e2]
    refine .dict ho hc hd hs (by simp) ?_
    rw [he]
    exact .nil
section
variable {P : Program} {w : World} {A : Around} {E : Value → Shared → Prop} {s : Shared}
theorem repr_rdz {a : Addr} {d : PyData} {Q : Value → Shared → Prop} (r : RdZ s.heap (.ref a) d) (hs : d.showable = true) (hz : d.shown.length ≤ sizeLine) (hg : A.guards = some []) (hu : A.units + (d.depth + 1) < cLine)
    (hQ : ∀ h' u tk, (∀ b o, s.heap.get? b = some o → h'.get? b = some o) → Q (.str d.shown u) { s with heap := h', toks := tk }) : wpAny (model P w) A (call (.builtin "repr") [.ref a]) Q E s := by
  obtain ⟨as, rd⟩ := r.reads
  have fin : ∀ h' u tk, (∀ b o, s.heap.get? b = some o → h'.get? b = some o) → ∃ x t, Value.str d.shown u = .str x t ∧ Q (.str d.shown u) { s with heap := h', toks := tk } := fun h' u tk k => ⟨_, _, rfl, hQ h' u tk k⟩
  cases r with
  | @lst _ o us n ds ho hc hd hl hi =>
    simp only [PyData.shown] at hz fin
    simp only [PyData.depth] at hu
    obtain ⟨bs, pb, kb⟩ := showsAll_each hl (fun i u d h1 h2 => (hi i u d h1 h2).shows) (by simpa only [PyData.showable] using hs) fun t ht => Nat.le_trans (listText_mem_le ht) hz
    have out : a ∉ bs := not_mem_of_deeper rd (depth_lst ds) pb
    refine call_repr_slot (by omega) ⟨o, ho, hc⟩ F.slot_list_repr.toG ?_
    obtain ⟨l⟩ := us
    cases l with
    | nil =>
      have e0 : ds = [] := List.length_eq_zero_iff.mp (by simpa using hl.symm)
      subst e0
      simp only [PyData.shownAll, listText_nil] at fin
      exact call_list_repr_empty ⟨o, ho, hc⟩ ho hd (fin s.heap _ _ fun _ _ e => e)
    | cons u l =>
      exact call_list_reprK (prog := P) (w := w) ho hc hd out (by simpa using kb.length_eq) (fun i y e => kb.item i y (by simpa using e)) hg (fun b _ => Clear.nil b) (by show A.units + 1 + _ < cLine; omega) (fun _ _ e => e) fin hz
  | @tup _ o us n ds ho hc hd hl hi =>
    simp only [PyData.shown] at hz fin
    simp only [PyData.depth] at hu
    obtain ⟨bs, pb, kb⟩ := showsAll_each hl (fun i u d h1 h2 => (hi i u d h1 h2).shows) (by simpa only [PyData.showable] using hs) fun t ht => Nat.le_trans (tupleText_mem_le ht) hz
    have out : a ∉ bs := not_mem_of_deeper rd (depth_tup ds) pb
    refine call_repr_slot (by omega) ⟨o, ho, hc⟩ F.slot_tuple_repr ?_
    exact call_tuple_reprK (prog := P) (w := w) ho hc hd out kb hg (fun b _ => Clear.nil b) (by show A.units + 1 + _ < cLine; omega) (fun _ _ e => e) fin hz
  | @dic _ o es n ho hc hd he hq =>
    have e1 : (PyData.dict []).depth = 0 + 1 := by simp [PyData.depth, PyData.depthKv]
    have e2 : (PyData.dict []).shown = dictText [] := by simp [PyData.shown, PyData.shownKv]
    rw [e2] at hz fin
    rw [e1] at hu
    refine call_repr_slot (by omega) ⟨o, ho, hc⟩ F.slot_dict_repr ?_
    refine call_dict_reprK (prog := P) (w := w) (as := []) (d := 0) ho hc hd hq (by simp) ?_ hg (fun b _ => Clear.nil b) (by show A.units + 1 + _ < cLine; omega) (fun _ _ e => e) fin hz
    rw [he]
    exact .nil
end
/-! ### at the layer -/
/-- v stands for d; a dict is an empty one -/
inductive Dz (H : Hp) : V → PyData → Prop
  | non : Dz H .non .none
  | bl (b : Bool) : Dz H (.bl b) (.bool b)
  | int (i : Int) : Dz H (.int i) (.int i)
  | str (x : Str) (hz : x.length ≤ sizeLine) : Dz H (.str x) (.str x)
  | lst {a : Addr} {xs : List V} {ds : List PyData} (h : H a = some (.lst xs)) (hl : xs.length = ds.length) (hi : ∀ (i : Nat) (x : V) (e : PyData), xs[i]? = some x → ds[i]? = some e → Dz H x e) : Dz H (.ref a) (.list ds)
  | tup {a : Addr} {xs : List V} {ds : List PyData} (h : H a = some (.tup xs)) (hl : xs.length = ds.length) (hi : ∀ (i : Nat) (x : V) (e : PyData), xs[i]? = some x → ds[i]? = some e → Dz H x e) : Dz H (.ref a) (.tuple ds)
  | dic {a : Addr} (h : H a = some (.dK [])) : Dz H (.ref a) (.dict [])
section
variable {H H' : Hp}
theorem Dz.da {v : V} {d : PyData} (h : Dz H v d) : Da H v d := by
  induction h with
  | non => exact .non
  | bl b => exact .bl b
  | int i => exact .int i
  | str x hz => exact .str x hz
  | lst h hl _ ih => exact .lst h hl ih
  | tup h hl _ ih => exact .tup h hl ih
  | dic h => exact .dic h
theorem Dz.on (s : Same H H') {v : V} {d : PyData} (h : Dz H v d) : Dz H' v d := by
  induction h with
  | non => exact .non
  | bl b => exact .bl b
  | int i => exact .int i
  | str x hz => exact .str x hz
  | lst h hl _ ih => exact .lst (s _ _ h) hl ih
  | tup h hl _ ih => exact .tup (s _ _ h) hl ih
  | dic h => exact .dic (s _ _ h)
theorem Da.dz {v : V} {d : PyData} (h : Da H v d) : d.hasDict = false → Dz H v d := by
  induction h with
  | non => exact fun _ => .non
  | bl b => exact fun _ => .bl b
  | int i => exact fun _ => .int i
  | str x hz => exact fun _ => .str x hz
  | lst h hl _ ih => exact fun n => .lst h hl fun i x e h1 h2 => ih i x e h1 h2 (nodict_mem (by simpa [PyData.hasDict] using n) (List.mem_of_getElem? h2))
  | tup h hl _ ih => exact fun n => .tup h hl fun i x e h1 h2 => ih i x e h1 h2 (nodict_mem (by simpa [PyData.hasDict] using n) (List.mem_of_getElem? h2))
  | dic h => exact fun n => absurd n (by simp [PyData.hasDict])
end
section
variable {X : Cx} {pins : List (Addr × Obj)} {σ : Slots} {H : Hp} {s : Shared}
theorem vals_at : ∀ {vs : List V} {us : List Value} {i : Nat} {u : Value}, Vals vs us → us[i]? = some u → ∃ v, vs[i]? = some v ∧ RelV v u
  | _, _, i, u, .nil, e => by simp at e
  | _, _, 0, u, .cons h _, e => by
    simp at e
    subst e
    exact ⟨_, rfl, h⟩
  | _, _, i + 1, u, .cons _ t, e => by
    obtain ⟨v, h1, h2⟩ := vals_at (i := i) t (by simpa using e)
    exact ⟨v, by simpa using h1, h2⟩
theorem Dz.rdz (I : Inv X pins σ H s) {v : V} {d : PyData} (h : Dz H v d) : ∀ u, RelV v u → RdZ s.heap u d := by
  induction h with
  | non =>
    intro u r
    cases r
    exact .non
  | bl b =>
    intro u r
    cases r
    exact .bl b
  | int i =>
    rintro u ⟨t, rfl⟩
    exact .int i t
  | str x hz =>
    rintro u ⟨t, rfl⟩
    exact .str x t
  | lst h hl hi ih =>
    intro u r
    cases r
    obtain ⟨its, rv, ⟨o, n, ho, hc, _, hd⟩, _⟩ := I.list (SqL.of h)
    refine .lst ho hc hd ?_ fun i u d h1 h2 => ?_
    · rw [← hl, rv.length]
    · obtain ⟨v, hv, rr⟩ := vals_at rv h1
      exact ih i v d hv h2 u rr
  | tup h hl hi ih =>
    intro u r
    cases r
    obtain ⟨its, rv, ⟨o, ho, hc, n, hd⟩, _⟩ := I.tuple (SqT.of h)
    refine .tup ho hc hd ?_ fun i u d h1 h2 => ?_
    · rw [← hl, rv.length]
    · obtain ⟨v, hv, rr⟩ := vals_at rv h1
      exact ih i v d hv h2 u rr
  | @dic a h =>
    intro u r
    cases r
    obtain ⟨_, hs, vs, kv, o, es, ep, ho, hx, hdt, _, hp, _⟩ := (show ObjOk X.prog X.w H s.heap a (.dK []) from I.hok a _ h)
    cases kv
    exact .dic ho hx.1 hdt (List.length_eq_zero_iff.mp hp.length) hs
/-- repr(x), where no repr is under way; x may hold an empty dict -/
def rReprZ : List V → Hp → VK → Prop := fun vs H Q => ∃ (x : V) (d : PyData), vs = [x] ∧ Dz H x d ∧ d.depth ≤ 20 ∧ d.shown.length ≤ sizeLine ∧ d.showable = true ∧ Q (.str d.shown) H
theorem cr_reprZ (hg : X.A.guards = some []) (hu : X.A.units + 64 < cLine) : CallR X (.builtin "repr") rReprZ := by
  intro pins s σ H vs us Q I r h
  obtain ⟨x, d, rfl, hd, dp, sz, sh, q⟩ := h
  obtain ⟨u, rfl, ru⟩ := vals1 r
  have rd := hd.rdz I u ru
  cases hd with
  | non =>
    cases ru
    exact P.repr_of_none ⟨.str _, H, I.tok _, ⟨_, rfl⟩, q⟩
  | bl b =>
    cases ru
    exact P.repr_of_bool ⟨.str _, H, I.tok _, ⟨_, rfl⟩, q⟩
  | int i =>
    obtain ⟨t, rfl⟩ := ru
    exact P.repr_of_int (by simpa [PyData.showable] using sh) ⟨.str _, H, I.tok _, ⟨_, rfl⟩, q⟩
  | str y _ =>
    obtain ⟨t, rfl⟩ := ru
    exact P.repr_of_str ⟨.str _, H, I.tok _, ⟨_, rfl⟩, q⟩ sz
  | lst h hl hi =>
    cases ru
    exact repr_rdz rd sh sz hg (by omega) fun h' u' tk kp => ⟨.str _, H, I.kept (t' := tk) kp, ⟨_, rfl⟩, q⟩
  | tup h hl hi =>
    cases ru
    exact repr_rdz rd sh sz hg (by omega) fun h' u' tk kp => ⟨.str _, H, I.kept (t' := tk) kp, ⟨_, rfl⟩, q⟩
  | dic h =>
    cases ru
    exact repr_rdz rd sh sz hg (by omega) fun h' u' tk kp => ⟨.str _, H, I.kept (t' := tk) kp, ⟨_, rfl⟩, q⟩
end
end Cry
/-! The law's draws: what is handed in as a walk. -/
namespace Cry
open PySem PySem.Spec PyProof.Rows L2
/-- data whose text can be asked, dicts among it -/
structure Sz (B k : Nat) (d : PyData) : Prop where
  lv : d.leavesShort 13 = true
  sh : d.showable = true
  wt : d.weight ≤ B
  dp : d.depth ≤ k
theorem Sm.sz {B k : Nat} {d : PyData} (h : Sm B k d) : Sz B k d := ⟨PyData.leavesShort_of_canLay0 13 d h.lay h.ish, h.sh, h.wt, h.dp⟩
theorem Sz.shown {B k : Nat} {d : PyData} (h : Sz B k d) (hb : B ≤ 2 ^ 20) : d.shown.length ≤ sizeLine := PyData.shown_fits (B := 13) (by decide) (by decide) h.lv (Nat.le_trans h.wt hb)
theorem Sz.mono {B C j k : Nat} {d : PyData} (h : Sz B j d) (l : B ≤ C) (m : j ≤ k) : Sz C k d := ⟨h.lv, h.sh, Nat.le_trans h.wt l, Nat.le_trans h.dp m⟩
theorem Sz.all {B k : Nat} : ∀ {ds : List PyData}, (∀ e ∈ ds, Sz B k e) → PyData.leavesShortAll 13 ds = true ∧ PyData.showableAll ds = true ∧ PyData.weightAll ds ≤ ds.length * (B + 1) ∧ PyData.depthAll ds ≤ k
  | [], _ => ⟨rfl, rfl, Nat.zero_le _, Nat.zero_le _⟩
  | d :: ds, h => by
    have a := h d List.mem_cons_self
    obtain ⟨b1, b2, b3, b4⟩ := Sz.all fun e he => h e (List.mem_cons_of_mem _ he)
    refine ⟨?_, ?_, ?_, ?_⟩
    · show (d.leavesShort 13 && PyData.leavesShortAll 13 ds) = true
      rw [a.lv, b1]
      rfl
    · show (d.showable && PyData.showableAll ds) = true
      rw [a.sh, b2]
      rfl
    · show d.weight + 1 + PyData.weightAll ds ≤ (ds.length + 1) * (B + 1)
      have := a.wt
      rw [Nat.add_mul]
      omega
    · show max d.depth (PyData.depthAll ds) ≤ k
      exact Nat.max_le.mpr ⟨a.dp, b4⟩
theorem Sz.list {B C k : Nat} {ds : List PyData} (h : ∀ e ∈ ds, Sz B k e) (l : ds.length * (B + 1) ≤ C) : Sz C (k + 1) (.list ds) := by
  obtain ⟨h1, h2, h3, h4⟩ := Sz.all h
  refine ⟨h1, h2, Nat.le_trans h3 l, ?_⟩
  show PyData.depthAll ds + 1 ≤ k + 1
  omega
theorem Sz.tuple {B C k : Nat} {ds : List PyData} (h : ∀ e ∈ ds, Sz B k e) (l : ds.length * (B + 1) ≤ C) : Sz C (k + 1) (.tuple ds) := by
  obtain ⟨h1, h2, h3, h4⟩ := Sz.all h
  refine ⟨h1, h2, Nat.le_trans h3 l, ?_⟩
  show PyData.depthAll ds + 1 ≤ k + 1
  omega
theorem Sz.non : Sz 0 0 .none := ⟨rfl, rfl, Nat.le_refl _, Nat.le_refl _⟩
theorem Sz.bl (b : Bool) : Sz 0 0 (.bool b) := ⟨rfl, rfl, Nat.le_refl _, Nat.le_refl _⟩
theorem Sz.dic : Sz 0 1 (.dict []) := ⟨rfl, rfl, Nat.le_refl _, by show PyData.depthKv [] + 1 ≤ 1; exact Nat.le_refl _⟩
theorem shaped_of {B k : Nat} {d : PyData} (h : Sm B k d) (hb : k ≤ 64) : SeqAt.shaped d = true := Sm.shaped h hb
theorem shaped_str {x : Str} (h : nameOkS x = true) : SeqAt.shaped (.str x) = true := Sm.shaped (Sm.str h) (by decide)
/-- one of the things that may be handed in: it stays through draws -/
def Cand (a : Addr) (H : Hp) (v : V) : Prop := ∃ d, WhatOk d ∧ Sz 30000 3 d ∧ ∀ H', SameO a H H' → Dz H' v d
theorem Cand.so {a : Addr} {H H' : Hp} {v : V} (h : Cand a H v) (s : SameO a H H') : Cand a H' v := by
  obtain ⟨d, h1, h2, h3⟩ := h
  exact ⟨d, h1, h2, fun H2 s2 => h3 H2 (s.trans s2)⟩
/-- an item of a row that is handed in -/
def AtomOk (v : V) (d : PyData) : Prop := (∃ x, v = .str x ∧ d = .str x ∧ nameOkS x = true) ∨ (v = .int 1 ∧ d = .int 1) ∨ (v = .non ∧ d = .none)
theorem AtomOk.facts {v : V} {d : PyData} (h : AtomOk v d) (H : Hp) : Dz H v d ∧ SeqAt.shaped d = true ∧ Sz 41 0 d ∧ ∀ x, d = .str x → nameOkS x = true := by
  rcases h with ⟨x, rfl, rfl, ok⟩ | ⟨rfl, rfl⟩ | ⟨rfl, rfl⟩
  · exact ⟨.str x (name_short ok), shaped_str ok, (Sm.str ok).sz.mono (by decide) (Nat.le_refl _), fun y e => by cases e; exact ok⟩
  · exact ⟨.int 1, Sm.shaped (Sm.int (n := 1) (by decide) (by decide)) (by decide), (Sm.int (by decide) (by decide)).sz, fun y e => nomatch e⟩
  · exact ⟨.non, by decide +kernel, Sz.non.mono (by decide) (Nat.le_refl _), fun y e => nomatch e⟩
theorem cand_atom {a : Addr} {H : Hp} {v : V} {d : PyData} (hd : ∀ H', Dz H' v d) (hi : itemsD d = []) (sz : Sz 30000 3 d) : Cand a H v :=
  ⟨d, ⟨by rw [hi]; exact Nat.zero_le _, fun x h => (by rw [hi] at h; cases h), fun e h => (by rw [hi] at h; cases h)⟩, sz, fun H' _ => hd H'⟩
theorem cand_row {a l : Addr} {H : Hp} {xs : List V} {ds : List PyData} (tup : Bool) (h : H l = some (if tup then .tup xs else .lst xs)) (na : l ≠ a) (hl : xs.length = ds.length) (few : ds.length ≤ 700) (at_ : ∀ (i : Nat) v d, xs[i]? = some v → ds[i]? = some d → AtomOk v d) : Cand a H (.ref l) := by
  have each : ∀ d ∈ ds, ∃ v, AtomOk v d := fun d hd => by
    obtain ⟨i, e⟩ := List.getElem?_of_mem hd
    have li := (List.getElem?_eq_some_iff.mp e).1
    exact ⟨_, at_ i xs[i] d (List.getElem?_eq_getElem (by omega)) e⟩
  have wh : ∀ d', itemsD d' = ds → WhatOk d' := fun d' e => ⟨by rw [e]; omega, fun x hx => by
    rw [e] at hx
    obtain ⟨v, hv⟩ := each _ hx
    exact (hv.facts H).2.2.2 x rfl, fun d hd => by
    rw [e] at hd
    obtain ⟨v, hv⟩ := each _ hd
    exact (hv.facts H).2.1⟩
  have sz : ∀ d ∈ ds, Sz 41 0 d := fun d hd => by
    obtain ⟨v, hv⟩ := each _ hd
    exact (hv.facts H).2.2.1
  cases tup with
  | true => exact ⟨.tuple ds, wh _ rfl, (Sz.tuple sz (by omega)).mono (Nat.le_refl 30000) (by decide), fun H' s => .tup (s _ _ na h) hl fun i v d h1 h2 => ((at_ i v d h1 h2).facts H').1⟩
  | false => exact ⟨.list ds, wh _ rfl, (Sz.list sz (by omega)).mono (Nat.le_refl 30000) (by decide), fun H' s => .lst (s _ _ na h) hl fun i v d h1 h2 => ((at_ i v d h1 h2).facts H').1⟩
theorem atoms_strs {ts : List Str} (ok : ∀ x ∈ ts, nameOkS x = true) : ∀ (i : Nat) v d, (ts.map V.str)[i]? = some v → (ts.map PyData.str)[i]? = some d → AtomOk v d := fun i v d h1 h2 => by
  rw [List.getElem?_map] at h1 h2
  cases e : ts[i]? with
  | none =>
    rw [e] at h1
    cases h1
  | some x =>
    rw [e] at h1 h2
    cases h1
    cases h2
    exact .inl ⟨x, rfl, rfl, ok x (List.mem_of_getElem? e)⟩
theorem atoms_append {xs ys : List V} {ds es : List PyData} (hl : xs.length = ds.length) (h1 : ∀ (i : Nat) v d, xs[i]? = some v → ds[i]? = some d → AtomOk v d) (h2 : ∀ (i : Nat) v d, ys[i]? = some v → es[i]? = some d → AtomOk v d) :
    ∀ (i : Nat) v d, (xs ++ ys)[i]? = some v → (ds ++ es)[i]? = some d → AtomOk v d := fun i v d e1 e2 => by
  by_cases h : i < xs.length
  · rw [List.getElem?_append_left h] at e1
    rw [List.getElem?_append_left (by omega)] at e2
    exact h1 i v d e1 e2
  · rw [List.getElem?_append_right (by omega)] at e1 e2
    rw [← hl] at e2
    exact h2 _ v d e1 e2
theorem atoms_one {v : V} {d : PyData} (h : AtomOk v d) : ∀ (i : Nat) v' d', [v][i]? = some v' → [d][i]? = some d' → AtomOk v' d' := fun i v' d' e1 e2 => by
  cases i with
  | zero =>
    cases e1
    cases e2
    exact h
  | succ i => simp at e1
theorem cut_strs (walk : List Str) (lo hi : Option Int) : ∃ ts : List Str, cutV (walk.map V.str) lo hi = ts.map V.str ∧ (∀ x ∈ ts, x ∈ walk) ∧ ts.length ≤ walk.length := by
  unfold cutV
  generalize HT.sIx (walk.map V.str).length 0 lo = p
  generalize HT.sIx (walk.map V.str).length (walk.map V.str).length hi - p = m
  refine ⟨(walk.drop p).take m, by rw [List.map_take, List.map_drop], fun x hx => List.mem_of_mem_drop (List.mem_of_mem_take hx), ?_⟩
  rw [List.length_take, List.length_drop]
  omega
section
variable {P : Program} {w : World} {K : PySem.W.Frag} {mg : Str → Option Value} {base : Heap}
/-- a slice of a row of texts -/
theorem t_cut {σ : Slots} {H : Hp} {Q : VK} {i : Nat} {l : Addr} {walk : List Str} {tl th : TO} {lo hi : Option Int} (hv : σ[i]? = some (some (.ref l))) (hl : H l = some (.lst (walk.map V.str))) (h1 : ∀ R, R lo H → tl σ H R) (h2 : ∀ R, R hi H → th σ H R)
    (q : ∀ (p : Addr) (ts : List Str), H p = none → (∀ x ∈ ts, x ∈ walk) → ts.length ≤ walk.length → Q (.ref p) (upd H p (.lst (ts.map V.str)))) : tSl (rSlL K) (tVar i) tl th σ H Q := by
  obtain ⟨ts, e, m, l1⟩ := cut_strs walk lo hi
  refine ⟨_, hv, h1 _ (h2 _ ⟨l, _, rfl, SqL.of hl, fun p np => ?_⟩)⟩
  rw [e]
  exact q p ts np m l1
/-- two slices of a row of texts, one behind the other -/
theorem t_cut2 {σ : Slots} {H : Hp} {Q : VK} {i : Nat} {l : Addr} {walk : List Str} {tl th tl' th' : TO} {lo hi lo' hi' : Option Int} (hv : σ[i]? = some (some (.ref l))) (hl : H l = some (.lst (walk.map V.str))) (few : walk.length ≤ 301)
    (h1 : ∀ H R, R lo H → tl σ H R) (h2 : ∀ H R, R hi H → th σ H R) (h3 : ∀ H R, R lo' H → tl' σ H R) (h4 : ∀ H R, R hi' H → th' σ H R)
    (q : ∀ (p : Addr) (ts : List Str) (H' : Hp), Same H H' → H p = none → H' p = some (.lst (ts.map V.str)) → (∀ x ∈ ts, x ∈ walk) → ts.length ≤ 602 → Q (.ref p) H') : tOp rCat (tSl (rSlL K) (tVar i) tl th) (tSl (rSlL K) (tVar i) tl' th') σ H Q := by
  refine t_cut hv hl (h1 H) (h2 H) fun p ts np m l1 => ?_
  have s1 : Same H (upd H p (.lst (ts.map V.str))) := same_new np
  refine t_cut hv (s1 _ _ hl) (h3 _) (h4 _) fun p' ts' np' m' l1' => ?_
  have s2 := s1.trans (same_new (o := .lst (ts'.map V.str)) np')
  refine ⟨p, p', _, _, rfl, rfl, same_new np' _ _ upd_same, upd_same, ?_, fun y ny => ?_⟩
  · rw [List.length_map, List.length_map]
    exact Nat.le_trans (show ts.length + ts'.length ≤ 1000 by omega) (by decide)
  · refine q y (ts ++ ts') _ (s2.trans (same_new ny)) (s2.free ny) (by rw [upd_same, List.map_append]) (fun x hx => ?_) (by rw [List.length_append]; omega)
    rcases List.mem_append.mp hx with h | h
    · exact m x h
    · exact m' x h
end
end Cry
/-! The law's draws: what is handed in as a walk, as it stands. -/
namespace Cry
open PySem PySem.Spec PyProof.Rows L2
def CandL (a : Addr) (H : Hp) (vs : List V) : Prop := ∀ v ∈ vs, Cand a H v
theorem CandL.on {a : Addr} {H H' : Hp} {vs : List V} (h : CandL a H vs) (s : Same H H') : CandL a H' vs := fun v hv => (h v hv).so (SameO.of s)
theorem CandL.snoc {a : Addr} {H : Hp} {vs : List V} {v : V} (h : CandL a H vs) (c : Cand a H v) : CandL a H (vs ++ [v]) := fun u hu => by
  rcases List.mem_append.mp hu with k | k
  · exact h u k
  · rw [List.mem_singleton.mp k]
    exact c
theorem cons_o {t : TE} {ts : TA} {σ : Slots} {H : Hp} {Q : List V → Hp → Prop} (h : t σ H fun x H1 => ts σ H1 fun xs H2 => Q (x :: xs) H2) : tCons t ts σ H Q := h
theorem op_o {r : R2} {ta tb : TE} {σ : Slots} {H : Hp} {Q : VK} (h : ta σ H fun x H1 => tb σ H1 fun y H2 => r x y H2 Q) : tOp r ta tb σ H Q := h
section
variable {P : Program} {w : World} {K : PySem.W.Frag} {mg : Str → Option Value} {base : Heap}
abbrev nBent : List Str := ["spring", "land", "walk", "at", "name", "some"]
theorem scBent : FnScope nBent ["spring", "land", "walk"] (defScope sLBent) := ⟨rfl, rfl, rfl, by decide +kernel, rfl, by decide +kernel, by decide +kernel⟩
def spBent : Sp := fun vs H Q _ => ∃ (a T l : Addr) (names : List Str) (ways : List Way) (walk : List Str), vs = [.ref a, .ref T, .ref l] ∧ SpringAt H a ∧ WebAt H T names ways ∧ WebOk names ways ∧ H l = some (.lst (walk.map V.str)) ∧ WalkOk names walk ∧
  ∀ v H', SameO a H H' → SpringAt H' a → Cand a H' v → Q v H'
theorem ok_bent {f f1 : Addr} {fd fd1 : FuncData} (F : Fun K "_law_bent" "_law_bent" sLBent f fd) (mL : mg "len" = none) (mT : mg "tuple" = none) (D1 : Def K mg "_law_draw" f1 fd1 ["spring", "many"]) (G1 : FnOk P w K mg base CX0 1 f1 fd1 ["spring", "many"] spSDraw) : FnOk P w K mg base CX0 2 f fd ["spring", "land", "walk"] spBent := by
  refine F.ok scBent (fun vs H Q E h => ?_) (fun cdv A outer s H vs Q E hr h => ?_)
  · obtain ⟨a, T, l, names, ways, walk, rfl, _⟩ := h
    rfl
  · obtain ⟨a, T, l, names, ways, walk, rfl, sp, hw, wok, hl, kw, q⟩ := h
    refine ⟨_, pss_cons (ps_set (i := 3) scBent.nd rfl (Or.inl rfl) (pe_call G1 hr (by rfl) D1.at_ D1.kp D1.b .nil pass0 (pa_cons (pv 0) (pa_cons (pe_callB cr_lenS (by rfl) mL (by decide +kernel) (pa_cons (pv 2) pa_nil)) pa_nil))))
      (pss_cons (ps_set (i := 4) scBent.nd rfl (Or.inl rfl) (pe_ix ix_list (pe_ix ix_tup (pv 1) pe_int (fun _ _ => rfl)) (pe_call G1 hr (by rfl) D1.at_ D1.kp D1.b .nil pass0 (pa_cons (pv 0) (pa_cons (pe_callB cr_lenS (by rfl) mL (by decide +kernel) (pa_cons (pe_ix ix_tup (pv 1) pe_int (fun _ _ => rfl)) pa_nil)) pa_nil))) (fun _ _ => rfl)))
      (pss_cons (ps_set (i := 5) scBent.nd rfl (Or.inl rfl) (pe_lst (pa_cons (pv 2) (pa_cons (pe_callTy call_tuple_of (by rfl) mT (by decide +kernel) (pa_cons (pv 2) pa_nil))
          (pa_cons (pe_op op_cat (pe_slice sl_list (pv 2) po_none (po_some (pv 3))) (pe_slice sl_list (pv 2) (po_some (pe_op op_add (pv 3) pe_int)) po_none))
          (pa_cons (pe_op op_cat (pe_slice sl_list (pv 2) po_none (po_some (pe_op op_add (pv 3) pe_int))) (pe_slice sl_list (pv 2) (po_some (pv 3)) po_none)) pa_nil))))))
      (pss_cons (ps_set (i := 5) scBent.nd rfl (Or.inl rfl) (pe_op op_cat (pv 5) (pe_lst (pa_cons (pe_op op_cat (pe_op op_cat (pe_slice sl_list (pv 2) po_none (po_some (pv 3))) (pe_lst (pa_cons (pv 4) pa_nil))) (pe_slice sl_list (pv 2) (po_some (pe_op op_add (pv 3) pe_int)) po_none))
          (pa_cons (pe_revL (pv 2)) (pa_cons (pe_op op_cat (pv 2) (pe_lst (pa_cons pe_str pa_nil))) (pa_cons (pe_op op_cat (pv 2) (pe_lst (pa_cons pe_int pa_nil))) (pa_cons (pe_lst (pa_cons (pv 2) pa_nil)) (pa_cons (pe_lst pa_nil) pa_nil)))))))))
      (pss_cons (ps_set (i := 5) scBent.nd rfl (Or.inl rfl) (pe_op op_cat (pv 5) (pe_lst (pa_cons pe_non (pa_cons pe_int (pa_cons pe_str (pa_cons pe_dnewK (pa_cons (pe_op op_cat (pe_slice sl_list (pv 2) po_none (po_some (pv 3))) (pe_lst (pa_cons pe_non pa_nil))) (pa_cons pe_bl pa_nil)))))))))
      (pss_one (ps_ret (pe_ix ix_list (pv 5) (pe_call G1 hr (by rfl) D1.at_ D1.kp D1.b .nil pass0 (pa_cons (pv 0) (pa_cons pe_int pa_nil))) (fun _ _ => rfl)))))))), ?_⟩
    have ne := wok.ne
    have lp := List.length_pos_iff.mpr kw.ne
    have few := kw.few
    have okw : ∀ x ∈ walk, nameOkS x = true := fun x hx => wok.ok x (kw.mem x hx)
    have nla := sp.ne0 hl kw.ne
    have lV : (walk.map V.str).length = walk.length := List.length_map ..
    -- at, name
    refine ⟨_, rfl, _, rfl, l, _, rfl, .inl (SqL.of hl), a, _, rfl, sp, by rw [lV]; omega, by rw [lV]; omega, fun r1 H1 r1l so1 sp1 => ?_⟩
    obtain ⟨F', W, ws, hT, hF, hW, hI, n1, n2, n3⟩ := (hw.so sp so1 ne).apartS sp1 ne
    have nV : (names.map V.str).length = names.length := List.length_map ..
    have np := List.length_pos_iff.mpr ne
    have n60 := wok.most
    refine ⟨_, rfl, T, _, 0, _, rfl, rfl, SqT.of hT, atI_nat (j := 0) rfl, _, rfl, _, rfl, T, _, 0, _, rfl, rfl, SqT.of hT, atI_nat (j := 0) rfl, F', _, rfl, .inl (SqL.of hF), a, _, rfl, sp1, by rw [nV]; omega, by rw [nV]; omega, fun r2 H2 r2l so2 sp2 => ?_⟩
    rw [nV] at r2l
    have l2 : r2 < names.length := by omega
    refine ⟨F', _, _, _, rfl, rfl, SqL.of (so2 _ _ n2 hF), atI_nat (str_at l2), ?_⟩
    have okn := wok.ok _ (List.getElem_mem l2)
    generalize names[r2] = nm at okn ⊢
    have soA : SameO a H H2 := so1.trans so2
    have hl2 := soA _ _ nla hl
    have c0 : CandL a H2 ([] ++ [.ref l]) := CandL.snoc (fun v hv => absurd hv (by simp)) (cand_row false (ds := walk.map PyData.str) hl2 nla (by simp) (by rw [List.length_map]; omega) (atoms_strs okw))
    -- the first four
    refine ⟨_, rfl, _, rfl, l, _, rfl, .inl ⟨SqL.of hl2, fun t nt => ?_⟩⟩
    have s3 : Same H2 (upd H2 t (.tup (walk.map V.str))) := same_new nt
    have sp3 := sp2.on s3
    have c1 := (c0.on s3).snoc (cand_row true (ds := walk.map PyData.str) (a := a) (l := t) (xs := walk.map V.str) upd_same (sp2.ne nt) (by simp) (by rw [List.length_map]; omega) (atoms_strs okw))
    have hl3 := s3 _ _ hl2
    generalize upd H2 t (.tup (walk.map V.str)) = H3 at s3 sp3 c1 hl3
    refine cons_o (t_cut2 (walk := walk) rfl hl3 few (fun H R h => h) (fun H R h => ⟨_, rfl, _, rfl, h⟩) (fun H R h => ⟨_, rfl, _, _, rfl, rfl, _, rfl, h⟩) (fun H R h => h) fun pA tA H4 s4 npA hA mA lA => ?_)
    have sp4 := sp3.on s4
    have c2 := (c1.on s4).snoc (cand_row false (ds := tA.map PyData.str) hA (sp3.ne npA) (by simp) (by rw [List.length_map]; omega) (atoms_strs fun x hx => okw x (mA x hx)))
    have hl4 := s4 _ _ hl3
    refine cons_o (t_cut2 (walk := walk) rfl hl4 few (fun H R h => h) (fun H R h => ⟨_, rfl, _, _, rfl, rfl, _, rfl, h⟩) (fun H R h => ⟨_, rfl, _, rfl, h⟩) (fun H R h => h) fun pB tB H5 s5 npB hB mB lB => ?_)
    have sp5 := sp4.on s5
    have c3 := (c2.on s5).snoc (cand_row false (ds := tB.map PyData.str) hB (sp4.ne npB) (by simp) (by rw [List.length_map]; omega) (atoms_strs fun x hx => okw x (mB x hx)))
    have hl5 := s5 _ _ hl4
    refine ⟨by show 4 ≤ sizeLine; decide, fun S1 nS1 => ?_⟩
    have s6 : Same H5 (upd H5 S1 (.lst [.ref l, .ref t, .ref pA, .ref pB])) := same_new nS1
    have sp6 := sp5.on s6
    have c4 := c3.on s6
    have hl6 := s6 _ _ hl5
    have hS1 : (upd H5 S1 (.lst [.ref l, .ref t, .ref pA, .ref pB])) S1 = some (.lst [.ref l, .ref t, .ref pA, .ref pB]) := upd_same
    have soB : SameO a H (upd H5 S1 (.lst [.ref l, .ref t, .ref pA, .ref pB])) := soA.trans (SameO.of (((s3.trans s4).trans s5).trans s6))
    generalize upd H5 S1 (.lst [.ref l, .ref t, .ref pA, .ref pB]) = H6 at s6 sp6 c4 hl6 hS1 soB
    -- six more
    refine ⟨_, rfl, ?_⟩
    refine cons_o (op_o (op_o (t_cut (walk := walk) rfl hl6 (fun R h => h) (fun R h => ⟨_, rfl, _, rfl, h⟩) fun p1 ts1 np1 m1 l1 => ?_)))
    have s7 : Same H6 (upd H6 p1 (.lst (ts1.map V.str))) := same_new np1
    have h7 : (upd H6 p1 (.lst (ts1.map V.str))) p1 = some (.lst (ts1.map V.str)) := upd_same
    generalize upd H6 p1 (.lst (ts1.map V.str)) = H7 at s7 h7
    refine ⟨_, rfl, by show 1 ≤ sizeLine; decide, fun p2 np2 => ?_⟩
    have s8 : Same H7 (upd H7 p2 (.lst [.str nm])) := same_new np2
    refine ⟨p1, p2, _, _, rfl, rfl, s8 _ _ h7, upd_same, ?_, fun p3 np3 => ?_⟩
    · rw [List.length_map]
      exact Nat.le_trans (show ts1.length + 1 ≤ 1000 by omega) (by decide)
    have s9 := s8.trans (same_new (o := .lst (ts1.map V.str ++ [.str nm])) np3)
    have h9 : (upd (upd H7 p2 (.lst [.str nm])) p3 (.lst (ts1.map V.str ++ [.str nm]))) p3 = some (.lst (ts1.map V.str ++ [.str nm])) := upd_same
    generalize upd (upd H7 p2 (.lst [.str nm])) p3 (.lst (ts1.map V.str ++ [.str nm])) = H9 at s9 h9
    have s79 := s7.trans s9
    refine t_cut (walk := walk) rfl (s79 _ _ hl6) (fun R h => ⟨_, rfl, _, _, rfl, rfl, _, rfl, h⟩) (fun R h => h) fun p4 ts4 np4 m4 l4 => ?_
    have s10 := s79.trans (same_new (o := .lst (ts4.map V.str)) np4)
    refine ⟨p3, p4, _, _, rfl, rfl, same_new np4 _ _ h9, upd_same, ?_, fun pC nC => ?_⟩
    · rw [List.length_append, List.length_map, List.length_map]
      exact Nat.le_trans (show ts1.length + 1 + ts4.length ≤ 1000 by omega) (by decide)
    have s11 := s10.trans (same_new (o := .lst (ts1.map V.str ++ [.str nm] ++ ts4.map V.str)) nC)
    have spx := sp6.on s10
    have c5 := (c4.on s11).snoc (cand_row false (a := a) (l := pC) (ds := ts1.map PyData.str ++ [.str nm] ++ ts4.map PyData.str) upd_same (spx.ne nC) (by simp) (by rw [List.length_append, List.length_append, List.length_map, List.length_map]; show ts1.length + 1 + ts4.length ≤ 700; omega)
      (atoms_append (by simp) (atoms_append (by simp) (atoms_strs fun x hx => okw x (m1 x hx)) (atoms_one (.inl ⟨nm, rfl, rfl, okn⟩))) (atoms_strs fun x hx => okw x (m4 x hx))))
    generalize upd (upd H9 p4 (.lst (ts4.map V.str))) pC (.lst (ts1.map V.str ++ [.str nm] ++ ts4.map V.str)) = H11 at s11 c5
    have sp11 := sp6.on s11
    have hl11 := s11 _ _ hl6
    refine ⟨_, rfl, l, _, rfl, SqL.of hl11, fun pR nR => ?_⟩
    have s12 : Same H11 (upd H11 pR (.lst (walk.map V.str).reverse)) := same_new nR
    have c6 := (c5.on s12).snoc (cand_row false (a := a) (l := pR) (xs := (walk.map V.str).reverse) (ds := (walk.reverse).map PyData.str) upd_same (sp11.ne nR) (by simp) (by rw [List.length_map, List.length_reverse]; omega)
      (by rw [← List.map_reverse]; exact atoms_strs fun x hx => okw x (List.mem_reverse.mp hx)))
    have sp12 := sp11.on s12
    have hl12 := s12 _ _ hl11
    generalize upd H11 pR (.lst (walk.map V.str).reverse) = H12 at s12 c6 sp12 hl12
    refine ⟨_, rfl, by show 1 ≤ sizeLine; decide, fun p5 np5 => ?_⟩
    have s13 : Same H12 (upd H12 p5 (.lst [.str "zzz"])) := same_new np5
    refine ⟨l, p5, _, _, rfl, rfl, s13 _ _ hl12, upd_same, ?_, fun pZ nZ => ?_⟩
    · rw [lV]
      exact Nat.le_trans (show walk.length + 1 ≤ 1000 by omega) (by decide)
    have s14 := s13.trans (same_new (o := .lst (walk.map V.str ++ [.str "zzz"])) nZ)
    have c7 := (c6.on s14).snoc (cand_row false (a := a) (l := pZ) (ds := walk.map PyData.str ++ [.str "zzz"]) upd_same ((sp12.on s13).ne nZ) (by simp) (by rw [List.length_append, List.length_map]; show walk.length + 1 ≤ 700; omega)
      (atoms_append (by simp) (atoms_strs okw) (atoms_one (.inl ⟨"zzz", rfl, rfl, by decide +kernel⟩))))
    have sp14 := sp12.on s14
    have hl14 := s14 _ _ hl12
    generalize upd (upd H12 p5 (.lst [.str "zzz"])) pZ (.lst (walk.map V.str ++ [.str "zzz"])) = H14 at s14 c7 sp14 hl14
    refine ⟨_, rfl, by show 1 ≤ sizeLine; decide, fun p6 np6 => ?_⟩
    have s15 : Same H14 (upd H14 p6 (.lst [.int 1])) := same_new np6
    refine ⟨l, p6, _, _, rfl, rfl, s15 _ _ hl14, upd_same, ?_, fun pO nO => ?_⟩
    · rw [lV]
      exact Nat.le_trans (show walk.length + 1 ≤ 1000 by omega) (by decide)
    have s16 := s15.trans (same_new (o := .lst (walk.map V.str ++ [.int 1])) nO)
    have c8 := (c7.on s16).snoc (cand_row false (a := a) (l := pO) (ds := walk.map PyData.str ++ [.int 1]) upd_same ((sp14.on s15).ne nO) (by simp) (by rw [List.length_append, List.length_map]; show walk.length + 1 ≤ 700; omega)
      (atoms_append (by simp) (atoms_strs okw) (atoms_one (.inr (.inl ⟨rfl, rfl⟩)))))
    have sp16 := sp14.on s16
    have hl16 := s16 _ _ hl14
    generalize upd (upd H14 p6 (.lst [.int 1])) pO (.lst (walk.map V.str ++ [.int 1])) = H16 at s16 c8 sp16 hl16
    refine ⟨_, rfl, by show 1 ≤ sizeLine; decide, fun pW nW => ?_⟩
    have s17 : Same H16 (upd H16 pW (.lst [.ref l])) := same_new nW
    have npWa := sp16.ne nW
    have cW : Cand a (upd H16 pW (.lst [.ref l])) (.ref pW) := by
      have smw : Sm 12642 1 (.list (walk.map PyData.str)) := Sm.list (B := 8) (fun e he => by
        obtain ⟨x, hx, rfl⟩ := List.mem_map.mp he
        exact Sm.str (okw x hx)) (by rw [List.length_map]; omega)
      refine ⟨.list [.list (walk.map PyData.str)], ⟨by show 1 ≤ 1000; decide, fun x hx => ?_, fun e he => ?_⟩, (Sz.list (B := 12642) (k := 1) (C := 30000) (fun e he => by rw [List.mem_singleton.mp he]; exact smw.sz) (by show 1 * (12642 + 1) ≤ 30000; decide)).mono (Nat.le_refl _) (by decide), fun H' so' => ?_⟩
      · exact absurd (List.mem_singleton.mp hx) (fun z => nomatch z)
      · rw [List.mem_singleton.mp (show e ∈ [PyData.list (walk.map PyData.str)] from he)]
        exact Sm.shaped smw (by decide)
      · refine .lst (so' _ _ npWa upd_same) rfl fun i x e h1 h2 => ?_
        cases i with
        | succ i => simp at h1
        | zero =>
          cases h1
          cases h2
          exact .lst (so' _ _ nla (s17 _ _ hl16)) (by simp) fun i v d h1 h2 => ((atoms_strs okw i v d h1 h2).facts H').1
    have c9 := (c8.on s17).snoc cW
    have sp17 := sp16.on s17
    have hl17 := s17 _ _ hl16
    generalize upd H16 pW (.lst [.ref l]) = H17 at s17 c9 sp17 hl17
    refine ⟨Nat.zero_le _, fun pE nE => ?_⟩
    have s18 : Same H17 (upd H17 pE (.lst [])) := same_new nE
    have c10 := (c9.on s18).snoc (cand_row false (a := a) (l := pE) (xs := []) (ds := []) upd_same (sp17.ne nE) rfl (by decide) (fun i v d h => by simp at h))
    have sp18 := sp17.on s18
    have hl18 := s18 _ _ hl17
    generalize upd H17 pE (.lst []) = H18 at s18 c10 sp18 hl18
    have s618 := (((((s11.trans s12).trans s14).trans s16).trans s17).trans s18)
    refine ⟨by show 6 ≤ sizeLine; decide, fun S2 nS2 => ?_⟩
    have s19 : Same H18 (upd H18 S2 (.lst [.ref pC, .ref pR, .ref pZ, .ref pO, .ref pW, .ref pE])) := same_new nS2
    refine ⟨S1, S2, _, _, rfl, rfl, s19 _ _ (s618 _ _ hS1), upd_same, by show 4 + 6 ≤ sizeLine; decide, fun S3 nS3 => ?_⟩
    have s20 := s19.trans (same_new (o := .lst ([.ref l, .ref t, .ref pA, .ref pB] ++ [.ref pC, .ref pR, .ref pZ, .ref pO, .ref pW, .ref pE])) nS3)
    have hS3 : (upd (upd H18 S2 (.lst [.ref pC, .ref pR, .ref pZ, .ref pO, .ref pW, .ref pE])) S3 (.lst ([.ref l, .ref t, .ref pA, .ref pB] ++ [.ref pC, .ref pR, .ref pZ, .ref pO, .ref pW, .ref pE]))) S3 = some (.lst ([.ref l, .ref t, .ref pA, .ref pB] ++ [.ref pC, .ref pR, .ref pZ, .ref pO, .ref pW, .ref pE])) := upd_same
    have c11 := c10.on s20
    have sp20 := sp18.on s20
    have hl20 := s20 _ _ hl18
    have soC := soB.trans (SameO.of (s618.trans s20))
    generalize upd (upd H18 S2 (.lst [.ref pC, .ref pR, .ref pZ, .ref pO, .ref pW, .ref pE])) S3 (.lst ([.ref l, .ref t, .ref pA, .ref pB] ++ [.ref pC, .ref pR, .ref pZ, .ref pO, .ref pW, .ref pE])) = H20 at s20 hS3 c11 sp20 hl20 soC
    -- six more
    refine ⟨_, rfl, ?_⟩
    intro pD nD
    have s21 : Same H20 (upd H20 pD (.dK [])) := same_new nD
    have npDa := sp20.ne nD
    have cD : Cand a (upd H20 pD (.dK [])) (.ref pD) := ⟨.dict [], ⟨Nat.zero_le _, fun x h => (nomatch h), fun e h => (nomatch h)⟩, Sz.dic.mono (by decide) (by decide), fun H' so' => .dic (so' _ _ npDa upd_same)⟩
    have c12 := ((((c11.on s21).snoc (cand_atom (a := a) (H := upd H20 pD (.dK [])) (v := .non) (fun H' => .non) rfl (Sz.non.mono (by decide) (by decide)))).snoc (cand_atom (a := a) (H := upd H20 pD (.dK [])) (fun H' => .int 0) rfl ((Sm.int (n := 0) (by decide) (by decide)).sz.mono (by decide) (by decide)))).snoc
      (cand_atom (a := a) (H := upd H20 pD (.dK [])) (v := .str "a") (fun H' => .str "a" (by decide)) rfl ((Sm.str (x := "a") (by decide +kernel)).sz.mono (by decide) (by decide)))).snoc cD
    have sp21 := sp20.on s21
    have hl21 := s21 _ _ hl20
    have hS21 := s21 _ _ hS3
    have soD := soC.trans (SameO.of s21)
    generalize upd H20 pD (.dK []) = H21 at s21 c12 sp21 hl21 hS21 soD
    refine cons_o (op_o (t_cut (walk := walk) rfl hl21 (fun R h => h) (fun R h => ⟨_, rfl, _, rfl, h⟩) fun p7 ts7 np7 m7 l7 => ?_))
    have s22 : Same H21 (upd H21 p7 (.lst (ts7.map V.str))) := same_new np7
    refine ⟨by show 1 ≤ sizeLine; decide, fun p8 np8 => ?_⟩
    have s23 : Same (upd H21 p7 (.lst (ts7.map V.str))) (upd (upd H21 p7 (.lst (ts7.map V.str))) p8 (.lst [.non])) := same_new np8
    refine ⟨p7, p8, _, _, rfl, rfl, s23 _ _ upd_same, upd_same, ?_, fun pN nN => ?_⟩
    · rw [List.length_map]
      exact Nat.le_trans (show ts7.length + 1 ≤ 1000 by omega) (by decide)
    have s24 := (s22.trans s23).trans (same_new (o := .lst (ts7.map V.str ++ [.non])) nN)
    have c13 := (c12.on s24).snoc (cand_row false (a := a) (l := pN) (ds := ts7.map PyData.str ++ [.none]) upd_same ((sp21.on (s22.trans s23)).ne nN) (by simp) (by rw [List.length_append, List.length_map]; show ts7.length + 1 ≤ 700; omega)
      (atoms_append (by simp) (atoms_strs fun x hx => okw x (m7 x hx)) (atoms_one (.inr (.inr ⟨rfl, rfl⟩)))))
    have sp24 := sp21.on s24
    have hS24 := s24 _ _ hS21
    have soE := soD.trans (SameO.of s24)
    generalize upd (upd (upd H21 p7 (.lst (ts7.map V.str))) p8 (.lst [.non])) pN (.lst (ts7.map V.str ++ [.non])) = H24 at s24 c13 sp24 hS24 soE
    refine ⟨by show 6 ≤ sizeLine; decide, fun S4 nS4 => ?_⟩
    have s25 : Same H24 (upd H24 S4 (.lst [.non, .int 0, .str "a", .ref pD, .ref pN, .bl true])) := same_new nS4
    refine ⟨S3, S4, _, _, rfl, rfl, s25 _ _ hS24, upd_same, by show 10 + 6 ≤ sizeLine; decide, fun S5 nS5 => ?_⟩
    generalize hall : ([V.ref l, .ref t, .ref pA, .ref pB] ++ [.ref pC, .ref pR, .ref pZ, .ref pO, .ref pW, .ref pE] ++ [.non, .int 0, .str "a", .ref pD, .ref pN, .bl true]) = all at nS5 ⊢
    have s26 := s25.trans (same_new (o := .lst all) nS5)
    have nS5a : S5 ≠ a := (sp24.on s25).ne nS5
    have sp26 := sp24.on s26
    have c14 : CandL a (upd (upd H24 S4 (.lst [.non, .int 0, .str "a", .ref pD, .ref pN, .bl true])) S5 (.lst all)) all := by
      have := (c13.on s26).snoc (cand_atom (a := a) (v := .bl true) (fun H' => .bl true) rfl ((Sz.bl true).mono (by decide) (by decide)))
      intro v hv
      rw [← hall] at hv
      exact this v (by simpa using hv)
    have la : all.length = 16 := by
      rw [← hall]
      rfl
    refine ⟨_, rfl, _, rfl, a, _, rfl, sp26, by decide, by decide, fun r H27 rl so27 sp27 => ?_⟩
    have lt : r < all.length := by omega
    refine ⟨S5, all, _, all[r], rfl, rfl, SqL.of (so27 _ _ nS5a upd_same), atI_nat (List.getElem?_eq_getElem lt), q _ H27 ?_ sp27 ((c14 _ (List.getElem_mem lt)).so so27)⟩
    exact (soE.trans (SameO.of s26)).trans so27
end
end Cry
/-! The law's last rows: a walk is judged alike, twice. -/
namespace Cry
open PySem PySem.Spec PyProof.Rows L2
/-- repr(), so that nothing opens it by itself -/
structure RZs (vs : List V) (H : Hp) (Q : VK) : Prop where
  h : rReprZ vs H Q
theorem cr_rzs {X : Cx} (hg : X.A.guards = some []) (hu : X.A.units + 64 < cLine) : CallR X (.builtin "repr") RZs := fun pins s σ H vs us Q I r h => cr_reprZ hg hu pins s σ H vs us Q I r h.h
theorem strs_da {H : Hp} {l : Addr} {xs : List Str} (h : H l = some (.lst (xs.map V.str))) (ok : ∀ x ∈ xs, nameOkS x = true) : Da H (.ref l) (.list (xs.map PyData.str)) := .lst h (by simp) fun i v e k1 k2 => by
  rw [List.getElem?_map] at k1 k2
  cases e0 : xs[i]? with
  | none =>
    rw [e0] at k1
    cases k1
  | some z =>
    rw [e0] at k1 k2
    cases k1
    cases k2
    exact .str _ (name_short (ok z (List.mem_of_getElem? e0)))
theorem PlaceIs.tri {names : List Str} {ways : List Way} (wok : WebOk names ways) {p : Way} (h : PlaceIs names ways p) : TriOk p := by
  rcases h with ⟨h1, h2, h3⟩ | ⟨y, hy, h1, h2, h3, h4⟩
  · exact ⟨wok.ok _ h2, by rw [← h1]; exact wok.ok _ h2, by omega, by omega⟩
  · have k := wok.way y hy
    exact ⟨by rw [h1]; exact k.1, by rw [h2]; exact k.2.1, by omega, by omega⟩
theorem im_da {H : Hp} {v : V} {p : Way} (h : Im H v (wayD3 p)) (t : TriOk p) : Da H v (wayD3 p) := by
  obtain ⟨a, rfl, ha⟩ := im_way h
  exact .tup ha rfl (y3_da t)
theorem placeOk_is {names : List Str} {ways : List Way} (wok : WebOk names ways) (pn : PairsNd ways) {p : Way} (h : PlaceIs names ways p) : placeOk names ways (wayD3 p) = true := by
  have t := h.tri wok
  show (true && (nameOkS p.1 && nameOkS p.2.1 && (if p.1 = p.2.1 then inNames p.1 names && decide (p.2.2 = 0) else decide (1 ≤ p.2.2) && decide (p.2.2 < between ways p.1 p.2.1)))) = true
  rw [t.1, t.2.1]
  rcases h with ⟨h1, h2, h3⟩ | ⟨y, hy, h1, h2, h3, h4⟩
  · rw [if_pos h1, inNames_mem.mpr h2, decide_eq_true h3]
    rfl
  · have lt := (wok.way y hy).2.2.2.2.2.2
    have ne : ¬ p.1 = p.2.1 := by
      rw [h1, h2]
      intro z
      unfold ltS at lt
      rw [z] at lt
      exact absurd (of_decide_eq_true lt) (List.lt_irrefl _)
    rw [if_neg ne, decide_eq_true h3, h1, h2, between_of pn hy, decide_eq_true h4]
    rfl
theorem startersD_lot {names lot : List Str} (ok : ∀ x ∈ names, nameOkS x = true) (h : LotOk names lot) : startersD names (.list (lot.map PyData.str)) = true := by
  have hn : namesD (.list (lot.map PyData.str)) = lot := namesD_strs rfl
  unfold startersD
  rw [hn, decide_eq_true h.nd]
  have l0 : (itemsD (.list (lot.map PyData.str))).length ≠ 0 := by
    show (lot.map PyData.str).length ≠ 0
    rw [List.length_map]
    exact fun e => h.ne (List.length_eq_zero_iff.mp e)
  rw [decide_eq_true l0]
  have al : (itemsD (.list (lot.map PyData.str))).all (folkIn names) = true := by
    rw [List.all_eq_true]
    intro e he
    obtain ⟨x, hx, rfl⟩ := List.mem_map.mp (show e ∈ lot.map PyData.str from he)
    show (nameOkS x && inNames x names) = true
    rw [ok x (h.mem x hx), inNames_mem.mpr (h.mem x hx)]
    rfl
  rw [al]
  rfl
theorem items_im {H : Hp} {ws : List V} {ways : List Way} (h : Ims H ws (ways.map wayD3)) : ItemsAt H ws ways := by
  refine ⟨by have := h.length; rwa [List.length_map] at this, fun i v y k1 k2 => ?_⟩
  obtain ⟨d, ed, im⟩ := Ims.at h k1
  rw [List.getElem?_map, k2] at ed
  cases ed
  obtain ⟨b, rfl, hb⟩ := im_way im
  exact ⟨b, rfl, .inr hb⟩
theorem WebAt.data {H : Hp} {T : Addr} {names : List Str} {ways : List Way} (h : WebAt H T names ways) (wok : WebOk names ways) : ∃ d, Da H (.ref T) d ∧ WebForm names ways d ∧ Sm 50000 3 d := by
  obtain ⟨F, W, ws, hT, hF, hW, hI⟩ := h
  exact web_da (.inr hT) (.inl hF) (.inl hW) (items_im hI) wok
abbrev tShow : TE := tCB RZs (tCons (tLst (tCons (tVar 3) (tCons (tVar 4) (tCons (tVar 8) (tCons (tVar 9) tNil))))) tNil)
abbrev tDueAt (i : Nat) : TE := tCall spDue [] E0 (tCons (tVar 3) (tCons (tVar 4) (tCons (tVar 8) (tCons (tVar i) (tCons (tVar 9) tNil)))))
abbrev tTail : L2.TS := tSeq (tAsg tShow (gName 13)) (tSeq (tAsg (tDueAt 11) (gName 14))
  (tSeq (tIfS (tNot (tB (tCall spSame [] E0 (tCons (tCall spIsWalk [] E0 (tCons (tVar 3) (tCons (tVar 4) (tCons (tVar 8) (tCons (tVar 11) (tCons (tVar 9) tNil)))))) (tCons (tVar 14) tNil))))) (tRet (tC (.bl false))) tNext)
  (tSeq (tAsg (tOp (rI0 fun i j => .int (i + j)) (tVar 11) (tOp (rI CMul fun i j => .int (i * j)) (tC (.int 2)) (tOp (rI CPow fun i j => .int (i ^ j.toNat)) (tC (.int 10)) (tC (.int 38))))) (gName 10))
  (tSeq (tAsg (tDueAt 10) (gName 14))
  (tSeq (tIfS (tTest (tOp rNe (tCallKR spIsWalk E0 (tCons (tVar 9) (tCons (tVar 10) (tCons (tVar 8) (tCons (tVar 4) (tCons (tVar 3) tNil)))))) (tVar 14))) (tRet (tC (.bl false))) tNext)
  (tIfS (tTest (tOp rNe tShow (tVar 13))) (tRet (tC (.bl false))) tNext))))))
theorem seq_asg {te : TE} {i : Nat} {u : L2.TS} {D : Ends} {σ : Slots} {H : Hp} (h : te σ H fun x H1 => u D (σ.set i (some x)) H1) : tSeq (tAsg te (gName i)) u D σ H := h
theorem seq_alike {ta : TE} {t u : L2.TS} {D : Ends} {σ : Slots} {H : Hp} (h : ta σ H fun x H1 => (tCons (tVar 14) tNil) σ H1 fun xs H2 => spSame (x :: xs ++ []) H2 (fun y H3 => ∃ k, y = .bl k ∧ if (!k) = true then t { D with nx := u D } σ H3 else u D σ H3) E0) :
    tSeq (tIfS (tNot (tB (tCall spSame [] E0 (tCons ta (tCons (tVar 14) tNil))))) t tNext) u D σ H := h
theorem seq_ne {ta tb : TE} {t u : L2.TS} {D : Ends} {σ : Slots} {H : Hp} (h : ta σ H fun x H1 => tb σ H1 fun y H2 => rNe x y H2 fun z H3 => ∃ k, z = .bl k ∧ if k = true then t { D with nx := u D } σ H3 else u D σ H3) :
    tSeq (tIfS (tTest (tOp rNe ta tb)) t tNext) u D σ H := h
theorem ne_o {ta tb : TE} {t : L2.TS} {D : Ends} {σ : Slots} {H : Hp} (h : ta σ H fun x H1 => tb σ H1 fun y H2 => rNe x y H2 fun z H3 => ∃ k, z = .bl k ∧ if k = true then t D σ H3 else D.nx σ H3) :
    tIfS (tTest (tOp rNe ta tb)) t tNext D σ H := h
theorem call5 {sp : Sp} {E : XK} {σ : Slots} {H : Hp} {Q : VK} {i1 i2 i3 i4 i5 : Nat} {v1 v2 v3 v4 v5 : V} (e1 : σ[i1]? = some (some v1)) (e2 : σ[i2]? = some (some v2)) (e3 : σ[i3]? = some (some v3)) (e4 : σ[i4]? = some (some v4)) (e5 : σ[i5]? = some (some v5)) (h : sp [v1, v2, v3, v4, v5] H Q E) :
    tCall sp [] E (tCons (tVar i1) (tCons (tVar i2) (tCons (tVar i3) (tCons (tVar i4) (tCons (tVar i5) tNil))))) σ H Q := ⟨_, e1, _, e2, _, e3, _, e4, _, e5, h⟩
theorem callK5 {sp : Sp} {E : XK} {σ : Slots} {H : Hp} {Q : VK} {i1 i2 i3 i4 i5 : Nat} {v1 v2 v3 v4 v5 : V} (e1 : σ[i1]? = some (some v1)) (e2 : σ[i2]? = some (some v2)) (e3 : σ[i3]? = some (some v3)) (e4 : σ[i4]? = some (some v4)) (e5 : σ[i5]? = some (some v5)) (h : sp [v5, v4, v3, v2, v1] H Q E) :
    tCallKR sp E (tCons (tVar i1) (tCons (tVar i2) (tCons (tVar i3) (tCons (tVar i4) (tCons (tVar i5) tNil))))) σ H Q := ⟨_, e1, _, e2, _, e3, _, e4, _, e5, h⟩
theorem law_tail {Dx : Ends} {H : Hp} {T L : Addr} {names lot : List Str} {ways : List Way} {vp vt : V} {p : Way} {d : PyData} {n : Int} {u0 u1 u2 u5 u6 u7 u10 u12 u13 u14 : Option V} (hw : WebAt H T names ways) (wok : WebOk names ways) (pn : PairsNd ways)
    (hL : H L = some (.lst (lot.map V.str))) (lok : LotOk names lot) (ip : Im H vp (wayD3 p)) (hp : PlaceIs names ways p) (hd : Dz H vt d) (wh : WhatOk d) (sz : Sz 30000 3 d) (h0 : 0 ≤ n)
    (k : ∀ H' v10 v13 v14, Same H H' → Dx.nx [u0, u1, u2, some (.ref T), some (.ref L), u5, u6, u7, some vp, some vt, v10, some (.int n), u12, v13, v14, none] H') :
    tTail Dx [u0, u1, u2, some (.ref T), some (.ref L), u5, u6, u7, some vp, some vt, u10, some (.int n), u12, u13, u14, none] H := by
  obtain ⟨dw, daw, wf, smw⟩ := hw.data wok
  obtain ⟨wb, ef, ew⟩ := wf.web wok
  have okl : ∀ x ∈ lot, nameOkS x = true := fun x hx => wok.ok x (lok.mem x hx)
  have l60 : lot.length ≤ 60 := Nat.le_trans lok.few wok.most
  have dal := strs_da hL okl
  have tri := hp.tri wok
  have dap := im_da ip tri
  have sml : Sm 1000 1 (.list (lot.map PyData.str)) := Sm.list (B := 8) (k := 0) (fun e he => by
    obtain ⟨x, hx, rfl⟩ := List.mem_map.mp he
    exact Sm.str (okl x hx)) (by rw [List.length_map]; omega)
  have smp := Sm.way tri
  have szA : Sz 300000 4 (.list [dw, .list (lot.map PyData.str), wayD3 p, d]) := by
    refine Sz.list (B := 50000) (k := 3) (fun e he => ?_) (by show 4 * (50000 + 1) ≤ 300000; decide)
    simp only [List.mem_cons, List.not_mem_nil, or_false] at he
    rcases he with rfl | rfl | rfl | rfl
    · exact smw.sz
    · exact sml.sz.mono (by decide) (by decide)
    · exact smp.sz.mono (by decide) (by decide)
    · exact sz.mono (by decide) (Nat.le_refl _)
  have zw := daw.dz (lay_nodict _ smw.lay)
  have zl := dal.dz (lay_nodict _ sml.lay)
  have zp := dap.dz (lay_nodict _ smp.lay)
  -- repr([land, lot, there, what])
  have showing : ∀ (σ : Slots) (H' : Hp) (Q : VK), σ[3]? = some (some (.ref T)) → σ[4]? = some (some (.ref L)) → σ[8]? = some (some vp) → σ[9]? = some (some vt) → Same H H' → (∀ H2, Same H H2 → Q (.str (PyData.shown (.list [dw, .list (lot.map PyData.str), wayD3 p, d]))) H2) → tShow σ H' Q := by
    intro σ H' Q e3 e4 e8 e9 s q
    refine ⟨_, e3, _, e4, _, e8, _, e9, by show 4 ≤ sizeLine; decide, fun l nl => ?_⟩
    have s1 := s.trans (same_new (o := .lst [.ref T, .ref L, vp, vt]) nl)
    refine ⟨_, _, rfl, .lst upd_same rfl fun i x e h1 h2 => ?_, Nat.le_trans szA.dp (by decide), szA.shown (by decide), szA.sh, q _ s1⟩
    match i, h1, h2 with
    | 0, h1, h2 =>
      cases h1
      cases h2
      exact zw.on s1
    | 1, h1, h2 =>
      cases h1
      cases h2
      exact zl.on s1
    | 2, h1, h2 =>
      cases h1
      cases h2
      exact zp.on s1
    | 3, h1, h2 =>
      cases h1
      cases h2
      exact hd.on s1
    | _ + 4, h1, _ => simp at h1
  have dueEq : ∀ m, dueD ways lot p m d = walkD ways lot p m d := fun m => due_walk wok hp m wh.txt
  have en : namesD (.list (lot.map PyData.str)) = lot := namesD_strs rfl
  have epl : placeOf (wayD3 p) = p := by
    show (textOf (.str p.1), textOf (.str p.2.1), intOf (.int p.2.2)) = p
    rfl
  -- the law's own look
  have due : ∀ (σ : Slots) (i : Nat) (m : Int) (H' : Hp) (Q : VK), σ[3]? = some (some (.ref T)) → σ[4]? = some (some (.ref L)) → σ[8]? = some (some vp) → σ[9]? = some (some vt) → σ[i]? = some (some (.int m)) → Same H H' → (∀ H2, Same H H2 → Q (.bl (walkD ways lot p m d)) H2) → tDueAt i σ H' Q := by
    intro σ i m H' Q e3 e4 e8 e9 ei s q
    refine ⟨_, e3, _, e4, _, e8, _, ei, _, e9, T, L, vp, vt, names, lot, ways, p, m, d, rfl, hw.on s, wok, s _ _ hL, lok, ip.on (TS.same s), hp, (hd.on s).da, wh, fun H2 s2 => ?_⟩
    rw [dueEq]
    exact q H2 (s.trans s2)
  -- the program's look
  have prog : ∀ (m : Int) (H' : Hp) (Q : VK) (E : XK), 0 ≤ m → Same H H' → (∀ H2, Same H H2 → Q (.bl (walkD ways lot p m d)) H2) → spIsWalk [.ref T, .ref L, vp, .int m, vt] H' Q E := by
    intro m H' Q E m0 s q
    refine ⟨.ref T, .ref L, vp, vt, dw, .list (lot.map PyData.str), wayD3 p, d, m, rfl, daw.on s, wb, dal.on s, by show (lot.map PyData.str).length ≤ 4000; rw [List.length_map]; omega, by rw [ef]; exact startersD_lot wok.ok lok, dap.on s, by rw [ef, ew]; exact placeOk_is wok pn hp, m0, (hd.on s).da, Nat.le_trans wh.few (by decide), fun H2 s2 => ?_⟩
    rw [ew, en, epl]
    exact q H2 (s.trans s2)
  refine seq_asg ?_
  refine showing _ H _ rfl rfl rfl rfl (Same.refl H) fun H1 s1 => ?_
  refine seq_asg ?_
  refine due _ 11 n H1 _ rfl rfl rfl rfl rfl s1 fun H2 s2 => ?_
  -- the first look
  refine seq_alike ?_
  refine call5 rfl rfl rfl rfl rfl ?_
  refine prog n H2 _ _ h0 s2 fun H3 s3 => ?_
  refine ⟨_, rfl, _, _, rfl, fun H4 s4 => ⟨_, rfl, ?_⟩⟩
  rw [decide_eq_true (rfl : V.bl (walkD ways lot p n d) = V.bl (walkD ways lot p n d))]
  refine iteF ?_
  have s34 := s3.trans s4
  -- the second look, later
  refine seq_asg ?_
  refine ⟨_, rfl, _, _, rfl, rfl, ⟨by decide, by decide, by decide⟩, _, _, rfl, rfl, .inl ⟨by decide, by decide⟩, _, _, rfl, rfl, ?_⟩
  show (tSeq (tAsg (tDueAt 10) (gName 14)) _) _ ((([u0, u1, u2, some (.ref T), some (.ref L), u5, u6, u7, some vp, some vt, u10, some (.int n), u12, u13, u14, none].set 13 (some (V.str (PyData.list [dw, PyData.list (List.map PyData.str lot), wayD3 p, d]).shown))).set 14 (some (V.bl (walkD ways lot p n d)))).set 10 (some (.int (n + 2 * (10 : Int) ^ (38 : Int).toNat)))) H4
  generalize hm : n + 2 * (10 : Int) ^ (38 : Int).toNat = m
  have m0 : 0 ≤ m := by
    have : (0 : Int) ≤ 2 * (10 : Int) ^ (38 : Int).toNat := by decide
    omega
  refine seq_asg ?_
  refine due _ 10 m H4 _ rfl rfl rfl rfl rfl s34 fun H5 s5 => ?_
  refine seq_ne ?_
  refine callK5 rfl rfl rfl rfl rfl ?_
  refine prog m H5 _ _ m0 s5 fun H6 s6 => ?_
  refine ⟨_, rfl, rfl, _, rfl, ?_⟩
  rw [decide_eq_true (rfl : V.bl (walkD ways lot p m d) = V.bl (walkD ways lot p m d))]
  refine iteF ?_
  -- what was handed in stays
  refine ne_o ?_
  refine showing _ H6 _ rfl rfl rfl rfl s6 fun H7 s7 => ?_
  refine ⟨_, rfl, rfl, _, rfl, ?_⟩
  rw [decide_eq_true rfl]
  exact iteF (k H7 _ _ _ s7)
end Cry
/-! The law's body. -/
namespace Cry
open PySem PySem.Spec PyProof.Rows L2
theorem ltS_trans {x y z : Str} (h1 : ltS x y = true) (h2 : ltS y z = true) : ltS x z = true := decide_eq_true (List.lt_trans (of_decide_eq_true h1) (of_decide_eq_true h2))
theorem rise_all : ∀ (xs : List Str) (x : Str), risingD ((x :: xs).map PyData.str) = true → (∀ y ∈ xs, ltS x y = true) ∧ risingD (xs.map PyData.str) = true
  | [], _, _ => ⟨fun y hy => absurd hy (by simp), rfl⟩
  | z :: r, x, h => by
    have h' : (PySem.W.dataLt (.str x) (.str z) && risingD ((z :: r).map PyData.str)) = true := h
    rw [Bool.and_eq_true, PySem.W.dataLt_str] at h'
    obtain ⟨h1, h2⟩ := h'
    have h1' : ltS x z = true := h1
    refine ⟨fun y hy => ?_, h2⟩
    rcases List.mem_cons.mp hy with rfl | hy
    · exact h1'
    · exact ltS_trans h1' ((rise_all r z h2).1 y hy)
theorem rise_nodup : ∀ xs : List Str, risingD (xs.map PyData.str) = true → xs.Nodup
  | [], _ => by simp
  | x :: xs, h => by
    have k := rise_all xs x h
    rw [List.nodup_cons]
    refine ⟨fun hx => ?_, rise_nodup xs k.2⟩
    exact List.lt_irrefl _ (of_decide_eq_true (k.1 x hx))
section
variable {P : Program} {w : World} {K : PySem.W.Frag} {mg : Str → Option Value} {base : Heap}
abbrev nLaw : List Str := ["script", "spring", "turn", "land", "lot", "again", "begin", "walk", "there", "what", "far", "when", "beats", "stays", "due", "way"]
theorem scLaw : FnScope nLaw ["script"] (defScope sLaw) := ⟨rfl, rfl, rfl, by decide +kernel, rfl, by decide +kernel, by decide +kernel⟩
def spLaw (K : PySem.W.Frag) : Sp := fun vs H Q _ => ∃ (a : Addr) (ns : List Int), vs = [.ref a] ∧ SqL K H a (ns.map V.int) ∧ ns.length ≤ sizeLine ∧ ∀ H', Q (.bl true) H'
/-- the law's own defs, as they are called -/
structure LawDefs (P : Program) (w : World) (K : PySem.W.Frag) (mg : Str → Option Value) (base : Heap) where
  (fc fd fw fl fg fp fb fs fu fm fi : Addr)
  (dc dd dw dl dg dp db ds du dm di : FuncData)
  Bc : Def K mg "_law_spring" fc dc ["script"]
  Gc : FnOk P w K mg base CX0 1 fc dc ["script"] (spSpring K)
  Bd : Def K mg "_law_draw" fd dd ["spring", "many"]
  Gd : FnOk P w K mg base CX0 1 fd dd ["spring", "many"] spSDraw
  Bw : Def K mg "_law_web" fw dw ["spring", "most", "sizes"]
  Gw : FnOk P w K mg base CX0 3 fw dw ["spring", "most", "sizes"] spSWeb
  Bl : Def K mg "_law_lot" fl dl ["spring", "names"]
  Gl : FnOk P w K mg base CX0 2 fl dl ["spring", "names"] spLot
  Bg : Def K mg "_law_gone" fg dg ["spring", "land", "begin"]
  Gg : FnOk P w K mg base CX0 2 fg dg ["spring", "land", "begin"] spGone
  Bp : Def K mg "_law_place" fp dp ["spring", "land"]
  Gp : FnOk P w K mg base CX0 2 fp dp ["spring", "land"] spSPlace
  Bb : Def K mg "_law_bent" fb db ["spring", "land", "walk"]
  Gb : FnOk P w K mg base CX0 2 fb db ["spring", "land", "walk"] spBent
  Bs : Def K mg "_law_sum" fs ds ["land", "walk"]
  Gs : FnOk P w K mg base CX0 1 fs ds ["land", "walk"] spSum
  Bu : Def K mg "_law_due" fu du ["land", "lot", "there", "when", "what"]
  Gu : FnOk P w K mg base CX0 1 fu du ["land", "lot", "there", "when", "what"] spDue
  Bm : Def K mg "_law_same" fm dm ["found", "due"]
  Gm : FnOk P w K mg base CX0 1 fm dm ["found", "due"] spSame
  Bi : Def K mg "is_walk" fi di ["web", "starters", "place", "beat", "thing"]
  Gi : FnOk P w K mg base CX0 7 fi di ["web", "starters", "place", "beat", "thing"] spIsWalk
  Ki : KwRev K di ["web", "starters", "place", "beat", "thing"] ["thing", "beat", "place", "starters", "web"]
theorem ok_law {f : Addr} {fd : FuncData} (F : Fun K "law" "law" sLaw f fd) (mL : mg "len" = none) (mR : mg "range" = none) (mN : mg "min" = none) (mX : mg "max" = none) (mP : mg "repr" = none) (L : LawDefs P w K mg base) : FnG P w K mg base CX0 8 f fd ["script"] (spLaw K) := by
  refine okG F scLaw (fun vs H Q E h => ?_) (fun cdv A outer s H vs Q E hg hr h => ?_)
  · obtain ⟨a, ns, rfl, _⟩ := h
    rfl
  · obtain ⟨a0, ns, rfl, hS, nl0, q⟩ := h
    have hr1 := hr.mono (show 1 ≤ 7 by decide)
    have hr2 := hr.mono (show 2 ≤ 7 by decide)
    have hr3 := hr.mono (show 3 ≤ 7 by decide)
    refine ⟨_, pss_cons (ps_set (i := 1) scLaw.nd rfl (Or.inl rfl) (pe_call L.Gc hr1 (by rfl) L.Bc.at_ L.Bc.kp L.Bc.b .nil pass0 (pa_cons (pv 0) pa_nil)))
    (pss_cons (ps_for PassesOwn.never rfl (pi_range1 (by rfl) mR (pa_cons (pe_op op_add pe_int (pe_callB (call_min2 rfl) (by rfl) mN (by decide +kernel) (pa_cons (pe_callB cr_lenS (by rfl) mL (by decide +kernel) (pa_cons (pv 0) pa_nil)) (pa_cons pe_int pa_nil)))) pa_nil)) (pg_name (i := 2) scLaw.nd rfl (Or.inl rfl)) (pss_cons (ps_set (i := 3) scLaw.nd rfl (Or.inl rfl) (pe_call L.Gw hr3 (by rfl) L.Bw.at_ L.Bw.kp L.Bw.b .nil pass0 (pa_cons (pv 1) (pa_cons pe_int (pa_cons (pe_lst (pa_cons pe_int (pa_cons pe_int (pa_cons (pe_op op_pow pe_int pe_int) pa_nil)))) pa_nil)))))
      (pss_cons (ps_set (i := 4) scLaw.nd rfl (Or.inl rfl) (pe_call L.Gl hr2 (by rfl) L.Bl.at_ L.Bl.kp L.Bl.b .nil pass0 (pa_cons (pv 1) (pa_cons (pe_ix ix_tup (pv 3) pe_int (fun _ _ => rfl)) pa_nil))))
      (pss_one (ps_for PassesOwn.never rfl (pi_range1 (by rfl) mR (pa_cons pe_int pa_nil)) (pg_name (i := 5) scLaw.nd rfl (Or.inl rfl)) (pss_cons (ps_set (i := 6) scLaw.nd rfl (Or.inl rfl) (pe_lst (pa_cons (pe_ix ix_list (pv 4) (pe_call L.Gd hr1 (by rfl) L.Bd.at_ L.Bd.kp L.Bd.b .nil pass0 (pa_cons (pv 1) (pa_cons (pe_callB cr_lenS (by rfl) mL (by decide +kernel) (pa_cons (pv 4) pa_nil)) pa_nil))) (fun _ _ => rfl)) (pa_cons (pe_ix ix_list (pe_ix ix_tup (pv 3) pe_int (fun _ _ => rfl)) (pe_call L.Gd hr1 (by rfl) L.Bd.at_ L.Bd.kp L.Bd.b .nil pass0 (pa_cons (pv 1) (pa_cons (pe_callB cr_lenS (by rfl) mL (by decide +kernel) (pa_cons (pe_ix ix_tup (pv 3) pe_int (fun _ _ => rfl)) pa_nil)) pa_nil))) (fun _ _ => rfl)) pa_nil))))
        (pss_cons (ps_set (i := 6) scLaw.nd rfl (Or.inl rfl) (pe_ix ix_list (pv 6) (pe_op op_fdiv (pe_call L.Gd hr1 (by rfl) L.Bd.at_ L.Bd.kp L.Bd.b .nil pass0 (pa_cons (pv 1) (pa_cons pe_int pa_nil))) pe_int) (fun _ _ => rfl)))
        (pss_cons (ps_set (i := 7) scLaw.nd rfl (Or.inl rfl) (pe_call L.Gg hr2 (by rfl) L.Bg.at_ L.Bg.kp L.Bg.b .nil pass0 (pa_cons (pv 1) (pa_cons (pv 3) (pa_cons (pv 6) pa_nil)))))
        (pss_cons (ps_set (i := 8) scLaw.nd rfl (Or.inr rfl) (pe_ix ix_list (pe_lst (pa_cons (pe_call L.Gp hr2 (by rfl) L.Bp.at_ L.Bp.kp L.Bp.b .nil pass0 (pa_cons (pv 1) (pa_cons (pv 3) pa_nil))) (pa_cons (pe_tup (pa_cons (pe_ix ix_list (pv 7) (pe_un un_neg pe_int) (fun _ _ => rfl)) (pa_cons (pe_ix ix_list (pv 7) (pe_un un_neg pe_int) (fun _ _ => rfl)) (pa_cons pe_int pa_nil)))) pa_nil))) (pe_call L.Gd hr1 (by rfl) L.Bd.at_ L.Bd.kp L.Bd.b .nil pass0 (pa_cons (pv 1) (pa_cons pe_int pa_nil))) (fun _ _ => rfl)))
        (pss_cons (ps_set (i := 9) scLaw.nd rfl (Or.inl rfl) (pe_call L.Gb hr2 (by rfl) L.Bb.at_ L.Bb.kp L.Bb.b .nil pass0 (pa_cons (pv 1) (pa_cons (pv 3) (pa_cons (pv 7) pa_nil)))))
        (pss_cons (ps_set (i := 10) scLaw.nd rfl (Or.inl rfl) (pe_ix ix_list (pe_lst (pa_cons (pe_ix ix_tup (pv 8) pe_int (fun _ _ => rfl)) (pa_cons (pe_op op_sub pe_int (pe_ix ix_tup (pv 8) pe_int (fun _ _ => rfl))) pa_nil))) (pe_call L.Gd hr1 (by rfl) L.Bd.at_ L.Bd.kp L.Bd.b .nil pass0 (pa_cons (pv 1) (pa_cons pe_int pa_nil))) (fun _ _ => rfl)))
        (pss_cons (ps_set (i := 11) scLaw.nd rfl (Or.inl rfl) (pe_callB (call_max2 rfl) (by rfl) mX (by decide +kernel) (pa_cons pe_int (pa_cons (pe_op op_sub (pe_op op_add (pe_op op_add (pe_call L.Gs hr1 (by rfl) L.Bs.at_ L.Bs.kp L.Bs.b .nil pass0 (pa_cons (pv 3) (pa_cons (pv 7) pa_nil))) (pv 10)) (pe_call L.Gd hr1 (by rfl) L.Bd.at_ L.Bd.kp L.Bd.b .nil pass0 (pa_cons (pv 1) (pa_cons pe_int pa_nil)))) pe_int) pa_nil))))
        (pss_cons (ps_if (PW.pt (pw_and (pt_cmpR op_ne (pe_ix ix_tup (pv 8) pe_int (fun _ _ => rfl)) (pe_ix ix_tup (pv 8) pe_int (fun _ _ => rfl)) (nomark _)) (pw_and1 (pt_cmpR op_eq (pe_call L.Gd hr1 (by rfl) L.Bd.at_ L.Bd.kp L.Bd.b .nil pass0 (pa_cons (pv 1) (pa_cons pe_int pa_nil))) pe_int (nomark _))))) (pss_cons (ps_set (i := 12) scLaw.nd rfl (Or.inl rfl) (pe_ix ix_list (pe_lc (own := [("way", 15)]) (g := gName 15) (tt := tTest (tOp (rEqD K) (tSl (rSlT K) (tVar 15) tNoPart (tPart (tC (.int 2)))) (tSl (rSlT K) (tVar 8) tNoPart (tPart (tC (.int 2)))))) (te := tOp (rIxT K) (tVar 15) (tC (.int 2))) rfl scLaw.nd (pi_list (pe_ix ix_tup (pv 3) pe_int (fun _ _ => rfl))) (blkOk_by (N := nLaw) (sc := defScope sLaw) (by decide +kernel)) (fun _ _ _ _ _ => pg_name (i := 15) scLaw.nd rfl (Or.inl rfl)) (fun _ _ _ _ _ => pts_one (pt_cmpR (op_eqD hr.units) (pe_slice sl_tup (pv 15) po_none (po_some pe_int)) (pe_slice sl_tup (pv 8) po_none (po_some pe_int)) (nomark _))) (fun _ _ _ _ _ => (pe_ix ix_tup (pv 15) pe_int (fun _ _ => rfl)))) pe_int (fun _ _ => rfl)))
          (pss_one (ps_set (i := 11) scLaw.nd rfl (Or.inl rfl) (pe_op op_sub (pe_op op_add (pe_call L.Gs hr1 (by rfl) L.Bs.at_ L.Bs.kp L.Bs.b .nil pass0 (pa_cons (pv 3) (pa_cons (pv 7) pa_nil))) (pv 12)) (pe_ix ix_tup (pv 8) pe_int (fun _ _ => rfl)))))) pss_nil)
        (pss_cons (ps_set (i := 13) scLaw.nd rfl (Or.inl rfl) (pe_callB (cr_rzs hg hr.units) (by rfl) mP (by decide +kernel) (pa_cons (pe_lst (pa_cons (pv 3) (pa_cons (pv 4) (pa_cons (pv 8) (pa_cons (pv 9) pa_nil))))) pa_nil)))
        (pss_cons (ps_set (i := 14) scLaw.nd rfl (Or.inl rfl) (pe_call L.Gu hr1 (by rfl) L.Bu.at_ L.Bu.kp L.Bu.b .nil pass0 (pa_cons (pv 3) (pa_cons (pv 4) (pa_cons (pv 8) (pa_cons (pv 11) (pa_cons (pv 9) pa_nil)))))))
        (pss_cons (ps_if (pt_not (pt_val (pe_call L.Gm hr1 (by rfl) L.Bm.at_ L.Bm.kp L.Bm.b .nil pass0 (pa_cons (pe_call L.Gi hr (by rfl) L.Bi.at_ L.Bi.kp L.Bi.b .nil pass0 (pa_cons (pv 3) (pa_cons (pv 4) (pa_cons (pv 8) (pa_cons (pv 11) (pa_cons (pv 9) pa_nil)))))) (pa_cons (pv 14) pa_nil))))) (pss_one (ps_ret pe_bl)) pss_nil)
        (pss_cons (ps_set (i := 10) scLaw.nd rfl (Or.inl rfl) (pe_op op_add (pv 11) (pe_op op_mul pe_int (pe_op op_pow pe_int pe_int))))
        (pss_cons (ps_set (i := 14) scLaw.nd rfl (Or.inl rfl) (pe_call L.Gu hr1 (by rfl) L.Bu.at_ L.Bu.kp L.Bu.b .nil pass0 (pa_cons (pv 3) (pa_cons (pv 4) (pa_cons (pv 8) (pa_cons (pv 10) (pa_cons (pv 9) pa_nil)))))))
        (pss_cons (ps_if (pt_cmpR op_ne (pe_callKR L.Gi hr (by rfl) L.Bi.at_ L.Bi.kp L.Ki pass0 (pk_cons (pv 9) (pk_cons (pv 10) (pk_cons (pv 8) (pk_cons (pv 4) (pk_cons (pv 3) pk_nil)))))) (pv 14) (nomark _)) (pss_one (ps_ret pe_bl)) pss_nil)
        (pss_one (ps_if (pt_cmpR op_ne (pe_callB (cr_rzs hg hr.units) (by rfl) mP (by decide +kernel) (pa_cons (pe_lst (pa_cons (pv 3) (pa_cons (pv 4) (pa_cons (pv 8) (pa_cons (pv 9) pa_nil))))) pa_nil)) (pv 13) (nomark _)) (pss_one (ps_ret pe_bl)) pss_nil)))))))))))))))))))))
    (pss_one (ps_ret pe_bl))), ?_⟩
    refine ⟨_, rfl, a0, ns, rfl, hS, fun a H1 s1 na sp1 => ?_⟩
    refine ⟨_, rfl, a0, _, rfl, .inl (s1.seq hS), _, 6, rfl, ?_⟩
    obtain ⟨m, em, m0, m8⟩ : ∃ m : Int, (2 : Int) + (if (6 : Int) < ((ns.map V.int).length : Int) then (6 : Int) else ((ns.map V.int).length : Int)) = m ∧ 0 ≤ m ∧ m ≤ 8 := ⟨_, rfl, by split <;> omega, by split <;> omega⟩
    refine ⟨_, _, rfl, rfl, 2 + (if (6 : Int) < ((ns.map V.int).length : Int) then (6 : Int) else ((ns.map V.int).length : Int)), rfl, by omega, by omega, ?_⟩
    rw [em]
    refine for_it (walk_range (lo := 0) (n := m.toNat)) (fun i σ H2 => ∃ (u2 u3 u4 u5 u6 u7 u8 u9 u10 u11 u12 u13 u14 : Option V), σ = [some (.ref a0), some (.ref a), u2, u3, u4, u5, u6, u7, u8, u9, u10, u11, u12, u13, u14, none] ∧ SpringAt H2 a)
      ⟨none, none, none, none, none, none, none, none, none, none, none, none, none, rfl, sp1⟩ (fun _ _ _ _ _ => True.intro) ?_ ?_
    · rintro i x σ H2 H3 hi ⟨u2, u3, u4, u5, u6, u7, u8, u9, u10, u11, u12, u13, u14, rfl, sp3⟩ ⟨rfl, rfl⟩
      -- the web
      refine ⟨_, rfl, _, _, rfl, rfl, ⟨by decide, by decide, by decide⟩, by show 3 ≤ sizeLine; decide, fun Z nZ => ?_⟩
      refine ⟨a, Z, 9, [2, 5, (10 : Int) ^ (12 : Int).toNat], rfl, sp3.new nZ, upd_same, sp3.ne nZ, ⟨by decide, by decide, fun s hs => ?_⟩, by decide, by decide, fun T names ways H4 nT so4 W4 wok pn nl wl sp4 => ?_⟩
      · simp only [List.mem_cons, List.not_mem_nil, or_false] at hs
        rcases hs with rfl | rfl | rfl <;> decide
      have ne := wok.ne
      have nd := rise_nodup names wok.up
      have n60 := wok.most
      have np := List.length_pos_iff.mpr ne
      have nV : (names.map V.str).length = names.length := List.length_map ..
      -- the starters
      obtain ⟨F0, W0, ws0, hT0, hF0, _⟩ := W4
      have W4 : WebAt H4 T names ways := ⟨F0, W0, ws0, hT0, hF0, by assumption⟩
      refine ⟨_, rfl, _, rfl, T, _, 0, _, rfl, rfl, SqT.of hT0, atI_nat (j := 0) rfl, a, F0, names, rfl, sp4, hF0, ne, n60, nd, wok.ok, fun Lo lot H5 nL so5 sp5 hL lok => ?_⟩
      have W5 := W4.so sp4 so5 ne
      have lp := List.length_pos_iff.mpr lok.ne
      have l60 : lot.length ≤ 60 := Nat.le_trans lok.few n60
      have nLa : Lo ≠ a := sp5.ne0 hL lok.ne
      have lV : (lot.map V.str).length = lot.length := List.length_map ..
      refine ⟨8, rfl, by decide, by decide, ?_⟩
      refine for_it (walk_range (lo := 0) (n := 8)) (fun j σ H' => ∃ (u5 u6 u7 u8 u9 u10 u11 u12 u13 u14 : Option V), σ = [some (.ref a0), some (.ref a), some (.int (0 + (i : Nat))), some (.ref T), some (.ref Lo), u5, u6, u7, u8, u9, u10, u11, u12, u13, u14, none] ∧ SpringAt H' a ∧ WebAt H' T names ways ∧ H' Lo = some (.lst (lot.map V.str)))
        ⟨_, _, _, _, _, _, _, _, _, _, rfl, sp5, W5, hL⟩ (fun _ _ _ _ _ => True.intro) ?_ ?_
      · rintro j x σ H6 H7 hj ⟨v5, v6, v7, v8, v9, v10, v11, v12, v13, v14, rfl, sp7, W7, hL7⟩ ⟨rfl, rfl⟩
        -- who begins
        refine ⟨_, rfl, _, rfl, _, rfl, Lo, _, rfl, .inl (SqL.of hL7), a, _, rfl, sp7, by rw [lV]; omega, by rw [lV]; omega, fun r1 H8 r1l so8 sp8 => ?_⟩
        rw [lV] at r1l
        have l1 : r1 < lot.length := by omega
        have hL8 := so8 _ _ nLa hL7
        have W8 := W7.so sp7 so8 ne
        refine ⟨Lo, _, _, _, rfl, rfl, SqL.of hL8, atI_nat (str_at l1), ?_⟩
        have b1 : lot[r1] ∈ names := lok.mem _ (List.getElem_mem l1)
        generalize lot[r1] = x1 at b1
        obtain ⟨F, W, ws, hT8, hF8, hW8, hI8, n1, n2, n3⟩ := W8.apartS sp8 ne
        refine ⟨_, rfl, T, _, 0, _, rfl, rfl, SqT.of hT8, atI_nat (j := 0) rfl, _, rfl, _, rfl, T, _, 0, _, rfl, rfl, SqT.of hT8, atI_nat (j := 0) rfl, F, _, rfl, .inl (SqL.of hF8), a, _, rfl, sp8, by rw [nV]; omega, by rw [nV]; omega, fun r2 H9 r2l so9 sp9 => ?_⟩
        rw [nV] at r2l
        have l2 : r2 < names.length := by omega
        refine ⟨F, _, _, _, rfl, rfl, SqL.of (so9 _ _ n2 hF8), atI_nat (str_at l2), ?_⟩
        have b2 : names[r2] ∈ names := List.getElem_mem l2
        generalize names[r2] = x2 at b2
        have hL9 := so9 _ _ nLa hL8
        have W9 := W8.so sp8 so9 ne
        refine ⟨by show 2 ≤ sizeLine; decide, fun bl nbl => ?_⟩
        have sA := same_new (o := .lst [.str x1, .str x2]) nbl
        have nba := sp9.ne nbl
        refine ⟨_, rfl, _, rfl, a, 4, rfl, sp9.new nbl, by decide, by decide, fun r3 H10 r3l so10 sp10 => ?_⟩
        obtain ⟨qq, x3, eq3, ev3, b3⟩ : ∃ (qq : Nat) (x3 : Str), (r3 : Int) / 3 = (qq : Int) ∧ [V.str x1, V.str x2][qq]? = some (.str x3) ∧ x3 ∈ names := by
          have c : (r3 : Int) / 3 = 0 ∨ (r3 : Int) / 3 = 1 := by omega
          rcases c with c | c
          · exact ⟨0, x1, c, rfl, b1⟩
          · exact ⟨1, x2, c, rfl, b2⟩
        refine ⟨_, _, rfl, rfl, ⟨by decide, by decide⟩, bl, _, (r3 : Int) / 3, .str x3, rfl, rfl, SqL.of (so10 _ _ nba upd_same), by rw [eq3]; exact atI_nat ev3, ?_⟩
        have hL10 := so10 _ _ nLa (sA _ _ hL9)
        have W10 := (W9.on sA).so (sp9.new nbl) so10 ne
        -- the walk
        refine ⟨_, rfl, _, rfl, _, rfl, a, T, names, ways, x3, rfl, sp10, W10, wok, b3, fun l walk H11 nl11 so11 sp11 hl kw => ?_⟩
        have hL11 := so11 _ _ nLa hL10
        have W11 := W10.so sp10 so11 ne
        have nla := sp11.ne0 hl kw.ne
        have okw : ∀ z ∈ walk, nameOkS z = true := fun z hz => wok.ok z (kw.mem z hz)
        have lastv : atI (walk.map V.str) (-1) = some (.str (walk.getLast kw.ne)) := by
          rw [atI_end (xs := walk.map V.str) (by simpa using kw.ne), List.getLast_map]
        have lmem := kw.mem _ (List.getLast_mem kw.ne)
        generalize walk.getLast kw.ne = lst at lastv lmem
        -- there
        refine ⟨_, rfl, _, rfl, a, T, names, ways, rfl, sp11, W11, wok, fun vp1 p1 H12 so12 sp12 ip1 hp1 => ?_⟩
        have hL12 := so12 _ _ nLa hL11
        have W12 := W11.so sp11 so12 ne
        have hl12 := so12 _ _ nla hl
        refine ⟨_, rfl, 1, rfl, l, _, _, _, rfl, rfl, SqL.of hl12, lastv, _, rfl, 1, rfl, l, _, _, _, rfl, rfl, SqL.of hl12, lastv, by show 3 ≤ sizeLine; decide, fun tp ntp => ?_⟩
        have sB := same_new (o := .tup (y3 (lst, lst, 0))) ntp
        have sp13 := sp12.new (o := .tup (y3 (lst, lst, 0))) ntp
        refine ⟨by show 2 ≤ sizeLine; decide, fun bl2 nbl2 => ?_⟩
        have sC := sB.trans (same_new (o := .lst [vp1, .ref tp]) nbl2)
        have sp14 := sp13.new (o := .lst [vp1, .ref tp]) nbl2
        have nb2a := sp13.ne nbl2
        refine ⟨_, rfl, a, 2, rfl, sp14, by decide, by decide, fun r4 H15 r4l so15 sp15 => ?_⟩
        have soC : SameO a H12 H15 := (SameO.of sC).trans so15
        obtain ⟨v8', p, ev8, ip, hp⟩ : ∃ (v : V) (p : Way), [vp1, V.ref tp][r4]? = some v ∧ Im H15 v (wayD3 p) ∧ PlaceIs names ways p := by
          have c : r4 = 0 ∨ r4 = 1 := by omega
          rcases c with rfl | rfl
          · exact ⟨vp1, p1, rfl, ip1.on (sp12.ts soC), hp1⟩
          · exact ⟨.ref tp, (lst, lst, 0), rfl, way_im (so15 _ _ (sp12.ne ntp) (same_new nbl2 _ _ upd_same)), .inl ⟨rfl, lmem, rfl⟩⟩
        refine ⟨bl2, _, _, v8', rfl, rfl, SqL.of (so15 _ _ nb2a upd_same), atI_nat ev8, ?_⟩
        obtain ⟨pa, rfl, hpa⟩ := im_way ip
        have hL15 := soC _ _ nLa hL12
        have W15 := W12.so sp12 soC ne
        have hl15 := soC _ _ nla hl12
        -- what
        refine ⟨_, rfl, _, rfl, _, rfl, a, T, l, names, ways, walk, rfl, sp15, W15, wok, hl15, kw, fun vt H16 so16 sp16 cand => ?_⟩
        have hL16 := so16 _ _ nLa hL15
        have W16 := W15.so sp15 so16 ne
        have hl16 := so16 _ _ nla hl15
        have ip16 := ip.on (sp15.ts so16)
        have hpa16 : H16 pa = some (.tup [.str p.1, .str p.2.1, .int p.2.2]) := by
          obtain ⟨b, eb, hb⟩ := im_way ip16
          cases eb
          exact hb
        -- far
        refine ⟨_, rfl, pa, _, 2, _, rfl, rfl, SqT.of hpa16, atI_nat (j := 2) rfl, _, rfl, pa, _, 2, _, rfl, rfl, SqT.of hpa16, atI_nat (j := 2) rfl, _, _, rfl, rfl, by show 2 ≤ sizeLine; decide, fun bl3 nbl3 => ?_⟩
        have sD := same_new (o := .lst [.int p.2.2, .int (0 - p.2.2)]) nbl3
        have sp17 := sp16.new (o := .lst [.int p.2.2, .int (0 - p.2.2)]) nbl3
        refine ⟨_, rfl, a, 2, rfl, sp17, by decide, by decide, fun r5 H18 r5l so18 sp18 => ?_⟩
        have soD : SameO a H16 H18 := (SameO.of sD).trans so18
        obtain ⟨far, ef, _⟩ := pick2 (x := p.2.2) (y := 0 - p.2.2) (r := r5) (by omega)
        refine ⟨bl3, _, _, _, rfl, rfl, SqL.of (so18 _ _ (sp16.ne nbl3) upd_same), atI_nat ef, ?_⟩
        have hL18 := soD _ _ nLa hL16
        have W18 := W16.so sp16 soD ne
        have hl18 := soD _ _ nla hl16
        have ip18 := ip16.on (sp16.ts soD)
        have cand18 := cand.so soD
        -- when
        refine ⟨_, rfl, _, rfl, T, l, names, ways, walk, rfl, W18, wok, hl18, okw, fun t H19 s19 t0 => ?_⟩
        refine ⟨_, rfl, _, _, rfl, rfl, _, rfl, a, 5, rfl, sp18.on s19, by decide, by decide, fun r6 H20 r6l so20 sp20 => ?_⟩
        have soE : SameO a H18 H20 := (SameO.of s19).trans so20
        refine ⟨_, _, rfl, rfl, _, _, rfl, rfl, 0, t + far + (r6 : Int) - 2, rfl, ?_⟩
        obtain ⟨d, wh, sz, hd⟩ := cand18
        obtain ⟨n, en, n0⟩ : ∃ n : Int, (if t + far + (r6 : Int) - 2 > 0 then t + far + (r6 : Int) - 2 else 0) = n ∧ 0 ≤ n := ⟨_, rfl, by split <;> omega⟩
        rw [en]
        have hL20 := soE _ _ nLa hL18
        have W20 := W18.so sp18 soE ne
        have hl20 := soE _ _ nla hl18
        have ip20 := ip18.on (sp18.ts soE)
        have hpa20 : H20 pa = some (.tup [.str p.1, .str p.2.1, .int p.2.2]) := by
          obtain ⟨b, eb, hb⟩ := im_way ip20
          cases eb
          exact hb
        refine ⟨_, rfl, pa, _, 0, _, rfl, rfl, SqT.of hpa20, atI_nat (j := 0) rfl, _, rfl, pa, _, 1, _, rfl, rfl, SqT.of hpa20, atI_nat (j := 1) rfl, rfl, _, rfl, ?_⟩
        rw [dec_str]
        by_cases ep : p.1 = p.2.1
        · rw [decide_eq_true ep]
          refine iteF (iteF ?_)
          exact law_tail W20 wok pn hL20 lok ip20 hp (hd _ soE) wh sz n0 fun H' w10 w13 w14 s => ⟨_, _, _, _, _, _, _, _, _, _, rfl, sp20.on s, W20.on s, s _ _ hL20⟩
        · rw [decide_eq_false ep]
          refine iteT ?_
          refine ⟨_, rfl, a, 2, rfl, sp20, by decide, by decide, fun r7 H21 r7l so21 sp21 => ⟨rfl, _, rfl, ?_⟩⟩
          have soF := soE.trans so21
          have hL21 := so21 _ _ nLa hL20
          have W21 := W20.so sp20 so21 ne
          have hl21 := so21 _ _ nla hl20
          have ip21 := ip20.on (sp20.ts so21)
          rw [dec_int]
          by_cases e7 : (r7 : Int) = 0
          · rw [decide_eq_true e7]
            refine iteT ?_
            have hpa21 : H21 pa = some (.tup [.str p.1, .str p.2.1, .int p.2.2]) := by
              obtain ⟨b, eb, hb⟩ := im_way ip21
              cases eb
              exact hb
            obtain ⟨y, hy, py1, py2, p1', p2⟩ : ∃ y ∈ ways, p.1 = y.1 ∧ p.2.1 = y.2.1 ∧ 1 ≤ p.2.2 ∧ p.2.2 < y.2.2 := by
              rcases hp with ⟨h, _⟩ | h
              · exact absurd h ep
              · exact h
            have ky := wok.way y hy
            obtain ⟨F', W', ws', hT', hF', hW', hI'⟩ := W21
            have W21 : WebAt H21 T names ways := ⟨F', W', ws', hT', hF', hW', hI'⟩
            refine ⟨_, rfl, T, _, 1, _, rfl, rfl, SqT.of hT', atI_nat (j := 1) rfl, W', rfl, ⟨_, SqL.of hW'⟩, fun D nD => ?_⟩
            refine lc_pairs wok hW' hI' (x := p.1) (y := p.2.1) (by rw [py1]; exact ky.1) (by rw [py2]; exact ky.2.1) (fun _ => rfl) (fun _ => rfl) (fun v H' Q' s' k => ⟨_, rfl, 2, rfl, pa, _, rfl, SqT.of (s' _ _ hpa21), (by show ¬ (HT.sIx 3 0 none = 0 ∧ HT.sIx 3 3 (some 2) = 3); decide), fun pp np => k _ _ (same_new np) (da_pair upd_same)⟩) nD fun H22 s22 h22 => ?_
            obtain ⟨b, hb, bp⟩ : ∃ b, ((beatsOf ways p.1 p.2.1).map V.int)[0]? = some (.int b) ∧ p.2.2 < b := by
              have e1 : between ways p.1 p.2.1 = y.2.2 := by rw [py1, py2]; exact between_of pn hy
              rw [between_beats] at e1
              rw [List.getElem?_map]
              cases h : (beatsOf ways p.1 p.2.1)[0]? with
              | none =>
                rw [h] at e1
                have e2 : (0 : Int) = y.2.2 := e1
                omega
              | some b =>
                rw [h] at e1
                have e2 : b = y.2.2 := e1
                exact ⟨b, rfl, by omega⟩
            refine ⟨D, _, 0, _, rfl, rfl, SqL.of h22, atI_nat (j := 0) hb, ?_⟩
            have W22 := W21.on s22
            refine ⟨_, rfl, _, rfl, T, l, names, ways, walk, rfl, W22, wok, s22 _ _ hl21, okw, fun t' H23 s23 t0' => ?_⟩
            have s223 := s22.trans s23
            have W23 := W21.on s223
            have hL23 := s223 _ _ hL21
            refine ⟨_, rfl, _, _, rfl, rfl, _, rfl, pa, _, 2, _, rfl, rfl, SqT.of (s223 _ _ hpa21), atI_nat (j := 2) rfl, _, _, rfl, rfl, ?_⟩
            exact law_tail W23 wok pn hL23 lok (ip21.on (TS.same s223)) hp (hd _ (soF.trans (SameO.of s223))) wh sz (show 0 ≤ t' + b - p.2.2 by omega) fun H' w10 w13 w14 s => ⟨_, _, _, _, _, _, _, _, _, _, rfl, (sp21.on s223).on s, W23.on s, s _ _ hL23⟩
          · rw [decide_eq_false e7]
            refine iteF ?_
            exact law_tail W21 wok pn hL21 lok ip21 hp (hd _ soF) wh sz n0 fun H' w10 w13 w14 s => ⟨_, _, _, _, _, _, _, _, _, _, rfl, sp21.on s, W21.on s, s _ _ hL21⟩
      · rintro σ H6 ⟨v5, v6, v7, v8, v9, v10, v11, v12, v13, v14, rfl, sp7, W7, hL7⟩
        exact ⟨_, _, _, _, _, _, _, _, _, _, _, _, _, rfl, sp7⟩
    · rintro σ H2 ⟨u2, u3, u4, u5, u6, u7, u8, u9, u10, u11, u12, u13, u14, rfl, sp3⟩
      exact q H2
end
end Cry
namespace Cry
open PySem PySem.Spec PyProof.Rows L2
/-- what the top has written -/
theorem all_mk {l : PySem.W.OpenLaw} {w : World} {K : PySem.W.Frag} {h : Heap} {mg : Str → Option Value} {fa : Addr} (X : K.In h) (G : h.Ns mainGlobals mg) (hfa : mg "law" = some (.ref fa))
    {f1 f2 f3 f4 f5 f6 f7 f8 f9 f10 f11 f12 f13 f14 f15 f16 f17 f18 f19 f20 f21 f22 f23 f24 f25 f26 f27 f28 f29 f30 f31 f32 : Addr} {od1 od2 od3 od4 od5 od6 od7 od8 od9 od10 od11 od12 od13 od14 od15 od16 od17 od18 od19 od20 od21 od22 od23 od24 od25 od26 od27 od28 od29 od30 od31 od32 an1 an2 an3 an4 an5 an6 an7 an8 an9 an10 an11 an12 an13 an14 an15 an16 an17 an18 an19 an20 an21 an22 an23 an24 an25 an26 an27 an28 an29 an30 an31 an32 : Option Addr} {sl1 sl2 sl3 sl4 sl5 sl6 sl7 sl8 sl9 sl10 sl11 sl12 sl13 sl14 sl15 sl16 sl17 sl18 sl19 sl20 sl21 sl22 sl23 sl24 sl25 sl26 sl27 sl28 sl29 sl30 sl31 sl32 : Array (Option Value)} {oc1 oc2 oc3 oc4 oc5 oc6 oc7 oc8 oc9 oc10 oc11 oc12 oc13 oc14 oc15 oc16 oc17 oc18 oc19 oc20 oc21 oc22 oc23 oc24 oc25 oc26 oc27 oc28 oc29 oc30 oc31 oc32 kV1 kV2 kV3 kV4 kV5 kV6 kV7 kV8 kV9 kV10 kV11 kV12 kV13 kV14 kV15 kV16 kV17 kV18 kV19 kV20 kV21 kV22 kV23 kV24 kV25 kV26 kV27 kV28 kV29 kV30 kV31 kV32 dc1 dc2 dc3 dc4 dc5 dc6 dc7 dc8 dc9 dc10 dc11 dc12 dc13 dc14 dc15 dc16 dc17 dc18 dc19 dc20 dc21 dc22 dc23 dc24 dc25 dc26 dc27 dc28 dc29 dc30 dc31 dc32 pm1 pm2 pm3 pm4 pm5 pm6 pm7 pm8 pm9 pm10 pm11 pm12 pm13 pm14 pm15 pm16 pm17 pm18 pm19 pm20 pm21 pm22 pm23 pm24 pm25 pm26 pm27 pm28 pm29 pm30 pm31 pm32 cd1 cd2 cd3 cd4 cd5 cd6 cd7 cd8 cd9 cd10 cd11 cd12 cd13 cd14 cd15 cd16 cd17 cd18 cd19 cd20 cd21 cd22 cd23 cd24 cd25 cd26 cd27 cd28 cd29 cd30 cd31 cd32 ct1 ct2 ct3 ct4 ct5 ct6 ct7 ct8 ct9 ct10 ct11 ct12 ct13 ct14 ct15 ct16 ct17 ct18 ct19 ct20 ct21 ct22 ct23 ct24 ct25 ct26 ct27 ct28 ct29 ct30 ct31 ct32 : Value} {tk1 tk2 tk3 tk4 tk5 : Tok}
    (a1 : PySem.W.nsIn K mainGlobals "is_whole" = some (some (.ref f1))) (l1 : K.lookup f1 = some ⟨oc1, od1, .func (PySem.W.fnOf "is_whole" "is_whole" (defArgs sIsWhole) (defBody sIsWhole) (defScope sIsWhole) .none kV1 dc1 pm1 an1 cd1 ct1), sl1⟩) (c1 : PySem.W.codeIn K cd1 "is_whole" = true) (k1 : PySem.W.keepIn K (.ref f1) = true)
    (a2 : PySem.W.nsIn K mainGlobals "is_row" = some (some (.ref f2))) (l2 : K.lookup f2 = some ⟨oc2, od2, .func (PySem.W.fnOf "is_row" "is_row" (defArgs sIsRow) (defBody sIsRow) (defScope sIsRow) .none kV2 dc2 pm2 an2 cd2 ct2), sl2⟩) (c2 : PySem.W.codeIn K cd2 "is_row" = true) (k2 : PySem.W.keepIn K (.ref f2) = true)
    (a3 : PySem.W.nsIn K mainGlobals "is_row_of" = some (some (.ref f3))) (l3 : K.lookup f3 = some ⟨oc3, od3, .func (PySem.W.fnOf "is_row_of" "is_row_of" (defArgs sIsRowOf) (defBody sIsRowOf) (defScope sIsRowOf) .none kV3 dc3 pm3 an3 cd3 ct3), sl3⟩) (c3 : PySem.W.codeIn K cd3 "is_row_of" = true) (k3 : PySem.W.keepIn K (.ref f3) = true)
    (a4 : PySem.W.nsIn K mainGlobals "is_name" = some (some (.ref f4))) (l4 : K.lookup f4 = some ⟨oc4, od4, .func (PySem.W.fnOf "is_name" "is_name" (defArgs sIsName) (defBody sIsName) (defScope sIsName) .none kV4 dc4 pm4 an4 cd4 ct4), sl4⟩) (c4 : PySem.W.codeIn K cd4 "is_name" = true) (k4 : PySem.W.keepIn K (.ref f4) = true)
    (a5 : PySem.W.nsIn K mainGlobals "rises" = some (some (.ref f5))) (l5 : K.lookup f5 = some ⟨oc5, od5, .func (PySem.W.fnOf "rises" "rises" (defArgs sRises) (defBody sRises) (defScope sRises) .none kV5 dc5 pm5 an5 cd5 ct5), sl5⟩) (c5 : PySem.W.codeIn K cd5 "rises" = true) (k5 : PySem.W.keepIn K (.ref f5) = true)
    (a6 : PySem.W.nsIn K mainGlobals "is_web" = some (some (.ref f6))) (l6 : K.lookup f6 = some ⟨oc6, od6, .func (PySem.W.fnOf "is_web" "is_web" (defArgs sIsWeb) (defBody sIsWeb) (defScope sIsWeb) .none kV6 dc6 pm6 an6 cd6 ct6), sl6⟩) (c6 : PySem.W.codeIn K cd6 "is_web" = true) (k6 : PySem.W.keepIn K (.ref f6) = true)
    (a7 : PySem.W.nsIn K mainGlobals "are_folk" = some (some (.ref f7))) (l7 : K.lookup f7 = some ⟨oc7, od7, .func (PySem.W.fnOf "are_folk" "are_folk" (defArgs sAreFolk) (defBody sAreFolk) (defScope sAreFolk) .none kV7 dc7 pm7 an7 cd7 ct7), sl7⟩) (c7 : PySem.W.codeIn K cd7 "are_folk" = true) (k7 : PySem.W.keepIn K (.ref f7) = true)
    (a8 : PySem.W.nsIn K mainGlobals "are_ways" = some (some (.ref f8))) (l8 : K.lookup f8 = some ⟨oc8, od8, .func (PySem.W.fnOf "are_ways" "are_ways" (defArgs sAreWays) (defBody sAreWays) (defScope sAreWays) .none kV8 dc8 pm8 an8 cd8 ct8), sl8⟩) (c8 : PySem.W.codeIn K cd8 "are_ways" = true) (k8 : PySem.W.keepIn K (.ref f8) = true)
    (a9 : PySem.W.nsIn K mainGlobals "is_way" = some (some (.ref f9))) (l9 : K.lookup f9 = some ⟨oc9, od9, .func (PySem.W.fnOf "is_way" "is_way" (defArgs sIsWay) (defBody sIsWay) (defScope sIsWay) .none kV9 dc9 pm9 an9 cd9 ct9), sl9⟩) (c9 : PySem.W.codeIn K cd9 "is_way" = true) (k9 : PySem.W.keepIn K (.ref f9) = true)
    (a10 : PySem.W.nsIn K mainGlobals "are_way_beats" = some (some (.ref f10))) (l10 : K.lookup f10 = some ⟨oc10, od10, .func (PySem.W.fnOf "are_way_beats" "are_way_beats" (defArgs sAreWayBeats) (defBody sAreWayBeats) (defScope sAreWayBeats) .none kV10 dc10 pm10 an10 cd10 ct10), sl10⟩) (c10 : PySem.W.codeIn K cd10 "are_way_beats" = true) (k10 : PySem.W.keepIn K (.ref f10) = true)
    (a11 : PySem.W.nsIn K mainGlobals "own_web" = some (some (.ref f11))) (l11 : K.lookup f11 = some ⟨oc11, od11, .func (PySem.W.fnOf "own_web" "own_web" (defArgs sOwnWeb) (defBody sOwnWeb) (defScope sOwnWeb) .none kV11 dc11 pm11 an11 cd11 ct11), sl11⟩) (c11 : PySem.W.codeIn K cd11 "own_web" = true) (k11 : PySem.W.keepIn K (.ref f11) = true)
    (a12 : PySem.W.nsIn K mainGlobals "own_place" = some (some (.ref f12))) (l12 : K.lookup f12 = some ⟨oc12, od12, .func (PySem.W.fnOf "own_place" "own_place" (defArgs sOwnPlace) (defBody sOwnPlace) (defScope sOwnPlace) .none kV12 dc12 pm12 an12 cd12 ct12), sl12⟩) (c12 : PySem.W.codeIn K cd12 "own_place" = true) (k12 : PySem.W.keepIn K (.ref f12) = true)
    (a13 : PySem.W.nsIn K mainGlobals "is_place" = some (some (.ref f13))) (l13 : K.lookup f13 = some ⟨oc13, od13, .func (PySem.W.fnOf "is_place" "is_place" (defArgs sIsPlace) (defBody sIsPlace) (defScope sIsPlace) .none kV13 dc13 pm13 an13 cd13 ct13), sl13⟩) (c13 : PySem.W.codeIn K cd13 "is_place" = true) (k13 : PySem.W.keepIn K (.ref f13) = true)
    (a14 : PySem.W.nsIn K mainGlobals "beats_between" = some (some (.ref f14))) (l14 : K.lookup f14 = some ⟨oc14, od14, .func (PySem.W.fnOf "beats_between" "beats_between" (defArgs sBetween) (defBody sBetween) (defScope sBetween) .none kV14 dc14 pm14 an14 cd14 ct14), sl14⟩) (c14 : PySem.W.codeIn K cd14 "beats_between" = true) (k14 : PySem.W.keepIn K (.ref f14) = true)
    (a15 : PySem.W.nsIn K mainGlobals "folk_beside" = some (some (.ref f15))) (l15 : K.lookup f15 = some ⟨oc15, od15, .func (PySem.W.fnOf "folk_beside" "folk_beside" (defArgs sFolkBeside) (defBody sFolkBeside) (defScope sFolkBeside) .none kV15 dc15 pm15 an15 cd15 ct15), sl15⟩) (c15 : PySem.W.codeIn K cd15 "folk_beside" = true) (k15 : PySem.W.keepIn K (.ref f15) = true)
    (a16 : PySem.W.nsIn K mainGlobals "own_starters" = some (some (.ref f16))) (l16 : K.lookup f16 = some ⟨oc16, od16, .func (PySem.W.fnOf "own_starters" "own_starters" (defArgs sOwnStarters) (defBody sOwnStarters) (defScope sOwnStarters) .none kV16 dc16 pm16 an16 cd16 ct16), sl16⟩) (c16 : PySem.W.codeIn K cd16 "own_starters" = true) (k16 : PySem.W.keepIn K (.ref f16) = true)
    (a17 : PySem.W.nsIn K mainGlobals "are_starters" = some (some (.ref f17))) (l17 : K.lookup f17 = some ⟨oc17, od17, .func (PySem.W.fnOf "are_starters" "are_starters" (defArgs sAreStarters) (defBody sAreStarters) (defScope sAreStarters) .none kV17 dc17 pm17 an17 cd17 ct17), sl17⟩) (c17 : PySem.W.codeIn K cd17 "are_starters" = true) (k17 : PySem.W.keepIn K (.ref f17) = true)
    (a18 : PySem.W.nsIn K mainGlobals "check_beat" = some (some (.ref f18))) (l18 : K.lookup f18 = some ⟨oc18, od18, .func (PySem.W.fnOf "check_beat" "check_beat" (defArgs sCheckBeat) (defBody sCheckBeat) (defScope sCheckBeat) .none kV18 dc18 pm18 an18 cd18 ct18), sl18⟩) (c18 : PySem.W.codeIn K cd18 "check_beat" = true) (k18 : PySem.W.keepIn K (.ref f18) = true)
    (a19 : PySem.W.nsIn K mainGlobals "is_walk" = some (some (.ref f19))) (l19 : K.lookup f19 = some ⟨oc19, od19, .func (PySem.W.fnOf "is_walk" "is_walk" (defArgs sIsWalk) (defBody sIsWalk) (defScope sIsWalk) .none kV19 dc19 pm19 an19 cd19 ct19), sl19⟩) (c19 : PySem.W.codeIn K cd19 "is_walk" = true) (k19 : PySem.W.keepIn K (.ref f19) = true)
    (a20 : PySem.W.nsIn K mainGlobals "are_names_from" = some (some (.ref f20))) (l20 : K.lookup f20 = some ⟨oc20, od20, .func (PySem.W.fnOf "are_names_from" "are_names_from" (defArgs sAreNamesFrom) (defBody sAreNamesFrom) (defScope sAreNamesFrom) .none kV20 dc20 pm20 an20 cd20 ct20), sl20⟩) (c20 : PySem.W.codeIn K cd20 "are_names_from" = true) (k20 : PySem.W.keepIn K (.ref f20) = true)
    (a21 : PySem.W.nsIn K mainGlobals "_law_spring" = some (some (.ref f21))) (l21 : K.lookup f21 = some ⟨oc21, od21, .func (PySem.W.fnOf "_law_spring" "_law_spring" (defArgs sLSpring) (defBody sLSpring) (defScope sLSpring) .none kV21 dc21 pm21 an21 cd21 ct21), sl21⟩) (c21 : PySem.W.codeIn K cd21 "_law_spring" = true) (k21 : PySem.W.keepIn K (.ref f21) = true)
    (a22 : PySem.W.nsIn K mainGlobals "_law_draw" = some (some (.ref f22))) (l22 : K.lookup f22 = some ⟨oc22, od22, .func (PySem.W.fnOf "_law_draw" "_law_draw" (defArgs sDraw) (defBody sDraw) (defScope sDraw) .none kV22 dc22 pm22 an22 cd22 ct22), sl22⟩) (c22 : PySem.W.codeIn K cd22 "_law_draw" = true) (k22 : PySem.W.keepIn K (.ref f22) = true)
    (a23 : PySem.W.nsIn K mainGlobals "_law_same" = some (some (.ref f23))) (l23 : K.lookup f23 = some ⟨oc23, od23, .func (PySem.W.fnOf "_law_same" "_law_same" (defArgs sLSame) (defBody sLSame) (defScope sLSame) .none kV23 dc23 pm23 an23 cd23 ct23), sl23⟩) (c23 : PySem.W.codeIn K cd23 "_law_same" = true) (k23 : PySem.W.keepIn K (.ref f23) = true)
    (a24 : PySem.W.nsIn K mainGlobals "_law_folk" = some (some (.ref f24))) (l24 : K.lookup f24 = some ⟨oc24, od24, .func (PySem.W.fnOf "_law_folk" "_law_folk" (defArgs sLFolk) (defBody sLFolk) (defScope sLFolk) .none kV24 dc24 pm24 an24 cd24 ct24), sl24⟩) (c24 : PySem.W.codeIn K cd24 "_law_folk" = true) (k24 : PySem.W.keepIn K (.ref f24) = true)
    (a25 : PySem.W.nsIn K mainGlobals "_law_web" = some (some (.ref f25))) (l25 : K.lookup f25 = some ⟨oc25, od25, .func (PySem.W.fnOf "_law_web" "_law_web" (defArgs sWeb) (defBody sWeb) (defScope sWeb) .none kV25 dc25 pm25 an25 cd25 ct25), sl25⟩) (c25 : PySem.W.codeIn K cd25 "_law_web" = true) (k25 : PySem.W.keepIn K (.ref f25) = true)
    (a26 : PySem.W.nsIn K mainGlobals "_law_lot" = some (some (.ref f26))) (l26 : K.lookup f26 = some ⟨oc26, od26, .func (PySem.W.fnOf "_law_lot" "_law_lot" (defArgs sLLot) (defBody sLLot) (defScope sLLot) .none kV26 dc26 pm26 an26 cd26 ct26), sl26⟩) (c26 : PySem.W.codeIn K cd26 "_law_lot" = true) (k26 : PySem.W.keepIn K (.ref f26) = true)
    (a27 : PySem.W.nsIn K mainGlobals "_law_place" = some (some (.ref f27))) (l27 : K.lookup f27 = some ⟨oc27, od27, .func (PySem.W.fnOf "_law_place" "_law_place" (defArgs sLPlace) (defBody sLPlace) (defScope sLPlace) .none kV27 dc27 pm27 an27 cd27 ct27), sl27⟩) (c27 : PySem.W.codeIn K cd27 "_law_place" = true) (k27 : PySem.W.keepIn K (.ref f27) = true)
    (a28 : PySem.W.nsIn K mainGlobals "_law_due" = some (some (.ref f28))) (l28 : K.lookup f28 = some ⟨oc28, od28, .func (PySem.W.fnOf "_law_due" "_law_due" (defArgs sDue) (defBody sDue) (defScope sDue) .none kV28 dc28 pm28 an28 cd28 ct28), sl28⟩) (c28 : PySem.W.codeIn K cd28 "_law_due" = true) (k28 : PySem.W.keepIn K (.ref f28) = true)
    (a29 : PySem.W.nsIn K mainGlobals "_law_gone" = some (some (.ref f29))) (l29 : K.lookup f29 = some ⟨oc29, od29, .func (PySem.W.fnOf "_law_gone" "_law_gone" (defArgs sLGone) (defBody sLGone) (defScope sLGone) .none kV29 dc29 pm29 an29 cd29 ct29), sl29⟩) (c29 : PySem.W.codeIn K cd29 "_law_gone" = true) (k29 : PySem.W.keepIn K (.ref f29) = true)
    (a30 : PySem.W.nsIn K mainGlobals "_law_sum" = some (some (.ref f30))) (l30 : K.lookup f30 = some ⟨oc30, od30, .func (PySem.W.fnOf "_law_sum" "_law_sum" (defArgs sLSum) (defBody sLSum) (defScope sLSum) .none kV30 dc30 pm30 an30 cd30 ct30), sl30⟩) (c30 : PySem.W.codeIn K cd30 "_law_sum" = true) (k30 : PySem.W.keepIn K (.ref f30) = true)
    (a31 : PySem.W.nsIn K mainGlobals "_law_bent" = some (some (.ref f31))) (l31 : K.lookup f31 = some ⟨oc31, od31, .func (PySem.W.fnOf "_law_bent" "_law_bent" (defArgs sLBent) (defBody sLBent) (defScope sLBent) .none kV31 dc31 pm31 an31 cd31 ct31), sl31⟩) (c31 : PySem.W.codeIn K cd31 "_law_bent" = true) (k31 : PySem.W.keepIn K (.ref f31) = true)
    (a32 : PySem.W.nsIn K mainGlobals "law" = some (some (.ref f32))) (l32 : K.lookup f32 = some ⟨oc32, od32, .func (PySem.W.fnOf "law" "law" (defArgs sLaw) (defBody sLaw) (defScope sLaw) .none kV32 dc32 pm32 an32 cd32 ct32), sl32⟩) (c32 : PySem.W.codeIn K cd32 "law" = true) (k32 : PySem.W.keepIn K (.ref f32) = true)
    (z_isinstance : PySem.W.nsIn K mainGlobals "isinstance" = some none)
    (z_int : PySem.W.nsIn K mainGlobals "int" = some none)
    (z_bool : PySem.W.nsIn K mainGlobals "bool" = some none)
    (z_str : PySem.W.nsIn K mainGlobals "str" = some none)
    (z_list : PySem.W.nsIn K mainGlobals "list" = some none)
    (z_tuple : PySem.W.nsIn K mainGlobals "tuple" = some none)
    (z_len : PySem.W.nsIn K mainGlobals "len" = some none)
    (z_all : PySem.W.nsIn K mainGlobals "all" = some none)
    (z_zip : PySem.W.nsIn K mainGlobals "zip" = some none)
    (z_range : PySem.W.nsIn K mainGlobals "range" = some none)
    (z_sorted : PySem.W.nsIn K mainGlobals "sorted" = some none)
    (z_min : PySem.W.nsIn K mainGlobals "min" = some none)
    (z_max : PySem.W.nsIn K mainGlobals "max" = some none)
    (z_set : PySem.W.nsIn K mainGlobals "set" = some none)
    (z_repr : PySem.W.nsIn K mainGlobals "repr" = some none)
    (z_abs : PySem.W.nsIn K mainGlobals "abs" = some none)
    (z_sum : PySem.W.nsIn K mainGlobals "sum" = some none)
    (v_LETTERS : PySem.W.nsIn K mainGlobals "LETTERS" = some (some (.str abc tk1)))
    (v_MOST_LETTERS : PySem.W.nsIn K mainGlobals "MOST_LETTERS" = some (some (.int 8 tk2)))
    (v_MOST_FOLK : PySem.W.nsIn K mainGlobals "MOST_FOLK" = some (some (.int 60 tk3)))
    (v_MOST_WAYS : PySem.W.nsIn K mainGlobals "MOST_WAYS" = some (some (.int 150 tk4)))
    (v_MOST_BEATS : PySem.W.nsIn K mainGlobals "MOST_BEATS" = some (some (.int 1000000000000 tk5)))
    : ∃ fd : FuncData, (∀ (s : Shared) (v : Value), BindsTo s fd ⟨[v], []⟩ [("script", v)]) ∧ ∀ base : Heap, K.In base → base.Ns mainGlobals mg → FnG l.prog w K mg base CX0 8 fa fd ["script"] (spLaw K) := by
  have e := hfa.symm.trans (PySem.W.mg_of X G a32)
  cases e
  have F1 := fun_mk (st := sIsWhole) l1 c1 k1
  have D1 : Def K mg "is_whole" f1 _ ["thing"] := ⟨PySem.W.mg_of X G a1, k1, F1.binds (ps := ["thing"]) fun _ _ _ _ _ _ us hl => match us, hl with | [_], _ => rfl⟩
  have F2 := fun_mk (st := sIsRow) l2 c2 k2
  have D2 : Def K mg "is_row" f2 _ ["thing"] := ⟨PySem.W.mg_of X G a2, k2, F2.binds (ps := ["thing"]) fun _ _ _ _ _ _ us hl => match us, hl with | [_], _ => rfl⟩
  have F3 := fun_mk (st := sIsRowOf) l3 c3 k3
  have D3 : Def K mg "is_row_of" f3 _ ["many", "thing"] := ⟨PySem.W.mg_of X G a3, k3, F3.binds (ps := ["many", "thing"]) fun _ _ _ _ _ _ us hl => match us, hl with | [_, _], _ => rfl⟩
  have F4 := fun_mk (st := sIsName) l4 c4 k4
  have D4 : Def K mg "is_name" f4 _ ["thing"] := ⟨PySem.W.mg_of X G a4, k4, F4.binds (ps := ["thing"]) fun _ _ _ _ _ _ us hl => match us, hl with | [_], _ => rfl⟩
  have F5 := fun_mk (st := sRises) l5 c5 k5
  have D5 : Def K mg "rises" f5 _ ["things"] := ⟨PySem.W.mg_of X G a5, k5, F5.binds (ps := ["things"]) fun _ _ _ _ _ _ us hl => match us, hl with | [_], _ => rfl⟩
  have F6 := fun_mk (st := sIsWeb) l6 c6 k6
  have D6 : Def K mg "is_web" f6 _ ["thing"] := ⟨PySem.W.mg_of X G a6, k6, F6.binds (ps := ["thing"]) fun _ _ _ _ _ _ us hl => match us, hl with | [_], _ => rfl⟩
  have F7 := fun_mk (st := sAreFolk) l7 c7 k7
  have D7 : Def K mg "are_folk" f7 _ ["thing"] := ⟨PySem.W.mg_of X G a7, k7, F7.binds (ps := ["thing"]) fun _ _ _ _ _ _ us hl => match us, hl with | [_], _ => rfl⟩
  have F8 := fun_mk (st := sAreWays) l8 c8 k8
  have D8 : Def K mg "are_ways" f8 _ ["folk", "thing"] := ⟨PySem.W.mg_of X G a8, k8, F8.binds (ps := ["folk", "thing"]) fun _ _ _ _ _ _ us hl => match us, hl with | [_, _], _ => rfl⟩
  have F9 := fun_mk (st := sIsWay) l9 c9 k9
  have D9 : Def K mg "is_way" f9 _ ["folk", "thing"] := ⟨PySem.W.mg_of X G a9, k9, F9.binds (ps := ["folk", "thing"]) fun _ _ _ _ _ _ us hl => match us, hl with | [_, _], _ => rfl⟩
  have F10 := fun_mk (st := sAreWayBeats) l10 c10 k10
  have D10 : Def K mg "are_way_beats" f10 _ ["thing"] := ⟨PySem.W.mg_of X G a10, k10, F10.binds (ps := ["thing"]) fun _ _ _ _ _ _ us hl => match us, hl with | [_], _ => rfl⟩
  have F11 := fun_mk (st := sOwnWeb) l11 c11 k11
  have D11 : Def K mg "own_web" f11 _ ["web"] := ⟨PySem.W.mg_of X G a11, k11, F11.binds (ps := ["web"]) fun _ _ _ _ _ _ us hl => match us, hl with | [_], _ => rfl⟩
  have F12 := fun_mk (st := sOwnPlace) l12 c12 k12
  have D12 : Def K mg "own_place" f12 _ ["web", "place"] := ⟨PySem.W.mg_of X G a12, k12, F12.binds (ps := ["web", "place"]) fun _ _ _ _ _ _ us hl => match us, hl with | [_, _], _ => rfl⟩
  have F13 := fun_mk (st := sIsPlace) l13 c13 k13
  have D13 : Def K mg "is_place" f13 _ ["web", "thing"] := ⟨PySem.W.mg_of X G a13, k13, F13.binds (ps := ["web", "thing"]) fun _ _ _ _ _ _ us hl => match us, hl with | [_, _], _ => rfl⟩
  have F14 := fun_mk (st := sBetween) l14 c14 k14
  have D14 : Def K mg "beats_between" f14 _ ["web", "one", "other"] := ⟨PySem.W.mg_of X G a14, k14, F14.binds (ps := ["web", "one", "other"]) fun _ _ _ _ _ _ us hl => match us, hl with | [_, _, _], _ => rfl⟩
  have F15 := fun_mk (st := sFolkBeside) l15 c15 k15
  have D15 : Def K mg "folk_beside" f15 _ ["web", "place"] := ⟨PySem.W.mg_of X G a15, k15, F15.binds (ps := ["web", "place"]) fun _ _ _ _ _ _ us hl => match us, hl with | [_, _], _ => rfl⟩
  have F16 := fun_mk (st := sOwnStarters) l16 c16 k16
  have D16 : Def K mg "own_starters" f16 _ ["web", "starters"] := ⟨PySem.W.mg_of X G a16, k16, F16.binds (ps := ["web", "starters"]) fun _ _ _ _ _ _ us hl => match us, hl with | [_, _], _ => rfl⟩
  have F17 := fun_mk (st := sAreStarters) l17 c17 k17
  have D17 : Def K mg "are_starters" f17 _ ["web", "thing"] := ⟨PySem.W.mg_of X G a17, k17, F17.binds (ps := ["web", "thing"]) fun _ _ _ _ _ _ us hl => match us, hl with | [_, _], _ => rfl⟩
  have F18 := fun_mk (st := sCheckBeat) l18 c18 k18
  have D18 : Def K mg "check_beat" f18 _ ["beat"] := ⟨PySem.W.mg_of X G a18, k18, F18.binds (ps := ["beat"]) fun _ _ _ _ _ _ us hl => match us, hl with | [_], _ => rfl⟩
  have F19 := fun_mk (st := sIsWalk) l19 c19 k19
  have D19 : Def K mg "is_walk" f19 _ ["web", "starters", "place", "beat", "thing"] := ⟨PySem.W.mg_of X G a19, k19, F19.binds (ps := ["web", "starters", "place", "beat", "thing"]) fun _ _ _ _ _ _ us hl => match us, hl with | [_, _, _, _, _], _ => rfl⟩
  have F20 := fun_mk (st := sAreNamesFrom) l20 c20 k20
  have D20 : Def K mg "are_names_from" f20 _ ["starters", "thing"] := ⟨PySem.W.mg_of X G a20, k20, F20.binds (ps := ["starters", "thing"]) fun _ _ _ _ _ _ us hl => match us, hl with | [_, _], _ => rfl⟩
  have F21 := fun_mk (st := sLSpring) l21 c21 k21
  have D21 : Def K mg "_law_spring" f21 _ ["script"] := ⟨PySem.W.mg_of X G a21, k21, F21.binds (ps := ["script"]) fun _ _ _ _ _ _ us hl => match us, hl with | [_], _ => rfl⟩
  have F22 := fun_mk (st := sDraw) l22 c22 k22
  have D22 : Def K mg "_law_draw" f22 _ ["spring", "many"] := ⟨PySem.W.mg_of X G a22, k22, F22.binds (ps := ["spring", "many"]) fun _ _ _ _ _ _ us hl => match us, hl with | [_, _], _ => rfl⟩
  have F23 := fun_mk (st := sLSame) l23 c23 k23
  have D23 : Def K mg "_law_same" f23 _ ["found", "due"] := ⟨PySem.W.mg_of X G a23, k23, F23.binds (ps := ["found", "due"]) fun _ _ _ _ _ _ us hl => match us, hl with | [_, _], _ => rfl⟩
  have F24 := fun_mk (st := sLFolk) l24 c24 k24
  have D24 : Def K mg "_law_folk" f24 _ ["spring", "many"] := ⟨PySem.W.mg_of X G a24, k24, F24.binds (ps := ["spring", "many"]) fun _ _ _ _ _ _ us hl => match us, hl with | [_, _], _ => rfl⟩
  have F25 := fun_mk (st := sWeb) l25 c25 k25
  have D25 : Def K mg "_law_web" f25 _ ["spring", "most", "sizes"] := ⟨PySem.W.mg_of X G a25, k25, F25.binds (ps := ["spring", "most", "sizes"]) fun _ _ _ _ _ _ us hl => match us, hl with | [_, _, _], _ => rfl⟩
  have F26 := fun_mk (st := sLLot) l26 c26 k26
  have D26 : Def K mg "_law_lot" f26 _ ["spring", "names"] := ⟨PySem.W.mg_of X G a26, k26, F26.binds (ps := ["spring", "names"]) fun _ _ _ _ _ _ us hl => match us, hl with | [_, _], _ => rfl⟩
  have F27 := fun_mk (st := sLPlace) l27 c27 k27
  have D27 : Def K mg "_law_place" f27 _ ["spring", "land"] := ⟨PySem.W.mg_of X G a27, k27, F27.binds (ps := ["spring", "land"]) fun _ _ _ _ _ _ us hl => match us, hl with | [_, _], _ => rfl⟩
  have F28 := fun_mk (st := sDue) l28 c28 k28
  have D28 : Def K mg "_law_due" f28 _ ["land", "lot", "there", "when", "what"] := ⟨PySem.W.mg_of X G a28, k28, F28.binds (ps := ["land", "lot", "there", "when", "what"]) fun _ _ _ _ _ _ us hl => match us, hl with | [_, _, _, _, _], _ => rfl⟩
  have F29 := fun_mk (st := sLGone) l29 c29 k29
  have D29 : Def K mg "_law_gone" f29 _ ["spring", "land", "begin"] := ⟨PySem.W.mg_of X G a29, k29, F29.binds (ps := ["spring", "land", "begin"]) fun _ _ _ _ _ _ us hl => match us, hl with | [_, _, _], _ => rfl⟩
  have F30 := fun_mk (st := sLSum) l30 c30 k30
  have D30 : Def K mg "_law_sum" f30 _ ["land", "walk"] := ⟨PySem.W.mg_of X G a30, k30, F30.binds (ps := ["land", "walk"]) fun _ _ _ _ _ _ us hl => match us, hl with | [_, _], _ => rfl⟩
  have F31 := fun_mk (st := sLBent) l31 c31 k31
  have D31 : Def K mg "_law_bent" f31 _ ["spring", "land", "walk"] := ⟨PySem.W.mg_of X G a31, k31, F31.binds (ps := ["spring", "land", "walk"]) fun _ _ _ _ _ _ us hl => match us, hl with | [_, _, _], _ => rfl⟩
  have F32 := fun_mk (st := sLaw) l32 c32 k32
  have n_isinstance := PySem.W.mg_none_of X G z_isinstance
  have n_int := PySem.W.mg_none_of X G z_int
  have n_bool := PySem.W.mg_none_of X G z_bool
  have n_str := PySem.W.mg_none_of X G z_str
  have n_list := PySem.W.mg_none_of X G z_list
  have n_tuple := PySem.W.mg_none_of X G z_tuple
  have n_len := PySem.W.mg_none_of X G z_len
  have n_all := PySem.W.mg_none_of X G z_all
  have n_zip := PySem.W.mg_none_of X G z_zip
  have n_range := PySem.W.mg_none_of X G z_range
  have n_sorted := PySem.W.mg_none_of X G z_sorted
  have n_min := PySem.W.mg_none_of X G z_min
  have n_max := PySem.W.mg_none_of X G z_max
  have n_set := PySem.W.mg_none_of X G z_set
  have n_repr := PySem.W.mg_none_of X G z_repr
  have n_abs := PySem.W.mg_none_of X G z_abs
  have n_sum := PySem.W.mg_none_of X G z_sum
  have m_LETTERS := PySem.W.mg_of X G v_LETTERS
  have m_MOST_LETTERS := PySem.W.mg_of X G v_MOST_LETTERS
  have m_MOST_FOLK := PySem.W.mg_of X G v_MOST_FOLK
  have m_MOST_WAYS := PySem.W.mg_of X G v_MOST_WAYS
  have m_MOST_BEATS := PySem.W.mg_of X G v_MOST_BEATS
  have B : Blt mg := ⟨n_isinstance, n_int, n_bool, n_str, n_list, n_tuple, n_len, n_all, n_zip⟩
  refine ⟨PySem.W.fnOf "law" "law" (defArgs sLaw) (defBody sLaw) (defScope sLaw) .none kV32 dc32 pm32 an32 cd32 ct32, fun s v => .of_eq rfl, fun base _ _ => ?_⟩
  have G1 := ok_is_whole (P := l.prog) (w := w) (mg := mg) (base := base) F1 B
  have G2 := ok_is_row (P := l.prog) (w := w) (mg := mg) (base := base) F2 B
  have G3 := ok_is_row_of (P := l.prog) (w := w) (mg := mg) (base := base) F3 B D2 G2
  have G4 := ok_is_name (P := l.prog) (w := w) (mg := mg) (base := base) F4 B m_LETTERS m_MOST_LETTERS
  have G5 := ok_rises (P := l.prog) (w := w) (mg := mg) (base := base) F5 B
  have G10 := ok_are_way_beats (P := l.prog) (w := w) (mg := mg) (base := base) F10 D1 G1 m_MOST_BEATS
  have T : FormDefs l.prog w K mg base := ⟨D3, G3, D4, G4, D10, G10, D2, G2⟩
  have G9 := ok_is_way (P := l.prog) (w := w) (mg := mg) (base := base) F9 T
  have G7 := ok_are_folk (P := l.prog) (w := w) (mg := mg) (base := base) F7 B T D5 G5 m_MOST_FOLK
  have G8 := ok_are_ways (P := l.prog) (w := w) (mg := mg) (base := base) F8 B T D5 G5 D9 G9 m_MOST_WAYS
  have G6 := ok_is_web (P := l.prog) (w := w) (mg := mg) (base := base) F6 T D7 G7 D8 G8
  have G11 := ok_own_web (P := l.prog) (w := w) (mg := mg) (base := base) F11 B D6 G6
  have G14 := ok_between (P := l.prog) (w := w) (mg := mg) (base := base) F14 
  have G13 := ok_is_place (P := l.prog) (w := w) (mg := mg) (base := base) F13 T D14 G14 D1 G1
  have G12 := ok_own_place (P := l.prog) (w := w) (mg := mg) (base := base) F12 B D13 G13
  have G15 := ok_folk_beside (P := l.prog) (w := w) (mg := mg) (base := base) F15 D14 G14
  have G17 := ok_are_starters (P := l.prog) (w := w) (mg := mg) (base := base) F17 B n_set T
  have G16 := ok_own_starters (P := l.prog) (w := w) (mg := mg) (base := base) F16 B D17 G17
  have G18 := ok_check_beat (P := l.prog) (w := w) (mg := mg) (base := base) F18 D1 G1
  have G20 := ok_are_names_from (P := l.prog) (w := w) (mg := mg) (base := base) F20 B T
  have WD : WalkDefs l.prog w K mg base := ⟨D11, G11, D16, G16, D12, G12, D18, G18, D20, G20, D14, G14, D15, G15⟩
  have G19 := ok_is_walk (P := l.prog) (w := w) (mg := mg) (base := base) F19 B n_min n_max n_sum WD
  have G21 := ok_spring (P := l.prog) (w := w) (mg := mg) (base := base) F21 n_abs
  have G22 := ok_sdraw (P := l.prog) (w := w) (mg := mg) (base := base) F22 
  have G23 := ok_same (P := l.prog) (w := w) (mg := mg) (base := base) F23 B
  have G24 := ok_folk (P := l.prog) (w := w) (mg := mg) (base := base) F24 n_len n_sorted n_range D22 G22
  have G25 := ok_sweb (P := l.prog) (w := w) (mg := mg) (base := base) F25 n_len n_range n_sorted D22 G22 D24 G24
  have G26 := ok_lot (P := l.prog) (w := w) (mg := mg) (base := base) F26 n_len D22 G22
  have G27 := ok_splace (P := l.prog) (w := w) (mg := mg) (base := base) F27 n_len D22 G22
  have G28 := ok_due (P := l.prog) (w := w) (mg := mg) (base := base) F28 B n_min n_max
  have G29 := ok_gone (P := l.prog) (w := w) (mg := mg) (base := base) F29 n_len n_range D22 G22
  have G30 := ok_sum (P := l.prog) (w := w) (mg := mg) (base := base) F30 n_zip n_min n_max n_sum
  have G31 := ok_bent (P := l.prog) (w := w) (mg := mg) (base := base) F31 n_len n_tuple D22 G22
  have LD : LawDefs l.prog w K mg base := ⟨f21, f22, f25, f26, f29, f27, f31, f30, f28, f23, f19, _, _, _, _, _, _, _, _, _, _, _, D21, G21, D22, G22, D25, G25, D26, G26, D29, G29, D27, G27, D31, G31, D30, G30, D28, G28, D23, G23, D19, G19, kw_is_walk F19⟩
  exact ok_law F32 n_len n_range n_min n_max n_repr LD
end Cry
open PySem PySem.W PyProof.Rows
set_option maxRecDepth 100000 in
set_option maxHeartbeats 0 in
theorem PySem.Challenge.cw_elsetold_k22_walks_judged_holds : PySem.Challenge.rw_elsetold_k22_walks_judged.Holds := by
  w_on; o_law; k_head; (case hw => w_witness2)
  k_fill
  refine Cry.walkG (l := PySem.Challenge.rw_elsetold_k22_walks_judged) (n := 63) (k := 8) (x := "script") (sp := fun w => Cry.spLaw _) rfl (by decide) rfl ⟨rfl, by decide, by decide⟩ (fun w h Y => PySem.W.kIn_of Y) ?F (fun w H a ns hl _ hS => ⟨a, ns, rfl, hS, Nat.le_trans hl (by decide), fun _ => rfl⟩)
  case F =>
    intro w mg fa h KX G hmg
    refine' Cry.all_mk KX G hmg ?a1 ?l1 ?c1 ?k1 ?a2 ?l2 ?c2 ?k2 ?a3 ?l3 ?c3 ?k3 ?a4 ?l4 ?c4 ?k4 ?a5 ?l5 ?c5 ?k5 ?a6 ?l6 ?c6 ?k6 ?a7 ?l7 ?c7 ?k7 ?a8 ?l8 ?c8 ?k8 ?a9 ?l9 ?c9 ?k9 ?a10 ?l10 ?c10 ?k10 ?a11 ?l11 ?c11 ?k11 ?a12 ?l12 ?c12 ?k12 ?a13 ?l13 ?c13 ?k13 ?a14 ?l14 ?c14 ?k14 ?a15 ?l15 ?c15 ?k15 ?a16 ?l16 ?c16 ?k16 ?a17 ?l17 ?c17 ?k17 ?a18 ?l18 ?c18 ?k18 ?a19 ?l19 ?c19 ?k19 ?a20 ?l20 ?c20 ?k20 ?a21 ?l21 ?c21 ?k21 ?a22 ?l22 ?c22 ?k22 ?a23 ?l23 ?c23 ?k23 ?a24 ?l24 ?c24 ?k24 ?a25 ?l25 ?c25 ?k25 ?a26 ?l26 ?c26 ?k26 ?a27 ?l27 ?c27 ?k27 ?a28 ?l28 ?c28 ?k28 ?a29 ?l29 ?c29 ?k29 ?a30 ?l30 ?c30 ?k30 ?a31 ?l31 ?c31 ?k31 ?a32 ?l32 ?c32 ?k32 ?z_isinstance ?z_int ?z_bool ?z_str ?z_list ?z_tuple ?z_len ?z_all ?z_zip ?z_range ?z_sorted ?z_min ?z_max ?z_set ?z_repr ?z_abs ?z_sum ?v_LETTERS ?v_MOST_LETTERS ?v_MOST_FOLK ?v_MOST_WAYS ?v_MOST_BEATS
    (case a1 => k_is); (case l1 => k_is); (case c1 => k_is); (case k1 => k_is); (case a2 => k_is); (case l2 => k_is); (case c2 => k_is); (case k2 => k_is)
    (case a3 => k_is); (case l3 => k_is); (case c3 => k_is); (case k3 => k_is); (case a4 => k_is); (case l4 => k_is); (case c4 => k_is); (case k4 => k_is)
    (case a5 => k_is); (case l5 => k_is); (case c5 => k_is); (case k5 => k_is); (case a6 => k_is); (case l6 => k_is); (case c6 => k_is); (case k6 => k_is)
    (case a7 => k_is); (case l7 => k_is); (case c7 => k_is); (case k7 => k_is); (case a8 => k_is); (case l8 => k_is); (case c8 => k_is); (case k8 => k_is)
    (case a9 => k_is); (case l9 => k_is); (case c9 => k_is); (case k9 => k_is); (case a10 => k_is); (case l10 => k_is); (case c10 => k_is); (case k10 => k_is)
    (case a11 => k_is); (case l11 => k_is); (case c11 => k_is); (case k11 => k_is); (case a12 => k_is); (case l12 => k_is); (case c12 => k_is); (case k12 => k_is)
    (case a13 => k_is); (case l13 => k_is); (case c13 => k_is); (case k13 => k_is); (case a14 => k_is); (case l14 => k_is); (case c14 => k_is); (case k14 => k_is)
    (case a15 => k_is); (case l15 => k_is); (case c15 => k_is); (case k15 => k_is); (case a16 => k_is); (case l16 => k_is); (case c16 => k_is); (case k16 => k_is)
    (case a17 => k_is); (case l17 => k_is); (case c17 => k_is); (case k17 => k_is); (case a18 => k_is); (case l18 => k_is); (case c18 => k_is); (case k18 => k_is)
    (case a19 => k_is); (case l19 => k_is); (case c19 => k_is); (case k19 => k_is); (case a20 => k_is); (case l20 => k_is); (case c20 => k_is); (case k20 => k_is)
    (case a21 => k_is); (case l21 => k_is); (case c21 => k_is); (case k21 => k_is); (case a22 => k_is); (case l22 => k_is); (case c22 => k_is); (case k22 => k_is)
    (case a23 => k_is); (case l23 => k_is); (case c23 => k_is); (case k23 => k_is); (case a24 => k_is); (case l24 => k_is); (case c24 => k_is); (case k24 => k_is)
    (case a25 => k_is); (case l25 => k_is); (case c25 => k_is); (case k25 => k_is); (case a26 => k_is); (case l26 => k_is); (case c26 => k_is); (case k26 => k_is)
    (case a27 => k_is); (case l27 => k_is); (case c27 => k_is); (case k27 => k_is); (case a28 => k_is); (case l28 => k_is); (case c28 => k_is); (case k28 => k_is)
    (case a29 => k_is); (case l29 => k_is); (case c29 => k_is); (case k29 => k_is); (case a30 => k_is); (case l30 => k_is); (case c30 => k_is); (case k30 => k_is)
    (case a31 => k_is); (case l31 => k_is); (case c31 => k_is); (case k31 => k_is); (case a32 => k_is); (case l32 => k_is); (case c32 => k_is); (case k32 => k_is)
    (case z_isinstance => k_is); (case z_int => k_is); (case z_bool => k_is); (case z_str => k_is); (case z_list => k_is); (case z_tuple => k_is); (case z_len => k_is); (case z_all => k_is)
    (case z_zip => k_is); (case z_range => k_is); (case z_sorted => k_is); (case z_min => k_is); (case z_max => k_is); (case z_set => k_is); (case z_repr => k_is); (case z_abs => k_is)
    (case z_sum => k_is); (case v_LETTERS => k_is); (case v_MOST_LETTERS => k_is); (case v_MOST_FOLK => k_is); (case v_MOST_WAYS => k_is); (case v_MOST_BEATS => k_is)
