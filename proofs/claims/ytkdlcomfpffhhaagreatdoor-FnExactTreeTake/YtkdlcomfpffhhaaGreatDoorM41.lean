/- Of what the proof is made: 5 texts, one behind the other. -/
import Derived.Test.YtkdlcomfpffhhaaGreatDoorM26
import Derived.Test.YtkdlcomfpffhhaaGreatDoorM39
import Derived.Test.YtkdlcomfpffhhaaGreatDoorM36
import Derived.Test.YtkdlcomfpffhhaaGreatDoorM29
import Derived.Test.YtkdlcomfpffhhaaGreatDoorM30
import Derived.Test.YtkdlcomfpffhhaaGreatDoorM6
import Derived.Test.YtkdlcomfpffhhaaGreatDoorM2
import Derived.Test.YtkdlcomfpffhhaaGreatDoorTv3
import Derived.Test.YtkdlcomfpffhhaaGreatDoorM40
namespace Go.Proofs.YtkdlcomfpffhhaaGreatDoor
open Go.RowKit Corb
def enF (e:En):Fl:=⟨e.n,e.t⟩
def laidT (l:List Fl) (fs:List En):List Fl:=fs.foldl (fun t e=>putF t (enF e)) l
def takeT (l:List Fl) (s:ByteArray):List Fl×Int:=
 if (zipG s).isSome=true∧treeB l=true then
  if 8<(laidT l ((zipG s).getD [])).length then (l,4) else if treeB (laidT l ((zipG s).getD []))=true then (laidT l ((zipG s).getD []),0) else (l,3)
 else ([],1)
theorem tree_one {l:List Fl} (h:treeB l=true) (i:Nat) (hi:i<l.length):oneT l i=true:=by
 unfold treeB at h
 rw [Bool.and_eq_true] at h
 exact List.all_eq_true.1 h.1 i (List.mem_range.2 hi)
theorem tree_len {l:List Fl} (h:treeB l=true):l.length≤8:=by
 unfold treeB at h
 rw [Bool.and_eq_true] at h
 simpa using h.2
theorem tree_sort {l:List Fl} (h:treeB l=true):SortP l:=by
 unfold SortP
 rw [List.pairwise_iff_getElem]
 intro i j hi hj hij
 have:=up_all (l:=l) l.length (fun i hi=>by
  have h1:=tree_one h i hi
  unfold oneT at h1
  rw [Bool.and_eq_true,Bool.and_eq_true] at h1
  exact h1.2.1) j hj i hij
 simpa [pA,hi,hj] using this
def ShortF (f:Fl):Prop:=f.p.size≤43∧f.t.size≤300
theorem tree_short {l:List Fl} (h:treeB l=true):∀ f∈l,ShortF f:=by
 intro f hf
 obtain ⟨i,hi,rfl⟩:=List.mem_iff_getElem.1 hf
 have h1:=tree_one h i hi
 unfold oneT selfT at h1
 rw [Bool.and_eq_true,Bool.and_eq_true] at h1
 have h2:=h1.1
 have e:l.getD i default=l[i]:=by simp [hi]
 unfold pA at h2
 rw [e] at h2
 exact ⟨by have:=name_small h2.1; simpa using this,by simpa using h2.2⟩
theorem zip_short {s:ByteArray} {fs:List En} (h:zipG s=some fs):fs.length≤6∧∀ e∈fs,ShortF (enF e):=by
 obtain ⟨m,q,_,rfl,hz,_⟩:=zipG_some h
 refine ⟨(zip_all hz).2,fun e he=>?_⟩
 obtain ⟨i,hi,rfl⟩:=List.mem_iff_getElem.1 he
 have h1:=(zip_all hz).1 i hi
 have e:q.1.getD i default=q.1[i]:=by simp [hi]
 rw [e] at h1
 obtain ⟨a,b,_⟩:=ent_facts (n:=q.1[i].n) (t:=q.1[i].t) h1
 exact ⟨a,b⟩
theorem laid_sort {l:List Fl} (h:SortP l) (fs:List En):SortP (laidT l fs):=by
 induction fs generalizing l with
 | nil=>exact h
 | cons e fs ih=>exact ih (putF_sort _ h)
theorem laid_len (l:List Fl) (fs:List En):(laidT l fs).length≤l.length+fs.length:=by
 induction fs generalizing l with
 | nil=>exact Nat.le_refl _
 | cons e fs ih=>
  have h1:=ih (putF l (enF e))
  have h2:=putF_len l (enF e)
  simp only [laidT,List.foldl_cons,List.length_cons] at h1 ⊢
  omega
theorem laid_short {l:List Fl} {fs:List En} (h:∀ f∈l,ShortF f) (hf:∀ e∈fs,ShortF (enF e)):∀ f∈laidT l fs,ShortF f:=by
 induction fs generalizing l with
 | nil=>exact h
 | cons e fs ih=>
  refine ih (fun f hm=>?_) (fun e he=>hf e (List.mem_cons_of_mem _ he))
  rcases putF_mem hm with rfl | hm
  ·
   exact hf e (by simp)
  ·
   exact h f hm
theorem short_small {l:List Fl} {n:Nat} (hn:l.length=n) (h:∀ f∈l,ShortF f):FSmall l n:=by
 intro i hi
 have hi':i<l.length:=by omega
 have e:l.getD i default=l[i]:=by simp [hi']
 obtain ⟨h1,h2⟩:=h l[i] (List.getElem_mem hi')
 unfold pA
 rw [e]
 exact ⟨by omega,by omega⟩
theorem laid_take {l:List Fl} (h:SortP l) (k:Nat):(l.take k).foldl putF []=l.take k:=by
 have:=puts_sort (a:=[]) (l:=l.take k) (by rw [List.nil_append]; exact List.Pairwise.sublist (List.take_sublist k l) h)
 simpa using this
theorem laid_step (l:List Fl) (fs:List En) (k:Nat) (h:k<fs.length):laidT l (fs.take (k+1))=putF (laidT l (fs.take k)) (enF (fs.getD k default)):=by
 unfold laidT
 rw [List.take_succ_eq_append_getElem h,List.foldl_append]
 simp [h]
end Go.Proofs.YtkdlcomfpffhhaaGreatDoor
namespace Go
open Go.RowKit
theorem wpList_append_rowsN {P:Program} (w:World) {ops:Array Oper} {rest:List Oper} {o:Oper} {a:Act} {Q:Exit→Act→World→Prop} (hgd:o.guard=none) (s x:Operand) (t:TypeId)
  (ho:o.op = .call { callee:=.builtin .append,args:=#[s,x],argTypes:=#[t,t] })
  (base:Nat) (e:TypeId) (i:TypeInfo) (z:Value) (size bytes:Nat) (ht:P.underlying t=some (.slice e)) (hi:P.info? e=some i) (hz:i.zero=some z)
  (hsize:i.size=size) (hby:i.bytes=bytes) (hzs:z.cells.size=size) (hsz:0<size)
  (v:Value) (n:Nat) (xs:List Value) (hs:a.eval s=v) (hown:w.ownsRow base e size v n xs)
  (vx:Value) (base' m:Nat) (news:List Value) (hx:a.eval x=vx) (hsrc:w.ownsRow base' e size vx m news) (h1:∀ u∈news,u.oneCell'=true)
  (h63:n+m≤maxLen) (hbytes:(n+m)*bytes≤140737488355328) (hbase:base≤w.heap.size)
  (h:∀ v' w',w'.ownsRow base e size v' (n+m) (xs++news)→w.grownBy w' v.ownBlock→(v ≠ .slice none 0 0→v' ≠ .slice none 0 0)→wpList P ops Q rest (a.put o.dst v') w'):wpList P ops Q (o :: rest) a w:=by
 have hl:=hsrc.1
 rcases hsrc.2 with ⟨e0,h0⟩ | ⟨g,cap,cur,e0,hr⟩
 ·
  subst h0
  have hnil:news=[]:=List.eq_nil_of_length_eq_zero (by rw [hl]; simp)
  subst hnil
  refine wpList_append_own_none hgd s x t ho base e i size ht hi v n xs hs hown (hx.trans e0) ?_
  refine h v w ?_ (World.grownBy.same _ _) id
  rw [List.append_nil,Nat.add_zero]
  exact hown
 ·
  subst e0
  have hnews:=World.ownsRow.cells hsrc rfl
  exact wpList_append_own w hgd s x t ho base e i z size bytes ht hi hz hsize hby hzs hsz v n xs hs hown ⟨g,0,none⟩ m cap news hx hl hnews h1 h63 hbytes hbase fun v' w' h2 h3 h4=>h v' w' h2 h3 fun k e=>k (h4.1 e).1
end Go
namespace Go.Proofs.YtkdlcomfpffhhaaGreatDoor
open Go.RowKit Corb
set_option maxRecDepth 100000
theorem own_someV {w:World} {base c n:Nat} {T:TypeId} {v:Value} {xs:List Value} (h:w.ownsRow base T c v n xs) (hv:v ≠ .slice none 0 0):∃ g cap,v = .slice (some ⟨g,0,none⟩) n cap:=by
 rcases h.2 with ⟨e,_⟩ | ⟨g,cap,cur,e,_⟩
 ·
  exact absurd e hv
 ·
  exact ⟨g,cap,e⟩
theorem short_tiny {l:List Fl} (h:∀ f∈l,ShortF f):TinyF l:=fun f hf=>by
 obtain ⟨h1,h2⟩:=h f hf
 exact ⟨by omega,by omega⟩
set_option maxHeartbeats 12800000 in
theorem specTreeTake_any (a:Option Addr) (cap n base0:Nat) (l:List Fl) (s:ByteArray) (hn:l.length=n) (w:World) (h:FOwn w base0 (.slice a n cap) l) (hl:(n:Int)≤1048576) (hs:FSmall l n) (hS:s.size≤1048576) :
  Calls Tryz.prog 13 #[.slice a n cap,.string s] w fun e w'=>(∃ v,e = .returned (.tuple #[v,.int .i64 (takeT l s).2])∧FOwn w' w.heap.size v (takeT l s).1)∧Below w.heap.size w w':=by
 have hmix:Tryz.prog.follows .mixedOrders=true:=by kernel_rfl
 obtain ⟨i0,hi,hz0,hz1,hz2⟩:=info_parts Tryz.infoFile
 have CZ:=hide (specZipGet_any s w hS)
 have Hn:=hide hn
 have HT0:=hide (fun W (hb:Below w.heap.size w W)=>GOwn.later h hb (Nat.le_refl _))
 have HR:=hide (fown_row hn h)
 have HS:=hide hs
 clear hn h hs hS
 go_enter Tryz.func13,Tryz.ntmps13
 go_wp2_with fail
 refine (unhide CZ).mono ?_
 rintro e x1 ⟨⟨v,rfl,hown⟩,hb1⟩
 have HB1:=hide hb1
 obtain ⟨fs,hfs⟩:∃ fs,(zipG s).getD []=fs:=⟨_,rfl⟩
 rw [hfs] at hown
 obtain ⟨N,hN⟩:∃ N,fs.length=N:=⟨_,rfl⟩
 obtain ⟨va,vc,rfl,hvc,_⟩:=hown.formN hN
 have HV:=hide hown
 have HFs:=hide hfs
 have HNl:=hide hN
 clear hown hb1 hfs hN CZ
 obtain ⟨zb,hzb⟩:∃ zb,(zipG s).isSome=zb:=⟨_,rfl⟩
 rw [hzb]
 have HZ:=hide hzb
 clear hzb
 go_wp2_with fail
 refine (specTreeOk_any a cap l n (unhide Hn) _ ((unhide HR).later (unhide HB1)) hl (unhide HS)).mono ?_
 rintro e x2 ⟨rfl,hb2⟩
 have HB2:=hide (bnext (unhide HB1) hb2)
 have HV2:=hide ((unhide HV).later hb2 (Nat.le_refl _))
 clear hb2 HV
 have hbs2:=(unhide HB2).size
 have HA2:Hid (Below w.heap.size w (x2.alloc (.cells #[] 28))):=(unhide HB2).alloc hbs2 _
 have HE2:Hid (FOwn (x2.alloc (.cells #[] 28)) w.heap.size (.slice (some ⟨x2.heap.size,0,none⟩) 0 0) []):=World.ownsRow_lit x2 #[] 0 hbs2 (by unfold maxLen; omega) rfl
 cases ht:treeB l
 ·
  have HT:Hid (takeT l s=([],1)):=by
   show _=_
   unfold takeT; rw [ht]; simp
  clear ht
  go_wp2
  go_ret2
  rw [unhide HT]
  exact ⟨⟨_,rfl,unhide HE2⟩,unhide HA2⟩
 ·
  cases zb
  ·
   have HT:Hid (takeT l s=([],1)):=by
    show _=_
    unfold takeT; rw [unhide HZ]; simp
   clear ht
   go_wp2
   go_ret2
   rw [unhide HT]
   exact ⟨⟨_,rfl,unhide HE2⟩,unhide HA2⟩
  ·
   have HT:=hide ht
   have hn8:n≤8:=by rw [←unhide Hn]; exact tree_len ht
   have hn8I:(n:Int)≤8:=by omega
   have hsh:=hide (tree_short ht)
   have hso:=hide (tree_sort ht)
   have hfz:=hide (zip_short (show zipG s=some fs by
    have h1:=unhide HFs
    cases h2:zipG s with
    | none=>have h3:=unhide HZ; rw [h2] at h3; cases h3
    | some q=>rw [h2] at h1; exact congrArg some h1))
   have hN6:N≤6:=by rw [←unhide HNl]; exact (unhide hfz).1
   have hNI:(N:Int)≤6:=by omega
   clear ht
   have hq1:=unhide HE2
   have hsrc:=GOwn.own (unhide Hn) (unhide HT0 _ (unhide HA2))
   have h1c:∀ u∈l.flatMap encF,u.oneCell'=true:=by
    intro u hu
    obtain ⟨f,_,hf⟩:=List.mem_flatMap.1 hu
    exact encF_one f u hf
   have hlen1:Hid (0+n≤maxLen∧(0+n)*32≤140737488355328):=by
    show _∧_
    unfold maxLen
    omega
   have H1C:=hide h1c
   clear h1c
   go_wp2_with (at_builtin; refine wpList_append_rowsN _ rfl (.tmp 23) (.tmp 24) 23 rfl w.heap.size 28 i0 (.agg #[.string ⟨#[]⟩,.string ⟨#[]⟩]) 2 32 Tryz.underlying23 hi hz0 hz1 hz2 rfl (by decide) _ _ _ rfl hq1 _ base0 n _ rfl hsrc (unhide H1C) (unhide hlen1).1 (unhide hlen1).2 (by simp; omega) ?_; intro v3 x3 hown3 hgrow3 hnil3)
   have hb3:=Below.grown (unhide HA2) hgrow3 (by simp; omega) (fun j hj=>(World.ownsRow.lt (unhide HE2) j hj).1)
   have hq3:FOwn x3 w.heap.size v3 l:=by
    have h1:=hown3
    simp only [List.flatMap_nil,List.nil_append,List.length_nil,Nat.zero_add] at h1
    show World.ownsRow _ _ _ _ _ l.length _
    rw [unhide Hn]; exact h1
   have hnn3:v3 ≠ .slice none 0 0:=hnil3 (fun e=>nomatch e)
   have HB3:=hide hb3
   have HQ3:=hide hq3
   have HN3:=hide hnn3
   have hgrow_sz:=hb3.size
   have HV3:Hid (∀ W,Below x3.heap.size x3 W→EOwn W w.heap.size (.slice va N vc) fs):=fun W hW=>by
    refine GOwn.later (w:=x3) ?_ hW (Nat.le_refl _)
    exact World.ownsRow.kept (World.ownsRow.alloc (unhide HV2) (.cells #[] 28)) hgrow3 (type_apart (World.ownsRow.alloc (unhide HV2) (.cells #[] 28)) (unhide HE2) (by decide))
   clear hown3 hgrow3 hnil3 hb3 hq3 hnn3 hq1 hsrc HE2 HA2
   go_loopw [8,9] (fun o i wr=>∃ k:Nat,k≤N∧i = .int .i64 k∧FOwn wr w.heap.size o (laidT l (fs.take k))∧o ≠ .slice none 0 0∧Below x3.heap.size x3 wr) (fun _ i _=>N-(intOf i).toNat)
   case atStart=>exact ⟨0,Nat.zero_le _,rfl,unhide HQ3,unhide HN3,Below.refl _ _⟩
   case round=>
    obtain ⟨k,hk,rfl,hq,hnn,hbel⟩:=hrel
    by_cases hlt:k<N
    ·
     obtain ⟨g,o,rfl,hg,hcc⟩:=eown_row (unhide HNl) (unhide HV3 _ hbel) (by have:=unhide HNl; omega)
     obtain ⟨c0,c1,c2,c3,c4,c5,c6,c7⟩:=hcc k (by have:=unhide HNl; omega)
     have hst:=hide (laid_step l fs k (by have:=unhide HNl; omega))
     obtain ⟨L,hL⟩:∃ L,laidT l (fs.take k)=L:=⟨_,rfl⟩
     obtain ⟨M,hM⟩:∃ M,L.length=M:=⟨_,rfl⟩
     have hM14:M≤14:=by
      rw [←hM,←hL]
      have h1:=laid_len l (fs.take k)
      have h2:=unhide Hn
      have h3:(fs.take k).length≤6:=by rw [List.length_take]; have:=unhide HNl; omega
      omega
     have hTy:=hide (short_tiny (laid_short (unhide hsh) (fun e he=>(unhide hfz).2 e (List.mem_of_mem_take he)) (fs:=fs.take k)))
     have hse:=hide ((unhide hfz).2 (fs.getD k default) (by
      have:k<fs.length:=by have:=unhide HNl; omega
      simp [this]))
     rw [hL] at hq hst hTy
     obtain ⟨og,oc,rfl⟩:=own_someV (GOwn.own hM hq) hnn
     obtain ⟨_,_,e9,hoc,_⟩:=GOwn.formN hM hq
     cases e9
     have HM:=hide hM
     have Hk:=hide hk
     clear hcc hk hL hM
     generalize fs.getD k default=en at *
     have hltI:(k:Int)<(N:Int):=by omega
     have hkI:(k:Int)≤6:=by omega
     have hfb:FBlk wr og L:=own_fblk (by have h1:=hq; rw [←unhide HM] at h1; exact h1)
     have HP:=hide (fun W (hW:Below wr.heap.size wr W)=>l10PutS_any og oc M L en.n en.t W (unhide HM) (hfb.later hW) (by omega) hoc (unhide hTy) (by have:=(unhide hse).1; simp only [enF] at this; omega) (by have:=(unhide hse).2; simp only [enF] at this; omega))
     have HB:=hide hbel
     have hW:Below wr.heap.size wr wr.drew:=(Below.refl _ _).drew
     have HW:=hide hW
     clear hq hfb hnn hbel hW hoc
     go_wp2_with fail
     refine wp_region_held_drew (S:=fun W=>W.cell? ⟨g,o+k*8,none⟩=some (.string en.n)∧W.cell? ⟨g,o+k*8+7,none⟩=some (.string en.t)) hmix ⟨c0,c7⟩ (fun hS=>?_)
     refine takeH 0 (.slice (some ⟨og,0,none⟩) M oc) rfl (fun W hW=>by go_simp) hS ?_
     refine takeH 1 (.slice (some ⟨g,o,none⟩) N vc) rfl (fun W hW=>by go_simp) hS ?_
     refine takeH 2 (.int .i64 (k:Nat)) rfl (fun W hW=>by go_simp) hS ?_
     refine takeH 3 (.pointer (some ⟨g,o+k*8,none⟩)) rfl (fun W hW=>by go_simp) hS ?_
     refine takeH 4 (.pointer (some ⟨g,o+k*8,none⟩)) rfl (fun W hW=>by go_simp) hS ?_
     refine takeH 5 (.string en.n) rfl (fun W hW=>by obtain ⟨s0,s1⟩:=hW; go_simp) hS ?_
     refine takeH 6 (.slice (some ⟨g,o,none⟩) N vc) rfl (fun W hW=>by go_simp) hS ?_
     refine takeH 7 (.int .i64 (k:Nat)) rfl (fun W hW=>by go_simp) hS ?_
     refine takeH 8 (.pointer (some ⟨g,o+k*8,none⟩)) rfl (fun W hW=>by go_simp) hS ?_
     refine takeH 9 (.pointer (some ⟨g,o+k*8+7,none⟩)) rfl (fun W hW=>by go_simp) hS ?_
     refine takeH 10 (.string en.t) rfl (fun W hW=>by obtain ⟨s0,s1⟩:=hW; go_simp) hS ?_
     refine takeH 11 (.agg #[.string en.n,.string en.t]) rfl (fun W hW=>by go_simp) hS ?_
     refine readyH 12 fun K hK=>?_
     go_simp
     go_at_call 40
     refine (unhide HP _ (unhide HW)).mono ?_
     rintro e x4 ⟨⟨v4,L4,rfl,_,ho4,hn4,_,rfl⟩,hb4⟩
     have hWx:Below wr.heap.size wr x4:=bnext (unhide HW) hb4
     have hl4:laidT l (fs.take (k+1))=putF L ⟨en.n,en.t⟩:=unhide hst
     rw [←hl4] at ho4
     have hsz:=(unhide HB).size
     refine Shut.out hK _ _ ⟨(hWx.cell (p:=⟨g,o+k*8,none⟩) hg).trans c0,(hWx.cell (p:=⟨g,o+k*8+7,none⟩) hg).trans c7⟩ (fun hS=>?_)
     clear hK K
     have HO4:=hide (GOwn.mono ho4 (show w.heap.size≤wr.drew.heap.size by show w.heap.size≤wr.heap.size; have:=hgrow_sz; omega))
     have HN4:=hide hn4
     have HB4:=hide ((unhide HB).trans (hWx.mono (unhide HB).size))
     clear ho4 hn4 hb4 hWx hl4 HP HW
     refine takeH 13 v4 rfl (fun W hW=>by go_simp) hS ?_
     refine wpAnyH_done (by kernel_rfl) ?_ _
     go_wp2
     go_roundw
     case rel=>exact ⟨k+1,by omega,by go_num,unhide HO4,unhide HN4,unhide HB4⟩
     case measure=>simp [intOf]; omega
    ·
     have hkn:fs.take k=fs:=List.take_of_length_le (by rw [unhide HNl]; omega)
     rw [hkn] at hq
     obtain ⟨L,hL⟩:∃ L,laidT l fs=L:=⟨_,rfl⟩
     obtain ⟨M,hM⟩:∃ M,L.length=M:=⟨_,rfl⟩
     have hM14:M≤14:=by
      rw [←hM,←hL]
      have h1:=laid_len l fs
      have h2:=unhide Hn
      have h3:=unhide HNl
      omega
     have hLf:=hide (laid_short (unhide hsh) (unhide hfz).2)
     rw [hL] at hq hLf
     obtain ⟨og,oc,rfl⟩:=own_someV (GOwn.own hM hq) hnn
     obtain ⟨_,_,e9,hoc,_⟩:=GOwn.formN hM hq
     cases e9
     have hout:Hid (laidT l ((zipG s).getD [])=L):=by show _=_; rw [unhide HFs]; exact hL
     have HMl:=hide hM
     have HBE:=hide ((unhide HB3).trans (hbel.mono (unhide HB3).size))
     have HQ:=hide hq
     clear hq hL hM hnn hbel hkn hoc
     by_cases hbig:8<M
     ·
      have hbigI:(8:Int)<(M:Int):=by omega
      have HTk:Hid (takeT l s=(l,4)):=by
       show _=_
       unfold takeT
       rw [if_pos ⟨unhide HZ,unhide HT⟩,unhide hout,if_pos (by rw [unhide HMl]; exact hbig)]
      have hbz:=(unhide HBE).size
      have HA5:Hid (Below w.heap.size w (wr.alloc (.cells #[] 28))):=(unhide HBE).alloc hbz _
      have hq5:FOwn (wr.alloc (.cells #[] 28)) w.heap.size (.slice (some ⟨wr.heap.size,0,none⟩) 0 0) []:=World.ownsRow_lit wr #[] 0 hbz (by unfold maxLen; omega) rfl
      have hsrc5:=GOwn.own (unhide Hn) (unhide HT0 _ (unhide HA5))
      have HQ5:=hide hq5
      go_wp2_with (at_builtin; refine wpList_append_rowsN _ rfl (.tmp 49) (.tmp 50) 23 rfl w.heap.size 28 i0 (.agg #[.string ⟨#[]⟩,.string ⟨#[]⟩]) 2 32 Tryz.underlying23 hi hz0 hz1 hz2 rfl (by decide) _ _ _ rfl hq5 _ base0 n _ rfl hsrc5 (unhide H1C) (unhide hlen1).1 (unhide hlen1).2 (by simp; omega) ?_; intro v6 x6 hown6 hgrow6 hnil6; clear hnil6)
      have HB6:=hide (Below.grown (unhide HA5) hgrow6 (by simp; omega) (fun j hj=>(World.ownsRow.lt (unhide HQ5) j hj).1))
      have HQ6:Hid (FOwn x6 w.heap.size v6 l):=by
       have h1:=hown6
       simp only [List.flatMap_nil,List.nil_append,List.length_nil,Nat.zero_add] at h1
       show World.ownsRow _ _ _ _ _ l.length _
       rw [unhide Hn]; exact h1
      clear hown6 hgrow6 hq5 hsrc5 HA5
      go_wp2
      go_ret2
      rw [unhide HTk]
      exact ⟨⟨_,rfl,unhide HQ6⟩,unhide HB6⟩
     ·
      have hsmI:(M:Int)≤8:=by omega
      have HTO:=hide (specTreeOk_any (some ⟨og,0,none⟩) oc L M (unhide HMl) wr (fown_row (unhide HMl) (unhide HQ)) (by omega) (short_small (unhide HMl) (unhide hLf)))
      go_wp2_with fail
      refine (unhide HTO).mono ?_
      rintro e x5 ⟨rfl,hb5⟩
      have HBE:=hide (bnext (unhide HBE) hb5)
      have HQ9:=hide (GOwn.later (unhide HQ) hb5 (Nat.le_refl _))
      clear hb5 HTO HQ
      cases hto:treeB L
      ·
       have HTk:Hid (takeT l s=(l,3)):=by
        show _=_
        unfold takeT
        rw [if_pos ⟨unhide HZ,unhide HT⟩,unhide hout,if_neg (by rw [unhide HMl]; exact hbig),if_neg (by rw [hto]; decide)]
       clear hto
       have hbz:=(unhide HBE).size
       have HA5:Hid (Below w.heap.size w (x5.alloc (.cells #[] 28))):=(unhide HBE).alloc hbz _
       have hq5:FOwn (x5.alloc (.cells #[] 28)) w.heap.size (.slice (some ⟨x5.heap.size,0,none⟩) 0 0) []:=World.ownsRow_lit x5 #[] 0 hbz (by unfold maxLen; omega) rfl
       have hsrc5:=GOwn.own (unhide Hn) (unhide HT0 _ (unhide HA5))
       have HQ5:=hide hq5
       go_wp2_with (at_builtin; refine wpList_append_rowsN _ rfl (.tmp 56) (.tmp 57) 23 rfl w.heap.size 28 i0 (.agg #[.string ⟨#[]⟩,.string ⟨#[]⟩]) 2 32 Tryz.underlying23 hi hz0 hz1 hz2 rfl (by decide) _ _ _ rfl hq5 _ base0 n _ rfl hsrc5 (unhide H1C) (unhide hlen1).1 (unhide hlen1).2 (by simp; omega) ?_; intro v6 x6 hown6 hgrow6 hnil6; clear hnil6)
       have HB6:=hide (Below.grown (unhide HA5) hgrow6 (by simp; omega) (fun j hj=>(World.ownsRow.lt (unhide HQ5) j hj).1))
       have HQ6:Hid (FOwn x6 w.heap.size v6 l):=by
        have h1:=hown6
        simp only [List.flatMap_nil,List.nil_append,List.length_nil,Nat.zero_add] at h1
        show World.ownsRow _ _ _ _ _ l.length _
        rw [unhide Hn]; exact h1
       clear hown6 hgrow6 hq5 hsrc5 HA5
       go_wp2
       go_ret2
       rw [unhide HTk]
       exact ⟨⟨_,rfl,unhide HQ6⟩,unhide HB6⟩
      ·
       have HTk:Hid (takeT l s=(L,0)):=by
        show _=_
        unfold takeT
        rw [if_pos ⟨unhide HZ,unhide HT⟩,unhide hout,if_neg (by rw [unhide HMl]; exact hbig),if_pos hto]
       clear hto
       go_wp2
       go_ret2
       rw [unhide HTk]
       exact ⟨⟨_,rfl,unhide HQ9⟩,unhide HBE⟩
end Go.Proofs.YtkdlcomfpffhhaaGreatDoor
namespace Go.Proofs.YtkdlcomfpffhhaaGreatDoor
open Go.RowKit Corb
set_option maxRecDepth 100000
def mkF (i:Nat):Fl:=⟨mkT (1+2*i),mkT (2+2*i)⟩
def mkFL (n:Nat):List Fl:=(List.range n).map mkF
theorem mkFL_len (n:Nat):(mkFL n).length=n:=by simp [mkFL]
theorem mkFL_get (n i:Nat) (h:i<n):(mkFL n).getD i default=mkF i:=by simp [mkFL,List.getD,h]
theorem mkFL_step (l:List Fl) (j:Nat) (h:j<l.length):(mkFL j++l.drop j).set j (mkF j)=mkFL (j+1)++l.drop (j+1):=by
 rw [List.set_append_right _ _ (by rw [mkFL_len]; exact Nat.le_refl _),mkFL_len,Nat.sub_self]
 have h1:l.drop j=l[j] :: l.drop (j+1):=List.drop_eq_getElem_cons h
 rw [h1,List.set_cons_zero]
 simp [mkFL,List.range_succ]
theorem markF_rest {w:World} {base g cap n:Nat} {l:List Fl} {k:Nat} (hn:l.length=n) (hk:k<n) (u0 u1:Value) (he:[u0,u1]=encF (mkF k)) (h:w.ownsRow base 28 2 (.slice (some ⟨g,0,none⟩) n cap) n (setL ((mkFL k++l.drop k).flatMap encF) (k*2) [u0])) :
  FOwn (w.setCell ⟨g,k*2+1,none⟩ u1) base (.slice (some ⟨g,0,none⟩) n cap) (mkFL (k+1)++l.drop (k+1)):=by
 have h1:=(World.ownsRow.stored h (k*2+1) u1).1
 have hl:(mkFL k++l.drop k).length=n:=by rw [List.length_append,mkFL_len,List.length_drop]; omega
 have e1:(setL ((mkFL k++l.drop k).flatMap encF) (k*2) [u0]).set (k*2+1) u1=setL ((mkFL k++l.drop k).flatMap encF) (k*2) [u0,u1]:=rfl
 rw [e1,he,flat_set encF_len _ k (mkF k) (by rw [hl]; exact hk),mkFL_step l k (by omega)] at h1
 show World.ownsRow _ _ _ _ _ (mkFL (k+1)++l.drop (k+1)).length _
 rw [show (mkFL (k+1)++l.drop (k+1)).length=n by rw [List.length_append,mkFL_len,List.length_drop]; omega]
 exact h1
theorem grown_belowI {w w1 w2:World} {r:Option Nat} (h:w.grownBy w1 r) (hb:Below w1.heap.size w1 w2):w.grownBy w2 r:=
 ⟨hb.os.trans h.os,hb.tape.trans h.tape,hb.output.trans h.output,Nat.le_trans h.size hb.size,fun k hk hne=>(hb.block k (Nat.lt_of_lt_of_le hk h.size)).trans (h.block k hk hne)⟩
theorem grown_cellI {w w':World} {g:Nat} (h:w.grownBy w' (some g)) (o:Nat) (v:Value):w.grownBy (w'.setCell ⟨g,o,none⟩ v) (some g):=grown_cellsI h [v] o
set_option maxHeartbeats 6400000 in
theorem markFileS_any (a:Option Addr) (cap n base:Nat) (l:List Fl) (w:World) (hn:l.length=n) (h:FOwn w base (.slice a n cap) l) (hB:base≤w.heap.size) (hm:n≤1048576) :
  Calls Tryz.prog 16 #[.slice a n cap,.int .i64 1] w fun e w'=>e = .returned (.int .i64 (1+2*(n:Int)))∧FOwn w' base (.slice a n cap) (mkFL n)∧w.grownBy w' (Value.slice a n cap).ownBlock:=by
 have hm':(n:Int)≤1048576:=by omega
 have Hn:=hide hn
 have HBs:=hide hB
 clear hn hm hB
 go_enter Tryz.func16,Tryz.ntmps16
 go_wp2_with fail
 go_loopw [1,5] (fun m i wr=>∃ k:Nat,k≤n∧i = .int .i64 k∧m = .int .i64 (1+2*(k:Int))∧FOwn wr base (.slice a n cap) (mkFL k++l.drop k)∧w.grownBy wr (Value.slice a n cap).ownBlock) (fun _ i _=>n-(intOf i).toNat)
 case atStart=>exact ⟨0,Nat.zero_le _,rfl,rfl,h,⟨rfl,rfl,rfl,Nat.le_refl _,fun _ _ _=>rfl⟩⟩
 case round=>
  obtain ⟨k,hk,rfl,rfl,hp,hbel⟩:=hrel
  clear h
  have hlen:Hid ((mkFL k++l.drop k).length=n):=by
   show _=_
   have:=unhide Hn
   rw [List.length_append,mkFL_len,List.length_drop]; omega
  by_cases hlt:k<n
  ·
   obtain ⟨g,rfl⟩:=hp.somes (by rw [unhide hlen]; omega)
   have C:=hide (fun W=>markText_any (1+2*k) W (by omega) (by omega))
   rw [show ((1+2*k:Nat):Int)=1+2*(k:Int) by omega] at C
   have C7:=hide (fun W=>markText_any (2+2*k) W (by omega) (by omega))
   rw [show ((2+2*k:Nat):Int)=1+2*(k:Int)+1 by omega] at C7
   have HP:=hide hp
   have HBel:=hide hbel
   have HK:=hide hk
   have hkI:(k:Int)≤1048576:=by omega
   clear hk hp hbel
   have HMk:Hid ([.string (mkT (1+2*k)),.string (mkT (2+2*k))]=encF (mkF k)):=rfl
   go_wp2_with fail
   refine (unhide C _).mono ?_
   rintro e x1 ⟨rfl,hb1⟩
   have hp1:=(unhide HP).later hb1 (Nat.le_refl _)
   have hb01:=grown_belowI (unhide HBel) hb1
   generalize mkT (1+2*k)=M0 at *
   generalize mkT (2+2*k)=M7 at *
   have hset:=own_setMany [.string M0] (k*2) (GOwn.own (unhide hlen) hp1)
   have hbset:=grown_cellI (g:=g) hb01 (k*2) (.string M0)
   obtain ⟨c0,c1⟩:=fown_at (unhide hlen) hp1 k hlt
   obtain ⟨f0,f1⟩:=fown_froz (unhide hlen) hp1 k hlt
   have HSet:=hide hset
   have HBSet:=hide hbset
   clear hset hbset hp1 hb01 hb1 C HP HBel
   generalize (mkFL k++l.drop k).getD k default=en at *
   go_wp2_with fail
   refine (unhide C7 _).mono ?_
   rintro e x2 ⟨rfl,hb2⟩
   have hown2:=own_later (unhide HSet) hb2 (Nat.le_refl _)
   have hbel2:=grown_belowI (unhide HBSet) hb2
   have HFin:=hide (markF_rest (unhide Hn) hlt _ (.string M7) (unhide HMk) hown2)
   have HBFin:=hide (grown_cellI (g:=g) hbel2 (k*2+1) (.string M7))
   have d7:=World.ownsRow.cellAt hown2 (k*2+1) (by omega)
   have g7:=World.ownsRow.frozenAt hown2 (k*2+1)
   obtain ⟨y,hy⟩:∃ y,(setL ((mkFL k++l.drop k).flatMap encF) (k*2) [.string M0])[k*2+1]?=some y:=⟨_,List.getElem?_eq_getElem (by rw [setL_len,flatG_len encF_len,unhide hlen]; omega)⟩
   rw [hy] at d7
   clear c0 c1 f0 f1 hown2 hbel2 hb2 HSet HBSet hy C7
   go_wp2
   go_roundw
   case rel=>exact ⟨k+1,by omega,by go_num,by go_num,unhide HFin,unhide HBFin⟩
   case measure=>simp [intOf]; omega
  ·
   have hkl:k=n:=by omega
   subst hkl
   have e:mkFL k++l.drop k=mkFL k:=by
    have:=unhide Hn
    rw [List.drop_of_length_le (by omega)]; simp
   rw [e] at hp
   clear e hlen
   go_wp2
   go_ret
   exact ⟨rfl,hp,hbel⟩
set_option maxHeartbeats 6400000 in
theorem heldFileS_any (a:Option Addr) (cap n base:Nat) (w:World) (h:FOwn w base (.slice a n cap) (mkFL n)) (hm:n≤8) :
  Calls Tryz.prog 17 #[.slice a n cap,.int .i64 1] w fun e w'=>e = .returned (.int .i64 (1+2*(n:Int)))∧Below w.heap.size w w':=by
 have hmix:Tryz.prog.follows .mixedOrders=true:=by kernel_rfl
 have hm':(n:Int)≤8:=by omega
 have HH:=hide h
 clear hm h
 go_enter Tryz.func17,Tryz.ntmps17
 go_wp2_with fail
 go_loopw [1,5] (fun m i wr=>∃ k:Nat,k≤n∧i = .int .i64 k∧m = .int .i64 (1+2*(k:Int))∧Below w.heap.size w wr) (fun _ i _=>n-(intOf i).toNat)
 case atStart=>exact ⟨0,Nat.zero_le _,rfl,rfl,Below.refl _ _⟩
 case round=>
  obtain ⟨k,hk,rfl,rfl,hbel⟩:=hrel
  by_cases hlt:k<n
  ·
   obtain ⟨g,rfl⟩:=(unhide HH).somes (by rw [mkFL_len]; omega)
   have HC:=hide (fun W (hb:Below w.heap.size w W)=>fown_at (mkFL_len n) ((unhide HH).later hb (Nat.le_refl _)) k hlt)
   rw [mkFL_get n k hlt] at HC
   unfold FlAt mkF at HC
   have C:=hide (fun W=>markText_any (1+2*k) W (by omega) (by omega))
   rw [show ((1+2*k:Nat):Int)=1+2*(k:Int) by omega] at C
   have C7:=hide (fun W=>markText_any (2+2*k) W (by omega) (by omega))
   rw [show ((2+2*k:Nat):Int)=1+2*(k:Int)+1 by omega] at C7
   have HK:=hide hk
   have HBel:=hide hbel
   have hkI:(k:Int)≤8:=by omega
   generalize mkT (1+2*k)=M0 at *
   generalize mkT (2+2*k)=M7 at *
   obtain ⟨c0,_⟩:=unhide HC wr hbel
   have q1:=fun d os=>Calls.regrown_of (w:=wr) (d:=d) (os:=os) (unhide C _)
   have k0:=cell_regrown c0
   clear hk hbel C c0
   go_wp2_with fail
   refine wp_region_quiet_below hmix (by kernel_rfl) ?_
   quiet_step (fail)
   quiet_step (fail)
   quiet_step (fail)
   quiet_step (fail)
   quiet_step (fail)
   quiet_step (fail)
   quiet_step (exact q1 _ _)
   quiet_step (fail)
   refine wpQuiet_nil ?_
   intro zw hw'
   obtain ⟨⟨dq,osq⟩,hw2⟩:=hw'
   have HZ:=below_regrown wr dq osq
   rw [←hw2] at HZ
   have T9:=hide (bnext (unhide HBel) HZ)
   clear hw2 HZ q1 k0
   obtain ⟨_,c7⟩:=unhide HC zw (unhide T9)
   have q7:=fun d os=>Calls.regrown_of (w:=zw) (d:=d) (os:=os) (unhide C7 _)
   have k7:=cell_regrown c7
   clear C7 HC
   go_wp2_with fail
   refine wp_region_quiet_below hmix (by kernel_rfl) ?_
   quiet_step (fail)
   quiet_step (fail)
   quiet_step (fail)
   quiet_step (fail)
   quiet_step (fail)
   quiet_step (fail)
   quiet_step (exact q7 _ _)
   quiet_step (fail)
   refine wpQuiet_nil ?_
   intro yw hy'
   obtain ⟨⟨dq,osq⟩,hw2⟩:=hy'
   have HZ:=below_regrown zw dq osq
   rw [←hw2] at HZ
   have T10:=hide (bnext (unhide T9) HZ)
   clear hw2 HZ q7 k7 c7
   go_wp2
   go_roundw
   case rel=>exact ⟨k+1,by omega,by go_num,by go_num,unhide T10⟩
   case measure=>simp [intOf]; omega
  ·
   have hkl:k=n:=by omega
   subst hkl
   clear HH
   go_wp2
   go_ret
   exact ⟨rfl,hbel⟩
set_option maxHeartbeats 12800000 in
theorem implTreeTake_any (a:Option Addr) (cap n:Nat) (l:List Fl) (s:ByteArray) (hn:l.length=n) (m:Int) (w:World) (h:FRow w a l) (hl:(n:Int)≤1048576) (hcap:(n:Int)≤(cap:Int)) (hs:FSmall l n)
  (hS:s.size≤1048576) (hm:w.cell? ⟨2,0,none⟩=some (.int .i64 m)) (hg:ErrT w) (hO:OrdC w) :
  Calls Tryz.prog 10 #[.slice a n cap,.string s] w fun e w'=>(∃ v,e = .returned (.tuple #[v,.int .i64 (takeT l s).2])∧FOwn w' w.heap.size v (takeT l s).1)∧Below w.heap.size w w':=by
 have CZ:=hide (implZipGet_any s m w hS hm hg hO)
 have CM:=hide (fun W (hb:Below w.heap.size w W)=>(hb.cell (p:=⟨2,0,none⟩) (World.block_lt_of_cell? _ _ hm)).trans hm)
 have Hn:=hide hn
 have HR:=hide h
 have HS:=hide hs
 clear hn h hs hS hm hg hO
 go_enter Tryz.func10,Tryz.ntmps10
 go_wp2_with fail
 refine (unhide CZ).mono ?_
 rintro e x1 ⟨⟨v,rfl,hown⟩,hb1⟩
 have HB1:=hide hb1
 obtain ⟨fs,hfs⟩:∃ fs,(zipG s).getD []=fs:=⟨_,rfl⟩
 rw [hfs] at hown
 obtain ⟨N,hN⟩:∃ N,fs.length=N:=⟨_,rfl⟩
 obtain ⟨va,vc,rfl,hvc,_⟩:=hown.formN hN
 have HV:=hide hown
 have HFs:=hide hfs
 have HNl:=hide hN
 clear hown hb1 hfs hN CZ
 cases hz:(zipG s).isSome
 ·
  have HT:Hid (takeT l s=([],1)):=by
   show _=_
   unfold takeT; rw [hz]; simp
  clear hz
  go_wp2
  go_ret2
  rw [unhide HT]
  exact ⟨⟨_,rfl,GOwn.nil _ _⟩,unhide HB1⟩
 ·
  have HZ:=hide hz
  clear hz
  go_wp2_with fail
  refine (implTreeOk_any a cap l n (unhide Hn) m _ ((unhide HR).later (unhide HB1)) hl hcap (unhide HS) (unhide CM _ (unhide HB1))).mono ?_
  rintro e x2 ⟨rfl,hb2⟩
  have HB2:=hide (bnext (unhide HB1) hb2)
  have HV2:=hide ((unhide HV).later hb2 (Nat.le_refl _))
  clear hb2 HV
  cases ht:treeB l
  ·
   have HT:Hid (takeT l s=([],1)):=by
    show _=_
    unfold takeT; rw [ht]; simp
   clear ht
   go_wp2
   go_ret2
   rw [unhide HT]
   exact ⟨⟨_,rfl,GOwn.nil _ _⟩,unhide HB2⟩
  ·
   have HT:=hide ht
   have hn8:n≤8:=by rw [←unhide Hn]; exact tree_len ht
   have hn8I:(n:Int)≤8:=by omega
   have hsh:=hide (tree_short ht)
   have hso:=hide (tree_sort ht)
   have HE:=hide (eachFile_any a cap n l x2 (unhide Hn) ((unhide HR).later (unhide HB2)) hn8 (fun i hi=>by
    have hi':i<l.length:=by rw [unhide Hn]; exact hi
    have e:l.getD i default=l[i]:=by simp [hi']
    rw [e]
    obtain ⟨h1,h2⟩:=unhide hsh l[i] (List.getElem_mem hi')
    exact ⟨by omega,by omega⟩))
   clear ht
   go_wp2_with fail
   refine (unhide HE).mono ?_
   rintro e x3 ⟨wv,rfl,hw3,hb3⟩
   obtain ⟨wa,wc,rfl,hwc,_⟩:=GOwn.formN (unhide Hn) hw3
   have HB3:=hide (bnext (unhide HB2) hb3)
   have HV3:=hide ((unhide HV2).later hb3 (Nat.le_refl _))
   have HW3:=hide (hw3.mono (unhide HB2).size)
   clear hb3 hw3 HV2 HE
   go_wp2_with fail
   refine (mapOf_any x3).mono ?_
   rintro e x4 ⟨⟨b,rfl,hp4⟩,hb4⟩
   have HB4:=hide (bnext (unhide HB3) hb4)
   have HK4:=hide hb4
   have HP4:=hide hp4
   clear hb4 hp4
   go_wp2_with fail
   go_loopw [11,32] (fun _ i wr=>∃ k:Nat,k≤n∧i = .int .i64 k∧PMap wr x3.heap.size b (l.take k)∧Below x3.heap.size x3 wr) (fun _ i _=>n-(intOf i).toNat)
   case atStart=>exact ⟨0,Nat.zero_le _,rfl,unhide HP4,unhide HK4⟩
   case round=>
    obtain ⟨k,hk,rfl,hp,hbel⟩:=hrel
    by_cases hlt:k<n
    ·
     obtain ⟨g,o,rfl,hg,hcc⟩:=FRow.later (fown_row (unhide Hn) (unhide HW3)) hbel (by have:=unhide Hn; omega)
     obtain ⟨c0,c1⟩:=hcc k (by have:=unhide Hn; omega)
     have hst:=hide (take_snocE l default k (by have:=unhide Hn; omega))
     have hlk:Hid ((l.take k).length=k):=by show _=_; have:=unhide Hn; simp; omega
     have hput:Hid (putF (l.take k) (l.getD k default)=l.take (k+1)):=by
      show _=_
      have e1:=laid_take (unhide hso) (k+1)
      rw [unhide hst,List.foldl_append,laid_take (unhide hso) k] at e1
      rw [unhide hst]
      simpa using e1
     have hsk:=hide (show SortP (l.take k) from List.Pairwise.sublist (List.take_sublist k l) (unhide hso))
     have Hk:=hide hk
     clear hcc hk
     generalize l.getD k default=en at *
     obtain ⟨ep,et⟩:=en
     have hA:Below wr.heap.size wr (wr.alloc (.cells #[.string ep,.string et] 28)):=(Below.refl _ _).alloc (Nat.le_refl _) _
     have hp1:=hp.later hA (Nat.le_refl _)
     have hsz:=hbel.size
     have HM1:=hide (mapPut_any b (l.take k) ep et x3.heap.size _ hp1 (unhide hsk) (by have:=unhide hlk; omega) (by simp; omega))
     have HA:=hide (hbel.trans (hA.mono hbel.size))
     clear hA hp1 hp hbel
     go_wp2_with fail
     refine (unhide HM1).mono ?_
     rintro e x5 ⟨rfl,hp5,hb5⟩
     rw [unhide hput] at hp5
     have HP5:=hide hp5
     have HB5:=hide ((unhide HA).trans hb5)
     clear hp5 hb5 HM1
     go_wp2_with fail
     go_roundw
     case rel=>exact ⟨k+1,by have:=unhide Hk; omega,by go_num,unhide HP5,unhide HB5⟩
     case measure=>simp [intOf]; omega
    ·
     have hkn:l.take k=l:=List.take_of_length_le (by rw [unhide Hn]; omega)
     rw [hkn] at hp
     have HP6:=hide hp
     have HB6:=hide hbel
     clear hp hbel hkn
     go_wp2_with fail
     clear HB4 HK4 HP4
     have hfz:=hide (zip_short (show zipG s=some fs by
      have h1:=unhide HFs
      cases h2:zipG s with
      | none=>have h3:=unhide HZ; rw [h2] at h3; cases h3
      | some q=>rw [h2] at h1; exact congrArg some h1))
     have hN6:N≤6:=by rw [←unhide HNl]; exact (unhide hfz).1
     have hNI:(N:Int)≤6:=by omega
     have hlen:=hide (laid_len l)
     go_loopw [13,44] (fun _ i wr=>∃ k:Nat,k≤N∧i = .int .i64 k∧PMap wr x3.heap.size b (laidT l (fs.take k))∧Below x3.heap.size x3 wr) (fun _ i _=>N-(intOf i).toNat)
     case atStart=>exact ⟨0,Nat.zero_le _,rfl,unhide HP6,unhide HB6⟩
     case round=>
      clear HP6 HB6
      obtain ⟨k,hk,rfl,hp,hbel⟩:=hrel
      by_cases hlt:k<N
      ·
       obtain ⟨g,o,rfl,hg,hcc⟩:=ERow.later (eown_row (unhide HNl) (unhide HV3)) hbel (by have:=unhide HNl; omega)
       obtain ⟨c0,c1,c2,c3,c4,c5,c6,c7⟩:=hcc k (by have:=unhide HNl; omega)
       have hst:=hide (laid_step l fs k (by have:=unhide HNl; omega))
       have hlk:Hid ((laidT l (fs.take k)).length≤14):=by
        show _≤_
        have h1:=unhide hlen (fs.take k)
        have h2:=unhide Hn
        have h3:(fs.take k).length≤6:=by rw [List.length_take]; have:=unhide HNl; omega
        omega
       have hsk:=hide (laid_sort (unhide hso) (fs.take k))
       have Hk:=hide hk
       clear hcc hk
       generalize fs.getD k default=en at *
       have hA:Below wr.heap.size wr (wr.alloc (.cells #[.string en.n,.int .i64 en.y,.int .i64 en.mo,.int .i64 en.d,.int .i64 en.h,.int .i64 en.mi,.int .i64 en.s,.string en.t] 32)):=(Below.refl _ _).alloc (Nat.le_refl _) _
       have hp1:=hp.later hA (Nat.le_refl _)
       have hsz:=hbel.size
       have HM1:=hide (mapPut_any b (laidT l (fs.take k)) en.n en.t x3.heap.size _ hp1 (unhide hsk) (by have:=unhide hlk; omega) (by simp; omega))
       have HA:=hide (hbel.trans (hA.mono hbel.size))
       clear hA hp1 hp hbel
       go_wp2_with fail
       refine (unhide HM1).mono ?_
       rintro e x5 ⟨rfl,hp5,hb5⟩
       have hp6:PMap x5 x3.heap.size b (laidT l (fs.take (k+1))):=by rw [unhide hst]; exact hp5
       have HP5:=hide hp6
       have HB5:=hide ((unhide HA).trans hb5)
       clear hp5 hp6 hb5 HM1
       go_wp2_with fail
       go_roundw
       case rel=>exact ⟨k+1,by have:=unhide Hk; omega,by go_num,unhide HP5,unhide HB5⟩
       case measure=>simp [intOf]; omega
      ·
       have hkn:fs.take k=fs:=List.take_of_length_le (by rw [unhide HNl]; omega)
       rw [hkn] at hp
       obtain ⟨L,hL⟩:∃ L,laidT l fs=L:=⟨_,rfl⟩
       have hLs:=hide (laid_sort (unhide hso) fs)
       have hLf:=hide (laid_short (unhide hsh) (unhide hfz).2)
       have hLn:=hide (unhide hlen fs)
       rw [hL] at hp hLs hLf hLn
       have HL:=hide hL
       obtain ⟨M,hM⟩:∃ M,L.length=M:=⟨_,rfl⟩
       have hM14:M≤14:=by
        have h1:=unhide hLn
        have h2:=unhide Hn
        have h3:=unhide HNl
        omega
       have HMl:=hide hM
       have HWI:=hide (within_any b x3.heap.size L wr hp (unhide hLs) (by omega))
       have HB6:=hide hbel
       clear hp hbel hkn hL hM
       go_wp2_with fail
       refine (unhide HWI).mono ?_
       rintro e x7 ⟨tv,rfl,ht7,hb7⟩
       obtain ⟨ta,tc,rfl,htc,_⟩:=GOwn.formN (unhide HMl) ht7
       have HB7:=hide ((unhide HB6).trans (hb7.mono (unhide HB6).size))
       have HT7:=hide ht7
       have hbw:=(unhide HB6).size
       clear hb7 ht7 HWI HB6
       have HBE:=hide ((unhide HB3).trans ((unhide HB7).mono (unhide HB3).size))
       have hsz3:=(unhide HB3).size
       have HWE:=hide (GOwn.later (unhide HW3) (unhide HB7) (Nat.le_refl _))
       have HTE:=hide (GOwn.mono (unhide HT7) (show w.heap.size≤wr.heap.size by omega))
       have hout:Hid (laidT l ((zipG s).getD [])=L):=by show _=_; rw [unhide HFs]; exact unhide HL
       by_cases hbig:8<M
       ·
        have hbigI:(8:Int)<(M:Int):=by omega
        have HTk:Hid (takeT l s=(l,4)):=by
         show _=_
         unfold takeT
         rw [if_pos ⟨unhide HZ,unhide HT⟩,unhide hout,if_pos (by rw [unhide HMl]; exact hbig)]
        go_wp2
        go_ret2
        rw [unhide HTk]
        exact ⟨⟨_,rfl,unhide HWE⟩,unhide HBE⟩
       ·
        have hsmI:(M:Int)≤8:=by omega
        have HTO:=hide (implTreeOk_any ta tc L M (unhide HMl) m x7 (fown_row (unhide HMl) (unhide HT7)) (by omega) (by omega) (short_small (unhide HMl) (unhide hLf)) (unhide CM _ (unhide HBE)))
        go_wp2_with fail
        refine (unhide HTO).mono ?_
        rintro e x8 ⟨rfl,hb8⟩
        have HB8:=hide (bnext (unhide HBE) hb8)
        have HW8:=hide (GOwn.later (unhide HWE) hb8 (Nat.le_refl _))
        have HT8:=hide (GOwn.later (unhide HTE) hb8 (Nat.le_refl _))
        clear hb8 HTO HWE HTE HBE
        cases hto:treeB L
        ·
         have HTk:Hid (takeT l s=(l,3)):=by
          show _=_
          unfold takeT
          rw [if_pos ⟨unhide HZ,unhide HT⟩,unhide hout,if_neg (by rw [unhide HMl]; exact hbig),if_neg (by rw [hto]; decide)]
         clear hto
         go_wp2
         go_ret2
         rw [unhide HTk]
         exact ⟨⟨_,rfl,unhide HW8⟩,unhide HB8⟩
        ·
         have HTk:Hid (takeT l s=(L,0)):=by
          show _=_
          unfold takeT
          rw [if_pos ⟨unhide HZ,unhide HT⟩,unhide hout,if_neg (by rw [unhide HMl]; exact hbig),if_pos hto]
         clear hto
         go_wp2
         go_ret2
         rw [unhide HTk]
         exact ⟨⟨_,rfl,unhide HT8⟩,unhide HB8⟩
theorem takeT_len (l:List Fl) (s:ByteArray):(takeT l s).1.length≤8:=by
 unfold takeT
 split
 ·
  rename_i h
  have:=tree_len h.2
  split
  ·
   exact this
  ·
   split
   ·
    simp only; omega
   ·
    exact this
 ·
  exact Nat.zero_le _
theorem grown_ownI {w w':World} {base c n:Nat} {T:TypeId} {v:Value} {xs:List Value} (hg:w.grownBy w' v.ownBlock) (ho:w.ownsRow base T c v n xs) (hb:base≤w.heap.size):Below base w w':=
 ⟨hg.os,hg.tape,hg.output,hg.size,fun k hk=>hg.block k (by omega) fun e=>by have:=(World.ownsRow.lt ho k e.symm).1; omega⟩
theorem own_keptL {w w':World} {b1 c1 n1:Nat} {T1:TypeId} {v1 v2:Value} {x1:List Value} (hg:w.grownBy w' v2.ownBlock) (h1:w.ownsRow b1 T1 c1 v1 n1 x1) (hne:∀ k,v1.ownBlock=some k→v2.ownBlock=some k→False):w'.ownsRow b1 T1 c1 v1 n1 x1:=by
 refine World.ownsRow.kept h1 hg ?_
 cases h:v1.ownBlock with
 | none=>exact .inl rfl
 | some k=>exact .inr fun e=>hne k h e.symm
set_option maxHeartbeats 12800000 in
theorem exTreeTake_walk (a:Option Addr) (len cap:Nat) (l:List Fl) (s:ByteArray) (m:Int) (w:World) (w0:FRow w a l∧l.length=len∧len≤maxLen∧∀ i,i<len→(l.getD i default).p.size≤maxLen∧(l.getD i default).t.size≤maxLen) (hs:s.size≤9223372036854775807) (hm:w.cell? ⟨2,0,none⟩=some (.int .i64 m)) (hg:ErrT w) (hO:OrdC w) :
  Calls Tryz.prog 4 #[.slice a len cap,.string s] w fun e w'=>e = .returned (.bool true)∧Below w.heap.size w w':=by
 obtain ⟨hrow,hn,hlen,hsm⟩:=w0
 unfold maxLen at hlen hsm
 by_cases hlS:(s.size:Int)≤1048576
 ·
  have hlI:(len:Int)≤9223372036854775807:=by omega
  have HS:Hid (FAny l len):=fun i hi=>by have:=hsm i hi; omega
  have CM:=hide (fun W (hb:Below w.heap.size w W)=>And.intro ((hb.cell (p:=⟨2,0,none⟩) (World.block_lt_of_cell? _ _ hm)).trans hm) (And.intro (hg.later hb) (hO.later hb)))
  have HSs:Hid (s.size≤1048576):=by show _≤_; omega
  have Hn:=hide hn
  have HR:=hide hrow
  have HTl:=hide (takeT_len l s)
  clear hm hn hrow hlen hsm hg hO hs
  go_enter Tryz.func4,Tryz.ntmps4
  go_wp2_with fail
  refine (szFileS_any a cap len l _ (unhide Hn) (unhide HR) hlI (unhide HS)).mono ?_
  rintro e x1 ⟨⟨k,rfl,k0,k1,hk⟩,hb1⟩
  have HB1:=hide hb1
  have HK:=hide hk
  clear hb1 hk
  by_cases kn:k<0
  ·
   go_wp2
   go_ret
   exact ⟨rfl,unhide HB1⟩
  ·
   obtain ⟨hL,hN⟩:=unhide HK (by omega)
   have HL:Hid (len≤1048576):=by show _≤_; omega
   have HZ:Hid (FSmall l len):=fun i hi=>⟨hN i hi,by have:=(unhide HS i hi).2; omega⟩
   obtain ⟨T,hT⟩:∃ T,(takeT l s).1=T:=⟨_,rfl⟩
   obtain ⟨c,hc⟩:∃ c,(takeT l s).2=c:=⟨_,rfl⟩
   obtain ⟨t,ht⟩:∃ t,T.length=t:=⟨_,rfl⟩
   have ht8:t≤8:=by rw [←ht,←hT]; exact unhide HTl
   have Ht:=hide ht
   have HTc:=hide (And.intro hT hc)
   clear hN hT hc ht HTl
   go_wp2_with fail
   refine (toFileS_any a cap len l _ (unhide Hn) ((unhide HR).later (unhide HB1)) (unhide HL)).mono ?_
   rintro e x2 ⟨rfl,h2,hb2⟩
   have HB2:=hide (bnext (unhide HB1) hb2)
   have CS:=hide (specTreeTake_any _ _ len x1.heap.size l s (unhide Hn) x2 h2 hL (unhide HZ) (unhide HSs))
   rw [(unhide HTc).1,(unhide HTc).2] at CS
   clear h2 hb2
   go_wp2_with fail
   refine (unhide CS).mono ?_
   rintro e x3 ⟨⟨wv,rfl,hw3⟩,hb3⟩
   obtain ⟨wa,wc,rfl,_,_⟩:=GOwn.formN (unhide Ht) hw3
   have HB3:=hide (bnext (unhide HB2) hb3)
   have HW3:=hide hw3
   have HWlt:=hide (fun k hk=>(World.ownsRow.lt hw3 k hk).2)
   clear hb3 hw3 CS
   go_wp2_with fail
   refine (toFileS_any a cap len l _ (unhide Hn) ((unhide HR).later (unhide HB3)) (unhide HL)).mono ?_
   rintro e x4 ⟨rfl,h4,hb4⟩
   have HB4:=hide (bnext (unhide HB3) hb4)
   have HX4:=hide h4
   have HXlt:=hide (World.ownsRow.lt h4 _ rfl).2
   have HW4:=hide ((unhide HW3).later hb4 (Nat.le_refl _))
   have HK4:=hide hb4
   obtain ⟨m1,m2,m3⟩:=unhide CM _ (unhide HB4)
   have CI:=hide (implTreeTake_any _ len len l s (unhide Hn) m x4 (fown_row (unhide Hn) h4) hL (by omega) (unhide HZ) (unhide HSs) m1 m2 m3)
   rw [(unhide HTc).1,(unhide HTc).2] at CI
   clear h4 hb4 HW3 m1 m2 m3
   go_wp2_with fail
   refine (unhide CI).mono ?_
   rintro e x5 ⟨⟨gv,rfl,hg5⟩,hb5⟩
   obtain ⟨ga,gc,rfl,_,_⟩:=GOwn.formN (unhide Ht) hg5
   have HB5:=hide (bnext (unhide HB4) hb5)
   have HG5:=hide hg5
   have HGge:=hide (fun k hk=>(World.ownsRow.lt hg5 k hk).1)
   have HX5:=hide ((unhide HX4).later hb5 (Nat.le_refl _))
   have HW5:=hide ((unhide HW4).later hb5 (Nat.le_refl _))
   have hs45:=(unhide HK4).size
   have hs5:=hb5.size
   clear hb5 hg5 CI HX4 HW4
   go_wp2_with fail
   refine (eqFileS_same _ _ _ _ t T _ (unhide Ht) (fown_row (unhide Ht) (unhide HG5)) (fown_row (unhide Ht) (unhide HW5)) (by omega)).mono ?_
   rintro e x6 ⟨rfl,hb6⟩
   have HB6:=hide (bnext (unhide HB5) hb6)
   have HG6:=hide ((unhide HG5).later hb6 (Nat.le_refl _))
   have HX6:=hide ((unhide HX5).later hb6 (Nat.le_refl _))
   have HW6:=hide ((unhide HW5).later hb6 (Nat.le_refl _))
   have hs6:=hb6.size
   clear hb6 HG5 HX5 HW5
   go_wp2_with fail
   refine (toFileS_any a cap len l _ (unhide Hn) ((unhide HR).later (unhide HB6)) (unhide HL)).mono ?_
   rintro e x7 ⟨rfl,h7,hb7⟩
   have HB7:=hide (bnext (unhide HB6) hb7)
   have HG7:=hide ((unhide HG6).later hb7 (Nat.le_refl _))
   have HX7:=hide ((unhide HX6).later hb7 (Nat.le_refl _))
   have HW7:=hide ((unhide HW6).later hb7 (Nat.le_refl _))
   have HR7:=hide (fown_row (unhide Hn) h7)
   have hs7:=hb7.size
   clear hb7 h7 HG6 HX6 HW6
   go_wp2_with fail
   refine (eqFileS_same _ _ _ _ len l _ (unhide Hn) (fown_row (unhide Hn) (unhide HX7)) (unhide HR7) (by have:=unhide HL; omega)).mono ?_
   rintro e x8 ⟨rfl,hb8⟩
   have HB8:=hide (bnext (unhide HB7) hb8)
   have HG8:=hide ((unhide HG7).later hb8 (Nat.le_refl _))
   have HX8:=hide ((unhide HX7).later hb8 (Nat.le_refl _))
   have HW8:=hide ((unhide HW7).later hb8 (Nat.le_refl _))
   have hs8:=hb8.size
   clear hb8 HR7 HG7 HX7 HW7
   go_wp2_with fail
   refine (markFileS_any _ _ len x3.heap.size l _ (unhide Hn) (unhide HX8) (by omega) (unhide HL)).mono ?_
   rintro e x9 ⟨rfl,_,hgr9⟩
   have hbl9:Below x3.heap.size x8 x9:=grown_ownI hgr9 (unhide HX8) (by omega)
   have hsz9:=hgr9.size
   have HB9:=hide ((unhide HB8).trans (hbl9.mono (unhide HB3).size))
   have HG9:Hid (FOwn x9 x4.heap.size (.slice ga t gc) T):=own_keptL hgr9 (unhide HG8) (fun k hk hx=>by
    have h1:x3.heap.size=k:=by simpa [Value.ownBlock] using hx
    have h2:=unhide HGge k hk
    have h3:=unhide HXlt
    omega)
   have HW9:Hid (FOwn x9 x2.heap.size (.slice wa t wc) T):=own_keptL hgr9 (unhide HW8) (fun k hk hx=>by
    have h1:x3.heap.size=k:=by simpa [Value.ownBlock] using hx
    have h2:=unhide HWlt k hk
    omega)
   have hkf:decide (1+2*(len:Int)<0)=false:=by simp; omega
   have hkg:¬ (1+2*(len:Int)<0):=by omega
   clear hgr9 hbl9 HG8 HX8 HW8 HB8
   go_wp2_with fail
   refine (eqFileS_same _ _ _ _ t T _ (unhide Ht) (fown_row (unhide Ht) (unhide HG9)) (fown_row (unhide Ht) (unhide HW9)) (by omega)).mono ?_
   rintro e x10 ⟨rfl,hb10⟩
   have HB10:=hide (bnext (unhide HB9) hb10)
   have HG10:=hide ((unhide HG9).later hb10 (Nat.le_refl _))
   have HW10:=hide ((unhide HW9).later hb10 (Nat.le_refl _))
   have hs10:=hb10.size
   clear hb10 HG9 HW9 HB9
   go_wp2_with fail
   refine (markFileS_any _ _ t x4.heap.size T _ (unhide Ht) (unhide HG10) (by omega) (by omega)).mono ?_
   rintro e x11 ⟨rfl,hm11,hgr11⟩
   have hbl11:Below x4.heap.size x10 x11:=grown_ownI hgr11 (unhide HG10) (by omega)
   have hsz11:=hgr11.size
   have HB11:=hide ((unhide HB10).trans (hbl11.mono (unhide HB4).size))
   have HW11:Hid (FOwn x11 x2.heap.size (.slice wa t wc) T):=own_keptL hgr11 (unhide HW10) (fun k hk hx=>by
    have h1:=unhide HGge k hx
    have h2:=unhide HWlt k hk
    have h3:=unhide HXlt
    omega)
   have HG11:=hide hm11
   clear hm11 hgr11 hbl11 HG10 HW10 HB10
   go_wp2_with fail
   refine (heldFileS_any _ _ t _ _ (unhide HG11) ht8).mono ?_
   rintro e x12 ⟨rfl,hb12⟩
   have HB12:=hide (bnext (unhide HB11) hb12)
   have HG12:=hide ((unhide HG11).later hb12 (Nat.le_refl _))
   have HW12:=hide ((unhide HW11).later hb12 (Nat.le_refl _))
   clear hb12 HG11 HW11 HB11
   go_wp2_with fail
   refine (toFileS_any a cap len l _ (unhide Hn) ((unhide HR).later (unhide HB12)) (unhide HL)).mono ?_
   rintro e x13 ⟨rfl,h13,hb13⟩
   have HB13:=hide (bnext (unhide HB12) hb13)
   have HG13:=hide ((unhide HG12).later hb13 (Nat.le_refl _))
   have HW13:=hide ((unhide HW12).later hb13 (Nat.le_refl _))
   obtain ⟨m1,m2,m3⟩:=unhide CM _ (unhide HB13)
   have CI2:=hide (implTreeTake_any _ len len l s (unhide Hn) m x13 (fown_row (unhide Hn) h13) hL (by omega) (unhide HZ) (unhide HSs) m1 m2 m3)
   rw [(unhide HTc).1,(unhide HTc).2] at CI2
   clear h13 hb13 HG12 HW12 HB12 m1 m2 m3
   go_wp2_with fail
   refine (unhide CI2).mono ?_
   rintro e x14 ⟨⟨hv,rfl,hh14⟩,hb14⟩
   obtain ⟨ha,hc,rfl,_,_⟩:=GOwn.formN (unhide Ht) hh14
   have HB14:=hide (bnext (unhide HB13) hb14)
   have HH14:=hide hh14
   have HG14:=hide ((unhide HG13).later hb14 (Nat.le_refl _))
   have HW14:=hide ((unhide HW13).later hb14 (Nat.le_refl _))
   clear hb14 hh14 CI2 HG13 HW13 HB13
   go_wp2_with fail
   refine (eqFileS_same _ _ _ _ t T _ (unhide Ht) (fown_row (unhide Ht) (unhide HH14)) (fown_row (unhide Ht) (unhide HW14)) (by omega)).mono ?_
   rintro e x15 ⟨rfl,hb15⟩
   have HB15:=hide (bnext (unhide HB14) hb15)
   have HG15:=hide ((unhide HG14).later hb15 (Nat.le_refl _))
   clear hb15 HG14 HW14 HH14 HB14
   go_wp2_with fail
   refine (heldFileS_any _ _ t _ _ (unhide HG15) ht8).mono ?_
   rintro e x16 ⟨rfl,hb16⟩
   have HB16:=hide (bnext (unhide HB15) hb16)
   clear hb16
   go_wp2
   go_ret
   exact ⟨rfl,unhide HB16⟩
 ·
  have hlI:(1048576:Int)<(s.size:Int):=by omega
  go_enter Tryz.func4,Tryz.ntmps4
  go_wp2
  go_ret
  exact ⟨rfl,Below.refl _ _⟩
end Go.Proofs.YtkdlcomfpffhhaaGreatDoor
