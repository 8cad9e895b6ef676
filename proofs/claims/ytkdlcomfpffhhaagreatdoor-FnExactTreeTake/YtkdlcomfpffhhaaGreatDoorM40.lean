/- Of what the proof is made: 3 texts, one behind the other. -/
import Derived.Test.YtkdlcomfpffhhaaGreatDoorM26
import Derived.Test.YtkdlcomfpffhhaaGreatDoorM38
import Derived.Test.YtkdlcomfpffhhaaGreatDoorM24
import Derived.Test.YtkdlcomfpffhhaaGreatDoorM37
import Derived.Test.YtkdlcomfpffhhaaGreatDoorM2
import Derived.Test.YtkdlcomfpffhhaaGreatDoorM35
namespace Go.Proofs.YtkdlcomfpffhhaaGreatDoor
open Go.RowKit Corb
set_option maxRecDepth 100000
def FcS (p t:ByteArray) (b:Nat) (w W:World):Prop:=Below b w W∧Blk W b [.string p,.string t]∧Blk W (b+1) [.string ⟨#[]⟩,.string ⟨#[]⟩]
theorem FcS.later {p t:ByteArray} {b:Nat} {w W W':World} (h:FcS p t b w W) (hb:Below W.heap.size W W'):FcS p t b w W':=
 ⟨h.1.trans (hb.mono (by have:=h.2.1.1; omega)),h.2.1.later hb h.2.1.1,h.2.2.later hb h.2.2.1⟩
set_option maxHeartbeats 3200000 in
theorem fileCopy_any (p t:ByteArray) (w:World) (hp:p.size≤281474976710656) (ht:t.size≤281474976710656) :
  Calls Tryz.prog 34 #[.agg #[.string p,.string t]] w fun e w'=>e = .returned (.agg #[.string p,.string t])∧Below w.heap.size w w':=by
 have hmix:Tryz.prog.follows .mixedOrders=true:=by kernel_rfl
 have HP:=hide (fun W=>sClone_any p W hp)
 have HT:=hide (fun W=>sClone_any t W ht)
 clear hp ht
 have T0:Hid (FcS p t w.heap.size w ((w.alloc (.cells #[.string p,.string t] 28)).alloc (.cells #[.string ⟨#[]⟩,.string ⟨#[]⟩] 28))):=by
  have h1:Below w.heap.size w (w.alloc (.cells #[.string p,.string t] 28)):=(Below.refl _ _).alloc (Nat.le_refl _) _
  have h2:=(blk_alloc w #[.string p,.string t] 28).later (Below.refl _ _ |>.alloc (Nat.le_refl _) (.cells #[.string ⟨#[]⟩,.string ⟨#[]⟩] 28)) (by simp)
  have h3:=blk_alloc (w.alloc (.cells #[.string p,.string t] 28)) #[.string ⟨#[]⟩,.string ⟨#[]⟩] 28
  refine ⟨h1.alloc (by simp) _,h2,?_⟩
  simpa using h3
 go_enter Tryz.func34,Tryz.ntmps34
 go_wp2_with fail
 generalize (w.alloc (.cells #[.string p,.string t] 28)).alloc (.cells #[.string ⟨#[]⟩,.string ⟨#[]⟩] 28)=W0 at *
 refine wp_region_held_drew (S:=fun W=>W.cell? ⟨w.heap.size,0,none⟩=some (.string p)∧W.cell? ⟨w.heap.size,1,none⟩=some (.string t)) hmix ⟨(unhide T0).2.1.cell 0 _ rfl,(unhide T0).2.1.cell 1 _ rfl⟩ (fun hS=>?_)
 refine takeH 0 (.pointer (some ⟨w.heap.size,0,none⟩)) rfl (fun W hW=>by go_simp) hS ?_
 refine takeH 1 (.string p) rfl (fun W hW=>by obtain ⟨s0,s1⟩:=hW; go_simp) hS ?_
 refine takeH 3 (.pointer (some ⟨w.heap.size,1,none⟩)) rfl (fun W hW=>by go_simp) hS ?_
 refine takeH 4 (.string t) rfl (fun W hW=>by obtain ⟨s0,s1⟩:=hW; go_simp) hS ?_
 have T1:Hid (FcS p t w.heap.size w W0.drew):=⟨(unhide T0).1.drew,(unhide T0).2⟩
 generalize W0.drew=W1 at *
 refine readyH 2 fun K hK=>?_
 go_simp
 go_at_call 65
 refine (unhide HP W1).mono ?_
 rintro e W2 ⟨rfl,h2⟩
 have T2:=hide ((unhide T1).later h2)
 refine Shut.out hK _ _ ⟨(unhide T2).2.1.cell 0 _ rfl,(unhide T2).2.1.cell 1 _ rfl⟩ (fun hS=>?_)
 clear hK K h2
 refine readyH 5 fun K hK=>?_
 go_simp
 go_at_call 65
 refine (unhide HT W2).mono ?_
 rintro e W3 ⟨rfl,h3⟩
 have T3:=hide ((unhide T2).later h3)
 refine Shut.out hK _ _ ⟨(unhide T3).2.1.cell 0 _ rfl,(unhide T3).2.1.cell 1 _ rfl⟩ (fun hS=>?_)
 clear hK K h3
 refine takeH 6 (.agg #[.string p,.string t]) rfl (fun W hW=>by go_simp) hS ?_
 have hb:Below w.heap.size w ((W3.setCell ⟨w.heap.size+1,0,none⟩ (.string p)).setCell ⟨w.heap.size+1,1,none⟩ (.string t)):=below_set (below_set (unhide T3).1 (by simp) _) (by simp) _
 have HB:=hide hb
 have d0:=(unhide T3).2.2.cell 0 _ rfl
 have d1:=(unhide T3).2.2.cell 1 _ rfl
 have f0:=(unhide T3).2.2.free 0 (by simp)
 have f1:=(unhide T3).2.2.free 1 (by simp)
 have T4:=((unhide T3).2.1.set_other (c:=w.heap.size+1) (o:=0) (.string p) (by omega)).set_other (c:=w.heap.size+1) (o:=1) (.string t) (by omega)
 have X4:=hide (((unhide T3).2.2.set 0 (.string p)).set 1 (.string t))
 have H4:=hide T4
 clear T4 hb
 refine readyH 7 fun K hK=>?_
 go_simp
 refine Shut.out hK _ _ ⟨(unhide H4).cell 0 _ rfl,(unhide H4).cell 1 _ rfl⟩ (fun hS'=>?_)
 clear hK K hS hS' d0 d1 f0 f1 H4 T1 T2 T3 HP HT T0
 generalize (W3.setCell ⟨w.heap.size+1,0,none⟩ (.string p)).setCell ⟨w.heap.size+1,1,none⟩ (.string t)=V at *
 refine wpAnyH_done (by kernel_rfl) ?_ _
 have e0:=(unhide X4).cell 0 _ rfl
 have e1:=(unhide X4).cell 1 _ rfl
 clear X4
 go_wp2
 refine bodyPost_ret (v:=.agg #[.string p,.string t]) (by simp [results,Tryz.results34,go_sem,e0,e1]) rfl ⟨rfl,unhide HB⟩
set_option maxHeartbeats 3200000 in
theorem eachFile_any (a:Option Addr) (cap n:Nat) (l:List Fl) (w:World) (hn:l.length=n) (h:FRow w a l) (hm:n≤8) (hs:∀ i,i<n→(l.getD i default).p.size≤1048576∧(l.getD i default).t.size≤1048576) :
  Calls Tryz.prog 33 #[.slice a n cap,.func (.func 34) #[] #[]] w fun e w'=>∃ v,e = .returned v∧FOwn w' w.heap.size v l∧Below w.heap.size w w':=by
 have hmI:(n:Int)≤8:=by omega
 have Hn:=hide hn
 have HR:=hide h
 have HS:=hide hs
 clear hn hm h hs
 obtain ⟨i0,hi,hz0,hz1,hz2⟩:=info_parts Tryz.infoFile
 go_enter Tryz.func33,Tryz.ntmps33
 go_wp2_with fail
 go_loopw [5,7,10] (fun o _ i wr=>∃ k:Nat,k≤n∧i = .int .i64 k∧FOwn wr w.heap.size o (l.take k)∧Below w.heap.size w wr) (fun _ _ i _=>n-(intOf i).toNat)
 case atStart=>exact ⟨0,Nat.zero_le _,rfl,GOwn.nil _ _,Below.refl _ _⟩
 case round=>
  obtain ⟨k,hk,rfl,hq,hbel⟩:=hrel
  by_cases hlt:k<n
  ·
   obtain ⟨g,o,rfl,hg,hcc⟩:=(unhide HR).later hbel (by have:=unhide Hn; omega)
   obtain ⟨c0,c1⟩:=hcc k (by have:=unhide Hn; omega)
   have hst:=hide (take_snocE l default k (by have:=unhide Hn; omega))
   have hlk:Hid ((l.take k).length=k):=by show _=_; have:=unhide Hn; simp; omega
   have Hk:=hide hk
   obtain ⟨s0,s1⟩:=unhide HS k hlt
   clear hcc hk
   generalize l.getD k default=en at *
   have HP:=hide (fun W=>fileCopy_any en.p en.t W (by omega) (by omega))
   have hA:Below wr.heap.size wr (wr.alloc (.cells #[.string en.p,.string en.t] 28)):=(Below.refl _ _).alloc (Nat.le_refl _) _
   have HA:=hide hA
   have HQ:=hide hq
   have HBel:=hide hbel
   clear hA hq hbel s0 s1
   go_wp2_with fail
   refine (unhide HP _).mono ?_
   rintro e x1 ⟨rfl,hb1⟩
   have hW:=bnext (unhide HA) hb1
   have hq1:=GOwn.own (unhide hlk) ((unhide HQ).later hW (Nat.le_refl _))
   have hbel1:=bnext (unhide HBel) hW
   have hbs1:=hbel1.size
   have hlen1:Hid (k+1≤maxLen∧(k+1)*32≤140737488355328):=by
    show _∧_
    unfold maxLen
    omega
   clear HQ HBel HA hb1 hW HP
   go_wp2_with (at_builtin; refine wpList_append_own _ rfl _ _ 23 rfl w.heap.size 28 i0 (.agg #[.string ⟨#[]⟩,.string ⟨#[]⟩]) 2 32 Tryz.underlying23 hi hz0 hz1 hz2 rfl (by decide) _ _ _ rfl (World.ownsRow.alloc hq1 _) ⟨x1.heap.size,0,none⟩ 1 1 (encF en) rfl rfl (new_cells x1 _ _) (encF_one en) (unhide hlen1).1 (unhide hlen1).2 (size_alloc_le hbs1 _) ?_; intro v' x2 hown hgrow hnil; clear hnil)
   have hb2:=grown_step (v:=u5) hgrow hq1 (Nat.le_refl _) hbs1 hbel1
   have hq2:FOwn x2 w.heap.size v' _:=GOwn.snoc (unhide hlk) hown
   rw [←unhide hst] at hq2
   clear hown hgrow hq1
   go_wp2
   go_roundw
   case rel=>exact ⟨k+1,by have:=unhide Hk; omega,by go_num,hq2,hb2⟩
   case measure=>simp [intOf]; omega
  ·
   have hkn:l.take k=l:=List.take_of_length_le (by rw [unhide Hn]; omega)
   rw [hkn] at hq
   have HQ:=hide hq
   have HB:=hide hbel
   clear hq hbel hkn
   go_wp2
   go_ret
   exact ⟨_,rfl,unhide HQ,unhide HB⟩
set_option maxHeartbeats 1600000 in
theorem mapOf_any (w:World):Calls Tryz.prog 35 #[] w fun e w'=>(∃ b,e = .returned (.pointer (some ⟨b,0,none⟩))∧PMap w' w.heap.size b [])∧Below w.heap.size w w':=by
 have hA:Below w.heap.size w ((w.alloc (.map #[] 0)).alloc (.cells #[.map (some w.heap.size),.slice none 0 0] 103)):=((Below.refl _ _).alloc (Nat.le_refl _) _).alloc (by simp) _
 have hM:MapV ((w.alloc (.map #[] 0)).alloc (.cells #[.map (some w.heap.size),.slice none 0 0] 103)) w.heap.size (mapF []):=
  (mapV_new w).later (B:=w.heap.size+1) ((Below.refl _ _).alloc (by simp) _) (by omega)
 have hC:((w.alloc (.map #[] 0)).alloc (.cells #[.map (some w.heap.size),.slice none 0 0] 103)).heap[w.heap.size+1]?=some (.cells #[.map (some w.heap.size),.slice none 0 0] 103 (0,0)):=by
  have:=World.alloc_heap_new (w.alloc (.map #[] 0)) (.cells #[.map (some w.heap.size),.slice none 0 0] 103)
  simpa using this
 have HP:=hide (show PMap _ w.heap.size (w.heap.size+1) [] from ⟨w.heap.size,_,by omega,Nat.le_refl _,hC,hM,World.ownsRow_nil _ _ _ _⟩)
 have HA:=hide hA
 clear hA hM hC
 have hmk:=@run_makeMap Tryz.prog
 have u1:=Tryz.underlying101
 have u2:=Tryz.underlying9
 go_enter Tryz.func35,Tryz.ntmps35
 go_wp2
 go_ret
 exact ⟨⟨_,rfl,unhide HP⟩,unhide HA⟩
theorem PMap.later {w w':World} {base b B:Nat} {l:List Fl} (h:PMap w base b l) (hb:Below B w w') (hB:w.heap.size≤B):PMap w' base b l:=by
 obtain ⟨mb,v,h1,h2,h3,h4,h5⟩:=h
 have hlt:=h4.lt
 exact ⟨mb,v,h1,h2,(hb.block b (by have:=(Array.getElem?_eq_some_iff.1 h3).1; omega)).trans h3,h4.later hb (by omega),
  World.ownsRow.kept h5 (row:=none) ⟨hb.os,hb.tape,hb.output,hb.size,fun k hk _=>hb.block k (by omega)⟩ (by cases hv:v.ownBlock <;> simp)⟩
set_option maxHeartbeats 3200000 in
theorem within_any (b base:Nat) (l:List Fl) (w:World) (h:PMap w base b l) (hs:SortP l) (hl:l.length≤90) :
  Calls Tryz.prog 37 #[.pointer (some ⟨b,0,none⟩),.string ⟨#[]⟩] w fun e w'=>∃ v,e = .returned v∧FOwn w' w.heap.size v l∧Below w.heap.size w w':=by
 obtain ⟨n,hn⟩:∃ n,l.length=n:=⟨_,rfl⟩
 obtain ⟨mb,v,hb,hmb,hc,hM,hO⟩:=h
 rw [hn] at hO hl
 have hpl:(pathsF l).length=n:=by rw [←hn]; simp [pathsF]
 obtain ⟨a,cap,rfl⟩:=own_formI hO
 have hRow:=paths_row hpl hO
 have hbl:b<w.heap.size:=(Array.getElem?_eq_some_iff.1 hc).1
 have c0:w.cell? ⟨b,0,none⟩=some (.map (some mb)):=by rw [cell_of_row w b 0 _ _ (0,0) hc]; rfl
 have c1:w.cell? ⟨b,1,none⟩=some (.slice a n cap):=by rw [cell_of_row w b 1 _ _ (0,0) hc]; rfl
 have HC0:=hide (fun W (hb:Below w.heap.size w W)=>(hb.cell (p:=⟨b,0,none⟩) hbl).trans c0)
 have HM:=hide (fun W (hb:Below w.heap.size w W)=>hM.later hb hM.lt)
 have hmI:(n:Int)≤90:=by omega
 have Hn:=hide hn
 have HR:=hide hRow
 have HS:=hide hs
 have HPl:=hide hpl
 clear hn hc hM hO hRow hpl hs hbl hl
 obtain ⟨i0,hi,hz0,hz1,hz2⟩:=info_parts Tryz.infoFile
 go_enter Tryz.func37,Tryz.ntmps37
 go_wp2_with fail
 clear c0 c1
 go_loopw [5,7,13] (fun o _ i wr=>∃ k:Nat,k≤n∧i = .int .i64 k∧FOwn wr w.heap.size o (l.take k)∧Below w.heap.size w wr) (fun _ _ i _=>n-(intOf i).toNat)
 case atStart=>exact ⟨0,Nat.zero_le _,rfl,GOwn.nil _ _,Below.refl _ _⟩
 case round=>
  obtain ⟨k,hk,rfl,hq,hbel⟩:=hrel
  by_cases hlt:k<n
  ·
   obtain ⟨g,rfl,hg,hcc⟩:=(trow_later (unhide HR) hbel) (by have:=unhide HPl; omega)
   have cp:=hcc k (by have:=unhide HPl; omega)
   rw [pathsF_get] at cp
   have c0:=unhide HC0 _ hbel
   have hst:=hide (take_snocE l default k (by have:=unhide Hn; omega))
   have hlk:Hid ((l.take k).length=k):=by show _=_; have:=unhide Hn; simp; omega
   have hin:l.getD k default∈l:=by
    have:k<l.length:=by have:=unhide Hn; omega
    simp [this]
   have hget:=mapV_get Tryz.underlying101 Tryz.underlying9 wr mb (mapF l) _ _ (unhide HM _ hbel) (mapF_in (unhide HS) hin)
   have Hk:=hide hk
   clear hcc hk hin
   generalize l.getD k default=en at *
   have hq1:=GOwn.own (unhide hlk) hq
   have hbs1:=hbel.size
   have hlen1:Hid (k+1≤maxLen∧(k+1)*32≤140737488355328):=by
    show _∧_
    unfold maxLen
    omega
   have HBel:=hide hbel
   clear hbel hq
   have he:((⟨#[]⟩:ByteArray).toList == (⟨#[]⟩:ByteArray).toList)=true:=by simp
   go_wp2_with (at_builtin; refine wpList_append_own _ rfl _ _ 23 rfl w.heap.size 28 i0 (.agg #[.string ⟨#[]⟩,.string ⟨#[]⟩]) 2 32 Tryz.underlying23 hi hz0 hz1 hz2 rfl (by decide) _ _ _ rfl (World.ownsRow.alloc hq1 _) ⟨wr.heap.size,0,none⟩ 1 1 (encF en) rfl rfl (new_cells wr _ _) (encF_one en) (unhide hlen1).1 (unhide hlen1).2 (size_alloc_le hbs1 _) ?_; intro v' x2 hown hgrow hnil; clear hnil)
   have hb2:=grown_step (v:=u5) hgrow hq1 (Nat.le_refl _) hbs1 (unhide HBel)
   have hq2:FOwn x2 w.heap.size v' _:=GOwn.snoc (unhide hlk) hown
   rw [←unhide hst] at hq2
   clear hown hgrow hq1
   go_wp2
   go_roundw
   case rel=>exact ⟨k+1,by have:=unhide Hk; omega,by go_num,hq2,hb2⟩
   case measure=>simp [intOf]; omega
  ·
   have hkn:l.take k=l:=List.take_of_length_le (by rw [unhide Hn]; omega)
   rw [hkn] at hq
   have HQ:=hide hq
   have HB:=hide hbel
   clear hq hbel hkn
   go_wp2
   go_ret
   exact ⟨_,rfl,unhide HQ,unhide HB⟩
end Go.Proofs.YtkdlcomfpffhhaaGreatDoor
