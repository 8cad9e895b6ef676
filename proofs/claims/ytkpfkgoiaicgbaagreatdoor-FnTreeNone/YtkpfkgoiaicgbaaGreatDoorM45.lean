/- Of what the proof is made: 4 texts, one behind the other. -/
import Derived.Test.YtkpfkgoiaicgbaaGreatDoorM30
import Derived.Test.YtkpfkgoiaicgbaaGreatDoorM42
import Derived.Test.YtkpfkgoiaicgbaaGreatDoorM27
import Derived.Test.YtkpfkgoiaicgbaaGreatDoorM43
import Derived.Test.YtkpfkgoiaicgbaaGreatDoorWk2
import Derived.Test.YtkpfkgoiaicgbaaGreatDoorM39
set_option linter.unusedSimpArgs false
set_option linter.unusedVariables false
set_option maxHeartbeats 3200000
namespace Go.Proofs.YtkpfkgoiaicgbaaGreatDoor
open Go.RowKit Corb
set_option maxRecDepth 100000
def FcS(p t:ByteArray)(b:Nat)(w W:World):Prop:=Below b w W/\Blk W b [.string p,.string t]/\Blk W (b+1) [.string ⟨#[]⟩,.string ⟨#[]⟩]
theorem FcS.later{p t:ByteArray}{b:Nat}{w W W':World}(h:FcS p t b w W)(hb:Below W.heap.size W W'):FcS p t b w W':=
 ⟨h.1.trans (hb.mono (by have:=h.2.1.1;omega)),h.2.1.later hb h.2.1.1,h.2.2.later hb h.2.2.1⟩
theorem uJ(p t:ByteArray)(w:World)(hp:p.size<=281474976710656)(ht:t.size<=281474976710656) :
  Calls Tryz.prog 19 #[.agg #[.string p,.string t]] w fun e w'=>e = .returned (.agg #[.string p,.string t])/\Below w.heap.size w w':=by
 have hmix:Tryz.prog.follows .mixedOrders=true:=by kernel_rfl
 have HP:=af (fun W=>jy p W hp);have HT:=af (fun W=>jy t W ht);clear hp ht;have T0:Hid (FcS p t w.heap.size w ((w.alloc (.cells #[.string p,.string t] 39)).alloc (.cells #[.string ⟨#[]⟩,.string ⟨#[]⟩] 39))):=by
  have h1:Below w.heap.size w (w.alloc (.cells #[.string p,.string t] 39)):=(Below.refl _ _).alloc (Nat.le_refl _) _;have h2:=(aS w #[.string p,.string t] 39).later (Below.refl _ _ |>.alloc (Nat.le_refl _) (.cells #[.string ⟨#[]⟩,.string ⟨#[]⟩] 39)) (by simp);have h3:=aS (w.alloc (.cells #[.string p,.string t] 39)) #[.string ⟨#[]⟩,.string ⟨#[]⟩] 39;refine⟨h1.alloc (by simp) _,h2,?_⟩;simpa using h3
 go_enter Tryz.func19,Tryz.ntmps19;go_wp2_with fail;generalize (w.alloc (.cells #[.string p,.string t] 39)).alloc (.cells #[.string ⟨#[]⟩,.string ⟨#[]⟩] 39)=W0 at *
 refine wp_region_held_drew (S:=fun W=>W.cell? ⟨w.heap.size,0,none⟩=some (.string p)/\W.cell? ⟨w.heap.size,1,none⟩=some (.string t)) hmix ⟨(ae T0).2.1.cell 0 _ rfl,(ae T0).2.1.cell 1 _ rfl⟩ (fun hS=>?_);refine ge 0 (.pointer (some ⟨w.heap.size,0,none⟩)) rfl (fun W hW=>by go_simp) hS ?_;refine ge 1 (.string p) rfl (fun W hW=>by obtain⟨s0,s1⟩:=hW;go_simp) hS ?_;refine ge 3 (.pointer (some ⟨w.heap.size,1,none⟩)) rfl (fun W hW=>by go_simp) hS ?_;refine ge 4 (.string t) rfl (fun W hW=>by obtain⟨s0,s1⟩:=hW;go_simp) hS ?_;have T1:Hid (FcS p t w.heap.size w W0.drew):=⟨(ae T0).1.drew,(ae T0).2⟩;generalize W0.drew=W1 at *
 refine rU 2 fun K hK=>?_;go_simp;go_at_call 43;refine(ae HP W1).mono ?_;rintro e W2 ⟨rfl,h2⟩;have T2:=af ((ae T1).later h2);refine Shut.out hK _ _ ⟨(ae T2).2.1.cell 0 _ rfl,(ae T2).2.1.cell 1 _ rfl⟩ (fun hS=>?_);clear hK K h2;refine rU 5 fun K hK=>?_;go_simp;go_at_call 43;refine(ae HT W2).mono ?_;rintro e W3 ⟨rfl,h3⟩;have T3:=af ((ae T2).later h3);refine Shut.out hK _ _ ⟨(ae T3).2.1.cell 0 _ rfl,(ae T3).2.1.cell 1 _ rfl⟩ (fun hS=>?_);clear hK K h3;refine ge 6 (.agg #[.string p,.string t]) rfl (fun W hW=>by go_simp) hS ?_;have hb:Below w.heap.size w ((W3.setCell ⟨w.heap.size+1,0,none⟩ (.string p)).setCell ⟨w.heap.size+1,1,none⟩ (.string t)):=ai (ai (ae T3).1 (by simp) _) (by simp) _;have HB:=af hb;have d0:=(ae T3).2.2.cell 0 _ rfl;have d1:=(ae T3).2.2.cell 1 _ rfl;have f0:=(ae T3).2.2.free 0 (by simp);have f1:=(ae T3).2.2.free 1 (by simp);have T4:=((ae T3).2.1.set_other (c:=w.heap.size+1) (o:=0) (.string p) (by omega)).set_other (c:=w.heap.size+1) (o:=1) (.string t) (by omega);have X4:=af (((ae T3).2.2.set 0 (.string p)).set 1 (.string t));have H4:=af T4;clear T4 hb;refine rU 7 fun K hK=>?_;go_simp;refine Shut.out hK _ _ ⟨(ae H4).cell 0 _ rfl,(ae H4).cell 1 _ rfl⟩ (fun hS'=>?_);clear hK K hS hS' d0 d1 f0 f1 H4 T1 T2 T3 HP HT T0;generalize (W3.setCell ⟨w.heap.size+1,0,none⟩ (.string p)).setCell ⟨w.heap.size+1,1,none⟩ (.string t)=V at *
 refine wpAnyH_done (by kernel_rfl) ?_ _;have e0:=(ae X4).cell 0 _ rfl;have e1:=(ae X4).cell 1 _ rfl;clear X4;go_wp2;refine bodyPost_ret (v:=.agg #[.string p,.string t]) (by simp[results,Tryz.results19,go_sem,e0,e1]) rfl ⟨rfl,ae HB⟩
theorem uG(a:Option Addr)(cap n:Nat)(l:List Fl)(w:World)(hn:l.length=n)(h:mM w a l)(hm:n<=8)(hs:∀i,i<n->(l.getD i default).p.size<=1048576/\(l.getD i default).t.size<=1048576) :
  Calls Tryz.prog 18 #[.slice a n cap,.func (.func 19) #[] #[]] w fun e w'=>∃v,e = .returned v/\gO w' w.heap.size v l/\Below w.heap.size w w':=by
 have hmI:(n:Int)<=8:=by omega
 have Hn:=af hn;have HR:=af h;have HS:=af hs;clear hn hm h hs;obtain⟨i0,hi,hz0,hz1,hz2⟩:=info_parts Tryz.infoFile;go_enter Tryz.func18,Tryz.ntmps18;go_wp2_with fail
 go_loopw [5,7,10] (fun o _ i wr=>∃k:Nat,k<=n/\i = .int .i64 k/\gO wr w.heap.size o (l.take k)/\Below w.heap.size w wr) (fun _ _ i _=>n-(intOf i).toNat)
 case atStart=>exact⟨0,Nat.zero_le _,rfl,be.nil _ _,Below.refl _ _⟩
 case round=>
  obtain⟨k,hk,rfl,hq,hbel⟩:=hrel;by_cases hlt:k<n
  ·
   obtain⟨g,o,rfl,hg,hcc⟩:=(ae HR).later hbel (by have:=ae Hn;omega);obtain⟨c0,c1⟩:=hcc k (by have:=ae Hn;omega);have hst:=af (ez l default k (by have:=ae Hn;omega));have hlk:Hid ((l.take k).length=k):=by show _=_;have:=ae Hn;simp;omega
   have Hk:=af hk;obtain⟨s0,s1⟩:=ae HS k hlt;clear hcc hk;generalize l.getD k default=en at *
   have HP:=af (fun W=>uJ en.p en.t W (by omega) (by omega));have hA:Below wr.heap.size wr (wr.alloc (.cells #[.string en.p,.string en.t] 39)):=(Below.refl _ _).alloc (Nat.le_refl _) _;have HA:=af hA;have HQ:=af hq;have HBel:=af hbel;clear hA hq hbel s0 s1;go_wp2_with fail;refine(ae HP _).mono ?_;rintro e x1 ⟨rfl,hb1⟩;have hW:=aj (ae HA) hb1;have hq1:=be.own (ae hlk) ((ae HQ).later hW (Nat.le_refl _));have hbel1:=aj (ae HBel) hW;have hbs1:=hbel1.size;have hlen1:Hid (k+1<=maxLen/\(k+1)*32<=140737488355328):=by
    show _/\_;unfold maxLen;omega
   clear HQ HBel HA hb1 hW HP;go_wp2_with (at_builtin;refine wpList_append_own _ rfl _ _ 23 rfl w.heap.size 39 i0 (.agg #[.string ⟨#[]⟩,.string ⟨#[]⟩]) 2 32 Tryz.underlying23 hi hz0 hz1 hz2 rfl (by decide) _ _ _ rfl (World.ownsRow.alloc hq1 _) ⟨x1.heap.size,0,none⟩ 1 1 (aI en) rfl rfl (gF x1 _ _) (db en) (ae hlen1).1 (ae hlen1).2 (aB hbs1 _) ?_;intro v' x2 hown hgrow hnil;clear hnil);have hb2:=aK (v:=u5) hgrow hq1 (Nat.le_refl _) hbs1 hbel1;have hq2:gO x2 w.heap.size v' _:=be.snoc (ae hlk) hown;rw[←ae hst]at hq2;clear hown hgrow hq1;go_wp2;go_roundw
   case rel=>exact⟨k+1,by have:=ae Hk;omega,by go_num,hq2,hb2⟩
   case measure=>simp[intOf];omega
  · have hkn:l.take k=l:=List.take_of_length_le (by rw[ae Hn];omega);rw[hkn]at hq;have HQ:=af hq;have HB:=af hbel;clear hq hbel hkn;go_wp2;go_ret;exact⟨_,rfl,ae HQ,ae HB⟩
theorem DR(w:World):Calls Tryz.prog 20 #[] w fun e w'=>(∃b,e = .returned (.pointer (some ⟨b,0,none⟩))/\pH w' w.heap.size b [])/\Below w.heap.size w w':=by
 have hA:Below w.heap.size w ((w.alloc (.map #[] 0)).alloc (.cells #[.map (some w.heap.size),.slice none 0 0] 84)):=((Below.refl _ _).alloc (Nat.le_refl _) _).alloc (by simp) _;have hM:jR ((w.alloc (.map #[] 0)).alloc (.cells #[.map (some w.heap.size),.slice none 0 0] 84)) w.heap.size (mt []):=
  (xy w).later (B:=w.heap.size+1) ((Below.refl _ _).alloc (by simp) _) (by omega)
 have hC:((w.alloc (.map #[] 0)).alloc (.cells #[.map (some w.heap.size),.slice none 0 0] 84)).heap[w.heap.size+1]?=some (.cells #[.map (some w.heap.size),.slice none 0 0] 84 (0,0)):=by
  have:=World.alloc_heap_new (w.alloc (.map #[] 0)) (.cells #[.map (some w.heap.size),.slice none 0 0] 84);simpa using this
 have HP:=af (show pH _ w.heap.size (w.heap.size+1) []from⟨w.heap.size,_,by omega,Nat.le_refl _,hC,hM,World.ownsRow_nil _ _ _ _⟩);have HA:=af hA;clear hA hM hC;have hmk:=@run_makeMap Tryz.prog;have u1:=Tryz.underlying82;have u2:=Tryz.underlying9;go_enter Tryz.func20,Tryz.ntmps20;go_wp2;go_ret;exact⟨⟨_,rfl,ae HP⟩,ae HA⟩
theorem pH.later{w w':World}{base b B:Nat}{l:List Fl}(h:pH w base b l)(hb:Below B w w')(hB:w.heap.size<=B):pH w' base b l:=by
 obtain⟨mb,v,h1,h2,h3,h4,h5⟩:=h;have hlt:=h4.lt;exact⟨mb,v,h1,h2,(hb.block b (by have:=(Array.getElem?_eq_some_iff.1 h3).1;omega)).trans h3,h4.later hb (by omega),
  World.ownsRow.kept h5 (row:=none) ⟨hb.os,hb.tape,hb.output,hb.size,fun k hk _=>hb.block k (by omega)⟩ (by cases hv:v.ownBlock<;>simp)⟩
theorem AN(b base:Nat)(l:List Fl)(w:World)(h:pH w base b l)(hs:fS l)(hl:l.length<=90) :
  Calls Tryz.prog 22 #[.pointer (some ⟨b,0,none⟩),.string ⟨#[]⟩] w fun e w'=>∃v,e = .returned v/\gO w' w.heap.size v l/\Below w.heap.size w w':=by
 obtain⟨n,hn⟩:∃n,l.length=n:=⟨_,rfl⟩;obtain⟨mb,v,hb,hmb,hc,hM,hO⟩:=h;rw[hn]at hO hl;have hpl:(aF l).length=n:=by rw[←hn];simp[aF]
 obtain⟨a,cap,rfl⟩:=gG hO;have hRow:=lz hpl hO;have hbl:b<w.heap.size:=(Array.getElem?_eq_some_iff.1 hc).1;have c0:w.cell? ⟨b,0,none⟩=some (.map (some mb)):=by rw[cell_of_row w b 0 _ _ (0,0) hc];rfl
 have c1:w.cell? ⟨b,1,none⟩=some (.slice a n cap):=by rw[cell_of_row w b 1 _ _ (0,0) hc];rfl
 have HC0:=af (fun W (hb:Below w.heap.size w W)=>(hb.cell (p:=⟨b,0,none⟩) hbl).trans c0);have HM:=af (fun W (hb:Below w.heap.size w W)=>hM.later hb hM.lt);have hmI:(n:Int)<=90:=by omega
 have Hn:=af hn;have HR:=af hRow;have HS:=af hs;have HPl:=af hpl;clear hn hc hM hO hRow hpl hs hbl hl;obtain⟨i0,hi,hz0,hz1,hz2⟩:=info_parts Tryz.infoFile;go_enter Tryz.func22,Tryz.ntmps22;go_wp2_with fail;clear c0 c1
 go_loopw [5,7,13] (fun o _ i wr=>∃k:Nat,k<=n/\i = .int .i64 k/\gO wr w.heap.size o (l.take k)/\Below w.heap.size w wr) (fun _ _ i _=>n-(intOf i).toNat)
 case atStart=>exact⟨0,Nat.zero_le _,rfl,be.nil _ _,Below.refl _ _⟩
 case round=>
  obtain⟨k,hk,rfl,hq,hbel⟩:=hrel;by_cases hlt:k<n
  ·
   obtain⟨g,rfl,hg,hcc⟩:=(mH (ae HR) hbel) (by have:=ae HPl;omega);have cp:=hcc k (by have:=ae HPl;omega);rw[ju]at cp;have c0:=ae HC0 _ hbel;have hst:=af (ez l default k (by have:=ae Hn;omega));have hlk:Hid ((l.take k).length=k):=by show _=_;have:=ae Hn;simp;omega
   have hin:l.getD k default∈l:=by
    have:k<l.length:=by have:=ae Hn;omega
    simp[this]
   have hget:=GZ Tryz.underlying82 Tryz.underlying9 wr mb (mt l) _ _ (ae HM _ hbel) (Kw (ae HS) hin);have Hk:=af hk;clear hcc hk hin;generalize l.getD k default=en at *
   have hq1:=be.own (ae hlk) hq;have hbs1:=hbel.size;have hlen1:Hid (k+1<=maxLen/\(k+1)*32<=140737488355328):=by
    show _/\_;unfold maxLen;omega
   have HBel:=af hbel;clear hbel hq;have he:((⟨#[]⟩:ByteArray).toList == (⟨#[]⟩:ByteArray).toList)=true:=by simp
   go_wp2_with (at_builtin;refine wpList_append_own _ rfl _ _ 23 rfl w.heap.size 39 i0 (.agg #[.string ⟨#[]⟩,.string ⟨#[]⟩]) 2 32 Tryz.underlying23 hi hz0 hz1 hz2 rfl (by decide) _ _ _ rfl (World.ownsRow.alloc hq1 _) ⟨wr.heap.size,0,none⟩ 1 1 (aI en) rfl rfl (gF wr _ _) (db en) (ae hlen1).1 (ae hlen1).2 (aB hbs1 _) ?_;intro v' x2 hown hgrow hnil;clear hnil);have hb2:=aK (v:=u5) hgrow hq1 (Nat.le_refl _) hbs1 (ae HBel);have hq2:gO x2 w.heap.size v' _:=be.snoc (ae hlk) hown;rw[←ae hst]at hq2;clear hown hgrow hq1;go_wp2;go_roundw
   case rel=>exact⟨k+1,by have:=ae Hk;omega,by go_num,hq2,hb2⟩
   case measure=>simp[intOf];omega
  · have hkn:l.take k=l:=List.take_of_length_le (by rw[ae Hn];omega);rw[hkn]at hq;have HQ:=af hq;have HB:=af hbel;clear hq hbel hkn;go_wp2;go_ret;exact⟨_,rfl,ae HQ,ae HB⟩
def lO(w:World)(base b:Nat)(l:List Fl):Prop:=
 ∃mb v,base<=b/\base<=mb/\w.heap[b]?=some (.cells #[.map (some mb),v] 99 (0,0))/\(∃m,jR w mb m)/\w.ownsRow base 9 1 v l.length ((aF l).map .string)
theorem lO.later{w w':World}{base b B:Nat}{l:List Fl}(h:lO w base b l)(hb:Below B w w')(hB:w.heap.size<=B):lO w' base b l:=by
 obtain⟨mb,v,h1,h2,h3,⟨m,h4⟩,h5⟩:=h;have hlt:=h4.lt;exact⟨mb,v,h1,h2,(hb.block b (by have:=(Array.getElem?_eq_some_iff.1 h3).1;omega)).trans h3,⟨m,h4.later hb (by omega)⟩,
  World.ownsRow.kept h5 (row:=none) ⟨hb.os,hb.tape,hb.output,hb.size,fun k hk _=>hb.block k (by omega)⟩ (by cases hv:v.ownBlock<;>simp)⟩
def Fe(w V:World)(base b bx mb:Nat)(l:List Fl)(p:ByteArray)(y mo d h mi s:Int)(t:ByteArray):Prop:=
 ∃v,V.heap[b]?=some (.cells #[.map (some mb),v] 99 (0,0))/\(∃m,jR V mb m)/\V.ownsRow base 9 1 v (bq l ⟨p,t⟩).length ((aF (bq l ⟨p,t⟩)).map .string)/\V.heap[bx]?=some (.cells #[.string p,.int .i64 y,.int .i64 mo,.int .i64 d,.int .i64 h,.int .i64 mi,.int .i64 s,.string t] 51 (0,0))/\Below base w V
theorem xx(b:Nat)(l:List Fl)(p:ByteArray)(y mo d h mi s:Int)(t:ByteArray)(base:Nat)(w:World)(hP:lO w base b l)(hs:fS l)(hl:l.length<=90)(hB:base<=w.heap.size) :
  Calls Tryz.prog 29 #[.pointer (some ⟨b,0,none⟩),.string p,.agg #[.string p,.int .i64 y,.int .i64 mo,.int .i64 d,.int .i64 h,.int .i64 mi,.int .i64 s,.string t]] w fun e w'=>e = .returned (.tuple #[])/\lO w' base b (bq l ⟨p,t⟩)/\Below base w w':=by
 have hmix:Tryz.prog.follows .mixedOrders=true:=by kernel_rfl
 obtain⟨mb,v,hb,hmb,hc,⟨mf,hM⟩,hO⟩:=hP;obtain⟨n,hn⟩:∃n,l.length=n:=⟨_,rfl⟩;rw[hn]at hO hl;have hpl:(aF l).length=n:=by rw[←hn];simp[aF]
 obtain⟨a,cap,rfl⟩:=gG hO;have hbl:b<w.heap.size:=(Array.getElem?_eq_some_iff.1 hc).1;have c0:w.cell? ⟨b,0,none⟩=some (.map (some mb)):=by rw[cell_of_row w b 0 _ _ (0,0) hc];rfl
 have c1:w.cell? ⟨b,1,none⟩=some (.slice a n cap):=by rw[cell_of_row w b 1 _ _ (0,0) hc];rfl
 go_enter Tryz.func29,Tryz.ntmps29;go_wp2_with fail;have hRow:=lz hpl hO;have hA:Below w.heap.size w (w.alloc (.cells #[.string p,.int .i64 y,.int .i64 mo,.int .i64 d,.int .i64 h,.int .i64 mi,.int .i64 s,.string t] 51)):=(Below.refl _ _).alloc (Nat.le_refl _) _;have hbox:(w.alloc (.cells #[.string p,.int .i64 y,.int .i64 mo,.int .i64 d,.int .i64 h,.int .i64 mi,.int .i64 s,.string t] 51)).heap[w.heap.size]?=some (.cells #[.string p,.int .i64 y,.int .i64 mo,.int .i64 d,.int .i64 h,.int .i64 mi,.int .i64 s,.string t] 51 (0,0)):=World.alloc_heap_new w _;have HB:=af (lQ a cap n (aF l) p (w.alloc (.cells #[.string p,.int .i64 y,.int .i64 mo,.int .i64 d,.int .i64 h,.int .i64 mi,.int .i64 s,.string t] 51)) hpl (mH hRow hA) (by omega) (pp hs));have hc1:(w.alloc (.cells #[.string p,.int .i64 y,.int .i64 mo,.int .i64 d,.int .i64 h,.int .i64 mi,.int .i64 s,.string t] 51)).heap[b]?=_:=(hA.block b hbl).trans hc;have hM1:=hM.later hA hM.lt;have hO1:=World.ownsRow.alloc hO (.cells #[.string p,.int .i64 y,.int .i64 mo,.int .i64 d,.int .i64 h,.int .i64 mi,.int .i64 s,.string t] 51);obtain⟨bx,hbx⟩:∃bx,w.heap.size=bx:=⟨_,rfl⟩;have hBel:Below base w (w.alloc (.cells #[.string p,.int .i64 y,.int .i64 mo,.int .i64 d,.int .i64 h,.int .i64 mi,.int .i64 s,.string t] 51)):=hA.mono hB;have hbs:b<bx:=by omega
 have hBx:base<=bx:=by omega
 rw[hbx]at hbox;have HBel:=af hBel;have HBox:=af hbox;have HC:=af hc1;have HM:=af hM1;have HO:=af hO1;have HN:=af hn;have HS:=af hs;have HPl:=af hpl;clear hc hM hO hRow hA hc1 hM1 hO1 hbl c0 c1 hBel hbox hn hs hpl;rw[hbx];generalize w.alloc (.cells #[.string p,.int .i64 y,.int .i64 mo,.int .i64 d,.int .i64 h,.int .i64 mi,.int .i64 s,.string t] 51)=W at *
 refine(ae HB).mono ?_;rintro e W1 ⟨rfl,rfl⟩;clear HB;have hP:=af (BV l p);obtain⟨k,hk⟩:∃k,dG l p=k:=⟨_,rfl⟩;rw[ae hP,hk,ju];have hkn:k<=n:=by rw[←hk,←ae HN];exact BW l p
 have c0:W1.cell? ⟨b,0,none⟩=some (.map (some mb)):=by rw[cell_of_row W1 b 0 _ _ (0,0) (ae HC)];rfl
 have c1:W1.cell? ⟨b,1,none⟩=some (.slice a n cap):=by rw[cell_of_row W1 b 1 _ _ (0,0) (ae HC)];rfl
 have HK:=af hk;by_cases hf:k<n/\(l.getD k default).p=p
 case' pos=>
  rw[decide_eq_true hf];have hpp:aF (bq l ⟨p,t⟩)=aF l:=rM (f:=⟨p,t⟩) (by show dG l p<_;rw[ae HK,ae HN];exact hf.1) (by show(l.getD (dG l p) default).p=_;rw[ae HK];exact hf.2);have hnn:n=(bq l ⟨p,t⟩).length:=by
   have h1:=congrArg List.length hpp;rw[ae HPl]at h1;simpa[aF]using h1.symm
  have HR:Hid (Fe w W1 base b bx mb l p y mo d h mi s t):=⟨_,ae HC,⟨_,ae HM⟩,(show W1.ownsRow base 9 1 (.slice a n cap) (bq l ⟨p,t⟩).length ((aF (bq l ⟨p,t⟩)).map .string) by rw[hpp,←hnn];exact ae HO),ae HBox,ae HBel⟩;clear hf hpp hnn HO HC HM HBox HBel;go_wp2_with fail;clear c1 c0 hkn hP HK HN HPl;generalize W1=V at HR ⊢
 case' neg=>
  rw[decide_eq_false hf];have hpp:aF (bq l ⟨p,t⟩)=(aF l).take k++p :: (aF l).drop k:=by
   rw[←ae HK];refine tQ (f:=⟨p,t⟩) (fun h1 h2=>hf ⟨by rw[←ae HK,←ae HN];exact h1,?_⟩);rw[←ae HK];exact h2
  have hnn:n+1=(bq l ⟨p,t⟩).length:=by
   have h1:=congrArg List.length hpp;have:=ae HPl;simp only[List.length_append,List.length_cons,List.length_take,List.length_drop]at h1;simp only[aF,List.length_map]at h1 this;omega
  have hA:Below W1.heap.size W1 (W1.alloc (.cells #[.string p] 9)):=(Below.refl _ _).alloc (Nat.le_refl _) _;have hbW:b<W1.heap.size:=(Array.getElem?_eq_some_iff.1 (ae HC)).1;have hsz:=(ae HBel).size;have HI:=af (qT a cap n k W1.heap.size base ((aF l).map .string) p (W1.alloc (.cells #[.string p] 9)) (World.ownsRow.alloc (ae HO) _) (by simp;omega) hkn (by omega) (yo _) (World.alloc_heap_new W1 _) (by
   intro e;have:=(World.ownsRow.lt (ae HO) _ e).2;omega))
  have HC1:=af ((hA.block b hbW).trans (ae HC));have HM1:=af ((ae HM).later hA (ae HM).lt);have HX1:=af ((hA.block bx (Array.getElem?_eq_some_iff.1 (ae HBox)).1).trans (ae HBox));have HB1:=af ((ae HBel).trans (hA.mono (by omega)));have HO1:=af (World.ownsRow.alloc (ae HO) (.cells #[.string p] 9));have HH:=af (show(aF (bq l ⟨p,t⟩)).map Value.string=((aF l).map .string).take k ++ .string p :: ((aF l).map .string).drop k by rw[hpp];simp);have HL:=af hnn;clear hf hpp hnn hA HO HC HM HBox HBel;go_wp2_with fail;refine(ae HI).mono ?_;rintro e W2 ⟨u,rfl,hU,hG⟩;clear HI c0 c1;obtain⟨ua,uc,rfl⟩:=gG hU;obtain⟨u,hu⟩:∃u,Value.slice ua (n+1) uc=u:=⟨_,rfl⟩;rw[hu]at hU;have HUu:=af hu;clear hu;have hrow:∀j,(Value.slice a n cap).ownBlock=some j->base<=j/\∃cur,(W1.alloc (.cells #[.string p] 9)).heap[j]?=some (.cells cur 9 (0,0)):=fun j e=>qd (ae HO1) e;have hne:some b≠(Value.slice a n cap).ownBlock:=(lx (ae HO1) (ae HC1) (by decide)).symm;have hbW2:b<(W1.alloc (.cells #[.string p] 9)).heap.size:=(Array.getElem?_eq_some_iff.1 (ae HC1)).1;have C2:=(hG.block b hbW2 hne).trans (ae HC1);have c1:W2.cell? ⟨b,1,none⟩=some (.slice a n cap):=by rw[cell_of_row W2 b 1 _ _ (0,0) C2];rfl
  have f1:W2.frozen? ⟨b,1,none⟩=false:=frozen_of_row W2 b 1 _ _ C2;have hmbW:mb<(W1.alloc (.cells #[.string p] 9)).heap.size:=(ae HM1).lt;have hmne:mb≠b:=fun e=>by
   obtain⟨kv,c,e2,_⟩:=ae HM1;rw[e,ae HC1]at e2;cases e2
  have M2:jR W2 mb mf:=by
   obtain⟨kv,c,e2,e3⟩:=ae HM1;refine⟨kv,c,(hG.block mb hmbW fun e=>?_).trans e2,e3⟩;obtain⟨_,cur,hg⟩:=hrow mb e.symm;rw[e2]at hg;cases hg
  have X2:W2.heap[bx]?=some (.cells #[.string p,.int .i64 y,.int .i64 mo,.int .i64 d,.int .i64 h,.int .i64 mi,.int .i64 s,.string t] 51 (0,0)):=(hG.block bx (Array.getElem?_eq_some_iff.1 (ae HX1)).1 (lx (ae HO1) (ae HX1) (by decide)).symm).trans (ae HX1);have B2:Below base w W2:=(ae HB1).trans ⟨hG.os,hG.tape,hG.output,hG.size,fun j hj=>hG.block j (by omega) fun e=>by have:=(hrow j e.symm).1;omega⟩;have HR:Hid (Fe w (W2.setCell ⟨b,1,none⟩ u) base b bx mb l p y mo d h mi s t):=by
   refine⟨u,heap_setCell_same W2 b 1 _ _ u C2,?_,?_,(Below.heap_setCell W2 ⟨b,1,none⟩ u bx (by show bx≠b;omega)).trans X2,ai B2 hb u⟩
   · obtain⟨kv,c,e2,e3⟩:=M2;exact⟨mf,kv,c,(Below.heap_setCell W2 ⟨b,1,none⟩ u mb hmne).trans e2,e3⟩
   · rw[ae HH,←ae HL];exact World.ownsRow.kept hU (row:=some b) ⟨rfl,rfl,rfl,by simp,fun k _ hk=>Below.heap_setCell W2 ⟨b,1,none⟩ u k fun e=>hk (by rw[e])⟩ (.inr (lx hU C2 (by decide)))
  clear hU hG HC1 HM1 HX1 HB1 HO1 HH HL hne hbW2 C2 hmbW hmne hrow M2 X2 B2 hkn;go_wp2_with fail;rw[ae HUu];generalize W2.setCell ⟨b,1,none⟩ u=V at *
  clear c1 f1
 all_goals
  obtain⟨v',hc,⟨mf2,hM⟩,hO,hx,hB⟩:=ae HR;have hne1:b≠mb:=fun e=>by
   obtain⟨kv,c,e2,_⟩:=hM;rw[←e,hc]at e2;cases e2
  have hne2:bx≠mb:=fun e=>by
   obtain⟨kv,c,e2,_⟩:=hM;rw[←e,hx]at e2;cases e2
  have hbm:base<=mb:=hmb;obtain⟨V',hrun,hM',es,c,hV'⟩:=xz Tryz.underlying97 Tryz.underlying9 V.drew mb mf2 p (.agg #[.string p,.int .i64 y,.int .i64 mo,.int .i64 d,.int .i64 h,.int .i64 mi,.int .i64 s,.string t]) hM;have k1:V'.heap[b]?=some (.cells #[.map (some mb),v'] 99 (0,0)):=by rw[hV'];exact(er _ mb _ hne1).trans hc
  have k2:V'.heap[bx]?=some (.cells #[.string p,.int .i64 y,.int .i64 mo,.int .i64 d,.int .i64 h,.int .i64 mi,.int .i64 s,.string t] 51 (0,0)):=by rw[hV'];exact(er _ mb _ hne2).trans hx
  have k3:Below base w V':=by rw[hV'];exact rR hB.drew hbm _
  have k4:V'.ownsRow base 9 1 v' (bq l ⟨p,t⟩).length ((aF (bq l ⟨p,t⟩)).map .string):=by
   refine World.ownsRow.kept hO (row:=some mb) ⟨by rw[hV'];rfl,by rw[hV'];rfl,by rw[hV'];rfl,by rw[hV'];simp[World.putObj],fun k _ hk=>by rw[hV'];exact er _ mb _ fun e=>hk (by rw[e])⟩ (.inr fun e=>?_);obtain⟨_,cur,hg⟩:=qd hO e;obtain⟨kv,c,e2,_⟩:=hM;rw[hg]at e2;cases e2
  have HP:=af (show lO V' base b (bq l ⟨p,t⟩)from⟨mb,v',hb,hmb,k1,⟨_,hM'⟩,k4⟩);have HB:=af k3;have cc:∀W:World,W.heap[b]?=some (.cells #[.map (some mb),v'] 99 (0,0))->W.heap[bx]?=some (.cells #[.string p,.int .i64 y,.int .i64 mo,.int .i64 d,.int .i64 h,.int .i64 mi,.int .i64 s,.string t] 51 (0,0))->W.cell? ⟨b,0,none⟩=some (.map (some mb))/\W.cell? ⟨bx,0,none⟩=some (.string p)/\W.cell? ⟨bx,1,none⟩=some (.int .i64 y)/\W.cell? ⟨bx,2,none⟩=some (.int .i64 mo)/\W.cell? ⟨bx,3,none⟩=some (.int .i64 d)/\W.cell? ⟨bx,4,none⟩=some (.int .i64 h)/\W.cell? ⟨bx,5,none⟩=some (.int .i64 mi)/\W.cell? ⟨bx,6,none⟩=some (.int .i64 s)/\W.cell? ⟨bx,7,none⟩=some (.string t):=fun W e1 e2=>
   ⟨by rw[cell_of_row W b 0 _ _ (0,0) e1];rfl,by rw[cell_of_row W bx 0 _ _ (0,0) e2];rfl,by rw[cell_of_row W bx 1 _ _ (0,0) e2];rfl,by rw[cell_of_row W bx 2 _ _ (0,0) e2];rfl,by rw[cell_of_row W bx 3 _ _ (0,0) e2];rfl,by rw[cell_of_row W bx 4 _ _ (0,0) e2];rfl,by rw[cell_of_row W bx 5 _ _ (0,0) e2];rfl,by rw[cell_of_row W bx 6 _ _ (0,0) e2];rfl,by rw[cell_of_row W bx 7 _ _ (0,0) e2];rfl⟩
  have S0:=cc V.drew hc hx;have S1:=af (cc V' k1 k2);clear hc hM hO hx hB HR hne1 hne2 hM' k1 k2 k3 k4 cc hV' es c hb hmb hbm;refine wp_region_held_drew (S:=fun W=>W.cell? ⟨b,0,none⟩=some (.map (some mb))/\W.cell? ⟨bx,0,none⟩=some (.string p)/\W.cell? ⟨bx,1,none⟩=some (.int .i64 y)/\W.cell? ⟨bx,2,none⟩=some (.int .i64 mo)/\W.cell? ⟨bx,3,none⟩=some (.int .i64 d)/\W.cell? ⟨bx,4,none⟩=some (.int .i64 h)/\W.cell? ⟨bx,5,none⟩=some (.int .i64 mi)/\W.cell? ⟨bx,6,none⟩=some (.int .i64 s)/\W.cell? ⟨bx,7,none⟩=some (.string t)) hmix S0 (fun hS=>?_);refine ge 0 (.pointer (some ⟨b,0,none⟩)) rfl (fun W hW=>by go_simp) hS ?_;refine ge 1 (.pointer (some ⟨b,0,none⟩)) rfl (fun W hW=>by go_simp) hS ?_;refine ge 2 (.pointer (some ⟨b,0,none⟩)) rfl (fun W hW=>by go_simp) hS ?_;refine ge 3 (.map (some mb)) rfl (fun W hW=>by obtain⟨s0,s1,s2,s3,s4,s5,s6,s7,s8⟩:=hW;go_simp) hS ?_;refine ge 4 (.string p) rfl (fun W hW=>by go_simp) hS ?_;refine ge 5 (.agg #[.string p,.int .i64 y,.int .i64 mo,.int .i64 d,.int .i64 h,.int .i64 mi,.int .i64 s,.string t]) rfl (fun W hW=>by obtain⟨s0,s1,s2,s3,s4,s5,s6,s7,s8⟩:=hW;go_simp) hS ?_;refine rU 6 fun K hK=>?_;go_simp;refine Shut.out hK _ _ (ae S1) (fun hS'=>?_);clear hK K;refine wpAnyH_done (by kernel_rfl) ?_ _;go_wp2
  go_end0
  exact⟨rfl,ae HP,ae HB⟩
theorem Ad(w:World):Calls Tryz.prog 28 #[] w fun e w'=>(∃b,e = .returned (.pointer (some ⟨b,0,none⟩))/\lO w' w.heap.size b [])/\Below w.heap.size w w':=by
 have hA:Below w.heap.size w ((w.alloc (.map #[] 0)).alloc (.cells #[.map (some w.heap.size),.slice none 0 0] 99)):=((Below.refl _ _).alloc (Nat.le_refl _) _).alloc (by simp) _;have hM:jR ((w.alloc (.map #[] 0)).alloc (.cells #[.map (some w.heap.size),.slice none 0 0] 99)) w.heap.size (fun _=>none):=
  (xy w).later (B:=w.heap.size+1) ((Below.refl _ _).alloc (by simp) _) (by omega)
 have hC:((w.alloc (.map #[] 0)).alloc (.cells #[.map (some w.heap.size),.slice none 0 0] 99)).heap[w.heap.size+1]?=some (.cells #[.map (some w.heap.size),.slice none 0 0] 99 (0,0)):=by
  have:=World.alloc_heap_new (w.alloc (.map #[] 0)) (.cells #[.map (some w.heap.size),.slice none 0 0] 99);simpa using this
 have HP:=af (show lO _ w.heap.size (w.heap.size+1) []from⟨w.heap.size,_,by omega,Nat.le_refl _,hC,⟨_,hM⟩,World.ownsRow_nil _ _ _ _⟩);have HA:=af hA;clear hA hM hC;have hmk:=@run_makeMap Tryz.prog;have u1:=Tryz.underlying97;have u2:=Tryz.underlying9;go_enter Tryz.func28,Tryz.ntmps28;go_wp2;go_ret;exact⟨⟨_,rfl,ae HP⟩,ae HA⟩
end Go.Proofs.YtkpfkgoiaicgbaaGreatDoor
