/- Of what the proof is made: 3 texts, one behind the other. -/
import Derived.Test.YtkdlcomfpffhhaaGreatDoorM29
import Derived.Test.YtkdlcomfpffhhaaGreatDoorM44
import Derived.Test.YtkdlcomfpffhhaaGreatDoorM27
import Derived.Test.YtkdlcomfpffhhaaGreatDoorM43
import Derived.Test.YtkdlcomfpffhhaaGreatDoorM2
import Derived.Test.YtkdlcomfpffhhaaGreatDoorM39
set_option linter.unusedSimpArgs false
set_option linter.unusedVariables false
set_option maxHeartbeats 3200000
namespace Go.Proofs.YtkdlcomfpffhhaaGreatDoor
open Go.RowKit Corb
set_option maxRecDepth 100000
def FcS(p t:ByteArray)(b:Nat)(w W:World):Prop:=Below b w W/\Blk W b [.string p,.string t]/\Blk W (b+1) [.string ⟨#[]⟩,.string ⟨#[]⟩]
theorem FcS.later{p t:ByteArray}{b:Nat}{w W W':World}(h:FcS p t b w W)(hb:Below W.heap.size W W'):FcS p t b w W':=
 ⟨h.1.trans (hb.mono (by have:=h.2.1.1;omega)),h.2.1.later hb h.2.1.1,h.2.2.later hb h.2.2.1⟩
theorem uv(p t:ByteArray)(w:World)(hp:p.size<=281474976710656)(ht:t.size<=281474976710656) :
  Calls Tryz.prog 34 #[.agg #[.string p,.string t]] w fun e w'=>e = .returned (.agg #[.string p,.string t])/\Below w.heap.size w w':=by
 have hmix:Tryz.prog.follows .mixedOrders=true:=by kernel_rfl
 have HP:=af (fun W=>jr p W hp);have HT:=af (fun W=>jr t W ht);clear hp ht;have T0:Hid (FcS p t w.heap.size w ((w.alloc (.cells #[.string p,.string t] 28)).alloc (.cells #[.string ⟨#[]⟩,.string ⟨#[]⟩] 28))):=by
  have h1:Below w.heap.size w (w.alloc (.cells #[.string p,.string t] 28)):=(a0c _ _).alloc (a0a _) _;have h2:=(aR w #[.string p,.string t] 28).later (a0c _ _ |>.alloc (a0a _) (.cells #[.string ⟨#[]⟩,.string ⟨#[]⟩] 28)) (by simp);have h3:=aR (w.alloc (.cells #[.string p,.string t] 28)) #[.string ⟨#[]⟩,.string ⟨#[]⟩] 28;refine⟨h1.alloc (by simp) _,h2,?_⟩;simpa using h3
 go_enter Tryz.func34,Tryz.ntmps34;go_wp2_with fail;generalize (w.alloc (.cells #[.string p,.string t] 28)).alloc (.cells #[.string ⟨#[]⟩,.string ⟨#[]⟩] 28)=W0 at *
 refine a0Q (S:=fun W=>W.cell? ⟨w.heap.size,0,none⟩=some (.string p)/\W.cell? ⟨w.heap.size,1,none⟩=some (.string t)) hmix ⟨(ae T0).2.1.cell 0 _ rfl,(ae T0).2.1.cell 1 _ rfl⟩ (fun hS=>?_);refine kJ 0 (.pointer (some ⟨w.heap.size,0,none⟩)) rfl (fun W hW=>by go_simp) hS ?_;refine kJ 1 (.string p) rfl (fun W hW=>by obtain⟨s0,s1⟩:=hW;go_simp) hS ?_;refine kJ 3 (.pointer (some ⟨w.heap.size,1,none⟩)) rfl (fun W hW=>by go_simp) hS ?_;refine kJ 4 (.string t) rfl (fun W hW=>by obtain⟨s0,s1⟩:=hW;go_simp) hS ?_;have T1:Hid (FcS p t w.heap.size w W0.drew):=⟨(ae T0).1.drew,(ae T0).2⟩;generalize W0.drew=W1 at *
 refine vd 2 fun K hK=>?_;go_simp;go_at_call 65;refine(ae HP W1).mono ?_;rintro e W2 ⟨rfl,h2⟩;have T2:=af ((ae T1).later h2);refine a0f hK _ _ ⟨(ae T2).2.1.cell 0 _ rfl,(ae T2).2.1.cell 1 _ rfl⟩ (fun hS=>?_);clear hK K h2;refine vd 5 fun K hK=>?_;go_simp;go_at_call 65;refine(ae HT W2).mono ?_;rintro e W3 ⟨rfl,h3⟩;have T3:=af ((ae T2).later h3);refine a0f hK _ _ ⟨(ae T3).2.1.cell 0 _ rfl,(ae T3).2.1.cell 1 _ rfl⟩ (fun hS=>?_);clear hK K h3;refine kJ 6 (.agg #[.string p,.string t]) rfl (fun W hW=>by go_simp) hS ?_;have hb:Below w.heap.size w ((W3.setCell ⟨w.heap.size+1,0,none⟩ (.string p)).setCell ⟨w.heap.size+1,1,none⟩ (.string t)):=ai (ai (ae T3).1 (by simp) _) (by simp) _;have HB:=af hb;have d0:=(ae T3).2.2.cell 0 _ rfl;have d1:=(ae T3).2.2.cell 1 _ rfl;have f0:=(ae T3).2.2.free 0 (by simp);have f1:=(ae T3).2.2.free 1 (by simp);have T4:=((ae T3).2.1.set_other (c:=w.heap.size+1) (o:=0) (.string p) (by omega)).set_other (c:=w.heap.size+1) (o:=1) (.string t) (by omega);have X4:=af (((ae T3).2.2.set 0 (.string p)).set 1 (.string t));have H4:=af T4;clear T4 hb;refine vd 7 fun K hK=>?_;go_simp;refine a0f hK _ _ ⟨(ae H4).cell 0 _ rfl,(ae H4).cell 1 _ rfl⟩ (fun hS'=>?_);clear hK K hS hS' d0 d1 f0 f1 H4 T1 T2 T3 HP HT T0;generalize (W3.setCell ⟨w.heap.size+1,0,none⟩ (.string p)).setCell ⟨w.heap.size+1,1,none⟩ (.string t)=V at *
 refine a0F (by kernel_rfl) ?_ _;have e0:=(ae X4).cell 0 _ rfl;have e1:=(ae X4).cell 1 _ rfl;clear X4;go_wp2;refine a0K (v:=.agg #[.string p,.string t]) (by simp[results,Tryz.results34,go_sem,e0,e1]) rfl ⟨rfl,ae HB⟩
theorem uo(a:Option Addr)(cap n:Nat)(l:List Fl)(w:World)(hn:l.length=n)(h:nE w a l)(hm:n<=8)(hs:∀i,i<n->(l.getD i default).p.size<=1048576/\(l.getD i default).t.size<=1048576) :
  Calls Tryz.prog 33 #[.slice a n cap,.func (.func 34) #[] #[]] w fun e w'=>∃v,e = .returned v/\gt w' w.heap.size v l/\Below w.heap.size w w':=by
 have hmI:(n:Int)<=8:=by omega
 have Hn:=af hn;have HR:=af h;have HS:=af hs;clear hn hm h hs;obtain⟨i0,hi,hz0,hz1,hz2⟩:=a0z Tryz.infoFile;go_enter Tryz.func33,Tryz.ntmps33;go_wp2_with fail
 go_loopw [5,7,10] (fun o _ i wr=>∃k:Nat,k<=n/\i = .int .i64 k/\gt wr w.heap.size o (l.take k)/\Below w.heap.size w wr) (fun _ _ i _=>n-(intOf i).toNat)
 case atStart=>exact⟨0,a0h _,rfl,aY.nil _ _,a0c _ _⟩
 case round=>
  obtain⟨k,hk,rfl,hq,hbel⟩:=hrel;by_cases hlt:k<n
  ·
   obtain⟨g,o,rfl,hg,hcc⟩:=(ae HR).later hbel (by have:=ae Hn;omega);obtain⟨c0,c1⟩:=hcc k (by have:=ae Hn;omega);have hst:=af (fI l default k (by have:=ae Hn;omega));have hlk:Hid ((l.take k).length=k):=by show _=_;have:=ae Hn;simp;omega
   have Hk:=af hk;obtain⟨s0,s1⟩:=ae HS k hlt;clear hcc hk;generalize l.getD k default=en at *
   have HP:=af (fun W=>uv en.p en.t W (by omega) (by omega));have hA:Below wr.heap.size wr (wr.alloc (.cells #[.string en.p,.string en.t] 28)):=(a0c _ _).alloc (a0a _) _;have HA:=af hA;have HQ:=af hq;have HBel:=af hbel;clear hA hq hbel s0 s1;go_wp2_with fail;refine(ae HP _).mono ?_;rintro e x1 ⟨rfl,hb1⟩;have hW:=aj (ae HA) hb1;have hq1:=aY.own (ae hlk) ((ae HQ).later hW (a0a _));have hbel1:=aj (ae HBel) hW;have hbs1:=hbel1.size;have hlen1:Hid (k+1<=maxLen/\(k+1)*32<=140737488355328):=by
    show _/\_;unfold maxLen;omega
   clear HQ HBel HA hb1 hW HP;go_wp2_with (at_builtin;refine a0H _ rfl _ _ 23 rfl w.heap.size 28 i0 (.agg #[.string ⟨#[]⟩,.string ⟨#[]⟩]) 2 32 a0I hi hz0 hz1 hz2 rfl (by decide) _ _ _ rfl (a0n hq1 _) ⟨x1.heap.size,0,none⟩ 1 1 (aH en) rfl rfl (gE x1 _ _) (db en) (ae hlen1).1 (ae hlen1).2 (aB hbs1 _) ?_;intro v' x2 hown hgrow hnil;clear hnil);have hb2:=aJ (v:=u5) hgrow hq1 (a0a _) hbs1 hbel1;have hq2:gt x2 w.heap.size v' _:=aY.snoc (ae hlk) hown;rw[←ae hst]at hq2;clear hown hgrow hq1;go_wp2;go_roundw
   case rel=>exact⟨k+1,by have:=ae Hk;omega,by go_num,hq2,hb2⟩
   case measure=>simp[intOf];omega
  · have hkn:l.take k=l:=a0s (by rw[ae Hn];omega);rw[hkn]at hq;have HQ:=af hq;have HB:=af hbel;clear hq hbel hkn;go_wp2;go_ret;exact⟨_,rfl,ae HQ,ae HB⟩
theorem Dw(w:World):Calls Tryz.prog 35 #[] w fun e w'=>(∃b,e = .returned (.pointer (some ⟨b,0,none⟩))/\pr w' w.heap.size b [])/\Below w.heap.size w w':=by
 have hA:Below w.heap.size w ((w.alloc (.map #[] 0)).alloc (.cells #[.map (some w.heap.size),.slice none 0 0] 103)):=((a0c _ _).alloc (a0a _) _).alloc (by simp) _;have hM:nF ((w.alloc (.map #[] 0)).alloc (.cells #[.map (some w.heap.size),.slice none 0 0] 103)) w.heap.size (me []):=
  (GI w).later (B:=w.heap.size+1) ((a0c _ _).alloc (by simp) _) (by omega)
 have hC:((w.alloc (.map #[] 0)).alloc (.cells #[.map (some w.heap.size),.slice none 0 0] 103)).heap[w.heap.size+1]?=some (.cells #[.map (some w.heap.size),.slice none 0 0] 103 (0,0)):=by
  have:=World.alloc_heap_new (w.alloc (.map #[] 0)) (.cells #[.map (some w.heap.size),.slice none 0 0] 103);simpa using this
 have HP:=af (show pr _ w.heap.size (w.heap.size+1) []from⟨w.heap.size,_,by omega,a0a _,hC,hM,a07 _ _ _ _⟩);have HA:=af hA;clear hA hM hC;have hmk:=@run_makeMap Tryz.prog;have u1:=Tryz.underlying101;have u2:=a1J;go_enter Tryz.func35,Tryz.ntmps35;go_wp2;go_ret;exact⟨⟨_,rfl,ae HP⟩,ae HA⟩
theorem pr.later{w w':World}{base b B:Nat}{l:List Fl}(h:pr w base b l)(hb:Below B w w')(hB:w.heap.size<=B):pr w' base b l:=by
 obtain⟨mb,v,h1,h2,h3,h4,h5⟩:=h;have hlt:=h4.lt;exact⟨mb,v,h1,h2,(hb.block b (by have:=(Array.getElem?_eq_some_iff.1 h3).1;omega)).trans h3,h4.later hb (by omega),
  a1I h5 (row:=none) ⟨hb.os,hb.tape,hb.output,hb.size,fun k hk _=>hb.block k (by omega)⟩ (by cases hv:v.ownBlock<;>simp)⟩
theorem Ay(b base:Nat)(l:List Fl)(w:World)(h:pr w base b l)(hs:gN l)(hl:l.length<=90) :
  Calls Tryz.prog 37 #[.pointer (some ⟨b,0,none⟩),.string ⟨#[]⟩] w fun e w'=>∃v,e = .returned v/\gt w' w.heap.size v l/\Below w.heap.size w w':=by
 obtain⟨n,hn⟩:∃n,l.length=n:=⟨_,rfl⟩;obtain⟨mb,v,hb,hmb,hc,hM,hO⟩:=h;rw[hn]at hO hl;have hpl:(be l).length=n:=by rw[←hn];simp[be]
 obtain⟨a,cap,rfl⟩:=oq hO;have hRow:=tz hpl hO;have hbl:b<w.heap.size:=(Array.getElem?_eq_some_iff.1 hc).1;have c0:w.cell? ⟨b,0,none⟩=some (.map (some mb)):=by rw[a1g w b 0 _ _ (0,0) hc];rfl
 have c1:w.cell? ⟨b,1,none⟩=some (.slice a n cap):=by rw[a1g w b 1 _ _ (0,0) hc];rfl
 have HC0:=af (fun W (hb:Below w.heap.size w W)=>(hb.cell (p:=⟨b,0,none⟩) hbl).trans c0);have HM:=af (fun W (hb:Below w.heap.size w W)=>hM.later hb hM.lt);have hmI:(n:Int)<=90:=by omega
 have Hn:=af hn;have HR:=af hRow;have HS:=af hs;have HPl:=af hpl;clear hn hc hM hO hRow hpl hs hbl hl;obtain⟨i0,hi,hz0,hz1,hz2⟩:=a0z Tryz.infoFile;go_enter Tryz.func37,Tryz.ntmps37;go_wp2_with fail;clear c0 c1
 go_loopw [5,7,13] (fun o _ i wr=>∃k:Nat,k<=n/\i = .int .i64 k/\gt wr w.heap.size o (l.take k)/\Below w.heap.size w wr) (fun _ _ i _=>n-(intOf i).toNat)
 case atStart=>exact⟨0,a0h _,rfl,aY.nil _ _,a0c _ _⟩
 case round=>
  obtain⟨k,hk,rfl,hq,hbel⟩:=hrel;by_cases hlt:k<n
  ·
   obtain⟨g,rfl,hg,hcc⟩:=(rR (ae HR) hbel) (by have:=ae HPl;omega);have cp:=hcc k (by have:=ae HPl;omega);rw[ru]at cp;have c0:=ae HC0 _ hbel;have hst:=af (fI l default k (by have:=ae Hn;omega));have hlk:Hid ((l.take k).length=k):=by show _=_;have:=ae Hn;simp;omega
   have hin:l.getD k default∈l:=by
    have:k<l.length:=by have:=ae Hn;omega
    simp[this]
   have hget:=GH Tryz.underlying101 a1J wr mb (me l) _ _ (ae HM _ hbel) (Kf (ae HS) hin);have Hk:=af hk;clear hcc hk hin;generalize l.getD k default=en at *
   have hq1:=aY.own (ae hlk) hq;have hbs1:=hbel.size;have hlen1:Hid (k+1<=maxLen/\(k+1)*32<=140737488355328):=by
    show _/\_;unfold maxLen;omega
   have HBel:=af hbel;clear hbel hq;have he:((⟨#[]⟩:ByteArray).toList == (⟨#[]⟩:ByteArray).toList)=true:=by simp
   go_wp2_with (at_builtin;refine a0H _ rfl _ _ 23 rfl w.heap.size 28 i0 (.agg #[.string ⟨#[]⟩,.string ⟨#[]⟩]) 2 32 a0I hi hz0 hz1 hz2 rfl (by decide) _ _ _ rfl (a0n hq1 _) ⟨wr.heap.size,0,none⟩ 1 1 (aH en) rfl rfl (gE wr _ _) (db en) (ae hlen1).1 (ae hlen1).2 (aB hbs1 _) ?_;intro v' x2 hown hgrow hnil;clear hnil);have hb2:=aJ (v:=u5) hgrow hq1 (a0a _) hbs1 (ae HBel);have hq2:gt x2 w.heap.size v' _:=aY.snoc (ae hlk) hown;rw[←ae hst]at hq2;clear hown hgrow hq1;go_wp2;go_roundw
   case rel=>exact⟨k+1,by have:=ae Hk;omega,by go_num,hq2,hb2⟩
   case measure=>simp[intOf];omega
  · have hkn:l.take k=l:=a0s (by rw[ae Hn];omega);rw[hkn]at hq;have HQ:=af hq;have HB:=af hbel;clear hq hbel hkn;go_wp2;go_ret;exact⟨_,rfl,ae HQ,ae HB⟩
end Go.Proofs.YtkdlcomfpffhhaaGreatDoor
