/- Of what the proof is made: 3 texts, one behind the other. -/
import Derived.Test.YtkdlcomfpffhhaaGreatDoorM28
import Derived.Test.YtkdlcomfpffhhaaGreatDoorM42
import Derived.Test.YtkdlcomfpffhhaaGreatDoorM26
import Derived.Test.YtkdlcomfpffhhaaGreatDoorM41
import Derived.Test.YtkdlcomfpffhhaaGreatDoorM2
import Derived.Test.YtkdlcomfpffhhaaGreatDoorM38
set_option maxRecDepth 100000
set_option linter.unusedSimpArgs false
set_option linter.unusedVariables false
set_option maxHeartbeats 3200000
namespace Go.Proofs.YtkdlcomfpffhhaaGreatDoor
open Go.Proofs.Tryz
open Go.RowKit Corb
def FcS(p t:ByteArray)(b:Nat)(w W:World):Prop:=Below b w W/\Blk W b [.string p,.string t]/\Blk W (b+1) [.string ⟨#[]⟩,.string ⟨#[]⟩]
theorem FcS.later{p t:ByteArray}{b:Nat}{w W W':World}(h:FcS p t b w W)(hb:Below W.heap.size W W'):FcS p t b w W':=
 ⟨h.1.trans (hb.mono (by have:=h.2.1.1;omega)),h.2.1.later hb h.2.1.1,h.2.2.later hb h.2.2.1⟩
theorem vN(p t:ByteArray)(w:World)(k:p.size<=281474976710656)(l:t.size<=281474976710656) :
  CD 34 #[.agg #[.string p,.string t]] w (.agg #[.string p,.string t]):=by
 have f:prog.follows .mixedOrders=true:=by kernel_rfl
 have HP:=af (fun W=>jX p W k);have j:=af (fun W=>jX t W l);clear k l;have T0:Hid (FcS p t w.heap.size w ((w.alloc (.cells #[.string p,.string t] 28)).alloc (.cells #[.string ⟨#[]⟩,.string ⟨#[]⟩] 28))):=by
  have r:Below w.heap.size w (w.alloc (.cells #[.string p,.string t] 28)):=(a0c _ _).alloc (a0a _) _;have h2:=(aP w #[.string p,.string t] 28).later (a0c _ _ |>.alloc (a0a _) (.cells #[.string ⟨#[]⟩,.string ⟨#[]⟩] 28)) (by simp);have g:=aP (w.alloc (.cells #[.string p,.string t] 28)) #[.string ⟨#[]⟩,.string ⟨#[]⟩] 28;refine⟨r.alloc (by simp) _,h2,?_⟩;simpa using g
 go_enter func34,ntmps34;go_wp2_with fail;generalize (w.alloc (.cells #[.string p,.string t] 28)).alloc (.cells #[.string ⟨#[]⟩,.string ⟨#[]⟩] 28)=W0 at *
 refine a0H (S:=fun W=>W.cell? ⟨w.heap.size,0,none⟩=some (.string p)/\W.cell? ⟨w.heap.size,1,none⟩=some (.string t)) f ⟨(ae T0).2.1.cell 0 _ rfl,(ae T0).2.1.cell 1 _ rfl⟩ (fun b=>?_);refine dP 0 (.pointer (some ⟨w.heap.size,0,none⟩)) rfl (fun W d=>by go_simp) b ?_;refine dP 1 (.string p) rfl (fun W d=>by obtain⟨s0,s1⟩:=d;go_simp) b ?_;refine dP 3 (.pointer (some ⟨w.heap.size,1,none⟩)) rfl (fun W d=>by go_simp) b ?_;refine dP 4 (.string t) rfl (fun W d=>by obtain⟨s0,s1⟩:=d;go_simp) b ?_;have T1:Hid (FcS p t w.heap.size w W0.drew):=⟨(ae T0).1.drew,(ae T0).2⟩;generalize W0.drew=W1 at *
 refine sP 2 fun K a=>?_;go_simp;go_at_call 65;refine(ae HP W1).mono ?_;rintro e W2 ⟨rfl,h2⟩;have T2:=af ((ae T1).later h2);refine a0f a _ _ ⟨(ae T2).2.1.cell 0 _ rfl,(ae T2).2.1.cell 1 _ rfl⟩ (fun b=>?_);clear a K h2;refine sP 5 fun K a=>?_;go_simp;go_at_call 65;refine(ae j W2).mono ?_;rintro e W3 ⟨rfl,g⟩;have T3:=af ((ae T2).later g);refine a0f a _ _ ⟨(ae T3).2.1.cell 0 _ rfl,(ae T3).2.1.cell 1 _ rfl⟩ (fun b=>?_);clear a K g;refine dP 6 (.agg #[.string p,.string t]) rfl (fun W d=>by go_simp) b ?_;have hb:Below w.heap.size w ((W3.setCell ⟨w.heap.size+1,0,none⟩ (.string p)).setCell ⟨w.heap.size+1,1,none⟩ (.string t)):=ap (ap (ae T3).1 (by simp) _) (by simp) _;have m:=af hb;have n:=(ae T3).2.2.cell 0 _ rfl;have q:=(ae T3).2.2.cell 1 _ rfl;have f0:=(ae T3).2.2.free 0 (by simp);have f1:=(ae T3).2.2.free 1 (by simp);have T4:=((ae T3).2.1.set_other (c:=w.heap.size+1) (o:=0) (.string p) (by omega)).set_other (c:=w.heap.size+1) (o:=1) (.string t) (by omega);have X4:=af (((ae T3).2.2.set 0 (.string p)).set 1 (.string t));have h:=af T4;clear T4 hb;refine sP 7 fun K a=>?_;go_simp;refine a0f a _ _ ⟨(ae h).cell 0 _ rfl,(ae h).cell 1 _ rfl⟩ (fun i=>?_);clear a K b i n q f0 f1 h T1 T2 T3 HP j T0;generalize (W3.setCell ⟨w.heap.size+1,0,none⟩ (.string p)).setCell ⟨w.heap.size+1,1,none⟩ (.string t)=V at *
 refine a0u (by kernel_rfl) ?_ _;have e0:=(ae X4).cell 0 _ rfl;have e1:=(ae X4).cell 1 _ rfl;clear X4;go_wp2;refine a0R (v:=.agg #[.string p,.string t]) (by simp[results,results34,go_sem,e0,e1]) rfl ⟨rfl,ae m⟩
theorem vJ(a:Option Addr)(cap n:Nat)(l:List Fl)(w:World)(N:l.length=n)(h:lU w a l)(U:n<=8)(O:∀i,i<n->(l.getD i default).p.size<=1048576/\(l.getD i default).t.size<=1048576) :
  Calls prog 33 #[.slice a n cap,.func (.func 34) #[] #[]] w fun e w'=>∃v,e = .returned v/\eQ w' w.heap.size v l/\Below w.heap.size w w':=by
 have V:(n:Int)<=8:=by omega
 have s:=af N;have Q:=af h;have R:=af O;clear N U h O;obtain⟨i0,T,H,I,J⟩:=a0s Tryz.infoFile;go_enter func33,ntmps33;go_wp2_with fail
 go_loopw [5,7,10] (fun o _ i wr=>∃k:Nat,k<=n/\i = .int .i64 k/\eQ wr w.heap.size o (l.take k)/\Below w.heap.size w wr) (fun _ _ i _=>n-(intOf i).toNat)
 case atStart=>exact⟨0,a0h _,rfl,aN.nil _ _,a0c _ _⟩
 case round=>
  obtain⟨k,M,rfl,hq,b⟩:=hrel;by_cases F:k<n
  .
   obtain⟨g,o,rfl,X,x⟩:=(ae Q).later b (by have:=ae s;omega);obtain⟨c0,c1⟩:=x k (by have:=ae s;omega);have G:=af (j6 l default k (by have:=ae s;omega));have z:Hid ((l.take k).length=k):=by show _=_;have:=ae s;simp;omega
   have S:=af M;obtain⟨s0,s1⟩:=ae R k F;clear x M;generalize l.getD k default=en at *
   have HP:=af (fun W=>vN en.p en.t W (by omega) (by omega));have L:Below wr.heap.size wr (wr.alloc (.cells #[.string en.p,.string en.t] 28)):=(a0c _ _).alloc (a0a _) _;have K:=af L;have C:=af hq;have j:=af b;clear L hq b s0 s1;go_wp2_with fail;refine(ae HP _).mono ?_;rintro e x1 ⟨rfl,u⟩;have D:=am (ae K) u;have r:=aN.own (ae z) ((ae C).later D (a0a _));have c:=am (ae j) D;have m:=c.size;have f:Hid (k+1<=maxLen/\(k+1)*32<=140737488355328):=by
    show _/\_;unfold maxLen;omega
   clear C j K u D HP;go_wp2_with (at_builtin;refine a0v _ rfl _ _ 23 rfl w.heap.size 28 i0 (.agg #[.string ⟨#[]⟩,.string ⟨#[]⟩]) 2 32 a0M T H I J rfl (by decide) _ _ _ rfl (a0k r _) ⟨x1.heap.size,0,none⟩ 1 1 (aM en) rfl rfl (ia x1 _ _) (cW en) (ae f).1 (ae f).2 (av m _) ?_;intro v' x2 q d A;clear A);have E:=aI (v:=u5) d r (a0a _) m c;have B:eQ x2 w.heap.size v' _:=aN.snoc (ae z) q;rw[←ae G]at B;clear q d r;go_wp2;go_roundw
   case rel=>exact⟨k+1,by have:=ae S;omega,by go_num,B,E⟩
   case measure=>simp[intOf];omega
  . have y:l.take k=l:=a0D (by rw[ae s];omega);rw[y]at hq;have C:=af hq;have P:=af b;clear hq b y;go_wp2;go_ret;exact⟨_,rfl,ae C,ae P⟩
theorem Fe(w:World):Calls prog 35 #[] w fun e w'=>(∃b,e = .returned (.pointer (some ⟨b,0,none⟩))/\qp w' w.heap.size b [])/\Below w.heap.size w w':=by
 have a:Below w.heap.size w ((w.alloc (.map #[] 0)).alloc (.cells #[.map (some w.heap.size),.slice none 0 0] 103)):=((a0c _ _).alloc (a0a _) _).alloc (by simp) _;have d:ow ((w.alloc (.map #[] 0)).alloc (.cells #[.map (some w.heap.size),.slice none 0 0] 103)) w.heap.size (mQ []):=
  (IX w).later (B:=w.heap.size+1) ((a0c _ _).alloc (by simp) _) (by omega)
 have c:((w.alloc (.map #[] 0)).alloc (.cells #[.map (some w.heap.size),.slice none 0 0] 103)).heap[w.heap.size+1]?=some (.cells #[.map (some w.heap.size),.slice none 0 0] 103 (0,0)):=by
  have:=World.alloc_heap_new (w.alloc (.map #[] 0)) (.cells #[.map (some w.heap.size),.slice none 0 0] 103);simpa using this
 have HP:=af (show qp _ w.heap.size (w.heap.size+1) []from⟨w.heap.size,_,by omega,a0a _,c,d,a1x _ _ _ _⟩);have f:=af a;clear a d c;have g:=@run_makeMap prog;have u1:=underlying101;have u2:=a1T;go_enter func35,ntmps35;go_wp2;go_ret;exact⟨⟨_,rfl,ae HP⟩,ae f⟩
theorem qp.later{w w':World}{base b B:Nat}{l:List Fl}(h:qp w base b l)(hb:Below B w w')(g:w.heap.size<=B):qp w' base b l:=by
 obtain⟨mb,v,d,h2,a,c,e⟩:=h;have f:=c.lt;exact⟨mb,v,d,h2,(hb.block b (by have:=(Array.getElem?_eq_some_iff.1 a).1;omega)).trans a,c.later hb (by omega),
  a1y e (row:=none) ⟨hb.os,hb.tape,hb.output,hb.size,fun k i _=>hb.block k (by omega)⟩ (by cases j:v.ownBlock<;>simp)⟩
theorem Ck(b base:Nat)(l:List Fl)(w:World)(h:qp w base b l)(R:eR l)(Q:l.length<=90) :
  Calls prog 37 #[.pointer (some ⟨b,0,none⟩),.string ⟨#[]⟩] w fun e w'=>∃v,e = .returned v/\eQ w' w.heap.size v l/\Below w.heap.size w w':=by
 obtain⟨n,hn⟩:∃n,l.length=n:=⟨_,rfl⟩;obtain⟨mb,v,hb,ac,G,I,F⟩:=h;rw[hn]at F Q;have r:(bg l).length=n:=by rw[←hn];simp[bg]
 obtain⟨a,cap,rfl⟩:=pa F;have j:=uO r F;have x:b<w.heap.size:=(Array.getElem?_eq_some_iff.1 G).1;have c0:w.cell? ⟨b,0,none⟩=some (.map (some mb)):=by rw[a1t w b 0 _ _ (0,0) G];rfl
 have c1:w.cell? ⟨b,1,none⟩=some (.slice a n cap):=by rw[a1t w b 1 _ _ (0,0) G];rfl
 have H:=af (fun W (hb:Below w.heap.size w W)=>(hb.cell (p:=⟨b,0,none⟩) x).trans c0);have T:=af (fun W (hb:Below w.heap.size w W)=>I.later hb I.lt);have ab:(n:Int)<=90:=by omega
 have E:=af hn;have V:=af j;have X:=af R;have u:=af r;clear hn G I F j r R x Q;obtain⟨i0,hi,L,M,N⟩:=a0s Tryz.infoFile;go_enter func37,ntmps37;go_wp2_with fail;clear c0 c1
 go_loopw [5,7,13] (fun o _ i wr=>∃k:Nat,k<=n/\i = .int .i64 k/\eQ wr w.heap.size o (l.take k)/\Below w.heap.size w wr) (fun _ _ i _=>n-(intOf i).toNat)
 case atStart=>exact⟨0,a0h _,rfl,aN.nil _ _,a0c _ _⟩
 case round=>
  obtain⟨k,P,rfl,hq,c⟩:=hrel;by_cases aa:k<n
  .
   obtain⟨g,rfl,hg,y⟩:=(tp (ae V) c) (by have:=ae u;omega);have Z:=y k (by have:=ae u;omega);rw[sG]at Z;have c0:=ae H _ c;have K:=af (j6 l default k (by have:=ae E;omega));have B:Hid ((l.take k).length=k):=by show _=_;have:=ae E;simp;omega
   have z:l.getD k default∈l:=by
    have:k<l.length:=by have:=ae E;omega
    simp[this]
   have O:=IW underlying101 a1T wr mb (mQ l) _ _ (ae T _ c) (Ls (ae X) z);have Y:=af P;clear y P z;generalize l.getD k default=en at *
   have s:=aN.own (ae B) hq;have m:=c.size;have f:Hid (k+1<=maxLen/\(k+1)*32<=140737488355328):=by
    show _/\_;unfold maxLen;omega
   have t:=af c;clear c hq;have he:((⟨#[]⟩:ByteArray).toList == (⟨#[]⟩:ByteArray).toList)=true:=by simp
   go_wp2_with (at_builtin;refine a0v _ rfl _ _ 23 rfl w.heap.size 28 i0 (.agg #[.string ⟨#[]⟩,.string ⟨#[]⟩]) 2 32 a0M hi L M N rfl (by decide) _ _ _ rfl (a0k s _) ⟨wr.heap.size,0,none⟩ 1 1 (aM en) rfl rfl (ia wr _ _) (cW en) (ae f).1 (ae f).2 (av m _) ?_;intro v' x2 q d C;clear C);have J:=aI (v:=u5) d s (a0a _) m (ae t);have D:eQ x2 w.heap.size v' _:=aN.snoc (ae B) q;rw[←ae K]at D;clear q d s;go_wp2;go_roundw
   case rel=>exact⟨k+1,by have:=ae Y;omega,by go_num,D,J⟩
   case measure=>simp[intOf];omega
  . have A:l.take k=l:=a0D (by rw[ae E];omega);rw[A]at hq;have U:=af hq;have S:=af c;clear hq c A;go_wp2;go_ret;exact⟨_,rfl,ae U,ae S⟩
end Go.Proofs.YtkdlcomfpffhhaaGreatDoor
