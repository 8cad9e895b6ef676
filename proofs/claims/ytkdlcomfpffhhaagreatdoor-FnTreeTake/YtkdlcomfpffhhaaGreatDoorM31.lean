/- Of what the proof is made: 2 texts, one behind the other. -/
import Derived.Test.YtkdlcomfpffhhaaGreatDoorM28
import Derived.Test.YtkdlcomfpffhhaaGreatDoorM26
import Derived.Lib.QuietBelow
import Derived.Laws.Cover1
import Derived.BigQuiet
set_option maxRecDepth 100000
set_option linter.unusedSimpArgs false
set_option linter.unusedVariables false
set_option maxHeartbeats 4000000
namespace Go.Proofs.YtkdlcomfpffhhaaGreatDoor
open Go.Proofs.Tryz
open Go.RowKit
def mq(l:List Fl)(n:Nat):Prop:=∀i,i<n->(pA l i).size<=1048576/\((l.getD i default).t.size:Int)<=9223372036854775807
theorem Oh{w w1:World}{x y:Value}{t:TypeId}(hb:Below (w.alloc (.cells #[x,y] t)).heap.size (w.alloc (.cells #[x,y] t)) w1):w1.cell? ⟨w.heap.size,0,none⟩=some x/\w1.cell? ⟨w.heap.size,1,none⟩=some y/\w.heap.size<w1.heap.size/\Below w.heap.size w w1:=by
 have a:w.heap.size<(w.alloc (.cells #[x,y] t)).heap.size:=by simp
 exact⟨(hb.cell (p:=⟨w.heap.size,0,none⟩) a).trans (by simp),(hb.cell (p:=⟨w.heap.size,1,none⟩) a).trans (by simp),a0i a hb.size,((a0c _ _).alloc (a0a _) _).trans (hb.mono (by simp))⟩
theorem fC(a:Option Addr)(cap:Nat)(l:List Fl)(n:Nat)(hn:l.length=n)(m:Int)(w:World)(h:lU w a l)(hl:(n:Int)<=1048576)(bc:(n:Int)<=(cap:Int))(hs:mq l n)
  (hm:w.cell? ⟨2,0,none⟩=some (.int .i64 m)) :
  CD 7 #[.slice a n cap] w (.bool (cH l)):=by
 have HS:=af hs;have HR:=af h;have V:=af (fun i (hi:i<l.length)=>@J0 l i hi);have X:=af (@Ga l);have a3:=af (fun i j (v:j<i)=>@LC l i j v);have a4:=af (fun i=>@I6 l i);have L:Hid (∀i,qe l i=(fG (pA l i).data.toList&&decide ((l.getD i default).t.size<=300))):=fun _=>rfl;have a6:Hid (∀i,qe l i=false->lW l i=false):=fun i e=>by show lW l i=false;unfold lW;rw[e];rfl
 have K:Hid (∀i j,kT l i j=((ltP (pA l j) (pA l i) || (pA l j).toList == (pA l i).toList)&&!aZ (pA l j).data.toList (pA l i).data.toList)):=fun _ _=>rfl;rw[hn]at V X;have HN:=af hn;have CM:=af (fun W (hb:Below w.heap.size w W)=>(hb.cell (p:=⟨2,0,none⟩) (World.block_lt_of_cell? _ _ hm)).trans hm);clear h hs hn hm;by_cases h8:(n:Int)<=8
 .
  go_enter func7,ntmps7;go_wp2_with fail
  go_loopw [3,4,6,12] (fun _ _ _ i wr=>∃k:Nat,k<=n/\i = .int .i64 k/\(∀j,j<k->lW l j=true)/\Below w.heap.size w wr) (fun _ _ _ i _=>n-(intOf i).toNat)
  case atStart=>exact⟨0,a0h _,rfl,fun j v=>absurd v (by omega),a0c _ _⟩
  case round=>
   obtain⟨k,hk,rfl,F,G⟩:=hrel;have d:=af F;have c:=af G;clear F G;by_cases u:k<n
   .
    have bd:(k:Int)<(n:Int):=by omega
    have be:(k:Int)<=(cap:Int):=by omega
    obtain⟨g,o,rfl,hg,hc⟩:=(ae HR).later (ae c) (by have:=ae HN;omega);obtain⟨c0,c1⟩:=hc k (by have:=ae HN;omega);have z:=af u;have S:=af (ae HS k u);have f:=af (ae V k u);have b:=af (ae L k);have E:=af (ae a6 k);have N:=af (ae a3 k);have O:=af (ae a4 k);have a1:Hid (lW l k=true->∀j,j<k+1->lW l j=true):=by
     intro e j v;by_cases a9:j=k
     . rw[a9];exact e
     . exact ae d j (by omega)
    have ao:=af (fun j (v:j<n) W=>kR (pA l j) (pA l k) W (by have:=(ae HS j v).1;omega) (by have:=(ae HS k u).1;omega));have a2:Hid (∀W,Below w.heap.size w W->∀j,j<n->DJ W g (o+j*2) (l.getD j default)):=by
     intro W hW j v;exact((ae HR).later hW).at j (by have:=ae HN;omega)
    have a5:=af (ae K k);have e0:(l.getD k default).p=pA l k:=rfl;rw[e0]at c0;have bs:=(ae S).2;clear hc hk d u e0;generalize hT:(l.getD k default).t=T at *
    generalize hP:pA l k=P at *
    clear hT hP;go_wp2_with fail;refine(kK P m _ (ae S).1 (ae CM _ ((ae c).alloc (ae c).size _))).mono ?_;rintro e x1 ⟨rfl,Z⟩;obtain⟨b0,b1,ac,aa⟩:=Oh Z;have H:=af (am (ae c) aa);clear Z aa;generalize wr.heap.size=B at *
    cases M:fG P.data.toList
    . have HP:=af (ae f (ae E (by rw[ae b,M];rfl)));go_wp2;go_ret;exact⟨aj (ae HP).symm,ae H⟩
    .
     by_cases bb:(T.size:Int)<=300
     .
      have C:Hid (qe l k=true):=by show qe l k=true;rw[ae b,M];simp;omega
      go_wp2_with fail
      go_loopw [6,31] (fun _ q wq=>∃r:Nat,r<=k/\q = .int .i64 r/\(∀j,j<r->kT l k j=true)/\wq.cell? ⟨B,0,none⟩=some (.string P)/\B<wq.heap.size/\Below w.heap.size w wq) (fun _ q _=>k-(intOf q).toNat)
      case atStart=>exact⟨0,a0h _,rfl,fun j v=>absurd v (by omega),b0,ac,ae H⟩
      case round=>
       obtain⟨r,hr,rfl,al,d0,dz,ab⟩:=hrel;have I:=af al;have y:=af ab;clear al ab b0 b1 ac;by_cases an:r<k
       .
        have bk:(r:Int)<(k:Int):=by omega
        obtain⟨p0,p1⟩:=ae a2 _ (ae y) r (by have:=ae z;omega);have D:=af (ae ao r (by have:=ae z;omega));have A:=af (ae a5 r);have J:=af (ae N r an);have Q:=af an;have a0:Hid (kT l k r=true->∀j,j<r+1->kT l k j=true):=by
         intro e j v;by_cases ba:j=r
         . rw[ba];exact e
         . exact ae I j (by omega)
        have e1:(l.getD r default).p=pA l r:=rfl;rw[e1]at p0;clear hr I e1;generalize pA l r=R at *
        generalize (l.getD r default).t=U at *
        clear c0 c1;have x:=af ((ae y).alloc (ae y).size (.cells #[.string R,.string U] 28));have dA:(wr.alloc (.cells #[.string R,.string U] 28)).cell? ⟨B,0,none⟩=some (.string P):=by rw[World.cell?_alloc_past _ _ _ dz];exact d0
        have dB:B<(wr.alloc (.cells #[.string R,.string U] 28)).heap.size:=by simp;omega
        have HD:=af (a0b dA dB);clear dA dB;cases h1:Op.bytesLess R.toList P.toList
        .
         by_cases h2:R.toList=P.toList
         .
          have Y:(R.toList == P.toList)=true:=by simpa using h2
          have HC:Hid (aZ R.data.toList P.data.toList=true):=by
           show aZ R.data.toList P.data.toList=true;unfold aZ;rw[bY.1 h2];simp
          have HP:=af (ae f (ae J (by rw[ae A,ae HC];simp)));clear h2;go_wp2_with fail;refine(ae D _).mono ?_;rintro e x2 ⟨rfl,s⟩;rw[s,ae HC];clear s;go_wp2;go_ret;exact⟨aj (ae HP).symm,ae x⟩
         .
          have Y:(R.toList == P.toList)=false:=by simpa using h2
          have HP:=af (ae f (ae J (by rw[ae A];unfold ltP;rw[h1,Y];rfl)));go_wp2;go_ret;exact⟨aj (ae HP).symm,ae x⟩
        .
         have HL:Hid (ltP R P=true):=h1;go_wp2_with fail;refine(ae D _).mono ?_;rintro e x2 ⟨rfl,s⟩;rw[s];clear s;cases ad:aZ R.data.toList P.data.toList
         .
          have HX:=af (ae a0 (by rw[ae A,ae HL,ad];rfl));go_wp2;go_roundw
          case rel=>exact⟨r+1,by have:=ae Q;omega,by go_num,ae HX,(ae HD).1,(ae HD).2,ae x⟩
          case measure=>have:=ae Q;simp[intOf];omega
         . have HP:=af (ae f (ae J (by rw[ae A,ad];simp)));go_wp2;go_ret;exact⟨aj (ae HP).symm,ae x⟩
       .
        obtain rfl:r=k:=by omega
        have HX:=af (ae a1 ((ae O (ae I)).trans (ae C)));go_wp2;go_roundw
        case rel=>exact⟨r+1,by have:=ae z;omega,by go_num,ae HX,ae y⟩
        case measure=>have:=ae z;simp[intOf];omega
     .
      have a7:¬ T.size<=300:=by omega
      have HP:=af (ae f (ae E (by rw[ae b,M];simp;omega)));go_wp2;go_ret;exact⟨aj (ae HP).symm,ae H⟩
   .
    obtain rfl:k=n:=by omega
    have HP:=af (ae X (ae d));go_wp2;go_ret;exact⟨aj (by rw[ae HP];simp;omega),ae c⟩
 .
  have HP:Hid (cH l=false):=by
   show cH l=false;unfold cH;rw[ae HN];have:decide (n<=8)=false:=by simp;omega
   rw[this];simp
  go_enter func7,ntmps7;go_wp2;go_ret;exact⟨aj (ae HP).symm,a0c _ _⟩
theorem fK(a:Option Addr)(cap:Nat)(l:List Fl)(n:Nat)(hn:l.length=n)(w:World)(h:lU w a l)(hl:(n:Int)<=1048576)(hs:mq l n) :
  CD 8 #[.slice a n cap] w (.bool (cH l)):=by
 have B:prog.follows .mixedOrders=true:=by kernel_rfl
 have HS:=af hs;have HR:=af h;have a4:=af (fun i (hi:i<l.length)=>@Mj l i hi);have a5:=af (@J4 l);have ao:=af (fun i k (hk:k<l.length)=>@Ie l i k hk);have a0:=af (fun i=>@uq l i);rw[hn]at a4 a5 ao a0;have a2:Hid (∀i,lX l i=((fG (pA l i).data.toList&&decide ((l.getD i default).t.size<=300))&&(upT l i&&pP l i))):=fun _=>rfl;have a7:Hid (upT l 0=true):=rfl;have a9:Hid (∀F k,k=F+1->upT l k=ltP (pA l F) (pA l k)):=by
  intro F k e;subst e;simp[upT]
 have HN:=af hn;clear h hs hn;go_enter func8,ntmps8;go_wp2_with fail
 go_loopw [3,4] (fun i _ wr=>∃k:Nat,k<=n/\i = .int .i64 k/\(∀j,j<k->lX l j=true)/\Below w.heap.size w wr) (fun i _ _=>n-(intOf i).toNat)
 case atStart=>exact⟨0,a0h _,rfl,fun j L=>absurd L (by omega),a0c _ _⟩
 case round=>
  obtain⟨k,hk,rfl,X,f⟩:=hrel;have G:=af X;have b:=af f;clear X f;by_cases A:k<n
  .
   have b0:(k:Int)<(n:Int):=by omega
   obtain⟨g,o,rfl,hg,hc⟩:=(ae HR).later (ae b) (by have:=ae HN;omega);have D:=af A;have E:Hid (∀W,Below w.heap.size w W->∀j,j<n->DJ W g (o+j*2) (l.getD j default)):=by
    intro W hW j L;exact((ae HR).later hW).at j (by have:=ae HN;omega)
   have a3:=af (ae HS k A).1;have J:=af (ae a4 k A);have O:=af (ae a2 k);have U:=af (ae ao k);have V:=af (ae a0 k);have a6:=af (fun j (L:j<n) W=>iP (pA l k) (pA l j) W (by have:=(ae HS k A).1;omega) (by have:=(ae HS j L).1;omega));have a1:Hid (lX l k=true->∀j,j<k+1->lX l j=true):=by
    intro e j L;by_cases bc:j=k
    . rw[bc];exact e
    . exact ae G j (by omega)
   have b1:=(ae HS k A).2;have ck:=cell_regrown (show wr.cell? ⟨g,o+k*2,none⟩=some (.string (pA l k))from(ae E wr (ae b) k A).1);have ct:=cell_regrown (ae E wr (ae b) k A).2;have z:=fun d os=>Calls.regrown_of (w:=wr) (d:=d) (os:=os) (li (pA l k) _ (ae a3));clear hc hk G A a3;generalize hT:(l.getD k default).t=T at *
   generalize hP:pA l k=P at *
   have aa:=af hP;clear hT hP;cases M:fG P.data.toList
   .
    have HP:=af (ae J (by rw[ae O,M];rfl));rw[M]at z;go_wp2_with fail;refine wp_region_quiet_below B (by kernel_rfl) ?_;repeat (first|go_big_quiet_step (exact z _ _)|quiet_step (exact z _ _))
    refine a1p ?_;intro zw x;obtain⟨⟨R,osq⟩,c⟩:=x;have u:=below_regrown wr R osq;rw[←c]at u;have N:=af (am (ae b) u);clear c u ck ct z;go_wp2;go_ret;exact⟨aj (ae HP).symm,ae N⟩
   .
    rw[M]at z;by_cases bs:(T.size:Int)<=300
    .
     have ba:decide ((300:Int)<(T.size:Int))=false:=by simp;omega
     have I:Hid ((fG P.data.toList&&decide (T.size<=300))=true):=by
      show _=true;rw[M];simp;omega
     have y:Hid (lX l k=(upT l k&&pP l k)):=by
      show lX l k=_;rw[ae O,ae I];rfl
     clear O I;by_cases al:k=0
     .
      have ac:Hid (upT l k=true):=by rw[al];exact ae a7
      have hz:¬ (0:Int)<(k:Int):=by omega
      have b2:decide ((0:Int)<(k:Int))=false:=by simp;omega
      have bk:decide (0<k)=false:=by simp;omega
      clear al;go_wp2_with fail;refine wp_region_quiet_below B (by kernel_rfl) ?_;repeat (first|go_big_quiet_step (exact z _ _)|quiet_step (exact z _ _))
      refine a1p ?_;intro zw x;obtain⟨⟨R,osq⟩,c⟩:=x;have u:=below_regrown wr R osq;rw[←c]at u;have N:=af (am (ae b) u);clear c u ck ct z;go_wp2_with fail
      go_loopw [4] (fun q wr=>∃m:Nat,m<=n/\q = .int .i64 m/\(∀j,j<m->ce P.data.toList (pA l j).data.toList=false)/\Below w.heap.size w wr) (fun q _=>n-(intOf q).toNat)
      case atStart=>exact⟨0,a0h _,rfl,fun j L=>absurd L (by omega),ae N⟩
      case round=>
       obtain⟨m,hm,rfl,K,f⟩:=hrel;have C:=af K;have r:=af f;clear K f;by_cases v:m<n
       .
        have be:(m:Int)<(n:Int):=by omega
        have d0:=(ae E _ (ae r) k (ae D)).1;rw[show(l.getD k default).p=P from ae aa]at d0;have d1:=(ae E _ (ae r) m v).1;rw[show(l.getD m default).p=pA l m from rfl]at d1;have s:=af (ae a6 m v);have Z:=af (ae U m v);have H:=af v;have Y:Hid (ce P.data.toList (pA l m).data.toList=false->∀j,j<m+1->ce P.data.toList (pA l j).data.toList=false):=by
         intro e j L;by_cases ad:j=m
         . rw[ad];exact e
         . exact ae C j (by omega)
        clear hm C;cases S:ce P.data.toList (pA l m).data.toList
        .
         have HX:=af (ae Y S);rw[S]at s;go_wp2_with fail
         go_quiet ((go_at_call 28;exact a1b (ae s _)))
         go_wp2;go_roundw
         case rel=>exact⟨m+1,by have:=ae H;omega,by go_num,ae HX,below_drewN (ae r) _⟩
         case measure=>have:=ae H;simp[intOf];omega
        .
         have HP:=af (ae J (by rw[ae y,ae Z S];simp));rw[S]at s;go_wp2_with fail
         go_quiet ((go_at_call 28;exact a1b (ae s _)))
         go_wp2;go_ret;exact⟨aj (ae HP).symm,below_drewN (ae r) _⟩
       .
        obtain rfl:m=n:=by omega
        have HX:=af (ae a1 (by rw[ae y,ae ac,ae V (ae C)];rfl));go_wp2;go_roundw
        case rel=>exact⟨k+1,by have:=ae D;omega,by go_num,ae HX,ae r⟩
        case measure=>have:=ae D;simp[intOf];omega
     .
      obtain⟨F,hk'⟩:∃F,k=F+1:=⟨k-1,by omega⟩;have hz:(0:Int)<(k:Int):=by omega
      have bk:decide (0<k)=true:=by simp;omega
      have bd:(k:Int)-1=(F:Int):=by omega
      have bb:(F:Int)<(n:Int):=by omega
      have ab:=af ((ae a9) F k hk');rw[ae aa]at ab;have cq:=cell_regrown (show wr.cell? ⟨g,o+F*2,none⟩=some (.string (pA l F))from(ae E wr (ae b) F (by have:=ae D;omega)).1);clear al hk';generalize pA l F=Q at *
      cases an:Op.bytesLess Q.toList P.toList
      .
       have HP:=af (ae J (by rw[ae y,ae ab];unfold ltP;rw[an];rfl));go_wp2_with fail;refine wp_region_quiet_below B (by kernel_rfl) ?_;repeat (first|go_big_quiet_step (exact z _ _)|quiet_step (exact z _ _))
       refine a1p ?_;intro zw x;obtain⟨⟨R,osq⟩,c⟩:=x;have u:=below_regrown wr R osq;rw[←c]at u;have N:=af (am (ae b) u);clear c u ck ct z cq;go_wp2;go_ret;exact⟨aj (ae HP).symm,ae N⟩
      .
       have ac:Hid (upT l k=true):=by show upT l k=true;rw[ae ab];exact an
       go_wp2_with fail;refine wp_region_quiet_below B (by kernel_rfl) ?_;repeat (first|go_big_quiet_step (exact z _ _)|quiet_step (exact z _ _))
       refine a1p ?_;intro zw x;obtain⟨⟨R,osq⟩,c⟩:=x;have u:=below_regrown wr R osq;rw[←c]at u;have N:=af (am (ae b) u);clear c u ck ct z cq;clear bd bb an;go_wp2_with fail
       go_loopw [4] (fun q wr=>∃m:Nat,m<=n/\q = .int .i64 m/\(∀j,j<m->ce P.data.toList (pA l j).data.toList=false)/\Below w.heap.size w wr) (fun q _=>n-(intOf q).toNat)
       case atStart=>exact⟨0,a0h _,rfl,fun j L=>absurd L (by omega),ae N⟩
       case round=>
        obtain⟨m,hm,rfl,K,f⟩:=hrel;have C:=af K;have r:=af f;clear K f;by_cases v:m<n
        .
         have be:(m:Int)<(n:Int):=by omega
         have d0:=(ae E _ (ae r) k (ae D)).1;rw[show(l.getD k default).p=P from ae aa]at d0;have d1:=(ae E _ (ae r) m v).1;rw[show(l.getD m default).p=pA l m from rfl]at d1;have s:=af (ae a6 m v);have Z:=af (ae U m v);have H:=af v;have Y:Hid (ce P.data.toList (pA l m).data.toList=false->∀j,j<m+1->ce P.data.toList (pA l j).data.toList=false):=by
          intro e j L;by_cases ad:j=m
          . rw[ad];exact e
          . exact ae C j (by omega)
         clear hm C;cases S:ce P.data.toList (pA l m).data.toList
         .
          have HX:=af (ae Y S);rw[S]at s;go_wp2_with fail
          go_quiet ((go_at_call 28;exact a1b (ae s _)))
          go_wp2;go_roundw
          case rel=>exact⟨m+1,by have:=ae H;omega,by go_num,ae HX,below_drewN (ae r) _⟩
          case measure=>have:=ae H;simp[intOf];omega
         .
          have HP:=af (ae J (by rw[ae y,ae Z S];simp));rw[S]at s;go_wp2_with fail
          go_quiet ((go_at_call 28;exact a1b (ae s _)))
          go_wp2;go_ret;exact⟨aj (ae HP).symm,below_drewN (ae r) _⟩
        .
         obtain rfl:m=n:=by omega
         have HX:=af (ae a1 (by rw[ae y,ae ac,ae V (ae C)];rfl));go_wp2;go_roundw
         case rel=>exact⟨k+1,by have:=ae D;omega,by go_num,ae HX,ae r⟩
         case measure=>have:=ae D;simp[intOf];omega
    .
     have ba:decide ((300:Int)<(T.size:Int))=true:=by simp;omega
     have HP:=af (ae J (by rw[ae O,M];simp;omega));go_wp2_with fail;refine wp_region_quiet_below B (by kernel_rfl) ?_;repeat (first|go_big_quiet_step (exact z _ _)|quiet_step (exact z _ _))
     refine a1p ?_;intro zw x;obtain⟨⟨R,osq⟩,c⟩:=x;have u:=below_regrown wr R osq;rw[←c]at u;have N:=af (am (ae b) u);clear c u ck ct z;go_wp2;go_ret;exact⟨aj (ae HP).symm,ae N⟩
  .
   obtain rfl:k=n:=by omega
   have HP:=af (ae a5 (ae G));go_wp2;go_ret;exact⟨aj (by rw[ae HP];simp;omega),ae b⟩
end Go.Proofs.YtkdlcomfpffhhaaGreatDoor
