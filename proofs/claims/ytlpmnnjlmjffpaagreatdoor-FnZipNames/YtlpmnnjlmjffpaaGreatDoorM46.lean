/- Of what the proof is made: 6 texts, one behind the other. -/
import Derived.Test.YtlpmnnjlmjffpaaGreatDoorM44
import Derived.Test.YtlpmnnjlmjffpaaGreatDoorM41
import Derived.Test.YtlpmnnjlmjffpaaGreatDoorM45
import Derived.BigQuiet
import Derived.Lib.QuietBelow
import Derived.Test.YtlpmnnjlmjffpaaGreatDoorM42
set_option maxRecDepth 100000
set_option linter.unusedSimpArgs false
set_option linter.unusedVariables false
set_option maxHeartbeats 6400000
namespace Go.Proofs.YtlpmnnjlmjffpaaGreatDoor
open Go.Proofs.Tryz
open Go.RowKit Corb
def yD(ns:List ByteArray)(x:ByteArray):Bool:=ns.any fun y=>y.data.toList == x.data.toList
theorem DY{ns:List ByteArray}{x:ByteArray}{k:Nat}(a:k<ns.length)(e:(ns.getD k ⟨#[]⟩).toList=x.toList):yD ns x=true:=by
 unfold yD;rw[List.any_eq_true];refine⟨ns[k],a1Q _,?_⟩;have:=bE.1 e;simp only[List.getD,List.getElem?_eq_getElem a,a1c]at this;simpa using this
theorem Ji{ns:List ByteArray}{x:ByteArray}(h:∀j,j<ns.length->¬ (ns.getD j ⟨#[]⟩).toList=x.toList):yD ns x=false:=by
 unfold yD;rw[List.any_eq_false];intro y b e;obtain⟨j,a,rfl⟩:=a2k b;have:=h j a;simp only[List.getD,List.getElem?_eq_getElem a,a1c]at this;exact this (bE.2 (by simpa using e))
theorem Oo(l:List En)(x:ByteArray):(atN l x = -1/\yD (dZ l) x=false)∨∃k,k<l.length/\atN l x=(k:Int)/\yD (dZ l) x=true:=by
 have g:∀j,j<l.length->(dZ l).getD j ⟨#[]⟩=(l.getD j default).n:=fun j a=>by
  unfold dZ;simp[List.getD,List.getElem?_map,List.getElem?_eq_getElem a]
 by_cases c:∃j,j<l.length/\(l.getD j default).n.toList=x.toList
 .
  obtain⟨j,a,e⟩:=c;rcases Ik l x with h|⟨k,b,h⟩
  .
   exfalso;have:∃k:Nat,atN l x=(k:Int):=by
    have:=List.findIdx?_isSome (xs:=l) (p:=fun e=>e.n.data.toList == x.data.toList);have f:(l.findIdx? (fun e=>e.n.data.toList == x.data.toList)).isSome=true:=by
     rw[this,List.any_eq_true];refine⟨l[j],a1Q _,?_⟩;have e2:=bE.1 e;simp only[List.getD,List.getElem?_eq_getElem a,a1c]at e2;simpa using e2
    obtain⟨k,b⟩:=Option.isSome_iff_exists.1 f;exact⟨k,by unfold atN;rw[b]⟩
   obtain⟨k,b⟩:=this;omega
  . exact .inr ⟨k,b,h,DY (k:=j) (by rw[er];exact a) (by rw[g j a];exact e)⟩
 . have d:∀j,j<l.length->¬ (l.getD j default).n.toList=x.toList:=fun j a e=>c ⟨j,a,e⟩;exact .inl ⟨oh d,Ji fun j a=>by rw[er]at a;rw[g j a];exact d j a⟩
theorem uE(a:Option Addr)(cap n base:Nat)(ns:List ByteArray)(x:ByteArray)(w:World)(s:ns.length=n)(h:jN w base (.slice a n cap) ns)(B:n<=100) :
  Calls prog 17 #[.slice a n cap,.string x] w fun e w'=>e = .returned (.bool (yD ns x))/\w'=w:=by
 have t:=af (fun k (r:k<ns.length)=>@DY ns x k r);have u:=af (@Ji ns x);have y:=af h;rw[s]at t u;have v:=af s;have C:(n:Int)<=100:=by omega
 generalize yD ns x=hb at *
 clear h s B;go_enter func17,ntmps17;go_wp2_with fail
 go_loop [5] (fun i=>∃k:Nat,k<=n/\i = .int .i64 k/\∀j,j<k->¬ (ns.getD j ⟨#[]⟩).toList=x.toList) (fun i=>n-(intOf i).toNat)
 case atStart=>exact⟨0,a0g _,rfl,fun j z=>absurd z (by omega)⟩
 case round=>
  obtain⟨k,r,rfl,c⟩:=hrel;have b:=af c;clear c;by_cases d:k<n
  .
   have A:(k:Int)<(n:Int):=by omega
   obtain⟨g,rfl⟩:=(ae y).somes (by rw[ae v];omega);obtain⟨c0,_⟩:=jN.cell (ae v) (ae y) k d;have m:=af (ae t k d);have o:Hid (¬ (ns.getD k ⟨#[]⟩).toList=x.toList->∀j,j<k+1->¬ (ns.getD j ⟨#[]⟩).toList=x.toList):=by
    intro e j z;by_cases q:j=k
    . rw[q];exact e
    . exact ae b j (by omega)
   have l:=af d;clear r b;generalize ns.getD k ⟨#[]⟩=p at *
   by_cases e:p.toList=x.toList
   . have f:=af (ae m e);go_wp2;go_ret;exact⟨by rw[ae f];rfl,rfl⟩
   .
    have f:=af (ae o e);have eB:(p.toList == x.toList)=false:=by simp only[a0V,ne_eq];exact e
    go_wp2
    go_round
    case rel=>exact⟨k+1,by have:=ae l;omega,by go_num,ae f⟩
    case measure=>have:=ae l;simp[intOf];omega
  .
   obtain rfl:k=n:=by omega
   have f:=af (ae u (ae b));go_wp2;go_ret;exact⟨by rw[ae f];rfl,rfl⟩
theorem Jb(a:Option Addr)(len cap:Nat)(zs:List Int)(m:Int)(w:World)(w0:qj .u8 w a len cap zs)(K:w.cell? ⟨1,0,none⟩=some (.int .i64 m))(P:io w)(N:dO w) :
  CD 4 #[.slice a len cap] w (.bool true):=by
 obtain⟨⟨z,o⟩,O,j⟩:=p9 w0;have G:=af (q9 a len cap z w o O j);have E:=af (fun W (hb:Below w.heap.size w W)=>a0b ((hb.cell (p:=⟨1,0,none⟩) (World.block_lt_of_cell? _ _ K)).trans K) (a0b (P.later hb) (N.later hb)));unfold maxLen at j;clear w0 o K P N;by_cases V:(len:Int)<=1048576
 .
  go_enter func4,ntmps4;go_wp2_with fail;refine(ae G).mono ?_;rintro e w1 ⟨⟨S,x,rfl,J,R⟩,I⟩;have d:=af I;clear I G j O;have A:=af J;have r:=af (fun W (B:Below w.heap.size w W)=>lh S x m W (by have:=ae A;omega) (ae E W B).1 (ae E W B).2.1 (ae E W B).2.2);have u:=af (fun W=>rp S x W (by have:=ae A;omega));have F:=af (fun W (B:Below w.heap.size w W)=>jY S m W (by have:=ae A;omega) (ae E W B).1 (ae E W B).2.1 (ae E W B).2.2);have L:=kl (s:=S);obtain⟨l,hL⟩:∃l,(aQ S).getD []=l:=⟨_,rfl⟩;rw[hL]at r u F L;have U:=af (fun(n:Nat) (hn:n=l.length)=>(er l).trans hn.symm);have M:=af L;clear hL L J R;rcases Oo l x with⟨H,h2⟩|⟨k,Q,H,h2⟩
  . rw[wH H]at r u;have b:=af h2;clear H h2;go_wp2_with fail;refine(ae r _ (ae d)).mono ?_;rintro e w2 ⟨rfl,g⟩;have f:=af (ak (ae d) g);clear g d;go_wp2_with fail;refine(ae u _).mono ?_;rintro e w3 ⟨rfl,h⟩;have c:=af (ak (ae f) h);clear h f r u;go_wp2_with fail;refine(ae F _ (ae c)).mono ?_;rintro e w4 ⟨⟨v,rfl,C⟩,i⟩;have y:=af (ak (ae c) i);obtain⟨a4,c4,rfl,_,_⟩:=C.formN (er l);obtain⟨n,hn⟩:∃n,l.length=n:=⟨_,rfl⟩;have q:=af (uE a4 c4 l.length _ (dZ l) x w4 (er l) C (by have:=ae M;omega));rw[ae b]at q;rw[hn]at q;rw[hn];clear i c F C b hn;go_wp2_with fail;refine(ae q).mono ?_;rintro e w5 ⟨rfl,D⟩;subst D;go_wp2;go_ret;exact⟨rfl,ae y⟩
  .
   rw[rx H]at r u;have b:=af h2;clear H h2 Q;generalize (l.getD k default).t=T at *
   go_wp2_with fail;refine(ae r _ (ae d)).mono ?_;rintro e w2 ⟨rfl,g⟩;have f:=af (ak (ae d) g);clear g d;go_wp2_with fail;refine(ae u _).mono ?_;rintro e w3 ⟨rfl,h⟩;have c:=af (ak (ae f) h);clear h f r u;go_wp2_with fail;refine(ae F _ (ae c)).mono ?_;rintro e w4 ⟨⟨v,rfl,C⟩,i⟩;have y:=af (ak (ae c) i);obtain⟨a4,c4,rfl,_,_⟩:=C.formN (er l);obtain⟨n,hn⟩:∃n,l.length=n:=⟨_,rfl⟩;have q:=af (uE a4 c4 l.length _ (dZ l) x w4 (er l) C (by have:=ae M;omega));rw[ae b]at q;rw[hn]at q;rw[hn];clear i c F C b hn;go_wp2_with fail;refine(ae q).mono ?_;rintro e w5 ⟨rfl,D⟩;subst D;go_wp2;go_ret;exact⟨rfl,ae y⟩
 . go_enter func4,ntmps4;go_wp2;go_ret;exact⟨rfl,a0c _ _⟩
theorem re(a:Option Addr)(len cap:Nat)(zs:List Int)(m:Int)(w:World)(w0:qj .u8 w a len cap zs)(hm:w.cell? ⟨1,0,none⟩=some (.int .i64 m))(hg:io w)(hO:dO w)(hP:mO w) :
  CD 5 #[.slice a len cap] w (.bool true):=by
 have aa:prog.follows .mixedOrders=true:=by kernel_rfl
 obtain⟨⟨z,v⟩,hc,o⟩:=p9 w0;have O:=af (eK a len cap z w v hc o);have g:=af (fun W (hb:Below w.heap.size w W)=>a0b ((hb.cell (p:=⟨1,0,none⟩) (World.block_lt_of_cell? _ _ hm)).trans hm) (a0b (hg.later hb) (a0b (hO.later hb) (hP.later hb))));unfold maxLen at o;clear w0 v hm hg hO hP;by_cases hl:(len:Int)<=1048576
 .
  go_enter func5,ntmps5;go_wp2_with fail;refine(ae O).mono ?_;rintro e w1 ⟨⟨l1,l2,n,rfl,r,s⟩,Z⟩;have B:=af Z;clear Z O o hc;obtain⟨L,T,Y,l⟩:=tY r s n;have Q:=af (gZ r);have HA:=af (tR r s);have R:=af (fun t=>pT t s);have s1:=ct l1;have s2:=ct l2;have s3:=pa l2;obtain⟨S,hS⟩:∃x,aV l1=x:=⟨_,rfl⟩;obtain⟨X,hX⟩:∃x,aV l2=x:=⟨_,rfl⟩;rw[hS]at T Q HA s1 l;rw[hX]at T HA R s2 s3 l;obtain⟨F,hF⟩:∃x,aJ X=x:=⟨_,rfl⟩;rw[hF]at HA R s3 l;rw[hS,hX];have c:=af (a0b s1 (a0b s2 (a0b s3 Y)));have HL:=af T;have ac:=af l;have CI:=af (fun W (f:Below w.heap.size w W)=>cR S ⟨#[]⟩ X n m W (by have:=ae c;omega) (by have:=ae c;omega) (ae g W f).1 (ae g W f).2.1 (ae g W f).2.2.1 (ae g W f).2.2.2);have CS:=af (fun W=>eZ S ⟨#[]⟩ X n W (by have:=ae c;omega) (by have:=ae c;omega));have CA:=af (fun(U:ByteArray) (hU:U.size<=4000) W (f:Below w.heap.size w W)=>cR U ⟨#[]⟩ X 1000000 m W (by omega) (by have:=ae c;omega) (ae g W f).1 (ae g W f).2.1 (ae g W f).2.2.1 (ae g W f).2.2.2);have CR:=af (fun(U V:ByteArray) (hU:U.size<=4000) (hV:V.size<=4010) W (f:Below w.heap.size w W)=>eO U V m W (by omega) (by omega) (ae g W f).1 (ae g W f).2.1 (ae g W f).2.2.1 (ae g W f).2.2.2);have CO:=af (fun W (f:Below w.heap.size w W)=>fX S ⟨#[]⟩ m W (by have:=ae c;omega) (ae g W f).1 (ae g W f).2.1 (ae g W f).2.2.1);have CK:=af (fun W=>iY S ⟨#[]⟩ W (by have:=ae c;omega));unfold ee at CI CS CA CR;rw[T]at CI CS;rw[ae Q]at CO CK;clear T hS hX hF l s1 s2 s3 Y r s;have hT:((some l1).isSome&&decide ((⟨#[]⟩:ByteArray)=⟨#[]⟩))=true:=by simp
  rw[hT]at CO CK;clear hT;have C:=af ((ae B).alloc (ae B).size (.cells #[.string S,.string ⟨#[]⟩] 41));have D2:=af (au w1 #[.string S,.string ⟨#[]⟩] 41);clear B;obtain⟨nD,hnD⟩:∃x,w1.heap.size=x:=⟨_,rfl⟩;rw[hnD]at D2;go_wp2_with fail;refine(ae CI _ (ae C)).mono ?_;rintro e w3 ⟨rfl,J⟩;try rw[hnD]
  clear hnD;generalize w1.alloc (.cells #[.string S,.string ⟨#[]⟩] 41)=w2 at *
  have D:=af (ak (ae C) J);have D3:=af ((ae D2).later J (ae D2).1);clear J C D2;have E:=af ((ae D).alloc (ae D).size (.cells #[.string S,.string L] 41));have X4:=af (au w3 #[.string S,.string L] 41);have M:=af ((ae D3).later ((a0c _ _).alloc (a0a _) (.cells #[.string S,.string L] 41)) (ae D3).1);clear D D3;obtain⟨nX,hnX⟩:∃x,w3.heap.size=x:=⟨_,rfl⟩;rw[hnX]at X4;have cT:=fun d os=>Calls.regrown_of (w:=w3.alloc (.cells #[.string S,.string L] 41)) (d:=d) (os:=os) (ae CS _);have cB:=fun d os=>Calls.regrown_of (w:=w3.alloc (.cells #[.string S,.string L] 41)) (d:=d) (os:=os) (fJ S L _);have cO:=fun d os=>Calls.regrown_of (w:=w3.alloc (.cells #[.string S,.string L] 41)) (d:=d) (os:=os) (ae CO _ (ak (ae E) (below_regrown _ d os)));have cK:=fun d os=>Calls.regrown_of (w:=w3.alloc (.cells #[.string S,.string L] 41)) (d:=d) (os:=os) (ae CK _);have k0:=cell_regrown ((ae M).cell 0 _ rfl);have k1:=cell_regrown ((ae M).cell 1 _ rfl);have k2:=cell_regrown ((ae X4).cell 0 _ rfl);have k3:=cell_regrown ((ae X4).cell 1 _ rfl);go_wp2_with fail;try rw[hnX]
  clear hnX;generalize w3.alloc (.cells #[.string S,.string L] 41)=w4 at *
  refine wp_region_quiet_below aa (by kernel_rfl) ?_;repeat (first|go_big_quiet_step (fail)|go_big_quiet_step (exact cT _ _)|go_big_quiet_step (exact cB _ _)|go_big_quiet_step (exact cO _ _)|go_big_quiet_step (exact cK _ _))
  refine a01 ?_;intro zw al;obtain⟨⟨dq,osq⟩,ab⟩:=al;have k:=below_regrown w4 dq osq;rw[←ab]at k;have G:=af (ak (ae E) k);have D5:=af ((ae M).later k (ae M).1);have X5:=af ((ae X4).later k (ae X4).1);clear ab k k0 k1 k2 k3 cT cB cO cK E M X4;generalize zw=w5 at *
  have y:=af (ae CA S (ae c).1 w5 (ae G));rw[ae HA]at y;have cD:=(ae D5).cells (n:=2) rfl;go_wp2_with fail;refine(ae y).mono ?_;rintro e w6 ⟨rfl,q⟩;have H:=af (ak (ae G) q);have D6:=af ((ae D5).later q (ae D5).1);have X6:=af ((ae X5).later q (ae X5).1);clear q G D5 X5 cD y;have j:=af ((ae H).alloc (ae H).size (.cells #[.string S,.string F] 41));have F7:=af (au w6 #[.string S,.string F] 41);have K:=af ((ae D6).later ((a0c _ _).alloc (a0a _) (.cells #[.string S,.string F] 41)) (ae D6).1);have X7:=af ((ae X6).later ((a0c _ _).alloc (a0a _) (.cells #[.string S,.string F] 41)) (ae X6).1);clear H D6 X6;obtain⟨nF,hnF⟩:∃x,w6.heap.size=x:=⟨_,rfl⟩;rw[hnF]at F7;have cX:=(ae X7).cells (n:=2) rfl;have i:=af (ae CR S L (ae c).1 (ae c).2.2.2 _ (ae j));rcases ae ac with⟨eL,hr⟩|⟨eL,hr⟩
  .
   rw[hr]at i;clear hr;subst eL;go_wp2_with fail;refine(ae i).mono ?_;rintro e w8 ⟨rfl,b⟩;try rw[hnF]
   clear hnF;generalize w6.alloc (.cells #[.string S,.string L] 41)=w7 at *
   have h:=af (ak (ae j) b);have A:=af ((ae K).later b (ae K).1);have X8:=af ((ae X7).later b (ae X7).1);have F8:=af ((ae F7).later b (ae F7).1);clear b j K X7 F7 cX i;have I:=af ((ae h).alloc (ae h).size (.cells #[.string X,.string ⟨#[]⟩] 41));have Y9:=af (au w8 #[.string X,.string ⟨#[]⟩] 41);have D9:=af ((ae A).later ((a0c _ _).alloc (a0a _) (.cells #[.string X,.string ⟨#[]⟩] 41)) (ae A).1);have X9:=af ((ae X8).later ((a0c _ _).alloc (a0a _) (.cells #[.string X,.string ⟨#[]⟩] 41)) (ae X8).1);have F9:=af ((ae F8).later ((a0c _ _).alloc (a0a _) (.cells #[.string X,.string ⟨#[]⟩] 41)) (ae F8).1);clear h A X8 F8;obtain⟨nY,hnY⟩:∃x,w8.heap.size=x:=⟨_,rfl⟩;rw[hnY]at Y9;have cD:=(ae D9).cells (n:=2) rfl;have cX:=(ae X9).cells (n:=2) rfl;have cF:=(ae F9).cells (n:=2) rfl;have cY:=(ae Y9).cells (n:=2) rfl;go_wp2;go_ret;exact⟨rfl,ae I⟩
  .
   rw[hr]at i;clear hr;have P:=af eL;clear eL;go_wp2_with fail;refine(ae i).mono ?_;rintro e w8 ⟨rfl,b⟩;try rw[hnF]
   clear hnF;generalize w6.alloc (.cells #[.string S,.string F] 41)=w7 at *
   have h:=af (ak (ae j) b);have A:=af ((ae K).later b (ae K).1);have X8:=af ((ae X7).later b (ae X7).1);have F8:=af ((ae F7).later b (ae F7).1);clear b j K X7 F7 cX i;have I:=af ((ae h).alloc (ae h).size (.cells #[.string S,.string ⟨#[]⟩] 41));have Y9:=af (au w8 #[.string S,.string ⟨#[]⟩] 41);have D9:=af ((ae A).later ((a0c _ _).alloc (a0a _) (.cells #[.string S,.string ⟨#[]⟩] 41)) (ae A).1);have X9:=af ((ae X8).later ((a0c _ _).alloc (a0a _) (.cells #[.string S,.string ⟨#[]⟩] 41)) (ae X8).1);have F9:=af ((ae F8).later ((a0c _ _).alloc (a0a _) (.cells #[.string S,.string ⟨#[]⟩] 41)) (ae F8).1);clear h A X8 F8;obtain⟨nY,hnY⟩:∃x,w8.heap.size=x:=⟨_,rfl⟩;rw[hnY]at Y9;have cD:=(ae D9).cells (n:=2) rfl;have cX:=(ae X9).cells (n:=2) rfl;have cF:=(ae F9).cells (n:=2) rfl;have cY:=(ae Y9).cells (n:=2) rfl;have ad:¬ L.toList=F.toList:=fun e=>ae P (aO (bE.1 e));have ao:(L.toList == F.toList)=false:=by simp only[a0V,ne_eq];exact ad
   clear P;go_wp2_with fail;refine(fJ S ⟨#[]⟩ _).mono ?_;rintro e w10 ⟨rfl,u⟩;have N:=af (ak (ae I) u);clear u;go_wp2;go_ret;exact⟨rfl,ae N⟩
 . go_enter func5,ntmps5;go_wp2;go_ret;exact⟨rfl,a0c _ _⟩
theorem Hw(a:Option Addr)(len cap:Nat)(zs:List Int)(m:Int)(w:World)(w0:qj .u8 w a len cap zs)(hm:w.cell? ⟨1,0,none⟩=some (.int .i64 m))(hg:io w)(hO:dO w)(hP:mO w) :
  CD 7 #[.slice a len cap] w (.bool true):=by
 have ab:prog.follows .mixedOrders=true:=by kernel_rfl
 obtain⟨⟨z,l⟩,hc,i⟩:=p9 w0;have M:=af (eK a len cap z w l hc i);have g:=af (fun W (hb:Below w.heap.size w W)=>a0b ((hb.cell (p:=⟨1,0,none⟩) (World.block_lt_of_cell? _ _ hm)).trans hm) (a0b (hg.later hb) (a0b (hO.later hb) (hP.later hb))));unfold maxLen at i;clear w0 l hm hg hO hP;by_cases hl:(len:Int)<=1048576
 .
  go_enter func7,ntmps7;go_wp2_with fail;refine(ae M).mono ?_;rintro e w1 ⟨⟨l1,l2,n,rfl,k,f⟩,T⟩;have r:=af T;clear T M i hc;obtain⟨L,O,P,h⟩:=tY k f n;have N:=af (gZ k);have HA:=af (tR k f);have q:=af (tR f f);have D:=af (fun t=>pT t f);have s1:=ct l1;have s2:=ct l2;have s3:=pa l2;obtain⟨S,hS⟩:∃x,aV l1=x:=⟨_,rfl⟩;obtain⟨X,hX⟩:∃x,aV l2=x:=⟨_,rfl⟩;rw[hS]at O N HA s1 h;rw[hX]at O HA D s2 s3 h q;obtain⟨F,hF⟩:∃x,aJ X=x:=⟨_,rfl⟩;rw[hF]at HA D s3 h q;rw[hS,hX];have b:=af (a0b s1 (a0b s2 (a0b s3 P)));have HL:=af O;have ad:=af h;have CI:=af (fun W (c:Below w.heap.size w W)=>cR S ⟨#[]⟩ X n m W (by have:=ae b;omega) (by have:=ae b;omega) (ae g W c).1 (ae g W c).2.1 (ae g W c).2.2.1 (ae g W c).2.2.2);have CS:=af (fun W=>eZ S ⟨#[]⟩ X n W (by have:=ae b;omega) (by have:=ae b;omega));have CA:=af (fun(U:ByteArray) (hU:U.size<=4000) W (c:Below w.heap.size w W)=>cR U ⟨#[]⟩ X 1000000 m W (by omega) (by have:=ae b;omega) (ae g W c).1 (ae g W c).2.1 (ae g W c).2.2.1 (ae g W c).2.2.2);have CR:=af (fun(U V:ByteArray) (hU:U.size<=4000) (hV:V.size<=4010) W (c:Below w.heap.size w W)=>eO U V m W (by omega) (by omega) (ae g W c).1 (ae g W c).2.1 (ae g W c).2.2.1 (ae g W c).2.2.2);have CK:=af (fun W=>iY S ⟨#[]⟩ W (by have:=ae b;omega));unfold ee at CI CS CA CR;rw[O]at CI CS;rw[ae N]at CK;clear O hS hX hF h s1 s2 s3 P k f;have hT:((some l1).isSome&&decide ((⟨#[]⟩:ByteArray)=⟨#[]⟩))=true:=by simp
  rw[hT]at CK;clear hT;have s:=af ((ae r).alloc (ae r).size (.cells #[.string S,.string ⟨#[]⟩] 41));have D2:=af (au w1 #[.string S,.string ⟨#[]⟩] 41);clear r;obtain⟨nD,hnD⟩:∃x,w1.heap.size=x:=⟨_,rfl⟩;rw[hnD]at D2;go_wp2_with fail;refine(ae CI _ (ae s)).mono ?_;rintro e w3 ⟨rfl,G⟩;try rw[hnD]
  clear hnD;generalize w1.alloc (.cells #[.string S,.string ⟨#[]⟩] 41)=w2 at *
  have u:=af (ak (ae s) G);have D3:=af ((ae D2).later G (ae D2).1);clear G s D2;have K:=af ((ae u).alloc (ae u).size (.cells #[.string S,.string L] 41));have X4:=af (au w3 #[.string S,.string L] 41);have D4:=af ((ae D3).later ((a0c _ _).alloc (a0a _) (.cells #[.string S,.string L] 41)) (ae D3).1);clear u D3;obtain⟨nX,hnX⟩:∃x,w3.heap.size=x:=⟨_,rfl⟩;rw[hnX]at X4;have cT:=fun d os=>Calls.regrown_of (w:=w3.alloc (.cells #[.string S,.string L] 41)) (d:=d) (os:=os) (ae CS _);have cB:=fun d os=>Calls.regrown_of (w:=w3.alloc (.cells #[.string S,.string L] 41)) (d:=d) (os:=os) (fJ S L _);have cK:=fun d os=>Calls.regrown_of (w:=w3.alloc (.cells #[.string S,.string L] 41)) (d:=d) (os:=os) (ae CK _);have k0:=cell_regrown ((ae D4).cell 0 _ rfl);have k1:=cell_regrown ((ae D4).cell 1 _ rfl);have k2:=cell_regrown ((ae X4).cell 0 _ rfl);have k3:=cell_regrown ((ae X4).cell 1 _ rfl);go_wp2_with fail;try rw[hnX]
  clear hnX;generalize w3.alloc (.cells #[.string S,.string L] 41)=w4 at *
  refine wp_region_quiet_below ab (by kernel_rfl) ?_;repeat (first|go_big_quiet_step (fail)|go_big_quiet_step (exact cT _ _)|go_big_quiet_step (exact cB _ _)|go_big_quiet_step (exact cK _ _))
  refine a01 ?_;intro zw al;obtain⟨⟨dq,osq⟩,ac⟩:=al;have j:=below_regrown w4 dq osq;rw[←ac]at j;have v:=af (ak (ae K) j);have X5:=af ((ae X4).later j (ae X4).1);clear ac j k0 k1 k2 k3 cT cB cK K D4 X4;generalize zw=w5 at *
  have o:=af (ae CR S L (ae b).1 (ae b).2.2.2 w5 (ae v));have HU:Hid (∃U:ByteArray,fm S L = .tuple #[.agg #[.string U,.string ⟨#[]⟩],.bool true]/\gr U ⟨#[]⟩ X 1000000 = .agg #[.string U,.string F]/\U.size<=4000):=by
   rcases ae ad with⟨_,hr⟩|⟨_,hr⟩
   . exact⟨X,hr,ae q,(ae b).2.1⟩
   . exact⟨S,hr,ae HA,(ae b).1⟩
  obtain⟨U,Q,R,E⟩:=ae HU;rw[Q]at o;have H:=af (ae CA U E);rw[R]at H;have I:=af (ae CR U F E (ae b).2.2.1);rw[ae D U]at I;clear Q R E HU;have cX:=(ae X5).cells (n:=2) rfl;go_wp2_with fail;refine(ae o).mono ?_;rintro e w6 ⟨rfl,Y⟩;have y:=af (ak (ae v) Y);clear Y v X5 cX o;have A:=af ((ae y).alloc (ae y).size (.cells #[.string U,.string ⟨#[]⟩] 41));have U7:=af (au w6 #[.string U,.string ⟨#[]⟩] 41);clear y;obtain⟨nU,hnU⟩:∃x,w6.heap.size=x:=⟨_,rfl⟩;rw[hnU]at U7;have cU:=(ae U7).cells (n:=2) rfl;go_wp2_with fail;refine(ae H _ (ae A)).mono ?_;rintro e w8 ⟨rfl,Z⟩;have B:=af (ak (ae A) Z);clear Z A cU U7;go_wp2_with fail;refine(ae I _ (ae B)).mono ?_;rintro e w9 ⟨rfl,aa⟩;have C:=af (ak (ae B) aa);clear aa B;have J:=af ((ae C).alloc (ae C).size (.cells #[.string X,.string ⟨#[]⟩] 41));have Y10:=af (au w9 #[.string X,.string ⟨#[]⟩] 41);clear C;obtain⟨nY,hnY⟩:∃x,w9.heap.size=x:=⟨_,rfl⟩;rw[hnY]at Y10;have cY:=(ae Y10).cells (n:=2) rfl;go_wp2;go_ret;exact⟨rfl,ae J⟩
 . go_enter func7,ntmps7;go_wp2;go_ret;exact⟨rfl,a0c _ _⟩
def Mb:En:=⟨⟨#[46,46]⟩,0,0,0,0,0,0,⟨#[]⟩⟩
theorem Oi:bC [Mb]=false:=by decide +kernel
theorem sC(a:Option Addr)(cap:Nat)(l:List En)(n:Nat)(C:l.length=n)(m:Int)(w:World)(h:jK w a l)(A:(n:Int)<=1048576)(d:(n:Int)<=(cap:Int))
  (z:∀i,i<n->(l.getD i default).n.size<=1048576/\((l.getD i default).t.size:Int)<=9223372036854775807) (y:bC l=false) (r:w.cell? ⟨1,0,none⟩=some (.int .i64 m)) (q:io w) :
  CD 27 #[.slice a n cap] w (.tuple #[.agg #[.string ⟨#[]⟩,.string ⟨#[]⟩],.bool false]):=by
 have u:=af (fun W (hb:Below w.heap.size w W)=>(hb.cell (p:=⟨1,0,none⟩) (World.block_lt_of_cell? _ _ r)).trans r);have s:Hid (∀W,Below w.heap.size w W->io W):=fun W hb=>(hb.cell (p:=⟨0,0,none⟩) (World.block_lt_of_cell? _ _ q)).trans q;have j:=af (fun W (hb:Below w.heap.size w W)=>ui a cap l n C m W (h.later hb) A d z (ae u W hb) (ae s W hb));have f:Hid (Below w.heap.size w (w.alloc (.cells #[.string ⟨#[]⟩,.string ⟨#[]⟩] 41))):=(a0c _ _).alloc (a0a _) _;have g:=af (au w #[.string ⟨#[]⟩,.string ⟨#[]⟩] 41);obtain⟨W1,hW1⟩:∃x,w.alloc (.cells #[.string ⟨#[]⟩,.string ⟨#[]⟩] 41)=x:=⟨_,rfl⟩;rw[hW1]at f g
 . rw[y]at j;clear h z r q u s y;go_enter func27,ntmps27;go_wp2_with fail;refine(ae j _ (ae f)).mono ?_;rintro e x1 ⟨rfl,b⟩;have k:=af (ak (ae f) b);have c:=af ((ae g).later b (ae g).1);have D:=(ae c).cell 0 _ rfl;have E:=(ae c).cell 1 _ rfl;have f0:=(ae c).free 0 (by decide);have f1:=(ae c).free 1 (by decide);have B:=(ae c).1;clear b j f g hW1;have TZ:=af (aj (o:=1) (aj (o:=0) (ae k) (a0a _) (.string ⟨#[]⟩)) (a0a _) (.string ⟨#[]⟩));have ZZ:=af (((ae c).set 0 (.string ⟨#[]⟩)).set 1 (.string ⟨#[]⟩));go_wp2;have z0:=(ae ZZ).cell 0 _ rfl;have z1:=(ae ZZ).cell 1 _ rfl;exact a0t (v:=.tuple #[.agg #[.string ⟨#[]⟩,.string ⟨#[]⟩],.bool false]) (by simp[results,results27,go_sem,z0,z1]) rfl ⟨rfl,ae TZ⟩
theorem Hv(a:Option Addr)(len cap:Nat)(zs:List Int)(m:Int)(w:World)(w0:qj .u8 w a len cap zs)(hm:w.cell? ⟨1,0,none⟩=some (.int .i64 m))(hg:io w)(hO:dO w)(T:mO w) :
  CD 8 #[.slice a len cap] w (.bool true):=by
 have P:prog.follows .mixedOrders=true:=by kernel_rfl
 obtain⟨⟨z,s⟩,hc,j⟩:=p9 w0;have L:=af (eK a len cap z w s hc j);have f:=af (fun W (hb:Below w.heap.size w W)=>a0b ((hb.cell (p:=⟨1,0,none⟩) (World.block_lt_of_cell? _ _ hm)).trans hm) (a0b (hg.later hb) (a0b (hO.later hb) (T.later hb))));unfold maxLen at j;clear w0 s hm hg hO T;by_cases hl:(len:Int)<=1048576
 .
  go_enter func8,ntmps8;go_wp2_with fail;refine(ae L).mono ?_;rintro e w1 ⟨⟨l1,l2,n,rfl,o,I⟩,N⟩;have u:=af N;clear N L j hc;have s1:=ct l1;have s2:=ct l2;have M:=af (gZ o);have E:=af (vK o I (n:=0) (by decide));have F:=af (vK o I (n:=-5) (by decide));obtain⟨S,hS⟩:∃x,aV l1=x:=⟨_,rfl⟩;obtain⟨X,hX⟩:∃x,aV l2=x:=⟨_,rfl⟩;rw[hS]at M s1 E F;rw[hX]at s2 E F;rw[hS,hX];have c:=af (a0b s1 s2);have U:=af (fun W (b:Below w.heap.size w W)=>cR S ⟨#[]⟩ X 0 m W (by have:=ae c;omega) (by have:=ae c;omega) (ae f W b).1 (ae f W b).2.1 (ae f W b).2.2.1 (ae f W b).2.2.2);have V:=af (fun W (b:Below w.heap.size w W)=>cR S ⟨#[]⟩ X (-5) m W (by have:=ae c;omega) (by have:=ae c;omega) (ae f W b).1 (ae f W b).2.1 (ae f W b).2.2.1 (ae f W b).2.2.2);have Z:=af (fun W=>eZ S ⟨#[]⟩ X 0 W (by have:=ae c;omega) (by have:=ae c;omega));have Y:=af (fun W (b:Below w.heap.size w W)=>fX S ⟨#[]⟩ m W (by have:=ae c;omega) (ae f W b).1 (ae f W b).2.1 (ae f W b).2.2.1);have CN:=af (fun W (b:Below w.heap.size w W) (g:Nat) (T:Blk W g (iu Mb))=>sC (some ⟨g,0,none⟩) 1 [Mb] 1 rfl m W (J8 T) (by decide) (by decide) (fun i hi=>(by obtain rfl:i=0:=(by omega);exact⟨by decide,by decide⟩)) Oi (ae f W b).1 (ae f W b).2.1);unfold ee at U V Z;rw[ae E]at U Z;rw[ae F]at V;rw[ae M]at Y;have hT:((some l1).isSome&&decide ((⟨#[]⟩:ByteArray)=⟨#[]⟩))=true:=by simp
  rw[hT]at Y;clear hT hS hX s1 s2 o I;have v:=af ((ae u).alloc (ae u).size (.cells #[.string S,.string ⟨#[]⟩] 41));have J:=af (au w1 #[.string S,.string ⟨#[]⟩] 41);clear u;obtain⟨nD,hnD⟩:∃x,w1.heap.size=x:=⟨_,rfl⟩;rw[hnD]at J;have cD:=(ae J).cells (n:=2) rfl;go_wp2_with fail;refine(ae U _ (ae v)).mono ?_;rintro e w3 ⟨rfl,H⟩;try rw[hnD]
  clear hnD;generalize w1.alloc (.cells #[.string S,.string ⟨#[]⟩] 41)=w2 at *
  have y:=af (ak (ae v) H);have D3:=af ((ae J).later H (ae J).1);clear H v J cD;have A:=af ((ae y).alloc (ae y).size (.cells #[.string S,.string ⟨#[]⟩] 41));have X4:=af (au w3 #[.string S,.string ⟨#[]⟩] 41);have R:=af ((ae D3).later ((a0c _ _).alloc (a0a _) (.cells #[.string S,.string ⟨#[]⟩] 41)) (ae D3).1);clear y D3;obtain⟨nX,hnX⟩:∃x,w3.heap.size=x:=⟨_,rfl⟩;rw[hnX]at X4;have cD:=(ae R).cells (n:=2) rfl;go_wp2_with fail;refine(ae V _ (ae A)).mono ?_;rintro e w5 ⟨rfl,l⟩;try rw[hnX]
  clear hnX;generalize w3.alloc (.cells #[.string S,.string ⟨#[]⟩] 41)=w4 at *
  have B:=af (ak (ae A) l);have D5:=af ((ae R).later l (ae R).1);have X5:=af ((ae X4).later l (ae X4).1);clear l A R X4 cD;have k:=af ((ae B).alloc (ae B).size (.cells #[.string S,.string ⟨#[]⟩] 41));have Y6:=af (au w5 #[.string S,.string ⟨#[]⟩] 41);have D6:=af ((ae D5).later ((a0c _ _).alloc (a0a _) (.cells #[.string S,.string ⟨#[]⟩] 41)) (ae D5).1);have X6:=af ((ae X5).later ((a0c _ _).alloc (a0a _) (.cells #[.string S,.string ⟨#[]⟩] 41)) (ae X5).1);clear B D5 X5;obtain⟨nY,hnY⟩:∃x,w5.heap.size=x:=⟨_,rfl⟩;rw[hnY]at Y6;have q:=af ((ae k).alloc (ae k).size (.cells #[.string ⟨#[46,46]⟩,.int .i64 0,.int .i64 0,.int .i64 0,.int .i64 0,.int .i64 0,.int .i64 0,.string ⟨#[]⟩] 35));have P6:Hid (Blk ((w5.alloc (.cells #[.string S,.string ⟨#[]⟩] 41)).alloc (.cells #[.string ⟨#[46,46]⟩,.int .i64 0,.int .i64 0,.int .i64 0,.int .i64 0,.int .i64 0,.int .i64 0,.string ⟨#[]⟩] 35)) (w5.heap.size+1) (iu Mb)):=by
   have:=au (w5.alloc (.cells #[.string S,.string ⟨#[]⟩] 41)) #[.string ⟨#[46,46]⟩,.int .i64 0,.int .i64 0,.int .i64 0,.int .i64 0,.int .i64 0,.int .i64 0,.string ⟨#[]⟩] 35;rw[show(w5.alloc (.cells #[.string S,.string ⟨#[]⟩] 41)).heap.size=w5.heap.size+1 by simp]at this;exact this
  have t:=af (ae CN _ (ae q) _ (ae P6));rw[hnY]at t;go_wp2_with fail;refine(ae t).mono ?_;rintro e w8 ⟨rfl,O⟩;have r:(w5.alloc (.cells #[.string S,.string ⟨#[]⟩] 41)).heap.size<=((w5.alloc (.cells #[.string S,.string ⟨#[]⟩] 41)).alloc (.cells #[.string ⟨#[46,46]⟩,.int .i64 0,.int .i64 0,.int .i64 0,.int .i64 0,.int .i64 0,.int .i64 0,.string ⟨#[]⟩] 35)).heap.size:=by simp
  have h:=((a0c _ _).alloc (a0a _) (.cells #[.string ⟨#[46,46]⟩,.int .i64 0,.int .i64 0,.int .i64 0,.int .i64 0,.int .i64 0,.int .i64 0,.string ⟨#[]⟩] 35):Below (w5.alloc (.cells #[.string S,.string ⟨#[]⟩] 41)).heap.size (w5.alloc (.cells #[.string S,.string ⟨#[]⟩] 41)) _).trans (O.mono r);try rw[hnY]
  clear hnY;generalize w5.alloc (.cells #[.string S,.string ⟨#[]⟩] 41)=w6 at *
  have C:=af (ak (ae k) h);have D8:=af ((ae D6).later h (ae D6).1);have X8:=af ((ae X6).later h (ae X6).1);have Y8:=af ((ae Y6).later h (ae Y6).1);clear h O r k D6 X6 Y6 t q P6;have D:=af ((ae C).alloc (ae C).size (.cells #[.string ⟨#[]⟩,.string ⟨#[]⟩] 41));have Z9:=af (au w8 #[.string ⟨#[]⟩,.string ⟨#[]⟩] 41);have D9:=af ((ae D8).later ((a0c _ _).alloc (a0a _) (.cells #[.string ⟨#[]⟩,.string ⟨#[]⟩] 41)) (ae D8).1);have X9:=af ((ae X8).later ((a0c _ _).alloc (a0a _) (.cells #[.string ⟨#[]⟩,.string ⟨#[]⟩] 41)) (ae X8).1);have Y9:=af ((ae Y8).later ((a0c _ _).alloc (a0a _) (.cells #[.string ⟨#[]⟩,.string ⟨#[]⟩] 41)) (ae Y8).1);clear C D8 X8 Y8;obtain⟨nZ,hnZ⟩:∃x,w8.heap.size=x:=⟨_,rfl⟩;rw[hnZ]at Z9;have cT:=fun d os=>Calls.regrown_of (w:=w8.alloc (.cells #[.string ⟨#[]⟩,.string ⟨#[]⟩] 41)) (d:=d) (os:=os) (ae Z _);have cB:=fun d os=>Calls.regrown_of (w:=w8.alloc (.cells #[.string ⟨#[]⟩,.string ⟨#[]⟩] 41)) (d:=d) (os:=os) (fJ S ⟨#[]⟩ _);have cO:=fun d os=>Calls.regrown_of (w:=w8.alloc (.cells #[.string ⟨#[]⟩,.string ⟨#[]⟩] 41)) (d:=d) (os:=os) (ae Y _ (ak (ae D) (below_regrown _ d os)));have k0:=cell_regrown ((ae D9).cell 0 _ rfl);have k1:=cell_regrown ((ae D9).cell 1 _ rfl);have k2:=cell_regrown ((ae X9).cell 0 _ rfl);have k3:=cell_regrown ((ae X9).cell 1 _ rfl);have k4:=cell_regrown ((ae Y9).cell 0 _ rfl);have k5:=cell_regrown ((ae Y9).cell 1 _ rfl);go_wp2_with fail;try rw[hnZ]
  clear hnZ;generalize w8.alloc (.cells #[.string ⟨#[]⟩,.string ⟨#[]⟩] 41)=w9 at *
  refine wp_region_quiet_below P (by kernel_rfl) ?_;repeat (first|go_big_quiet_step (fail)|go_big_quiet_step (exact cT _ _)|go_big_quiet_step (exact cB _ _)|go_big_quiet_step (exact cO _ _))
  refine a01 ?_;intro zw aa;obtain⟨⟨dq,osq⟩,Q⟩:=aa;have G:=below_regrown w9 dq osq;rw[←Q]at G;have K:=af (ak (ae D) G);clear Q G k0 k1 k2 k3 k4 k5 cT cB cO D D9 X9 Y9;go_wp2;go_ret;exact⟨rfl,ae K⟩
 . go_enter func8,ntmps8;go_wp2;go_ret;exact⟨rfl,a0c _ _⟩
theorem pt(a:Option Addr)(len cap:Nat)(z:Nat->Int)(w:World)(h:Src w a len z)(hc:len<=cap)(hm:len<=maxLen) :
  Calls prog 25 #[.slice a len cap] w fun e w'=>(∃t l:ByteArray,e = .returned (.agg #[.string t,.string l])/\t.size<=10000/\l.size<=10000)/\Below w.heap.size w w':=by
 have N:=af ((a0c w.heap.size w).alloc (a0a _) (.cells #[.string ⟨#[]⟩,.string ⟨#[]⟩] 41));have P0:=af (au w #[.string ⟨#[]⟩,.string ⟨#[]⟩] 41);have U:=af (fun W (hb:Below w.heap.size w W)=>h.later hb);have HM:=af hm;clear h hm;go_enter func25,ntmps25;go_wp2_with fail;refine(eK a len cap z _ (ae U _ (ae N)) hc (ae HM)).mono ?_;rintro e w1 ⟨⟨l1,l2,n,rfl,V,Y⟩,u⟩;have O:=af (ak (ae N) u);have T:=af ((ae P0).later u (by simp));clear u N P0 V Y;obtain⟨A,Bx,hT,hA,I⟩:=Nl l1 l2 n;have s1:=ct l1;have s2:=ct l2;have CT:=af (fun W=>eZ (aV l1) ⟨#[]⟩ (aV l2) n W (by omega) (by omega));unfold ee at CT;rw[hT]at CT;obtain⟨S,hS⟩:∃x,aV l1=x:=⟨_,rfl⟩;obtain⟨X,hX⟩:∃x,aV l2=x:=⟨_,rfl⟩;rw[hS,hX]at CT;rw[hS]at s1;rw[hS,hX];have s:=af (a0b s1 (a0b hA I));clear hT hS hX s1 s2 hA I;have P:=af ((ae O).alloc (ae O).size (.cells #[.string S,.string ⟨#[]⟩] 41));have D:=af (au w1 #[.string S,.string ⟨#[]⟩] 41);have G:=af ((ae T).later ((a0c _ _).alloc (a0a _) (.cells #[.string S,.string ⟨#[]⟩] 41)) (ae T).1);clear O T;obtain⟨nD,hnD⟩:∃x,w1.heap.size=x:=⟨_,rfl⟩;rw[hnD]at D;go_wp2_with fail;refine(kJ a len cap z _ (ae U _ (ae P)) hc (ae HM)).mono ?_;rintro e w3 ⟨rfl,B,k,m⟩;try rw[hnD]
 clear hnD;generalize w1.alloc (.cells #[.string S,.string ⟨#[]⟩] 41)=w2 at *
 have B3:=af (ak (ae P) k);have D3:=af ((ae D).later k (ae D).1);have P3:=af ((ae G).later k (ae G).1);have E:=af (a1x (ae D).1);have j:=af (a1x (ae G).1);have c:=af (a0C (ae G).1);clear k m P D G U;obtain⟨b,hb⟩:∃x,w2.heap.size=x:=⟨_,rfl⟩;rw[hb]at B E j c;rw[hb];clear hb;go_wp2_with fail;refine(bG _ b _ 8 _ B (by omega) (by omega) (by omega)).mono ?_;rintro e w4 ⟨r,rfl,r0,r1,g,M⟩;have K:=af ((ae B3).trans (M.kn.1.mono (ae c)));have Q:=af ((ae D3).kn M.kn (ae E));have H:=af ((ae P3).kn M.kn (ae j));clear B M B3 D3 P3;have cD:=(ae Q).cells (n:=2) rfl;by_cases hr:r=0
 . subst hr;go_wp2_with fail;refine(yQ _ b _ S _ g (by omega) (by have:=ae s;omega)).mono ?_;rintro e w5 ⟨⟨t,rfl,ht⟩,i,Z⟩;have C:=af ((ae K).trans (Z.mono (ae c)));have HT:=af ht;have d:=i.lt;have p:Hid (Blk w5 w.heap.size _):=(ae H).later Z (Nat.lt_of_le_of_ne (ae c) (ae j));clear g Z K Q H cD ht;go_wp2_with fail;refine(of_le _ b _ w5.heap.size 0 3 3 100 _ _ (i.alloc _) (by omega) (by omega) (by omega) (a1S d) (oZ w5 _ _ _ _) (qP (by decide) (by decide) (by decide))).mono ?_;rintro e w6 ⟨t0,m,rfl,J,f⟩;have B6:=af ((ae C).trans (((a0c b w5).alloc (a0C d) _).trans f.1 |>.mono (ae c)));have L:=af (((ae p).later ((a0c _ _).alloc (a0a _) _) (ae p).1).kn f.kn (ae j));have R:=af m;clear i J f C p m d;have F:=af (((ae L).set 0 (.string t)).set 1 (.string t0));have q:=af (aj (aj (ae B6) (a0a _) (.string t) (o:=0)) (a0a _) (.string t0) (o:=1));have p5:=(ae L).cells (n:=2) rfl;have f5:=(ae L).frees (n:=2) rfl;clear L B6;go_wp2;have z0:=(ae F).cell 0 _ rfl;have z1:=(ae F).cell 1 _ rfl;exact a0t (v:=.agg #[.string t,.string t0]) (by simp[results,results25,go_sem,z0,z1]) rfl ⟨⟨t,t0,rfl,by have:=ae HT;omega,by have:=ae R;omega⟩,ae q⟩
 .
  have aa:(r == 0)=false:=by simpa using hr
  go_wp2_with fail;refine(ae CT _).mono ?_;rintro e w5 ⟨rfl,y⟩;have C:=af (ak (ae K) y);have p:=af ((ae H).later y (ae H).1);clear g y K Q H cD;have F:=af (((ae p).set 0 (.string A)).set 1 (.string Bx));have q:=af (aj (aj (ae C) (a0a _) (.string A) (o:=0)) (a0a _) (.string Bx) (o:=1));have p5:=(ae p).cells (n:=2) rfl;have f5:=(ae p).frees (n:=2) rfl;clear p C;go_wp2;have z0:=(ae F).cell 0 _ rfl;have z1:=(ae F).cell 1 _ rfl;exact a0t (v:=.agg #[.string A,.string Bx]) (by simp[results,results25,go_sem,z0,z1]) rfl ⟨⟨A,Bx,rfl,(ae s).2.1,(ae s).2.2⟩,ae q⟩
theorem GC(t l:ByteArray)(b:t.size<=10000)(c:l.size<=10000):(∃A,fm t l = .tuple #[.agg #[.string A,.string ⟨#[]⟩],.bool true]/\(aQ A).isSome=true/\A.size<=10000)∨fm t l = .tuple #[.agg #[.string ⟨#[]⟩,.string ⟨#[]⟩],.bool false]:=by
 unfold fm ee;cases a:iV l with
 | some x=>
  rw[Ey]at a
  split at a
  . rename_i hc;obtain rfl:=a02 a;simp only[a0h]at hc;have:=zx l;exact .inl ⟨_,rfl,hc.2,by omega⟩
  . cases a
 | none=>
  simp only
  split
  . rename_i hc;exact .inl ⟨_,rfl,hc,b⟩
  . exact .inr rfl
theorem GB{t:ByteArray}(h:(aQ t).isSome=true):fm t ⟨#[]⟩ = .tuple #[.agg #[.string t,.string ⟨#[]⟩],.bool true]:=by
 unfold fm;rw[rH (by decide +kernel),h];rfl
theorem Hx(a:Option Addr)(len cap:Nat)(zs:List Int)(m:Int)(w:World)(w0:qj .u8 w a len cap zs)(V:w.cell? ⟨1,0,none⟩=some (.int .i64 m))(hg:io w)(hO:dO w)(hP:mO w) :
  CD 6 #[.slice a len cap] w (.bool true):=by
 have aa:prog.follows .mixedOrders=true:=by kernel_rfl
 obtain⟨⟨z,C⟩,hc,u⟩:=p9 w0;have P:=af (pt a len cap z w C hc u);have o:=af (fun W (hb:Below w.heap.size w W)=>a0b ((hb.cell (p:=⟨1,0,none⟩) (World.block_lt_of_cell? _ _ V)).trans V) (a0b (hg.later hb) (a0b (hO.later hb) (hP.later hb))));unfold maxLen at u;clear w0 C V hg hO hP;by_cases hl:(len:Int)<=1048576
 .
  go_enter func6,ntmps6;go_wp2_with fail;refine(ae P).mono ?_;rintro e w1 ⟨⟨T,L,rfl,S⟩,R⟩;have E:=af R;clear R P u hc;have j:=af S;clear S;have i:=af ((ae E).alloc (ae E).size (.cells #[.string T,.string L] 41));have y:=af (au w1 #[.string T,.string L] 41);clear E;obtain⟨nD,hnD⟩:∃x,w1.heap.size=x:=⟨_,rfl⟩;rw[hnD]at y;have G:=(ae y).cells (n:=2) rfl;have J:=af (fun W (k:Below w.heap.size w W)=>eO T L m W (by have:=ae j;omega) (by have:=ae j;omega) (ae o W k).1 (ae o W k).2.1 (ae o W k).2.2.1 (ae o W k).2.2.2);have K:=af (fun W=>pY T L W (by have:=ae j;omega) (by have:=ae j;omega));unfold ee at J K;rcases GC T L (ae j).1 (ae j).2 with⟨A,I,X,hA⟩|I
  .
   have Q:=af (GB X);have U:=af (fun W (k:Below w.heap.size w W)=>eO A ⟨#[]⟩ m W (by omega) (by decide) (ae o W k).1 (ae o W k).2.1 (ae o W k).2.2.1 (ae o W k).2.2.2);have Y:=af (fun W (k:Below w.heap.size w W)=>fX A ⟨#[]⟩ m W (by omega) (ae o W k).1 (ae o W k).2.1 (ae o W k).2.2.1);unfold ee at U;rw[ae Q]at U;have hT:(true&&decide ((⟨#[]⟩:ByteArray)=⟨#[]⟩))=true:=by simp
   rw[X,hT]at Y;clear hT X hA Q;rw[I]at J K;clear I;go_wp2_with fail;refine(ae J _ (ae i)).mono ?_;rintro e w3 ⟨rfl,f⟩;try rw[hnD]
   clear hnD;generalize w1.alloc (.cells #[.string T,.string L] 41)=w2 at *
   have c:=af (ak (ae i) f);have D:=af ((ae y).later f (ae y).1);clear f i y G;have q:=af ((ae c).alloc (ae c).size (.cells #[.string A,.string ⟨#[]⟩] 41));have X4:=af (au w3 #[.string A,.string ⟨#[]⟩] 41);have M:=af ((ae D).later ((a0c _ _).alloc (a0a _) (.cells #[.string A,.string ⟨#[]⟩] 41)) (ae D).1);clear c D;obtain⟨nX,hnX⟩:∃x,w3.heap.size=x:=⟨_,rfl⟩;rw[hnX]at X4;have G:=(ae M).cells (n:=2) rfl;go_wp2_with fail;refine(ae K _).mono ?_;rintro e w5 ⟨rfl,g⟩;try rw[hnX]
   clear hnX;generalize w3.alloc (.cells #[.string A,.string ⟨#[]⟩] 41)=w4 at *
   have d:=af (ak (ae q) g);have X5:=af ((ae X4).later g (ae X4).1);clear g q M X4 G;have r:=af ((ae d).alloc (ae d).size (.cells #[.string A,.string ⟨#[]⟩] 41));have Y6:=af (au w5 #[.string A,.string ⟨#[]⟩] 41);have X6:=af ((ae X5).later ((a0c _ _).alloc (a0a _) (.cells #[.string A,.string ⟨#[]⟩] 41)) (ae X5).1);clear d X5;obtain⟨nY,hnY⟩:∃x,w5.heap.size=x:=⟨_,rfl⟩;rw[hnY]at Y6;have v:=(ae X6).cells (n:=2) rfl;have H:=(ae Y6).cells (n:=2) rfl;go_wp2_with fail;refine(fJ A ⟨#[]⟩ _).mono ?_;rintro e w7 ⟨rfl,b⟩;try rw[hnY]
   clear hnY;generalize w5.alloc (.cells #[.string A,.string ⟨#[]⟩] 41)=w6 at *
   have s:=af (ak (ae r) b);have X7:=af ((ae X6).later b (ae X6).1);have Y7:=af ((ae Y6).later b (ae Y6).1);clear b r X6 Y6 v H;have v:=(ae X7).cells (n:=2) rfl;have H:=(ae Y7).cells (n:=2) rfl;clear H Y7;go_wp2_with fail;refine(ae U _ (ae s)).mono ?_;rintro e w8 ⟨rfl,l⟩;have t:=af (ak (ae s) l);have X8:=af ((ae X7).later l (ae X7).1);clear l s X7 v;have F:=af ((ae t).alloc (ae t).size (.cells #[.string A,.string ⟨#[]⟩] 41));have Z9:=af (au w8 #[.string A,.string ⟨#[]⟩] 41);have X9:=af ((ae X8).later ((a0c _ _).alloc (a0a _) (.cells #[.string A,.string ⟨#[]⟩] 41)) (ae X8).1);clear t X8;obtain⟨nZ,hnZ⟩:∃x,w8.heap.size=x:=⟨_,rfl⟩;rw[hnZ]at Z9;have v:=(ae X9).cells (n:=2) rfl;have Z:=(ae Z9).cells (n:=2) rfl;go_wp2_with fail;refine(ae Y _ (ae F)).mono ?_;rintro e w10 ⟨rfl,h⟩;try rw[hnZ]
   clear hnZ;generalize w8.alloc (.cells #[.string A,.string ⟨#[]⟩] 41)=w9 at *
   have N:=af (ak (ae F) h);have X10:=af ((ae X9).later h (ae X9).1);have Z10:=af ((ae Z9).later h (ae Z9).1);clear h F X9 Z9 v Z;have v:=(ae X10).cells (n:=2) rfl;have Z:=(ae Z10).cells (n:=2) rfl;go_wp2_with fail;refine(fJ A ⟨#[]⟩ _).mono ?_;rintro e w11 ⟨rfl,B⟩;have O:=af (ak (ae N) B);clear B;go_wp2;go_ret;exact⟨rfl,ae O⟩
  .
   have ab:=af I;rw[I]at J K;clear I;go_wp2_with fail;refine(ae J _ (ae i)).mono ?_;rintro e w3 ⟨rfl,f⟩;try rw[hnD]
   clear hnD;generalize w1.alloc (.cells #[.string T,.string L] 41)=w2 at *
   have c:=af (ak (ae i) f);have D:=af ((ae y).later f (ae y).1);clear f i y G;have q:=af ((ae c).alloc (ae c).size (.cells #[.string ⟨#[]⟩,.string ⟨#[]⟩] 41));have X4:=af (au w3 #[.string ⟨#[]⟩,.string ⟨#[]⟩] 41);have M:=af ((ae D).later ((a0c _ _).alloc (a0a _) (.cells #[.string ⟨#[]⟩,.string ⟨#[]⟩] 41)) (ae D).1);clear c D;obtain⟨nX,hnX⟩:∃x,w3.heap.size=x:=⟨_,rfl⟩;rw[hnX]at X4;have G:=(ae M).cells (n:=2) rfl;go_wp2_with fail;refine(ae K _).mono ?_;rintro e w5 ⟨rfl,g⟩;try rw[hnX]
   clear hnX;generalize w3.alloc (.cells #[.string ⟨#[]⟩,.string ⟨#[]⟩] 41)=w4 at *
   have d:=af (ak (ae q) g);have X5:=af ((ae X4).later g (ae X4).1);clear g q M X4 G;have r:=af ((ae d).alloc (ae d).size (.cells #[.string ⟨#[]⟩,.string ⟨#[]⟩] 41));have Y6:=af (au w5 #[.string ⟨#[]⟩,.string ⟨#[]⟩] 41);have X6:=af ((ae X5).later ((a0c _ _).alloc (a0a _) (.cells #[.string ⟨#[]⟩,.string ⟨#[]⟩] 41)) (ae X5).1);clear d X5;obtain⟨nY,hnY⟩:∃x,w5.heap.size=x:=⟨_,rfl⟩;rw[hnY]at Y6;have v:=(ae X6).cells (n:=2) rfl;have H:=(ae Y6).cells (n:=2) rfl;go_wp2_with fail;refine(fJ ⟨#[]⟩ ⟨#[]⟩ _).mono ?_;rintro e w7 ⟨rfl,b⟩;try rw[hnY]
   clear hnY;generalize w5.alloc (.cells #[.string ⟨#[]⟩,.string ⟨#[]⟩] 41)=w6 at *
   have s:=af (ak (ae r) b);have X7:=af ((ae X6).later b (ae X6).1);have Y7:=af ((ae Y6).later b (ae Y6).1);clear b r X6 Y6 v H;have v:=(ae X7).cells (n:=2) rfl;have H:=(ae Y7).cells (n:=2) rfl;go_wp2_with fail;refine(fJ ⟨#[]⟩ ⟨#[]⟩ _).mono ?_;rintro e w8 ⟨rfl,l⟩;have t:=af (ak (ae s) l);clear l;go_wp2;go_ret;exact⟨rfl,ae t⟩
 . go_enter func6,ntmps6;go_wp2;go_ret;exact⟨rfl,a0c _ _⟩
theorem Il{l:List En}(h:bC l=true){i:Nat}(a:i<l.length):atN l (l.getD i default).n=(i:Int):=by
 simp only[bC,a0h,a0o,a05]at h;exact((kf l i).mp (h.1 i (List.mem_range.mpr a))).2.1
theorem wZ(l:List En)(j:Nat)(a:j<l.length):(dZ l).getD j ⟨#[]⟩=(l.getD j default).n:=by
 unfold dZ;simp[List.getD,List.getElem?_map,List.getElem?_eq_getElem a]
def Gn:ByteArray:=⟨#[110,111,98,111,100,121]⟩
theorem zu:(∀v∈fD,v.data.toList≠Gn.data.toList)/\∀j,j<6->(fM j).data.toList≠Gn.data.toList:=by decide +kernel
theorem OE{l l':List En}(b:we l)(d:dZ l'=dZ l):atN l' Gn = -1:=by
 refine oh fun j c e=>?_;have e2:=bE.1 e;have a:j<l.length:=by rw[←er l,←d,er];exact c
 have e3:(l'.getD j default).n=(l.getD j default).n:=by rw[←wZ l' j c,←wZ l j a,d]
 rw[e3]at e2;have g:=(fg b.1).2;have f:l.getD j default∈l:=by
  simp only[List.getD,List.getElem?_eq_getElem a,a1c];exact a1Q _
 rcases b.2 _ f with h|⟨i,k,h⟩
 . exact zu.1 _ h e2
 . rw[h]at e2;exact zu.2 i (by omega) e2
theorem wo(a b:Option Addr)(c d n s t:Nat)(l:List ByteArray)(w:World)(r:l.length=n)(p:jN w s (.slice a n c) l)(hb:jN w t (.slice b n d) l)(v:n<=100) :
  CD 11 #[.slice a n c,.slice b n d] w (.bool true):=by
 have x:(n:Int)<=100:=by omega
 have m:=af p;have o:=af hb;have j:=af r;clear v p hb r;go_enter func11,ntmps11;go_wp2_with fail
 go_loopw [5] (fun i wr=>∃k:Nat,k<=n/\i = .int .i64 k/\Below w.heap.size w wr) (fun i _=>n-(intOf i).toNat)
 case atStart=>exact⟨0,a0g _,rfl,a0c _ _⟩
 case round=>
  obtain⟨k,q,rfl,e⟩:=hrel;have y:=af q;have f:=af e;by_cases h:k<n
  .
   obtain⟨g,rfl⟩:=(ae m).somes (by rw[ae j];omega);obtain⟨g',rfl⟩:=(ae o).somes (by rw[ae j];omega);obtain⟨c0,_⟩:=jN.cell (ae j) ((ae m).later e (a0a _)) k h;obtain⟨u,_⟩:=jN.cell (ae j) ((ae o).later e (a0a _)) k h;clear q e;generalize l.getD k ⟨#[]⟩=M at *
   go_wp2_with fail
   go_quiet (fail)
   have T9:Hid (Below w.heap.size w (wr.drewN nq)):=below_drewN (ae f) nq;generalize wr.drewN nq=x2 at *
   clear c0 u;go_wp2;go_roundw
   case rel=>exact⟨k+1,by omega,by go_num,ae T9⟩
   case measure=>simp[intOf];omega
  . go_wp2;go_ret;exact⟨rfl,e⟩
theorem Hy(a:Option Addr)(len cap:Nat)(zs:List Int)(m:Int)(w:World)(w0:qj .u8 w a len cap zs)(hm:w.cell? ⟨1,0,none⟩=some (.int .i64 m))(hg:io w)(hO:dO w) :
  CD 3 #[.slice a len cap] w (.bool true):=by
 obtain⟨⟨z,H⟩,hc,u⟩:=p9 w0;have U:=af (pu a len cap z w H hc u);have C:=af (fun W (hb:Below w.heap.size w W)=>a0b ((hb.cell (p:=⟨1,0,none⟩) (World.block_lt_of_cell? _ _ hm)).trans hm) (a0b (hg.later hb) (hO.later hb)));unfold maxLen at u;clear w0 H hm hg hO;by_cases hl:(len:Int)<=1048576
 .
  go_enter func3,ntmps3;go_wp2_with fail;refine(ae U).mono ?_;rintro e w1 ⟨⟨L0,S,rfl,a0,hF,ab⟩,ac⟩;have J:=af ac;have G:=af a0;have CN:=af (fun W (f:Below w.heap.size w W)=>jY S m W (by have:=ae G;omega) (ae C W f).1 (ae C W f).2.1 (ae C W f).2.2);have CS:=af (fun W=>p7 S W (by have:=ae G;omega));have Q:=af (fun W (f:Below w.heap.size w W)=>fY S m W (by have:=ae G;omega) (ae C W f).1 (ae C W f).2.1 (ae C W f).2.2);have CF:=af (fun x W (f:Below w.heap.size w W)=>lh S x m W (by have:=ae G;omega) (ae C W f).1 (ae C W f).2.1 (ae C W f).2.2);have hz:=kl (s:=S);have c:Hid ((aQ S=none->(aQ S).getD []=[])/\(∀i,i<((aQ S).getD []).length->wG ((aQ S).getD []) (((aQ S).getD []).getD i default).n = .tuple #[.string (((aQ S).getD []).getD i default).t,.bool true])/\wG ((aQ S).getD []) Gn = .tuple #[.string ⟨#[]⟩,.bool false]):=by
   refine⟨fun h=>by rw[h];rfl,?_⟩;rcases a1:aQ S with _|l'
   . exact⟨fun i hi=>absurd hi (by simp),rfl⟩
   . have a6:=NC a1;exact⟨fun i hi=>rx (Il a6 hi),wH (OE hF (Ct hF.1 ab a1))⟩
  obtain⟨zg,hzg⟩:∃z,aQ S=z:=⟨_,rfl⟩;rw[hzg]at CN CS Q CF hz c;have F:Hid (zg.isSome=false->(zg.getD []).length=0):=by
   intro h;cases zg with
   | none=>rfl
   | some x=>cases h
  obtain⟨l,hL⟩:∃l,zg.getD []=l:=⟨_,rfl⟩;rw[hL]at CN CS Q CF hz c F;obtain⟨ok,hok⟩:∃b,zg.isSome=b:=⟨_,rfl⟩;rw[hok]at Q F;obtain⟨n,hn⟩:∃n,l.length=n:=⟨_,rfl⟩;have q:=af ((er l).trans hn);have X:=af hn;rw[hn]at hz F;have a9:(n:Int)<=6:=by omega
  have HZ:=af hz;clear ac U u hc a0 hF ab hzg hL hok hn hz;go_wp2_with fail;refine(ae CN _ (ae J)).mono ?_;rintro e w2 ⟨⟨v,rfl,y⟩,ad⟩;have R:=af (ak (ae J) ad);obtain⟨a2,c2,rfl,_,_⟩:=y.formN (ae q);have Y:=af y;clear ad J y CN;go_wp2_with fail;refine(ae CS _).mono ?_;rintro e w3 ⟨⟨v,rfl,y⟩,M⟩;have T:=af (ak (ae R) M);have L:=af ((ae Y).later M (a0a _));obtain⟨a3,c3,rfl,_,_⟩:=y.formN (ae q);have CT:=af (wo a2 a3 c2 c3 n _ _ (dZ l) w3 (ae q) (ae L) y (by have:=ae HZ;omega));clear M R Y y CS;go_wp2_with fail;refine(ae CT).mono ?_;rintro e w4 ⟨rfl,N⟩;have K:=af (ak (ae T) N);have Z:=af ((ae L).later N (a0a _));clear N T L CT;go_wp2_with fail;refine(ae Q _ (ae K)).mono ?_;rintro e w5 ⟨⟨v,rfl,y⟩,O⟩;have a4:=af (ak (ae K) O);have aa:=af ((ae Z).later O (a0a _));obtain⟨a5,c5,rfl,_,_⟩:=y.formN (ae X);have V:=af y;clear O K Z y Q;go_wp2_with fail
  go_loopw [7,8,9] (fun i _ _ wr=>∃k:Nat,k<=n/\i = .int .i64 k/\Below w5.heap.size w5 wr) (fun i _ _ _=>n-(intOf i).toNat)
  case atStart=>exact⟨0,a0g _,rfl,a0c _ _⟩
  case round=>
   obtain⟨k,hk,rfl,P⟩:=hrel;have D:=af P;have o:=af (ak (ae a4) P);clear P;by_cases d:k<n
   .
    have ao:(k:Int)<(n:Int):=by omega
    have HK:=af d;obtain⟨g,rfl⟩:=(ae aa).somes (by rw[ae q];omega);obtain⟨g',rfl⟩:=bD.somes (ae V) (by rw[ae X];omega);have al:=(ae c).2.1 k (by rw[ae X];exact d);have I:=af (ae CF (l.getD k default).n wr (ae o));rw[al]at I;have E:=af (fun W f=>a0b (jN.cell (ae q) ((ae aa).later (B:=w5.heap.size) (w':=W) f (a0a _)) k d).1 (wC (ae X) ((ae V).later (B:=w5.heap.size) (w':=W) f (a0a _)) k d));rw[wZ l k (by rw[ae X];exact d)]at E;have c0:=(ae E _ (ae D)).1;clear hk d al;generalize l.getD k default=en at *
    go_wp2_with fail;refine(ae I).mono ?_;rintro e w6 ⟨rfl,r⟩;have j:=af (ak (ae D) r);obtain⟨q0,d0,d1,d2,d3,d4,d5,d6,d7⟩:=ae E _ (ae j);clear r D o c0 I E;go_wp2_with fail
    go_quiet (fail)
    have T9:Hid (Below w5.heap.size w5 (w6.drewN nq)):=below_drewN (ae j) nq;generalize w6.drewN nq=x2 at *
    clear q0 d0 d1 d2 d3 d4 d5 d6 d7 j;go_wp2;go_roundw
    case rel=>exact⟨k+1,by have:=ae HK;omega,by go_num,ae T9⟩
    case measure=>have:=ae HK;simp[intOf];omega
   .
    have ao:¬ (k:Int)<(n:Int):=by omega
    have A:=af (ae CF Gn wr (ae o));rw[(ae c).2.2]at A;unfold Gn at A;clear hk d;go_wp2_with fail;refine(ae A).mono ?_;rintro e w6 ⟨rfl,r⟩;have j:=af (ak (ae o) r);clear r D o A;cases ok
    .
     have a7:(n:Int)=0:=by have:=ae F rfl;omega
     go_wp2;go_ret;exact⟨rfl,ae j⟩
    . go_wp2;go_ret;exact⟨rfl,ae j⟩
 . go_enter func3,ntmps3;go_wp2;go_ret;exact⟨rfl,a0c _ _⟩
end Go.Proofs.YtlpmnnjlmjffpaaGreatDoor
