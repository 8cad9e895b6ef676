/- Of what the proof is made: 3 texts, one behind the other. -/
import Derived.Test.YtggknepmhjfohaaGreatDoorM8
import Derived.Test.YtggknepmhjfohaaGreatDoorM5
import Derived.Laws.Bits64b
import Derived.Laws.CopyOwn
import Derived.Deep.RegionLaw
import Derived.Test.YtggknepmhjfohaaGreatDoorM2
set_option maxRecDepth 100000
set_option linter.unusedSimpArgs false
set_option linter.unusedVariables false
set_option maxHeartbeats 4000000
namespace Go.Proofs.YtggknepmhjfohaaGreatDoor
open Go.Proofs.Tryz
open Go.RowKit
variable {Q:List (List UInt8)}{e:TypeId}{g:Nat}{p:ByteArray}{w:World}{x:List UInt8}
theorem FV(c:Nat)(a:(c:Int)<=1000):bits .and .u64 (c:Int) 4294967295=(c:Int):=by
 have h:=Go.bits_and_u64_nat c 4294967295 (by omega) (by decide);have e:c &&& 4294967295=c:=by
  have:=Nat.and_two_pow_sub_one_eq_mod c 32;rw[show(2 ^ 32-1:Nat)=4294967295 by decide]at this;rw[this];omega
 rw[e]at h;exact h
theorem wrap_small(c:Nat)(a:(c:Int)<=1000):IntKind.u64.wrap (c:Int)=(c:Int):=by
 simp only[IntKind.wrap,IntKind.signed,IntKind.bits];simp;omega
theorem EU(c:Nat)(w:World)(a:(c:Int)<=1000) :
  Calls prog 80 #[.int .u64 1,.int .u64 (c:Nat)] w fun e w'=>e = .returned (.tuple #[.int .u64 0,.int .u64 (c:Nat)])/\w'=w:=by
 have e1:bits .and .u64 1 4294967295=1:=by decide +kernel
 have e0:bits .and .u64 0 4294967295=0:=by decide +kernel
 have e2:=FV c a;have e3:(c:Int)/4294967296=0:=by omega
 have e4:=wrap_small c a;go_enter func80,ntmps80;go_wp2
 go_ret2
 exact⟨rfl,rfl⟩
theorem mul_one(c:Nat)(w:World)(b:(c:Int)<=1000) :
  Calls prog 57 #[.int .u64 1,.int .u64 (c:Nat)] w fun e w'=>e = .returned (.tuple #[.int .u64 0,.int .u64 (c:Nat)])/\w'=w:=by
 go_enter func57,ntmps57;go_wp2_with (go_at_call 80;refine(EU c _ b).mono ?_;rintro e w' ⟨rfl,a⟩;rw[a];clear a)
 go_ret2
 exact⟨rfl,rfl⟩
theorem Im{base n:Nat}{xs:List Value}(h:w.ownsRow base e 1 (.slice (some ⟨g,0,none⟩) n n) n xs):w.heap[g]?=some (.cells xs.toArray e (0,0)):=by
 rcases h.2 with⟨e,_⟩|⟨g',cap,b,e',_,c,_,_,d,a⟩
 . cases e
 . simp only[a0K,a0i,a0A,a0V]at e';obtain⟨rfl,-,rfl⟩:=e';rw[a0F (by simp;omega)]at a;rw[c,←a]
theorem Gw{base n:Nat}{xs:List Value}(h:w.heap[g]?=some (.cells xs.toArray e (0,0)))(b:xs.length=n)(hb:base<=g)(a:n<=maxLen):w.ownsRow base e 1 (.slice (some ⟨g,0,none⟩) n n) n xs:=
 ⟨by omega,.inr ⟨g,n,xs.toArray,rfl,hb,h,a0a _,a,by simp;omega,by simp;exact a0F (by omega)⟩⟩
def iy(v:Int)(k c:Nat):List Value:=List.replicate k (.int .i64 v)++List.replicate (c-k) (.int .i64 0)
theorem uA(v:Int)(k c:Nat)(h:k<=c):(iy v k c).length=c:=by simp[iy];omega
theorem qp(v:Int)(k m c:Nat)(h:k+m<=c):splice (iy v k c) k (List.replicate m (.int .i64 v))=iy v (k+m) c:=by
 unfold splice iy;rw[a3G (by simp),a0F (by simp),a24,List.drop_of_length_le (by simp)];simp only[a0w,List.drop_replicate,a1b];rw[←a0M,List.replicate_append_replicate]
 congr 2
 omega
theorem Ec{k c:Nat}{v:Int}(h:w.heap[g]?=some (.cells (iy v k c).toArray e (0,0)))(j:Nat)(a:j<k):w.cell? ((⟨g,0,none⟩:Addr).add j)=some (.int .i64 v):=by
 have e1:(⟨g,0,none⟩:Addr).add j=⟨g,j,none⟩:=by unfold Addr.add;split<;>simp_all
 rw[e1];simp only[World.cell?,h,iy];simp[List.getElem?_append,a]
theorem IG(v:Int)(m j:Nat)(u:Value)(h:(List.replicate m (Value.int .i64 v))[j]?=some u):j<m/\u = .int .i64 v:=by
 rw[List.getElem?_replicate]at h;by_cases a:j<m
 . rw[a0d a]at h;exact⟨a,(a1N h).symm⟩
 . rw[a0e a]at h;cases h
theorem IH(v:Int)(m:Nat):∀u∈List.replicate m (Value.int .i64 v),u.oneCell'=true:=by
 intro u a;rw[(List.mem_replicate.1 a).2];rfl
theorem EO(n:Nat):(madeCells (Value.int .i64 0).cells (n*1)).toList=iy 0 0 n:=by
 unfold iy;simp only[a25,a1b,a20,Nat.mul_one];apply List.ext_getElem?;intro i;by_cases a:i<n
 . rw[List.getElem?_replicate,a0d a,List.getElem?_eq_getElem (by simpa[madeCells]using a)];simp[madeCells,Value.cells,a1k]
 . rw[List.getElem?_eq_none (by simp[madeCells];omega),List.getElem?_eq_none (by simp;omega)]
theorem nz(v:Int)(c cap g o:Nat)(w:World)(Y:w.cell? ⟨g,o,none⟩=some (.int .i64 v))(Q:1<=c)(W:(c:Int)<=1000) :
  Calls prog 28 #[.slice (some ⟨g,o,none⟩) 1 cap,.int .i64 (c:Nat)] w fun e w'=>e = .returned (.slice (some ⟨w.heap.size,0,none⟩) c c)/\ak w' w.heap.size (.slice (some ⟨w.heap.size,0,none⟩) c c) (List.replicate c v)/\Below w.heap.size w w':=by
 obtain⟨i0,hi,S,T,U⟩:=a0t Tryz.infoInt;have hg:g<w.heap.size:=World.block_lt_of_cell? _ _ Y;have ao:=wrap_small c W;have F:(prog.info? 3).map (·.size)=some 1:=by kernel_rfl
 have D:([.int .i64 v]:List Value).length=Nat.min 1 c:=by show 1=min 1 c;omega
 have z:0+([.int .i64 v]:List Value).length<=(iy v 0 c).length:=by rw[uA v 0 c (by omega)];simpa using Q
 have R:∀u∈([.int .i64 v]:List Value),u.oneCell'=true:=by intro u X;simp at X;subst X;rfl
 have HP:Hid (∀w1:World,w1.cell? ⟨g,o,none⟩=some (.int .i64 v)->∀(j:Nat) (u:Value),([.int .i64 v]:List Value)[j]?=some u->w1.cell? ((⟨g,o,none⟩:Addr).add j)=some u):=by
  intro w1 h j u t
  match j,t with
  | 0,t=>simp at t;subst t;simpa[Addr.add]using h
 have M:=af D;have K:=af z;clear D z;go_enter func28,ntmps28;go_wp2_with (first
  | (at_make;refine a1y _ rfl _ _ 56 rfl w.heap.size 3 i0 (.int .i64 0) 1 a0D hi S T .i64 .i64 _ _ c rfl rfl rfl rfl (by rw[U];omega) (by unfold maxLen;omega) (a0a _) ?_;intro w1 d b;rw[EO]at d;have i:=Im d;have q:Below w.heap.size w w1:=(a0c _ _).grown b (a0a _) (fun k h=>by cases h);have E:=(q.cell (p:=⟨g,o,none⟩) hg).trans Y;clear d b)
  | (refine wpList_copy_splice rfl (.tmp 31) (.tmp 32) 56 56 rfl 3 a0D F _ _ _ _ _ _ rfl rfl w.heap.size 0 (iy v 0 c) 3 i [.int .i64 v] (ae M) (fun _=>⟨rfl,⟨g,o,none⟩,rfl,ae HP _ E⟩) (ae K) R w.heap.size w q (a0a _) ?_;intro w2 A x)
  | (go_at_call 57;refine(mul_one c _ W).mono ?_;rintro e w' ⟨rfl,Z⟩;rw[Z];clear Z))
 have l:w2.heap[w.heap.size]?=some (.cells (iy v 1 c).toArray 3 (0,0)):=by
  have:=ae A;rw[show([.int .i64 v]:List Value)=List.replicate 1 (.int .i64 v)from rfl,qp v 0 1 c (by omega)]at this;simpa using this
 clear A E i q
 go_loopw [8] (fun n wr=>∃k:Nat,1<=k/\k<=c/\n = .int .i64 k/\wr.heap[w.heap.size]?=some (.cells (iy v k c).toArray 3 (0,0))/\Below w.heap.size w wr) (fun n _=>c-(intOf n).toNat)
 case atStart=>exact⟨1,a0a _,Q,rfl,l,x⟩
 case round=>
  obtain⟨k,ab,ad,rfl,a,r⟩:=hrel;clear l x;by_cases al:k<c
  .
   have ac:(k:Int)<(c:Int):=by omega
   obtain⟨m,hm⟩:∃m,m=Nat.min k (c-k):=⟨_,rfl⟩;have C:m<=k:=by rw[hm];exact Nat.min_le_left _ _
   have f:k+m<=c:=by
    have:m<=c-k:=by rw[hm];exact a26 _ _
    omega
   have B:1<=m:=by
    have:m=min k (c-k):=hm;omega
   have N:Hid ((List.replicate m (Value.int .i64 v)).length=Nat.min k (c-k)):=by show _=_;rw[a0w];exact hm
   have O:Hid (∀(j:Nat) (u:Value),(List.replicate m (Value.int .i64 v))[j]?=some u->wr.cell? ((⟨w.heap.size,0,none⟩:Addr).add j)=some u):=by
    intro j u t;obtain⟨Q,rfl⟩:=IG v m j u t;exact Ec a j (by omega)
   have L:Hid (k+(List.replicate m (Value.int .i64 v)).length<=(iy v k c).length):=by show _<=_;rw[uA v k c (by omega),a0w];exact f
   have P:=af (qp v k m c f);have V:=af (a0b C (a0b f B));have an:(k:Int)+(m:Int)<=1000:=by omega
   have J:=af a;have H:=af r;have aa:¬ c=k:=by omega
   clear hm C f B a r;go_wp2_with fail
   go_region_law (first|(refine step_copy_splice rfl (.tmp 41) (.tmp 44) 56 56 rfl 3 a0D F (some ⟨w.heap.size,k,none⟩) (some ⟨w.heap.size,0,none⟩) (c-k) (c-k) k c (by simp[Act.eval,Act.put]) (by simp[Act.eval,Act.put]) w.heap.size k (iy v k c) 3 (ae J) (List.replicate m (.int .i64 v)) (ae N) (fun _=>⟨rfl,⟨w.heap.size,0,none⟩,rfl,ae O⟩) (ae L) (IH v m) w.heap.size w (ae H).drew (a0a _) ?_;intro w3 s y))
   rw[ae P]at s;have I:=af (ae s);have G:=af y;clear s y;have a0:=bF ((k:Int)+(m:Int)) (by omega) (by omega);go_simp;go_wp2;go_roundw
   case rel=>exact⟨k+m,by omega,(ae V).2.1,by go_num,ae I,ae G⟩
   case measure=>have:=ae V;simp[intOf];omega
  .
   have:k=c:=by omega
   subst this;have HO:Hid (ak wr w.heap.size (.slice (some ⟨w.heap.size,0,none⟩) k k) (List.replicate k v)):=by
    show World.ownsRow _ _ _ _ _ (List.replicate k v).length _;rw[a0w];refine Gw ?_ (by simp) (a0a _) (by unfold maxLen;omega);rw[a];simp[iy]
   clear a;go_wp2;go_ret;exact⟨rfl,ae HO,r⟩
theorem JG{t:List UInt8}(h:Q++[x]=dt [] t):dt [] (t++[47])=(Q++[x])++[[]]:=by
 rw[ml,a0d rfl,h]
theorem Lq{t:List UInt8}{b:UInt8}(h:Q++[x]=dt [] t)(hb:¬ b=47):dt [] (t++[b])=Q++[x++[b]]:=by
 rw[ml,a0e hb,←h];simp
theorem vR(s:ByteArray)(f k:Nat):(s.extract f k).data.toList=(s.data.toList.take k).drop f:=by
 rw[Lib.extract_data];simp[List.drop_take]
theorem JP(s:ByteArray)(f k:Nat)(c:f<=k)(b:k<s.size):(s.extract f (k+1)).data.toList=(s.extract f k).data.toList++[s[k]]:=by
 have a:k<s.data.toList.length:=by simpa using b
 rw[vR,vR,a1e a,List.drop_append_of_le_length (by simp;omega)];rfl
theorem tQ(s:ByteArray)(k:Nat)(b:k<s.size):s.data.toList.take (k+1)=s.data.toList.take k++[s[k]]:=by
 have a:k<s.data.toList.length:=by simpa using b
 rw[a1e a];rfl
theorem JO(s:ByteArray)(k:Nat):(s.extract k k).data.toList=[]:=by
 rw[vR];simp
theorem I5(s:ByteArray)(k:Nat)(a:k<s.size)(hb:s[k].toNat=47)(h:Q++[x]=dt [] (s.data.toList.take k)):dt [] (s.data.toList.take (k+1))=(Q++[x])++[[]]:=by
 have e:s[k]=47:=UInt8.toNat_inj.1 hb;rw[tQ s k a,e];exact JG h
theorem KO(s:ByteArray)(f k:Nat)(b:f<=k)(a:k<s.size)(hb:¬ s[k].toNat=47)(h:Q++[(s.extract f k).data.toList]=dt [] (s.data.toList.take k)):dt [] (s.data.toList.take (k+1))=Q++[(s.extract f (k+1)).data.toList]:=by
 have e:¬ s[k]=47:=fun e=>hb (by rw[e];rfl);rw[tQ s k a,JP s f k b a];exact Lq h e
theorem Eu(s:ByteArray)(w:World)(M:s.size<=1048576) :
  Calls prog 71 #[.string s,.int .u8 47,.int .i64 ((s.size:Int)+1)] w fun e w'=>∃v P,e = .returned v/\dy w' w.heap.size v P/\P.map (·.data.toList)=mK s.data.toList/\Below w.heap.size w w':=by
 obtain⟨i0,K,A,B,C⟩:=a0t Tryz.infoStr;have X:(s.size:Int)<=1048576:=by omega
 have F:=af M;have H:=af (dy.lit w w.heap.size (a0a _));have G:Hid (Below w.heap.size w (w.alloc (.cells #[] 9))):=(a0c _ _).alloc (a0a _) _;clear M;go_enter func71,ntmps71;go_wp2_with fail
 go_loopw [7,8,9] (fun v fr i wr=>∃(k f:Nat) (P:List ByteArray),k<=s.size/\f<=k/\i = .int .i64 k/\fr = .int .i64 f/\dy wr w.heap.size v P/\P.length<=k/\P.map (·.data.toList)++[(s.extract f k).data.toList]=dt [] (s.data.toList.take k)/\Below w.heap.size w wr) (fun _ _ i _=>s.size-(intOf i).toNat)
 case atStart=>exact⟨0,0,[],a0g _,a0a _,rfl,rfl,ae H,a0a _,by simp[dt],ae G⟩
 case round=>
  obtain⟨k,f,P,S,Q,rfl,rfl,hq,t,q,j⟩:=hrel;obtain⟨m,hm⟩:∃m,P.length=m:=⟨_,rfl⟩;rw[hm]at t;have V:(m:Int)<=(k:Int):=by omega
  have T:(k:Int)<=(s.size:Int):=by omega
  have R:(f:Int)<=(k:Int):=by omega
  have y:=af hm;obtain⟨va,vc,rfl⟩:=hq.formN hm;have n:=af (hq.own hm);have p:=j.size;have d:=af j;have g:=af q;have I:=af Q;have N:=af S;have D:Hid (m+1<=maxLen/\(m+1)*16<=140737488355328):=by have:=ae F;show _/\_;unfold maxLen;omega
  have z:=af t;clear hq j hm q t;by_cases u:k<s.size
  .
   have L:(k:Int)<(s.size:Int):=by omega
   have W:(m:Int)<(s.size:Int)+1:=by omega
   have o:=af u;by_cases hb:s[k].toNat=47
   .
    have E:=af (I5 s k u hb (ae g));go_wp2_with (at_builtin;refine a0x _ rfl _ _ 53 rfl w.heap.size 9 i0 (.string ByteArray.empty) 1 16 underlying53 K A B C rfl (by decide) _ _ _ rfl (a0r (ae n) _) ⟨wr.heap.size,0,none⟩ 1 1 [.string (s.extract f k)] rfl rfl (bD _ _ rfl _ _) (Do _) (ae D).1 (ae D).2 (ax p _) ?_;intro v' x2 c a l;clear l);have h:=aG (v:=.slice va m vc) a (ae n) (a0a _) p (ae d);have x:=af (kf (b:=s.extract f k) (ae y) c);have r:=af h;clear c a h;go_wp2;go_roundw
    case rel=>
     refine⟨k+1,k+1,P++[s.extract f k],by have:=ae o;omega,a0a _,by go_num,by go_num,ae x,by have:=ae y;have:=ae z;simp;omega,?_,ae r⟩;rw[ae E,JO];simp
    case measure=>have:=ae o;simp[intOf];omega
   .
    have O:¬ (s[k].toNat:Int)=47:=by omega
    have E:=af (KO s f k (ae I) u hb (ae g));go_wp2;go_roundw
    case rel=>
     refine⟨k+1,f,P,by have:=ae o;omega,by have:=ae I;omega,by go_num,rfl,?_,by have:=ae y;have:=ae z;omega,?_,ae d⟩
     . have:=ae n;rw[←ae y]at this ⊢;exact this
     . rw[ae E]
    case measure=>have:=ae o;simp[intOf];omega
  .
   obtain rfl:k=s.size:=by have:=ae N;omega
   go_wp2_with (at_builtin;refine a0x _ rfl _ _ 53 rfl w.heap.size 9 i0 (.string ByteArray.empty) 1 16 underlying53 K A B C rfl (by decide) _ _ _ rfl (a0r (ae n) _) ⟨wr.heap.size,0,none⟩ 1 1 [.string (s.extract f s.size)] rfl rfl (bD _ _ rfl _ _) (Do _) (ae D).1 (ae D).2 (ax p _) ?_;intro v' x2 c a l;clear l);have h:=aG (v:=.slice va m vc) a (ae n) (a0a _) p (ae d);have x:=af (kf (b:=s.extract f s.size) (ae y) c);have r:=af h;clear c a h;go_wp2;go_ret;refine⟨_,_,rfl,ae x,?_,ae r⟩;have J:=ae g;have U:s.data.toList.take s.size=s.data.toList:=a0F (by simp);rw[U]at J;rw[a0I];exact J
theorem Dn(b:UInt8):okB b=true<->(97<=b.toNat/\b.toNat<=122)∨(48<=b.toNat/\b.toNat<=57)∨b.toNat=46∨b.toNat=45∨b.toNat=95:=by
 simp[okB]
theorem mC{p:ByteArray}{m:Nat}(a:m<p.size)(h:okB p[m]=false):fi p.data.toList=false:=by
 have:p.data.toList.all okB=false:=by
  rw[List.all_eq_false];refine⟨p[m],?_,by simp[h]⟩;have e:p[m]=p.data.toList[m]'(by simpa using a):=rfl;rw[e];exact a2r _
 simp[fi,this]
theorem pN(h:inB (p.size:Int) 1 10=false):fi p.data.toList=false:=by
 have hb:=dZ.1 h;have e:p.data.toList.length=p.size:=by simp
 have:(decide (1<=p.data.toList.length)&&decide (p.data.toList.length<=10))=false:=by rw[e];simp;omega
 simp only[fi];rw[←Bool.and_assoc (decide _),this];simp
theorem Du(h:∀j (c:j<p.size),okB p[j]=true)(d:inB (p.size:Int) 1 10=true)(b:(p.toList == [46])=false)(h2:(p.toList == [46,46])=false):fi p.data.toList=true:=by
 obtain⟨g,i⟩:=aC.1 d;have e:p.data.toList.length=p.size:=by simp
 have a:p.data.toList.all okB=true:=by
  rw[a1m];intro x f;obtain⟨j,c,rfl⟩:=a18 f;exact h j (by rw[←e];exact c)
 rw[Lib.toList_data]at b h2;simp only[fi,a,b,h2,e];simp;omega
theorem zr(h:(p.toList == [46])=true):fi p.data.toList=false:=by
 rw[Lib.toList_data]at h;rw[beq_iff_eq.1 h];decide
theorem u9(h:(p.toList == [46,46])=true):fi p.data.toList=false:=by
 rw[Lib.toList_data]at h;rw[beq_iff_eq.1 h];decide
theorem Dk{s:ByteArray}{l:List ByteArray}(b:l.map (·.data.toList)=mK s.data.toList){j:Nat}(a:j<l.length)(h:fi (l.getD j ByteArray.empty).data.toList=false):lN s.data.toList=false:=by
 have:(mK s.data.toList).all fi=false:=by
  rw[←b,List.all_eq_false];refine⟨(l.getD j ByteArray.empty).data.toList,?_,by rw[h];simp⟩;rw[a2C];exact⟨l.getD j ByteArray.empty,by simp[List.getD,a],rfl⟩
 simp[lN,this]
theorem y7{s:ByteArray}{l:List ByteArray}(b:l.map (·.data.toList)=mK s.data.toList)(h:∀j,j<l.length->fi (l.getD j ByteArray.empty).data.toList=true):lN s.data.toList=decide (l.length<=4):=by
 have e:(mK s.data.toList).length=l.length:=by rw[←b];simp
 have:(mK s.data.toList).all fi=true:=by
  rw[←b,a1m];intro x c;rw[a2C]at c;obtain⟨y,d,rfl⟩:=c;obtain⟨j,a,rfl⟩:=a18 d;have:=h j a;simpa[List.getD,a]using this
 simp[lN,this,e]
theorem mq:∀(l cur x:List UInt8),x∈dt cur l->x.length<=cur.length+l.length
 | [],cur,x,h=>by simp[dt]at h;subst h;simp
 | b :: l,cur,x,h=>by
  unfold dt at h
  split at h
  .
   rcases a08.1 h with rfl|h
   . simp
   . have:=mq l [] x h;simp at this ⊢;omega
  . have:=mq l (cur++[b]) x h;simp at this ⊢;omega
theorem tM(s:ByteArray)(w:World)(hs:s.size<=1048576) :
  CD 45 #[.string s] w (.bool (lN s.data.toList)):=by
 have F:=af hs;have ab:(s.size:Int)<=1048576:=by omega
 clear hs;go_enter func45,ntmps45;go_wp2_with fail;refine(Eu s _ (ae F)).mono ?_;rintro e x1 ⟨v,l,rfl,hq,o,M⟩;obtain⟨n,hn⟩:∃n,l.length=n:=⟨_,rfl⟩;obtain⟨va,vc,rfl⟩:=hq.formN hn;have Q:0<n:=by
  have e:=congrArg List.length o;have:=CW s.data.toList [];cases h:dt [] s.data.toList with
  | nil=>exact absurd h this
  | cons a t=>
   simp only[mK,h,a0N,a0E]at e;omega
 have aa:n<=s.size+1:=by
  have e:=congrArg List.length o;have:=nV s.data.toList [];simp only[a0N]at e;have h2:s.data.toList.length=s.size:=by simp
  unfold mK at e;omega
 have a6:(n:Int)<=1048577:=by omega
 obtain⟨g,rfl,hg,N⟩:=hq.at hn Q;have PL:Hid (∀k,k<n->(l.getD k ByteArray.empty).size<=1048576):=by
  intro k T;have O:(l.getD k ByteArray.empty).data.toList∈mK s.data.toList:=by
   rw[←o,a2C];exact⟨l.getD k ByteArray.empty,by simp[List.getD,hn,T],rfl⟩
  have:=mq s.data.toList [] _ O;have e1:(l.getD k ByteArray.empty).data.toList.length=(l.getD k ByteArray.empty).size:=by simp
  have e2:s.data.toList.length=s.size:=by simp
  have:=ae F;simp only[a00]at *
  omega
 have HC:=af N;have B:=af M;have E:=af (fun j (x:j<l.length)=>@Dk s l o j x);have z:=af (@y7 s l o);rw[hn]at E z;clear hq o N M Q aa F ab;go_wp2_with fail
 go_loop [4,5,6] (fun i _ _=>∃k:Nat,k<=n/\i = .int .i64 k/\∀j,j<k->fi (l.getD j ByteArray.empty).data.toList=true) (fun i _ _=>n-(intOf i).toNat)
 case atStart=>exact⟨0,a0g _,rfl,fun j x=>absurd x (by omega)⟩
 case round=>
  obtain⟨k,T,rfl,C⟩:=hrel;have r:=af C;have HK:=af T;clear C;by_cases A:k<n
  .
   have ao:(k:Int)<(n:Int):=by omega
   have hc:=ae HC k A;have f:=af (ae E k A);have U:Hid (fi (l.getD k ByteArray.empty).data.toList=true->∀j,j<k+1->fi (l.getD j ByteArray.empty).data.toList=true):=by
    intro e j x;by_cases G:j=k
    . rw[G];exact e
    . exact ae r j (by omega)
   have J:=af A;clear T r;have V:=af (ae PL k A);generalize l.getD k ByteArray.empty=p at *
   have a7:(p.size:Int)<=9223372036854775807:=by
    have:=ae V;omega
   go_wp2_with fail
   go_loop [6] (fun q=>∃m:Nat,m<=p.size/\q = .int .i64 m/\∀j (x:j<p.size),j<m->okB p[j]=true) (fun q=>p.size-(intOf q).toNat)
   case atStart=>exact⟨0,a0g _,rfl,fun j _ x=>absurd x (by omega)⟩
   case round=>
    obtain⟨m,Z,rfl,D⟩:=hrel;have u:=af D;have K:=af Z;clear D;by_cases P:m<p.size
    .
     have a5:(m:Int)<(p.size:Int):=by omega
     have b:=af P;have y:Hid (okB p[m]=true->∀j (x:j<p.size),j<m+1->okB p[j]=true):=by
      intro e j x an;by_cases G:j=m
      . subst G;exact e
      . exact ae u j x (by omega)
     have a0:(0:Int)<=(p[m].toNat:Int):=by omega
     have al:(p[m].toNat:Int)<256:=by have:=p[m].toNat_lt;omega
     clear Z u K;cases d:okB p[m]
     .
      have H:¬ ((97<=p[m].toNat/\p[m].toNat<=122)∨(48<=p[m].toNat/\p[m].toNat<=57)∨p[m].toNat=46∨p[m].toNat=45∨p[m].toNat=95):=fun e=>Bool.noConfusion (d.symm.trans ((Dn _).2 e));have e46:¬ (p[m].toNat:Int)=46:=by omega
      have e45:¬ (p[m].toNat:Int)=45:=by omega
      have e95:¬ (p[m].toNat:Int)=95:=by omega
      by_cases a1:(97:Int)<=(p[m].toNat:Int)
      .
       have a2:¬ (p[m].toNat:Int)<=122:=by omega
       have a3:(48:Int)<=(p[m].toNat:Int):=by omega
       clear H;have HP:=af (ae f (mC (ae b) d));go_wp2;all_goals first
        | (go_ret;exact⟨am (ae HP).symm,ae B⟩)
        | (exfalso;rename_i hx;first|omega|(simp at hx;omega))
        | (exfalso;rename_i hx _ _;simp at hx;omega)
      .
       by_cases a3:(48:Int)<=(p[m].toNat:Int)
       .
        have a4:¬ (p[m].toNat:Int)<=57:=by omega
        clear H;have HP:=af (ae f (mC (ae b) d));go_wp2;all_goals first
         | (go_ret;exact⟨am (ae HP).symm,ae B⟩)
         | (exfalso;rename_i hx;first|omega|(simp at hx;omega))
         | (exfalso;rename_i hx _ _;simp at hx;omega)
       .
        skip
        clear H;have HP:=af (ae f (mC (ae b) d));go_wp2;all_goals first
         | (go_ret;exact⟨am (ae HP).symm,ae B⟩)
         | (exfalso;rename_i hx;first|omega|(simp at hx;omega))
         | (exfalso;rename_i hx _ _;simp at hx;omega)
     .
      have R:=(Dn p[m]).1 d;rcases R with⟨a1,a2⟩|⟨a1,a2⟩|a1|a1|a1
      .
       have S:(97:Int)<=(p[m].toNat:Int):=by omega
       have b2:(p[m].toNat:Int)<=122:=by omega
       clear a1 a2;go_wp2;all_goals first
        | (
          go_round
          case rel=>exact⟨m+1,by have:=ae b;omega,by go_num,ae y d⟩
          case measure=>have:=ae b;simp[intOf];omega)
        | (exfalso;rename_i hx;first|omega|(simp at hx;omega))
        | (exfalso;rename_i hx _ _;simp at hx;omega)
      .
       have S:¬ (97:Int)<=(p[m].toNat:Int):=by omega
       have b2:(48:Int)<=(p[m].toNat:Int):=by omega
       have b3:(p[m].toNat:Int)<=57:=by omega
       clear a1 a2;go_wp2;all_goals first
        | (
          go_round
          case rel=>exact⟨m+1,by have:=ae b;omega,by go_num,ae y d⟩
          case measure=>have:=ae b;simp[intOf];omega)
        | (exfalso;rename_i hx;first|omega|(simp at hx;omega))
        | (exfalso;rename_i hx _ _;simp at hx;omega)
      .
       have S:(p[m].toNat:Int)=46:=by omega
       clear a1;go_wp2;all_goals first
        | (
          go_round
          case rel=>exact⟨m+1,by have:=ae b;omega,by go_num,ae y d⟩
          case measure=>have:=ae b;simp[intOf];omega)
        | (exfalso;rename_i hx;first|omega|(simp at hx;omega))
        | (exfalso;rename_i hx _ _;simp at hx;omega)
      .
       have S:(p[m].toNat:Int)=45:=by omega
       clear a1;go_wp2;all_goals first
        | (
          go_round
          case rel=>exact⟨m+1,by have:=ae b;omega,by go_num,ae y d⟩
          case measure=>have:=ae b;simp[intOf];omega)
        | (exfalso;rename_i hx;first|omega|(simp at hx;omega))
        | (exfalso;rename_i hx _ _;simp at hx;omega)
      .
       have S:(p[m].toNat:Int)=95:=by omega
       clear a1;go_wp2;all_goals first
        | (
          go_round
          case rel=>exact⟨m+1,by have:=ae b;omega,by go_num,ae y d⟩
          case measure=>have:=ae b;simp[intOf];omega)
        | (exfalso;rename_i hx;first|omega|(simp at hx;omega))
        | (exfalso;rename_i hx _ _;simp at hx;omega)
    .
     obtain rfl:m=p.size:=by have:=ae K;omega
     have L:Hid (∀j (x:j<p.size),okB p[j]=true):=fun j x=>ae u j x x;clear u P Z;cases I:inB (p.size:Int) 1 10
     . have HP:=af (ae f (pN I));go_wp2_with (go_at_call 72;refine(aF _ _ _ _).mono ?_;rintro e w9 ⟨rfl,c⟩;rw[c];clear c;rw[I]);go_ret;exact⟨am (ae HP).symm,ae B⟩
     .
      cases W:(p.toList == [46])
      .
       cases X:(p.toList == [46,46])
       .
        have HP:=af (ae U (Du (ae L) I W X));go_wp2_with (go_at_call 72;refine(aF _ _ _ _).mono ?_;rintro e w9 ⟨rfl,c⟩;rw[c];clear c;rw[I])
        go_round
        case rel=>exact⟨k+1,by have:=ae J;omega,by go_num,ae HP⟩
        case measure=>have:=ae J;simp[intOf];omega
       .
        have HP:=af (ae f (u9 X));have ad:p.toList=[46,46]:=by simpa using X
        go_wp2_with (go_at_call 72;refine(aF _ _ _ _).mono ?_;rintro e w9 ⟨rfl,c⟩;rw[c];clear c;rw[I]);go_ret;exact⟨am (ae HP).symm,ae B⟩
      .
       have HP:=af (ae f (zr W));have ac:p.toList=[46]:=by simpa using W
       go_wp2_with (go_at_call 72;refine(aF _ _ _ _).mono ?_;rintro e w9 ⟨rfl,c⟩;rw[c];clear c;rw[I]);go_ret;exact⟨am (ae HP).symm,ae B⟩
  .
   obtain rfl:k=n:=by omega
   have HY:=af (ae z (ae r));clear r z E HC;by_cases h4:k<=4
   .
    have Y:(k:Int)<=4:=by omega
    go_wp2;go_ret;exact⟨am (by rw[ae HY];simp[h4]),ae B⟩
   .
    have Y:¬ (k:Int)<=4:=by omega
    go_wp2;go_ret;exact⟨am (by rw[ae HY];simp[h4]),ae B⟩
end Go.Proofs.YtggknepmhjfohaaGreatDoor
