/- Texts. -/
import Derived.Test.YtfannoajibacnaaGreatDoorM9
import Derived.Laws.CopyOwn
set_option linter.all false
set_option maxRecDepth 100000
set_option maxHeartbeats 4000000
namespace Go.Proofs.YtfannoajibacnaaGreatDoor
open Go.Proofs.Tryz
open Go.RowKit
variable {Q:List (List UInt8)}{e:TypeId}{g:Nat}{p:ByteArray}{w:World}{x:List UInt8}
def MV(c:Nat)(a:(c:Int)<=1000):bits .and .u64 (c:Int) 4294967295=(c:Int):=by
 have h:=Go.bits_and_u64_nat c 4294967295 (by omega) (by decide);have e:c &&& 4294967295=c:=by
  have:=Nat.and_two_pow_sub_one_eq_mod c 32;rw[show(2 ^ 32-1:Nat)=4294967295 by decide]at this;rw[this];omega
 rw[e]at h;exact h
def wrap_small(c:Nat)(a:(c:Int)<=1000):IntKind.u64.wrap (c:Int)=(c:Int):=by
 simp only[IntKind.wrap,IntKind.signed,IntKind.bits];simp;omega
def LA(c:Nat)(w:World)(a:(c:Int)<=1000) :
  Calls prog 172 #[.int .u64 1,.int .u64 (c:Nat)] w fun e w'=>e = .returned (.tuple #[.int .u64 0,.int .u64 (c:Nat)])/\w'=w:=by
 have e1:bits .and .u64 1 4294967295=1:=by decide +kernel
 have e0:bits .and .u64 0 4294967295=0:=by decide +kernel
 have e2:=MV c a;have e3:(c:Int)/4294967296=0:=by omega
 have e4:=wrap_small c a;go_enter func172,ntmps172;go_wp2
 go_ret2
 exact⟨rfl,rfl⟩
def mul_one(c:Nat)(w:World)(b:(c:Int)<=1000) :
  Calls prog 138 #[.int .u64 1,.int .u64 (c:Nat)] w fun e w'=>e = .returned (.tuple #[.int .u64 0,.int .u64 (c:Nat)])/\w'=w:=by
 go_enter func138,ntmps138;go_wp2_with (go_at_call 172;apply(LA c _ b).mono;rintro e w'⟨rfl,a⟩;rw[a];clear a)
 go_ret2
 exact⟨rfl,rfl⟩
def Py{base n:Nat}{xs:List Value}(h:w.ownsRow base e 1 (.slice g n n) n xs):w.heap[g]?=some (.cells xs.toArray e (0,0)):=by
 rcases h.2 with⟨e,_⟩|⟨g',cap,b,e',_,c,_,_,d,a⟩
 . cases e
 . simp only[a0L,a0l,a0A,a0Q]at e';obtain⟨rfl,-,rfl⟩:=e';rw[a0t (by simp;omega)]at a;rw[c,←a]
def Oe{base n:Nat}{xs:List Value}(h:w.heap[g]?=some (.cells xs.toArray e (0,0)))(b:xs.length=n)(hb:base<=g)(a:n<=maxLen):w.ownsRow base e 1 (.slice g n n) n xs:=
 ⟨by omega,.inr ⟨g,n,xs.toArray,rfl,hb,h,a0a _,a,by simp;omega,by simp;exact a0t (by omega)⟩⟩
def jX(v:Int)(k c:Nat):List Value:=List.replicate k (.int .i64 v)++List.replicate (c-k) (.int .i64 0)
def y8(v:Int)(k c:Nat)(h:k<=c):(jX v k c).length=c:=by simp[jX];omega
def tU(v:Int)(k m c:Nat)(h:k+m<=c):splice (jX v k c) k (List.replicate m (.int .i64 v))=jX v (k+m) c:=by
 unfold splice jX;rw[a1n (by simp),a0t (by simp),a2Q,a2R (by simp)];simp only[a0y,List.drop_replicate,a1a];rw[←a0I,List.replicate_append_replicate]
 congr 2
 omega
def Kz{k c:Nat}{v:Int}(h:w.heap[g]?=some (.cells (jX v k c).toArray e (0,0)))(j:Nat)(a:j<k):w.cell? ((⟨g,0,none⟩:Addr).add j)=some (.int .i64 v):=by
 have e1:(⟨g,0,none⟩:Addr).add j=⟨g,j,none⟩:=by unfold Addr.add;split<;>simp_all
 rw[e1];simp only[World.cell?,h,jX];simp[List.getElem?_append,a]
def P6(v:Int)(m j:Nat)(u:Value)(h:(List.replicate m (Value.int .i64 v))[j]?=some u):j<m/\u = .int .i64 v:=by
 rw[List.getElem?_replicate]at h;by_cases a:j<m
 . rw[a0d a]at h;exact⟨a,(a1A h).symm⟩
 . rw[a0e a]at h;cases h
def P7(v:Int)(m:Nat):∀u∈List.replicate m (Value.int .i64 v),u.oneCell'=true:=by
 intro u a;rw[(List.mem_replicate.1 a).2];rfl
def Lt(n:Nat):(madeCells (Value.int .i64 0).cells (n*1)).toList=jX 0 0 n:=by
 unfold jX;simp only[a3l,a1a,a3g,Nat.mul_one];apply List.ext_getElem?;intro i;by_cases a:i<n
 . rw[List.getElem?_replicate,a0d a,List.getElem?_eq_getElem (by simpa[madeCells]using a)];simp[madeCells,Value.cells,a1s]
 . rw[List.getElem?_eq_none (by simp[madeCells];omega),List.getElem?_eq_none (by simp;omega)]
def qp(v:Int)(c cap g o:Nat)(w:World)(Y:w.cell? ⟨g,o,none⟩=some (.int .i64 v))(Q:1<=c)(W:(c:Int)<=1000) :
  Calls prog 101 #[.slice (some ⟨g,o,none⟩) 1 cap,c] w fun e w'=>e = .returned (.slice w.heap.size c c)/\an w' w.heap.size (.slice w.heap.size c c) (List.replicate c v)/\Below w.heap.size w w':=by
 obtain⟨i0,hi,S,T,U⟩:=a0p Tryz.infoInt;have hg:g<w.heap.size:=World.block_lt_of_cell? _ _ Y;have a0:=wrap_small c W;have F:(prog.info? 3).map (·.size)=some 1:=by kernel_rfl
 have D:([.int .i64 v]:List Value).length=Nat.min 1 c:=by show 1=min 1 c;omega
 have z:0+([.int .i64 v]:List Value).length<=(jX v 0 c).length:=by rw[y8 v 0 c (by omega)];simpa using Q
 have R:∀u∈([.int .i64 v]:List Value),u.oneCell'=true:=by intro u X;simp at X;subst X;rfl
 have HP:Hid (∀w1:World,w1.cell? ⟨g,o,none⟩=some (.int .i64 v)->∀(j:Nat) (u:Value),([.int .i64 v]:List Value)[j]?=some u->w1.cell? ((⟨g,o,none⟩:Addr).add j)=some u):=by
  intro w1 h j u t
  match j,t with
  | 0,t=>simp at t;subst t;simpa[Addr.add]using h
 have M:=af D;have K:=af z;clear D z;go_enter func101,ntmps101;go_wp2_with (first
  | (at_make;refine a1J _ rfl _ _ 129 rfl w.heap.size 3 i0 (.int .i64 0) 1 a0F hi S T .i64 .i64 _ _ c rfl rfl rfl rfl (by rw[U];omega) (by unfold maxLen;omega) (a0a _) ?_;intro w1 d b;rw[Lt]at d;have i:=Py d;have q:Below w.heap.size w w1:=(a0c _ _).grown b (a0a _) (fun k h=>by cases h);have E:=(q.cell (p:=⟨g,o,none⟩) hg).trans Y;clear d b)
  | (refine wpList_copy_splice rfl (.tmp 31) (.tmp 32) 129 129 rfl 3 a0F F _ _ _ _ _ _ rfl rfl w.heap.size 0 (jX v 0 c) 3 i [.int .i64 v] M (fun _=>⟨rfl,⟨g,o,none⟩,rfl,HP _ E⟩) K R w.heap.size w q (a0a _) ?_;intro w2 A x)
  | (go_at_call 138;apply(mul_one c _ W).mono;rintro e w'⟨rfl,Z⟩;rw[Z];clear Z))
 have l:w2.heap[w.heap.size]?=some (.cells (jX v 1 c).toArray 3 (0,0)):=by
  have:=ae A;rw[show([.int .i64 v]:List Value)=List.replicate 1 (.int .i64 v)from rfl,tU v 0 1 c (by omega)]at this;simpa using this
 clear A E i q
 go_loopw [8] (fun n wr=>∃k:Nat,1<=k/\k<=c/\n = .int .i64 k/\wr.heap[w.heap.size]?=some (.cells (jX v k c).toArray 3 (0,0))/\Below w.heap.size w wr) (fun n _=>c-(intOf n).toNat)
 case atStart=>exact⟨1,a0a _,Q,rfl,l,x⟩
 case round=>
  obtain⟨k,ab,ad,rfl,a,r⟩:=hrel;clear l x;by_cases al:k<c
  .
   have ac:(k:Int)<(c:Int):=(by omega);obtain⟨m,hm⟩:∃m,m=Nat.min k (c-k):=⟨_,rfl⟩;have C:m<=k:=by rw[hm];exact Nat.min_le_left _ _
   have f:k+m<=c:=by
    have:m<=c-k:=by rw[hm];exact Nat.min_le_right _ _
    omega
   have B:1<=m:=by
    have:m=min k (c-k):=hm;omega
   have N:Hid ((List.replicate m (Value.int .i64 v)).length=Nat.min k (c-k)):=by show _=_;rw[a0y];exact hm
   have O:Hid (∀(j:Nat) (u:Value),(List.replicate m (Value.int .i64 v))[j]?=some u->wr.cell? ((⟨w.heap.size,0,none⟩:Addr).add j)=some u):=by
    intro j u t;obtain⟨Q,rfl⟩:=P6 v m j u t;exact Kz a j (by omega)
   have L:Hid (k+(List.replicate m (Value.int .i64 v)).length<=(jX v k c).length):=by show _<=_;rw[y8 v k c (by omega),a0y];exact f
   have P:=af (tU v k m c f);have V:=af (a0b C (a0b f B));have ao:(k:Int)+(m:Int)<=1000:=(by omega);have J:=af a;have H:=af r;have aa:¬ c=k:=(by omega);clear hm C f B a r;go_wp2_with fail
   go_region_law (first|(refine step_copy_splice rfl (.tmp 41) (.tmp 44) 129 129 rfl 3 a0F F (some ⟨w.heap.size,k,none⟩) (some ⟨w.heap.size,0,none⟩) (c-k) (c-k) k c (by simp[Act.eval,Act.put]) (by simp[Act.eval,Act.put]) w.heap.size k (jX v k c) 3 J (List.replicate m (.int .i64 v)) N (fun _=>⟨rfl,⟨w.heap.size,0,none⟩,rfl,O⟩) L (P7 v m) w.heap.size w H.drew (a0a _) ?_;intro w3 s y))
   rw[ae P]at s;have I:=af (ae s);have G:=af y;clear s y;have a1:=bW ((k:Int)+(m:Int)) (by omega) (by omega);go_simp;go_wp2;go_roundw
   case rel=>exact⟨k+m,by omega,V.2.1,by go_num,I,G⟩
   case measure=>have:=ae V;simp[intOf];omega
  .
   have:k=c:=by omega
   subst this;have HO:Hid (an wr w.heap.size (.slice w.heap.size k k) (List.replicate k v)):=by
    show World.ownsRow _ _ _ _ _ (List.replicate k v).length _;rw[a0y];refine Oe ?_ (by simp) (a0a _) (by unfold maxLen;omega);rw[a];simp[jX]
   clear a;go_wp2;go_ret;exact⟨rfl,HO,r⟩
def Rl{t:List UInt8}(h:Q++[x]=dW [] t):dW [] (t++[47])=(Q++[x])++[[]]:=by
 rw[oM,a0d rfl,h]
def TS{t:List UInt8}{b:UInt8}(h:Q++[x]=dW [] t)(hb:¬ b=47):dW [] (t++[b])=Q++[x++[b]]:=by
 rw[oM,a0e hb,←h];simp
def AR(s:ByteArray)(f k:Nat):(s.extract f k).data.toList=(s.data.toList.take k).drop f:=by
 rw[Lib.extract_data];simp[a30]
def Rx(s:ByteArray)(f k:Nat)(c:f<=k)(b:k<s.size):(s.extract f (k+1)).data.toList=(s.extract f k).data.toList++[s[k]]:=by
 have a:k<s.data.toList.length:=by simpa using b
 rw[AR,AR,a1e a,List.drop_append_of_le_length (by simp;omega)];rfl
def xX(s:ByteArray)(k:Nat)(b:k<s.size):s.data.toList.take (k+1)=s.data.toList.take k++[s[k]]:=by
 have a:k<s.data.toList.length:=by simpa using b
 rw[a1e a];rfl
def Rw(s:ByteArray)(k:Nat):(s.extract k k).data.toList=[]:=by
 rw[AR];simp
def Qp(s:ByteArray)(k:Nat)(a:k<s.size)(hb:s[k].toNat=47)(h:Q++[x]=dW [] (s.data.toList.take k)):dW [] (s.data.toList.take (k+1))=(Q++[x])++[[]]:=by
 have e:s[k]=47:=UInt8.toNat_inj.1 hb;rw[xX s k a,e];exact Rl h
def SV(s:ByteArray)(f k:Nat)(b:f<=k)(a:k<s.size)(hb:¬ s[k].toNat=47)(h:Q++[(s.extract f k).data.toList]=dW [] (s.data.toList.take k)):dW [] (s.data.toList.take (k+1))=Q++[(s.extract f (k+1)).data.toList]:=by
 have e:¬ s[k]=47:=fun e=>hb (by rw[e];rfl);rw[xX s k a,Rx s f k b a];exact TS h e
def KW(s:ByteArray)(w:World)(M:s.size<=1048576) :
  Calls prog 80 #[s,.int .u8 47,.int .i64 ((s.size:Int)+1)] w fun e w'=>∃v P,e = .returned v/\eV w' w.heap.size v P/\P.map (·.data.toList)=py s.data.toList/\Below w.heap.size w w':=by
 obtain⟨i0,K,A,B,C⟩:=a0p Tryz.infoStr;have X:(s.size:Int)<=1048576:=by omega
 have F:=af M;have H:=af (eV.lit w w.heap.size (a0a _));have G:Hid (Below w.heap.size w (w.alloc (.cells #[] 9))):=cC;clear M;go_enter func80,ntmps80;go_wp2_with fail
 go_loopw [7,8,9] (fun v fr i wr=>∃(k f:Nat) (P:List ByteArray),k<=s.size/\f<=k/\i = .int .i64 k/\fr = .int .i64 f/\eV wr w.heap.size v P/\P.length<=k/\P.map (·.data.toList)++[(s.extract f k).data.toList]=dW [] (s.data.toList.take k)/\Below w.heap.size w wr) (fun _ _ i _=>s.size-(intOf i).toNat)
 case atStart=>exact⟨0,0,[],a0g _,a0a _,rfl,rfl,H,a0a _,by simp[dW],G⟩
 case round=>
  obtain⟨k,f,P,S,Q,rfl,rfl,hq,t,q,j⟩:=hrel;obtain⟨m,hm⟩:∃m,P.length=m:=⟨_,rfl⟩;rw[hm]at t;have V:(m:Int)<=(k:Int):=by omega
  have T:(k:Int)<=(s.size:Int):=by omega
  have R:(f:Int)<=(k:Int):=by omega
  have y:=af hm;obtain⟨va,vc,rfl⟩:=hq.formN hm;have n:=af (hq.own hm);have p:=j.size;have d:=af j;have g:=af q;have I:=af Q;have N:=af S;have D:Hid (m+1<=maxLen/\(m+1)*16<=140737488355328):=by have:=ae F;show _/\_;unfold maxLen;omega
  have z:=af t;clear hq j hm q t;by_cases u:k<s.size
  .
   have L:(k:Int)<(s.size:Int):=(by omega);have W:(m:Int)<(s.size:Int)+1:=(by omega);have o:=af u;by_cases hb:s[k].toNat=47
   .
    have E:=af (Qp s k u hb g);go_wp2_with (at_builtin;refine a0w _ rfl _ _ 41 rfl w.heap.size 9 i0 (.string ByteArray.empty) 1 16 underlying41 K A B C rfl (by decide) _ _ _ rfl (a0o n _) ⟨wr.heap.size,0,none⟩ 1 1 [.string (s.extract f k)] rfl rfl (cK _ _ rfl _ _) (Jr _) D.1 D.2 (ar p _) ?_;intro v' x2 c a l;clear l);have h:=aH (v:=.slice va m vc) a n (a0a _) p d;have x:=af (mt (b:=s.extract f k) y c);have r:=af h;clear c a h;go_wp2;go_roundw
    case rel=>
     refine⟨k+1,k+1,P++[s.extract f k],by have:=ae o;omega,a0a _,by go_num,by go_num,x,by have:=ae y;have:=ae z;simp;omega,?_,r⟩;rw[ae E,Rw];simp
    case measure=>have:=ae o;simp[intOf];omega
   .
    have O:¬ (s[k].toNat:Int)=47:=(by omega);have E:=af (SV s f k I u hb g);go_wp2;go_roundw
    case rel=>
     refine⟨k+1,f,P,by have:=ae o;omega,by have:=ae I;omega,by go_num,rfl,?_,by have:=ae y;have:=ae z;omega,?_,d⟩
     . have:=ae n;rw[←ae y]at this ⊢;exact this
     . rw[ae E]
    case measure=>have:=ae o;simp[intOf];omega
  .
   obtain rfl:k=s.size:=by have:=ae N;omega
   go_wp2_with (at_builtin;refine a0w _ rfl _ _ 41 rfl w.heap.size 9 i0 (.string ByteArray.empty) 1 16 underlying41 K A B C rfl (by decide) _ _ _ rfl (a0o n _) ⟨wr.heap.size,0,none⟩ 1 1 [.string (s.extract f s.size)] rfl rfl (cK _ _ rfl _ _) (Jr _) D.1 D.2 (ar p _) ?_;intro v' x2 c a l;clear l);have h:=aH (v:=.slice va m vc) a n (a0a _) p d;have x:=af (mt (b:=s.extract f s.size) y c);have r:=af h;clear c a h;go_wp2;go_ret;refine⟨_,_,rfl,x,?_,r⟩;have J:=ae g;have U:s.data.toList.take s.size=s.data.toList:=a0t (by simp);rw[U]at J;rw[a0K];exact J
def Jq(b:UInt8):okB b=true<->(97<=b.toNat/\b.toNat<=122)∨(48<=b.toNat/\b.toNat<=57)∨b.toNat=46∨b.toNat=45∨b.toNat=95:=by
 simp[okB]
def pj{p:ByteArray}{m:Nat}(a:m<p.size)(h:okB p[m]=false):gx p.data.toList=false:=by
 have:p.data.toList.all okB=false:=by
  rw[a32];refine⟨p[m],?_,by simp[h]⟩;have e:p[m]=p.data.toList[m]'(by simpa using a):=rfl;rw[e];exact a2g _
 simp[gx,this]
def tp(h:inB (p.size:Int) 1 10=false):gx p.data.toList=false:=by
 have hb:=fs.1 h;have e:p.data.toList.length=p.size:=by simp
 have:(decide (1<=p.data.toList.length)&&decide (p.data.toList.length<=10))=false:=by rw[e];simp;omega
 simp only[gx];rw[←Bool.and_assoc (decide _),this];simp
def Jw(h:∀j (c:j<p.size),okB p[j]=true)(d:inB (p.size:Int) 1 10=true)(b:(p.toList == [46])=false)(h2:(p.toList == [46,46])=false):gx p.data.toList=true:=by
 obtain⟨g,i⟩:=aI.1 d;have e:p.data.toList.length=p.size:=by simp
 have a:p.data.toList.all okB=true:=by
  rw[a1c];intro x f;obtain⟨j,c,rfl⟩:=a1M f;exact h j (by rw[←e];exact c)
 rw[a1S]at b h2;simp only[gx,a,b,h2,e];simp;omega
def EW(h:(p.toList == [46])=true):gx p.data.toList=false:=by
 rw[a1S]at h;rw[a2A.1 h];decide
def zH(h:(p.toList == [46,46])=true):gx p.data.toList=false:=by
 rw[a1S]at h;rw[a2A.1 h];decide
def Jo{s:ByteArray}{l:List ByteArray}(b:l.map (·.data.toList)=py s.data.toList){j:Nat}(a:j<l.length)(h:gx (l.getD j ByteArray.empty).data.toList=false):fC s.data.toList=false:=by
 have:(py s.data.toList).all gx=false:=by
  rw[←b,a32];refine⟨(l.getD j ByteArray.empty).data.toList,?_,by rw[h];simp⟩;rw[a2S];exact⟨l.getD j ByteArray.empty,by simp[List.getD,a],rfl⟩
 simp[fC,this]
def ED{s:ByteArray}{l:List ByteArray}(b:l.map (·.data.toList)=py s.data.toList)(h:∀j,j<l.length->gx (l.getD j ByteArray.empty).data.toList=true):fC s.data.toList=decide (l.length<=4):=by
 have e:(py s.data.toList).length=l.length:=by rw[←b];simp
 have:(py s.data.toList).all gx=true:=by
  rw[←b,a1c];intro x c;rw[a2S]at c;obtain⟨y,d,rfl⟩:=c;obtain⟨j,a,rfl⟩:=a1M d;have:=h j a;simpa[List.getD,a]using this
 simp[fC,this,e]
theorem oO:∀(l cur x:List UInt8),x∈dW cur l->x.length<=cur.length+l.length
 | [],cur,x,h=>by simp[dW]at h;subst h;simp
 | b :: l,cur,x,h=>by
  unfold dW at h
  split at h
  .
   rcases a02.1 h with rfl|h
   . simp
   . have:=oO l [] x h;simp at this ⊢;omega
  . have:=oO l (cur++[b]) x h;simp at this ⊢;omega
def oB(s:ByteArray)(w:World)(hs:s.size<=1048576) :
  Ds 40 #[s] w (.bool (fC s.data.toList)):=by
 have F:=af hs;have ab:(s.size:Int)<=1048576:=by omega
 clear hs;go_enter func40,ntmps40;go_wp2_with fail;apply(KW s _ F).mono;rintro e x1⟨v,l,rfl,hq,o,M⟩;obtain⟨n,hn⟩:∃n,l.length=n:=⟨_,rfl⟩;obtain⟨va,vc,rfl⟩:=hq.formN hn;have Q:0<n:=by
  have e:=congrArg List.length o;have:=I6 s.data.toList [];cases h:dW [] s.data.toList with
  | nil=>exact absurd h this
  | cons a t=>
   simp only[py,h,a0O,a0C]at e;omega
 have aa:n<=s.size+1:=by
  have e:=congrArg List.length o;have:=qT s.data.toList [];simp only[a0O]at e;have h2:s.data.toList.length=s.size:=by simp
  unfold py at e;omega
 have a7:(n:Int)<=1048577:=by omega
 obtain⟨g,rfl,hg,N⟩:=hq.at hn Q;have PL:Hid (∀k,k<n->(l.getD k ByteArray.empty).size<=1048576):=by
  intro k T;have O:(l.getD k ByteArray.empty).data.toList∈py s.data.toList:=by
   rw[←o,a2S];exact⟨l.getD k ByteArray.empty,by simp[List.getD,hn,T],rfl⟩
  have:=oO s.data.toList [] _ O;have e1:(l.getD k ByteArray.empty).data.toList.length=(l.getD k ByteArray.empty).size:=by simp
  have e2:s.data.toList.length=s.size:=by simp
  have:=ae F;simp only[a0U]at *
  omega
 have HC:=af N;have B:=af M;have E:=af (fun j (x:j<l.length)=>@Jo s l o j x);have z:=af (@ED s l o);rw[hn]at E z;clear hq o N M Q aa F ab;go_wp2_with fail
 go_loop [4,5,6] (fun i _ _=>∃k:Nat,k<=n/\i = .int .i64 k/\∀j,j<k->gx (l.getD j ByteArray.empty).data.toList=true) (fun i _ _=>n-(intOf i).toNat)
 case atStart=>exact⟨0,a0g _,rfl,fun j x=>absurd x (by omega)⟩
 case round=>
  obtain⟨k,T,rfl,C⟩:=hrel;have r:=af C;have HK:=af T;clear C;by_cases A:k<n
  .
   have a0:(k:Int)<(n:Int):=(by omega);have hc:=ae HC k A;have f:=af (ae E k A);have U:Hid (gx (l.getD k ByteArray.empty).data.toList=true->∀j,j<k+1->gx (l.getD j ByteArray.empty).data.toList=true):=by
    intro e j x;by_cases G:j=k
    . rw[G];exact e
    . exact r j (by omega)
   have J:=af A;clear T r;have V:=af (ae PL k A);generalize l.getD k ByteArray.empty=p at *;have a8:(p.size:Int)<=9223372036854775807:=by
    have:=ae V;omega
   go_wp2_with fail
   go_loop [6] (fun q=>∃m:Nat,m<=p.size/\q = .int .i64 m/\∀j (x:j<p.size),j<m->okB p[j]=true) (fun q=>p.size-(intOf q).toNat)
   case atStart=>exact⟨0,a0g _,rfl,fun j _ x=>absurd x (by omega)⟩
   case round=>
    obtain⟨m,Z,rfl,D⟩:=hrel;have u:=af D;have K:=af Z;clear D;by_cases P:m<p.size
    .
     have a6:(m:Int)<(p.size:Int):=(by omega);have b:=af P;have y:Hid (okB p[m]=true->∀j (x:j<p.size),j<m+1->okB p[j]=true):=by
      intro e j x ao;by_cases G:j=m
      . subst G;exact e
      . exact u j x (by omega)
     have a5:(0:Int)<=(p[m].toNat:Int):=(by omega);have al:(p[m].toNat:Int)<256:=by have:=p[m].toNat_lt;omega
     clear Z u K;cases d:okB p[m]
     .
      have H:¬ ((97<=p[m].toNat/\p[m].toNat<=122)∨(48<=p[m].toNat/\p[m].toNat<=57)∨p[m].toNat=46∨p[m].toNat=45∨p[m].toNat=95):=fun e=>Bool.noConfusion (d.symm.trans ((Jq _).2 e));have e46:¬ (p[m].toNat:Int)=46:=(by omega);have e45:¬ (p[m].toNat:Int)=45:=(by omega);have e95:¬ (p[m].toNat:Int)=95:=(by omega);by_cases a1:(97:Int)<=(p[m].toNat:Int)
      .
       have a2:¬ (p[m].toNat:Int)<=122:=(by omega);have a3:(48:Int)<=(p[m].toNat:Int):=(by omega);clear H;have HP:=af (ae f (pj b d));go_wp2;all_goals first
        | (go_ret;exact⟨am HP.symm,B⟩)
        | (exfalso;rename_i hx;first|omega|(simp at hx;omega))
        | (exfalso;rename_i hx _ _;simp at hx;omega)
      .
       by_cases a3:(48:Int)<=(p[m].toNat:Int)
       .
        have a4:¬ (p[m].toNat:Int)<=57:=(by omega);clear H;have HP:=af (ae f (pj b d));go_wp2;all_goals first
         | (go_ret;exact⟨am HP.symm,B⟩)
         | (exfalso;rename_i hx;first|omega|(simp at hx;omega))
         | (exfalso;rename_i hx _ _;simp at hx;omega)
       .
        skip
        clear H;have HP:=af (ae f (pj b d));go_wp2;all_goals first
         | (go_ret;exact⟨am HP.symm,B⟩)
         | (exfalso;rename_i hx;first|omega|(simp at hx;omega))
         | (exfalso;rename_i hx _ _;simp at hx;omega)
     .
      have R:=(Jq p[m]).1 d;rcases R with⟨a1,a2⟩|⟨a1,a2⟩|a1|a1|a1
      .
       have S:(97:Int)<=(p[m].toNat:Int):=(by omega);have b2:(p[m].toNat:Int)<=122:=(by omega);clear a1 a2;go_wp2;all_goals first
        | (
          go_round
          case rel=>exact⟨m+1,by have:=ae b;omega,by go_num,y d⟩
          case measure=>have:=ae b;simp[intOf];omega)
        | (exfalso;rename_i hx;first|omega|(simp at hx;omega))
        | (exfalso;rename_i hx _ _;simp at hx;omega)
      .
       have S:¬ (97:Int)<=(p[m].toNat:Int):=(by omega);have b2:(48:Int)<=(p[m].toNat:Int):=(by omega);have b3:(p[m].toNat:Int)<=57:=(by omega);clear a1 a2;go_wp2;all_goals first
        | (
          go_round
          case rel=>exact⟨m+1,by have:=ae b;omega,by go_num,y d⟩
          case measure=>have:=ae b;simp[intOf];omega)
        | (exfalso;rename_i hx;first|omega|(simp at hx;omega))
        | (exfalso;rename_i hx _ _;simp at hx;omega)
      .
       have S:(p[m].toNat:Int)=46:=(by omega);clear a1;go_wp2;all_goals first
        | (
          go_round
          case rel=>exact⟨m+1,by have:=ae b;omega,by go_num,y d⟩
          case measure=>have:=ae b;simp[intOf];omega)
        | (exfalso;rename_i hx;first|omega|(simp at hx;omega))
        | (exfalso;rename_i hx _ _;simp at hx;omega)
      .
       have S:(p[m].toNat:Int)=45:=(by omega);clear a1;go_wp2;all_goals first
        | (
          go_round
          case rel=>exact⟨m+1,by have:=ae b;omega,by go_num,y d⟩
          case measure=>have:=ae b;simp[intOf];omega)
        | (exfalso;rename_i hx;first|omega|(simp at hx;omega))
        | (exfalso;rename_i hx _ _;simp at hx;omega)
      .
       have S:(p[m].toNat:Int)=95:=(by omega);clear a1;go_wp2;all_goals first
        | (
          go_round
          case rel=>exact⟨m+1,by have:=ae b;omega,by go_num,y d⟩
          case measure=>have:=ae b;simp[intOf];omega)
        | (exfalso;rename_i hx;first|omega|(simp at hx;omega))
        | (exfalso;rename_i hx _ _;simp at hx;omega)
    .
     obtain rfl:m=p.size:=by have:=ae K;omega
     have L:Hid (∀j (x:j<p.size),okB p[j]=true):=fun j x=>ae u j x x;clear u P Z;cases I:inB (p.size:Int) 1 10
     . have HP:=af (ae f (tp I));go_wp2_with (go_at_call 54;apply(aU _ _ _ _).mono;rintro e w9⟨rfl,c⟩;rw[c];clear c;rw[I]);go_ret;exact⟨am HP.symm,B⟩
     .
      cases W:(p.toList == [46])
      .
       cases X:(p.toList == [46,46])
       .
        have HP:=af (ae U (Jw L I W X));go_wp2_with (go_at_call 54;apply(aU _ _ _ _).mono;rintro e w9⟨rfl,c⟩;rw[c];clear c;rw[I])
        go_round
        case rel=>exact⟨k+1,by have:=ae J;omega,by go_num,HP⟩
        case measure=>have:=ae J;simp[intOf];omega
       .
        have HP:=af (ae f (zH X));have ad:p.toList=[46,46]:=by simpa using X
        go_wp2_with (go_at_call 54;apply(aU _ _ _ _).mono;rintro e w9⟨rfl,c⟩;rw[c];clear c;rw[I]);go_ret;exact⟨am HP.symm,B⟩
      .
       have HP:=af (ae f (EW W));have ac:p.toList=[46]:=by simpa using W
       go_wp2_with (go_at_call 54;apply(aU _ _ _ _).mono;rintro e w9⟨rfl,c⟩;rw[c];clear c;rw[I]);go_ret;exact⟨am HP.symm,B⟩
  .
   obtain rfl:k=n:=by omega
   have HY:=af (ae z (ae r));clear r z E HC;by_cases h4:k<=4
   .
    have Y:(k:Int)<=4:=(by omega);go_wp2;go_ret;exact⟨am (by rw[ae HY];simp[h4]),B⟩
   .
    have Y:¬ (k:Int)<=4:=(by omega);go_wp2;go_ret;exact⟨am (by rw[ae HY];simp[h4]),B⟩
