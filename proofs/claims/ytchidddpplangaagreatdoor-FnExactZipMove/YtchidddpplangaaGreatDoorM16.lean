/- Of what the proof is made: 4 texts, one behind the other. -/
import Derived.Test.YtchidddpplangaaGreatDoorM9
import Derived.Test.YtchidddpplangaaGreatDoorM6
import Derived.Laws.Bits64b
import Derived.Laws.CopyOwn
import Derived.Deep.RegionLaw
import Derived.Test.YtchidddpplangaaGreatDoorTi1
import Derived.Test.YtchidddpplangaaGreatDoorTt2
set_option maxRecDepth 100000
set_option linter.unusedSimpArgs false
set_option linter.unusedVariables false
set_option maxHeartbeats 3200000
namespace Go.Proofs.YtchidddpplangaaGreatDoor
open Go.Proofs.Tryz
open Go.RowKit
variable {e:TypeId}{g:Nat}{w:World}
theorem IK(c:Nat)(a:(c:Int)<=1000):bits .and .u64 (c:Int) 4294967295=(c:Int):=by
 have h:=Go.bits_and_u64_nat c 4294967295 (by omega) (by decide);have e:c &&& 4294967295=c:=by
  have:=Nat.and_two_pow_sub_one_eq_mod c 32;rw[show(2 ^ 32-1:Nat)=4294967295 by decide]at this;rw[this];omega
 rw[e]at h;exact h
theorem wrap_small(c:Nat)(a:(c:Int)<=1000):IntKind.u64.wrap (c:Int)=(c:Int):=by
 simp only[IntKind.wrap,IntKind.signed,IntKind.bits];simp;omega
theorem GP(c:Nat)(w:World)(a:(c:Int)<=1000) :
  Calls prog 179 #[.int .u64 1,.int .u64 (c:Nat)] w fun e w'=>e = .returned (.tuple #[.int .u64 0,.int .u64 (c:Nat)])/\w'=w:=by
 have e1:bits .and .u64 1 4294967295=1:=by decide +kernel
 have e0:bits .and .u64 0 4294967295=0:=by decide +kernel
 have e2:=IK c a;have e3:(c:Int)/4294967296=0:=by omega
 have e4:=wrap_small c a;go_enter func179,ntmps179;go_wp2
 go_ret2
 exact⟨rfl,rfl⟩
theorem mul_one(c:Nat)(w:World)(b:(c:Int)<=1000) :
  Calls prog 134 #[.int .u64 1,.int .u64 (c:Nat)] w fun e w'=>e = .returned (.tuple #[.int .u64 0,.int .u64 (c:Nat)])/\w'=w:=by
 go_enter func134,ntmps134;go_wp2_with (go_at_call 179;refine(GP c _ b).mono ?_;rintro e w' ⟨rfl,a⟩;rw[a];clear a)
 go_ret2
 exact⟨rfl,rfl⟩
theorem KD{base n:Nat}{xs:List Value}(h:w.ownsRow base e 1 (.slice (some ⟨g,0,none⟩) n n) n xs):w.heap[g]?=some (.cells xs.toArray e (0,0)):=by
 rcases h.2 with⟨e,_⟩|⟨g',cap,b,e',_,c,_,_,d,a⟩
 . cases e
 . simp only[a0J,a0l,a0B,a0P]at e';obtain⟨rfl,-,rfl⟩:=e';rw[a0u (by simp;omega)]at a;rw[c,←a]
theorem Jw{base n:Nat}{xs:List Value}(h:w.heap[g]?=some (.cells xs.toArray e (0,0)))(b:xs.length=n)(hb:base<=g)(a:n<=maxLen):w.ownsRow base e 1 (.slice (some ⟨g,0,none⟩) n n) n xs:=
 ⟨by omega,.inr ⟨g,n,xs.toArray,rfl,hb,h,a0a _,a,by simp;omega,by simp;exact a0u (by omega)⟩⟩
def iW(v:Int)(k c:Nat):List Value:=List.replicate k (.int .i64 v)++List.replicate (c-k) (.int .i64 0)
theorem vR(v:Int)(k c:Nat)(h:k<=c):(iW v k c).length=c:=by simp[iW];omega
theorem rf(v:Int)(k m c:Nat)(h:k+m<=c):splice (iW v k c) k (List.replicate m (.int .i64 v))=iW v (k+m) c:=by
 unfold splice iW;rw[a13 (by simp),a0u (by simp),List.drop_append,a3J (by simp)];simp only[a0x,List.drop_replicate,a1G];rw[←a0L,List.replicate_append_replicate]
 congr 2
 omega
theorem F6{k c:Nat}{v:Int}(h:w.heap[g]?=some (.cells (iW v k c).toArray e (0,0)))(j:Nat)(a:j<k):w.cell? ((⟨g,0,none⟩:Addr).add j)=some (.int .i64 v):=by
 have e1:(⟨g,0,none⟩:Addr).add j=⟨g,j,none⟩:=by unfold Addr.add;split<;>simp_all
 rw[e1];simp only[World.cell?,h,iW];simp[List.getElem?_append,a]
theorem KX(v:Int)(m j:Nat)(u:Value)(h:(List.replicate m (Value.int .i64 v))[j]?=some u):j<m/\u = .int .i64 v:=by
 rw[List.getElem?_replicate]at h;by_cases a:j<m
 . rw[a0e a]at h;exact⟨a,(a1I h).symm⟩
 . rw[a0d a]at h;cases h
theorem KY(v:Int)(m:Nat):∀u∈List.replicate m (Value.int .i64 v),u.oneCell'=true:=by
 intro u a;rw[(List.mem_replicate.1 a).2];rfl
theorem GJ(n:Nat):(madeCells (Value.int .i64 0).cells (n*1)).toList=iW 0 0 n:=by
 unfold iW;simp only[a3a,a1G,Nat.sub_zero,Nat.mul_one];apply List.ext_getElem?;intro i;by_cases a:i<n
 . rw[List.getElem?_replicate,a0e a,List.getElem?_eq_getElem (by simpa[madeCells]using a)];simp[madeCells,Value.cells,a1j]
 . rw[List.getElem?_eq_none (by simp[madeCells];omega),List.getElem?_eq_none (by simp;omega)]
theorem oy(v:Int)(c cap g o:Nat)(w:World)(Y:w.cell? ⟨g,o,none⟩=some (.int .i64 v))(Q:1<=c)(W:(c:Int)<=1000) :
  Calls prog 97 #[.slice (some ⟨g,o,none⟩) 1 cap,.int .i64 (c:Nat)] w fun e w'=>e = .returned (.slice (some ⟨w.heap.size,0,none⟩) c c)/\am w' w.heap.size (.slice (some ⟨w.heap.size,0,none⟩) c c) (List.replicate c v)/\Below w.heap.size w w':=by
 obtain⟨i0,hi,S,T,U⟩:=a0o Tryz.infoInt;have hg:g<w.heap.size:=World.block_lt_of_cell? _ _ Y;have a1:=wrap_small c W;have F:(prog.info? 3).map (·.size)=some 1:=by kernel_rfl
 have D:([.int .i64 v]:List Value).length=Nat.min 1 c:=by show 1=min 1 c;omega
 have z:0+([.int .i64 v]:List Value).length<=(iW v 0 c).length:=by rw[vR v 0 c (by omega)];simpa using Q
 have R:∀u∈([.int .i64 v]:List Value),u.oneCell'=true:=by intro u X;simp at X;subst X;rfl
 have HP:Hid (∀w1:World,w1.cell? ⟨g,o,none⟩=some (.int .i64 v)->∀(j:Nat) (u:Value),([.int .i64 v]:List Value)[j]?=some u->w1.cell? ((⟨g,o,none⟩:Addr).add j)=some u):=by
  intro w1 h j u t
  match j,t with
  | 0,t=>simp at t;subst t;simpa[Addr.add]using h
 have M:=ae D;have K:=ae z;clear D z;go_enter func97,ntmps97;go_wp2_with (first
  | (at_make;refine a1w _ rfl _ _ 137 rfl w.heap.size 3 i0 (.int .i64 0) 1 a0C hi S T .i64 .i64 _ _ c rfl rfl rfl rfl (by rw[U];omega) (by unfold maxLen;omega) (a0a _) ?_;intro w1 d b;rw[GJ]at d;have i:=KD d;have q:Below w.heap.size w w1:=(a0c _ _).grown b (a0a _) (fun k h=>by cases h);have E:=(q.cell (p:=⟨g,o,none⟩) hg).trans Y;clear d b)
  | (refine wpList_copy_splice rfl (.tmp 31) (.tmp 32) 137 137 rfl 3 a0C F _ _ _ _ _ _ rfl rfl w.heap.size 0 (iW v 0 c) 3 i [.int .i64 v] (ab M) (fun _=>⟨rfl,⟨g,o,none⟩,rfl,ab HP _ E⟩) (ab K) R w.heap.size w q (a0a _) ?_;intro w2 A x)
  | (go_at_call 134;refine(mul_one c _ W).mono ?_;rintro e w' ⟨rfl,Z⟩;rw[Z];clear Z))
 have l:w2.heap[w.heap.size]?=some (.cells (iW v 1 c).toArray 3 (0,0)):=by
  have:=ab A;rw[show([.int .i64 v]:List Value)=List.replicate 1 (.int .i64 v)from rfl,rf v 0 1 c (by omega)]at this;simpa using this
 clear A E i q
 go_loopw [8] (fun n wr=>∃k:Nat,1<=k/\k<=c/\n = .int .i64 k/\wr.heap[w.heap.size]?=some (.cells (iW v k c).toArray 3 (0,0))/\Below w.heap.size w wr) (fun n _=>c-(intOf n).toNat)
 case atStart=>exact⟨1,a0a _,Q,rfl,l,x⟩
 case round=>
  obtain⟨k,ac,al,rfl,a,r⟩:=hrel;clear l x;by_cases an:k<c
  .
   have ad:(k:Int)<(c:Int):=by omega
   obtain⟨m,hm⟩:∃m,m=Nat.min k (c-k):=⟨_,rfl⟩;have C:m<=k:=by rw[hm];exact Nat.min_le_left _ _
   have f:k+m<=c:=by
    have:m<=c-k:=by rw[hm];exact a3b _ _
    omega
   have B:1<=m:=by
    have:m=min k (c-k):=hm;omega
   have N:Hid ((List.replicate m (Value.int .i64 v)).length=Nat.min k (c-k)):=by show _=_;rw[a0x];exact hm
   have O:Hid (∀(j:Nat) (u:Value),(List.replicate m (Value.int .i64 v))[j]?=some u->wr.cell? ((⟨w.heap.size,0,none⟩:Addr).add j)=some u):=by
    intro j u t;obtain⟨Q,rfl⟩:=KX v m j u t;exact F6 a j (by omega)
   have L:Hid (k+(List.replicate m (Value.int .i64 v)).length<=(iW v k c).length):=by show _<=_;rw[vR v k c (by omega),a0x];exact f
   have P:=ae (rf v k m c f);have V:=ae (a0b C (a0b f B));have a0:(k:Int)+(m:Int)<=1000:=by omega
   have J:=ae a;have H:=ae r;have aa:¬ c=k:=by omega
   clear hm C f B a r;go_wp2_with fail
   go_region_law (first|(refine step_copy_splice rfl (.tmp 41) (.tmp 44) 137 137 rfl 3 a0C F (some ⟨w.heap.size,k,none⟩) (some ⟨w.heap.size,0,none⟩) (c-k) (c-k) k c (by simp[Act.eval,Act.put]) (by simp[Act.eval,Act.put]) w.heap.size k (iW v k c) 3 (ab J) (List.replicate m (.int .i64 v)) (ab N) (fun _=>⟨rfl,⟨w.heap.size,0,none⟩,rfl,ab O⟩) (ab L) (KY v m) w.heap.size w (ab H).drew (a0a _) ?_;intro w3 s y))
   rw[ab P]at s;have I:=ae (ab s);have G:=ae y;clear s y;have a2:=bK ((k:Int)+(m:Int)) (by omega) (by omega);go_simp;go_wp2;go_roundw
   case rel=>exact⟨k+m,by omega,(ab V).2.1,by go_num,ab I,ab G⟩
   case measure=>have:=ab V;simp[intOf];omega
  .
   have:k=c:=by omega
   subst this;have HO:Hid (am wr w.heap.size (.slice (some ⟨w.heap.size,0,none⟩) k k) (List.replicate k v)):=by
    show World.ownsRow _ _ _ _ _ (List.replicate k v).length _;rw[a0x];refine Jw ?_ (by simp) (a0a _) (by unfold maxLen;omega);rw[a];simp[iW]
   clear a;go_wp2;go_ret;exact⟨rfl,ab HO,r⟩
theorem oq(base n cap:Nat)(a:Option Addr)(s:List UInt8)(x:Int)(w:World)(l:s.length=n)(h:aQ w base (.slice a n cap) s)(p:n<=100000)(hb:base<=w.heap.size)(x0:0<=x)(x1:x<=255) :
  Calls prog 244 #[.slice a n cap,.iface 257 (.int .u8 x)] w fun e w'=>∃v,e = .returned (.tuple #[v,.bool (decide (n+1<=300))])/\aQ w' base v (if n+1<=300 then s++[dz x]else [])/\Below base w w':=by
 obtain⟨i0,A,q,r,t⟩:=a0o Tryz.infoU8;have B:(n:Int)<=100000:=by omega
 have m1:=um;have t1:=kU;have y:=ae (a0b l p);by_cases f:n+1<=300
 .
  obtain⟨N,hN⟩:∃N:Int,(n:Int)+1=N:=⟨_,rfl⟩;have g:¬ (300:Int)<N:=by omega
  have z:decide ((300:Int)<N)=false:=a0h g;have o:Hid (x=((dz x).toNat:Int)):=(ew x0 x1).symm;have u:Hid (n+1<=maxLen/\(n+1)*1<=140737488355328):=by show _/\_;unfold maxLen;omega
  have k:=ae (h.own l);rw[a0v f,a0e f];clear l h p f;go_enter a1P,a1Q;go_wp2_with fail;refine(gj x w).mono ?_;rintro e w' ⟨rfl,d⟩;rw[d];clear d w';go_wp2_with (at_builtin;refine a0r _ rfl _ _ 103 rfl base 5 i0 (.int .u8 0) 1 1 a0Q A q r t rfl (by decide) _ _ _ rfl (a0k (ab k) _) ⟨w.heap.size,0,none⟩ 1 1 [.int .u8 x] rfl rfl (bE _ _ rfl _ _) (one_byte _) (ab u).1 (ab u).2 (ao hb _) ?_;intro v' x2 c b i;clear i);have m:Below base w x2:=aC (v:=.slice a n cap) b (ab k) (a0a _) hb (a0c _ _);rw[ab o]at c;have j:=cq (ab y).1 c;obtain⟨va,vc,rfl⟩:=j.form;clear c b;go_wp2
  go_ret2
  exact⟨_,rfl,j,m⟩
 .
  obtain⟨N,hN⟩:∃N:Int,(n:Int)+1=N:=⟨_,rfl⟩;have g:(300:Int)<N:=by omega
  rw[a0h f,a0d f];clear l h p f;go_enter a1P,a1Q;go_wp2_with fail;refine(gj x w).mono ?_;rintro e w' ⟨rfl,d⟩;rw[d];clear d w';go_wp2
  go_ret2
  exact⟨_,rfl,aQ.nil _ _,a0c _ _⟩
theorem oo(base n cap Y Z:Nat)(a:Option Addr)(s:List UInt8)(w:World)(H:s.length=n)(h:aQ w base (.slice a n cap) s)(G:n<=100000)(hb:base<=w.heap.size)(y1:Y<=60)(z0:1<=Z)(z1:Z<=250) :
  Calls prog 244 #[.slice a n cap,.iface 259 (.agg #[.int .i64 (Y:Nat),.int .i64 (Z:Nat)])] w fun e w'=>∃v,e = .returned (.tuple #[v,.bool (decide (n+Y<=300/\Z<=n))])/\aQ w' base v (if n+Y<=300/\Z<=n then rep s Z Y else [])/\Below base w w':=by
 obtain⟨i0,hi,P,Q,R⟩:=a0o Tryz.infoU8;have an:(n:Int)<=100000:=by omega
 have W:(Y:Int)<=60:=by omega
 have aa:(Z:Int)<=250:=by omega
 have X:(1:Int)<=(Z:Int):=by omega
 have m1:=uk;have t1:=mS;have t2:=kT;have F:=ae (a0b H (a0b G z0));have J:=ae (kW (Y:Nat) (Z:Nat) w);have o:Below base w (w.alloc (.cells #[.int .i64 (Y:Nat),.int .i64 (Z:Nat)] 259)):=(a0c _ _).alloc hb _;by_cases y:n+Y<=300
 .
  have N:¬ (300:Int)<(n:Int)+(Y:Int):=by omega
  by_cases u:Z<=n
  .
   have M:¬ (n:Int)<(Z:Int):=by omega
   have ac:decide (n<Z)=false:=a0h (by omega);rw[a0v ⟨y,u⟩,a0e ⟨y,u⟩];have K:=ae u;have D:aQ ((w.alloc (.cells #[.int .i64 (Y:Nat),.int .i64 (Z:Nat)] 259)).alloc (.cells #[.int .i64 (Y:Nat),.int .i64 (Z:Nat)] 259)) base (.slice a n cap) s:=(h.later ((a0c w.heap.size w).alloc (a0a _) _) (a0a _)).later ((a0c _ _).alloc (a0a _) _) (a0a _);have q:Below base w ((w.alloc (.cells #[.int .i64 (Y:Nat),.int .i64 (Z:Nat)] 259)).alloc (.cells #[.int .i64 (Y:Nat),.int .i64 (Z:Nat)] 259)):=o.alloc (by simp;omega) _;have B:((w.alloc (.cells #[.int .i64 (Y:Nat),.int .i64 (Z:Nat)] 259)).alloc (.cells #[.int .i64 (Y:Nat),.int .i64 (Z:Nat)] 259)).heap[w.heap.size+1]?=some (Obj.cells #[.int .i64 (Y:Nat),.int .i64 (Z:Nat)] 259):=by
    have e:(w.alloc (.cells #[.int .i64 (Y:Nat),.int .i64 (Z:Nat)] 259)).heap.size=w.heap.size+1:=by simp
    rw[←e];exact alloc_at _ _
   have I:=ae (a0b D (a0b q B));clear H h G y u y1 z0 z1 D q B o;go_enter a1P,a1Q;go_wp2_with fail;refine(ab J).mono ?_;rintro e w' ⟨rfl,l⟩;rw[l];clear l w';go_wp2_with fail
   go_loopw [0,32] (fun v i wr=>∃k:Nat,k<=Y/\i = .int .i64 k/\aQ wr base v (rep s Z k)/\wr.heap[w.heap.size+1]?=some (Obj.cells #[.int .i64 (Y:Nat),.int .i64 (Z:Nat)] 259)/\Below base w wr) (fun _ i _=>Y-(intOf i).toNat)
   case atStart=>exact⟨0,a0g _,rfl,(ab I).1,(ab I).2.2,(ab I).2.1⟩
   case round=>
    obtain⟨k,T,rfl,hq,d,c⟩:=hrel;obtain⟨c0,c1,al⟩:=df d;have f:Hid ((rep s Z k).length=n+k):=by show _=_;rw[lx,(ab F).1]
    obtain⟨va,vc,rfl⟩:=hq.formN (ab f);have U:=ae T;by_cases ad:k<Y
    .
     obtain⟨g,rfl⟩:=hq.somes (by rw[ab f];have:=ab K;have:=(ab F).2.2;omega);obtain⟨p,hp⟩:∃p,n+k-Z=p:=⟨_,rfl⟩;have a0:((n:Int)+(k:Int))-(Z:Int)=(p:Int):=by have:=ab K;omega
     obtain⟨d0,_,_⟩:=hq.at (j:=p) (ab f) (by have:=ab K;have:=(ab F).2.2;omega);have O:Hid (rep s Z (k+1)=rep s Z k++[(rep s Z k).getD p 0]):=by
      show _=_;simp only[rep];rw[ab f,hp]
     have A:=a0E hb c.size;have S:Hid (n+k+1<=maxLen/\(n+k+1)*1<=140737488355328):=by show _/\_;have:=(ab F).2.1;unfold maxLen;omega
     have a1:(p:Int)<(n:Int)+(k:Int):=by omega
     have V:=ae (a0b hq (a0b d c));have z:=ae (hq.own (ab f));clear hq d c T hp;generalize (rep s Z k).getD p 0=b at *
     go_wp2_with (at_builtin;refine a0r _ rfl _ _ 103 rfl base 5 i0 (.int .u8 0) 1 1 a0Q hi P Q R rfl (by decide) _ _ _ rfl (a0k (ab z) _) ⟨wr.heap.size,0,none⟩ 1 1 [.int .u8 (b.toNat:Int)] rfl rfl (bE _ _ rfl _ _) (one_byte _) (ab S).1 (ab S).2 (ao A _) ?_;intro v' x2 r m C;clear C);obtain⟨hq,d,c⟩:=ab V;have L:=aC (v:=.slice (some ⟨g,0,none⟩) (n+k) vc) m (ab z) (a0a _) A c;have E:=cq (ab f) r;rw[←ab O]at E;have t:=((bm.refl 259 wr).alloc (.cells #[.int .u8 (b.toNat:Int)] 5)).grown (a0k (ab z) _) (by decide) m _ _ _ d;clear r m hq d c;go_wp2;go_roundw
     case rel=>exact⟨k+1,by have:=ab U;omega,by go_num,E,t,L⟩
     case measure=>simp[intOf];omega
    .
     obtain rfl:k=Y:=by omega
     go_wp2
     go_ret2
     exact⟨_,rfl,hq,c⟩
  .
   have M:(n:Int)<(Z:Int):=by omega
   have q:Below base w ((w.alloc (.cells #[.int .i64 (Y:Nat),.int .i64 (Z:Nat)] 259)).alloc (.cells #[.int .i64 (Y:Nat),.int .i64 (Z:Nat)] 259)):=o.alloc (by simp;omega) _;rw[a0h (fun x=>u x.2),a0d (fun x=>u x.2)];clear H h G y u y1 z0 z1;go_enter a1P,a1Q;go_wp2_with fail;refine(ab J).mono ?_;rintro e w' ⟨rfl,l⟩;rw[l];clear l w';go_wp2
   go_ret2
   exact⟨_,rfl,aQ.nil _ _,q⟩
 .
  have N:(300:Int)<(n:Int)+(Y:Int):=by omega
  rw[a0h (fun x=>y x.1),a0d (fun x=>y x.1)];clear H h G y y1 z0 z1;go_enter a1P,a1Q;go_wp2_with fail;refine(ab J).mono ?_;rintro e w' ⟨rfl,l⟩;rw[l];clear l w';go_wp2
  go_ret2
  exact⟨_,rfl,aQ.nil _ _,o⟩
theorem lzLay_any(base n cap:Nat)(a:Option Addr)(s:List UInt8)(t:Tk)(w:World)(g:s.length=n)(h:aQ w base (.slice a n cap) s)(r:n<=100000)(hb:base<=w.heap.size)(p:okT t=true) :
  Calls prog 244 #[.slice a n cap,fG t] w fun e w'=>∃v,e = .returned (.tuple #[v,.bool (eT s t).isSome])/\aQ w' base v ((eT s t).getD [])/\Below base w w':=by
 cases f:isB t
 .
  have m:isK t=true:=by simpa[okT,f]using p
  rw[oH m];have j:=m;simp only[isK,a0n,a0w]at j;obtain⟨⟨_,u⟩,x⟩:=j;obtain⟨y1,y2⟩:=aB.1 u;obtain⟨z1,z2⟩:=aB.1 x;obtain⟨Y,o⟩:=a0t (show 0<=t.2.1 by omega);obtain⟨Z,l⟩:=a0t (show 0<=t.2.2 by omega);rw[o,l];have k:se t=Y:=by unfold se;rw[f,o];simp
  refine(oo base n cap Y Z a s w g h r hb (by omega) (by omega) (by omega)).mono ?_;rintro e w' ⟨v,rfl,hq,b⟩;by_cases d:n+Y<=300/\Z<=n
  . have c:=oM (s:=s) p (fun _=>by rw[l,g];omega) (by rw[k,g];exact d.1);rw[f,o,l]at c;simp only[a01,a02,a0p]at c;rw[a0e d]at hq;rw[c,a0v d];exact⟨v,rfl,hq,b⟩
  .
   have c:eT s t=none:=by
    by_cases y:n+Y<=300
    . exact yI m (by rw[l,g];omega)
    . exact mR (by rw[k,g];omega)
   rw[a0d d]at hq;rw[c,a0h d];exact⟨v,rfl,hq,b⟩
 .
  rw[lB f];have i:=f;simp only[isB,a0n,a0w]at i;obtain⟨x1,x2⟩:=aB.1 i.2.1;have k:se t=1:=by unfold se;rw[f];rfl
  refine(oq base n cap a s t.1 w g h r hb x1 x2).mono ?_;rintro e w' ⟨v,rfl,hq,b⟩;by_cases d:n+1<=300
  . have c:=oM (s:=s) p (fun q=>by rw[EO f]at q;cases q) (by rw[k,g];exact d);rw[f]at c;simp only[a0X]at c;rw[a0e d]at hq;rw[c,a0v d];exact⟨v,rfl,hq,b⟩
  . have c:eT s t=none:=mR (by rw[k,g];omega);rw[a0d d]at hq;rw[c,a0h d];exact⟨v,rfl,hq,b⟩
end Go.Proofs.YtchidddpplangaaGreatDoor
namespace Go.Proofs.YtchidddpplangaaGreatDoor.U
open Go.Proofs.Tryz
open Go.Proofs.YtchidddpplangaaGreatDoor
open Go.RowKit
theorem oq(base n cap:Nat)(a:Option Addr)(s:List UInt8)(x:Int)(w:World)(l:s.length=n)(h:aQ w base (.slice a n cap) s)(p:n<=100000)(hb:base<=w.heap.size)(x0:0<=x)(x1:x<=255) :
  Calls prog 244 #[.slice a n cap,.iface 257 (.int .u8 x)] w fun e w'=>∃v,e = .returned (.tuple #[v,.bool (decide (n+1<=300))])/\aQ w' base v (if n+1<=300 then s++[dz x]else [])/\cJ base w w':=by
 obtain⟨i0,A,q,r,t⟩:=info_parts Tryz.infoU8;have B:(n:Int)<=100000:=by omega
 have m1:=um;have t1:=kU;have y:=ae (And.intro l p);by_cases f:n+1<=300
 .
  obtain⟨N,hN⟩:∃N:Int,(n:Int)+1=N:=⟨_,rfl⟩;have g:¬ (300:Int)<N:=by omega
  have z:decide ((300:Int)<N)=false:=decide_eq_false g;have o:Hid (x=((dz x).toNat:Int)):=(ew x0 x1).symm;have u:Hid (n+1<=maxLen/\(n+1)*1<=140737488355328):=by show _/\_;unfold maxLen;omega
  have k:=ae (h.own l);rw[decide_eq_true f,if_pos f];clear l h p f;go_enter func244,ntmps244;go_wp2_with fail;refine(gj x w).mono ?_;rintro e w' ⟨rfl,d⟩;rw[d];clear d w';go_wp2_with (at_builtin;refine wpList_append_own _ rfl _ _ 103 rfl base 5 i0 (.int .u8 0) 1 1 underlying103 A q r t rfl (by decide) _ _ _ rfl (World.ownsRow.alloc (ab k) _) ⟨w.heap.size,0,none⟩ 1 1 [.int .u8 x] rfl rfl (bE _ _ rfl _ _) (one_byte _) (ab u).1 (ab u).2 (ao hb _) ?_;intro v' x2 c b i;clear i);have m:cJ base w x2:=iD (v:=.slice a n cap) b (ab k) (Nat.le_refl _) hb (cJ.refl _ _);rw[ab o]at c;have j:=cq (ab y).1 c;obtain⟨va,vc,rfl⟩:=j.form;clear c b;go_wp2
  go_ret2
  exact⟨_,rfl,j,m⟩
 .
  obtain⟨N,hN⟩:∃N:Int,(n:Int)+1=N:=⟨_,rfl⟩;have g:(300:Int)<N:=by omega
  rw[decide_eq_false f,if_neg f];clear l h p f;go_enter func244,ntmps244;go_wp2_with fail;refine(gj x w).mono ?_;rintro e w' ⟨rfl,d⟩;rw[d];clear d w';go_wp2
  go_ret2
  exact⟨_,rfl,aQ.nil _ _,cJ.refl _ _⟩
theorem oo(base n cap Y Z:Nat)(a:Option Addr)(s:List UInt8)(w:World)(H:s.length=n)(h:aQ w base (.slice a n cap) s)(G:n<=100000)(hb:base<=w.heap.size)(y1:Y<=60)(z0:1<=Z)(z1:Z<=250) :
  Calls prog 244 #[.slice a n cap,.iface 259 (.agg #[.int .i64 (Y:Nat),.int .i64 (Z:Nat)])] w fun e w'=>∃v,e = .returned (.tuple #[v,.bool (decide (n+Y<=300/\Z<=n))])/\aQ w' base v (if n+Y<=300/\Z<=n then rep s Z Y else [])/\cJ base w w':=by
 obtain⟨i0,hi,Q,R,S⟩:=info_parts Tryz.infoU8;have an:(n:Int)<=100000:=by omega
 have X:(Y:Int)<=60:=by omega
 have ac:(Z:Int)<=250:=by omega
 have aa:(1:Int)<=(Z:Int):=by omega
 have m1:=uk;have t1:=mS;have t2:=kT;have F:=ae (And.intro H (And.intro G z0));have J:=ae (kW (Y:Nat) (Z:Nat) w);have o:cJ base w (w.alloc (.cells #[.int .i64 (Y:Nat),.int .i64 (Z:Nat)] 259)):=(cJ.refl _ _).alloc hb _;by_cases y:n+Y<=300
 .
  have O:¬ (300:Int)<(n:Int)+(Y:Int):=by omega
  by_cases u:Z<=n
  .
   have N:¬ (n:Int)<(Z:Int):=by omega
   have M:decide (n<Z)=false:=decide_eq_false (by omega);rw[decide_eq_true ⟨y,u⟩,if_pos ⟨y,u⟩];have K:=ae u;have D:aQ ((w.alloc (.cells #[.int .i64 (Y:Nat),.int .i64 (Z:Nat)] 259)).alloc (.cells #[.int .i64 (Y:Nat),.int .i64 (Z:Nat)] 259)) base (.slice a n cap) s:=(h.later ((Below.refl w.heap.size w).alloc (Nat.le_refl _) _) (Nat.le_refl _)).later ((Below.refl _ _).alloc (Nat.le_refl _) _) (Nat.le_refl _);have q:cJ base w ((w.alloc (.cells #[.int .i64 (Y:Nat),.int .i64 (Z:Nat)] 259)).alloc (.cells #[.int .i64 (Y:Nat),.int .i64 (Z:Nat)] 259)):=o.alloc (by simp;omega) _;have B:((w.alloc (.cells #[.int .i64 (Y:Nat),.int .i64 (Z:Nat)] 259)).alloc (.cells #[.int .i64 (Y:Nat),.int .i64 (Z:Nat)] 259)).heap[w.heap.size+1]?=some (Obj.cells #[.int .i64 (Y:Nat),.int .i64 (Z:Nat)] 259):=by
    have e:(w.alloc (.cells #[.int .i64 (Y:Nat),.int .i64 (Z:Nat)] 259)).heap.size=w.heap.size+1:=by simp
    rw[←e];exact alloc_at _ _
   have I:=ae (And.intro D (And.intro q B));clear H h G y u y1 z0 z1 D q B o;go_enter func244,ntmps244;go_wp2_with fail;refine(ab J).mono ?_;rintro e w' ⟨rfl,l⟩;rw[l];clear l w';go_wp2_with fail
   go_loopw [0,32] (fun v i wr=>∃k:Nat,k<=Y/\i = .int .i64 k/\aQ wr base v (rep s Z k)/\wr.heap[w.heap.size+1]?=some (Obj.cells #[.int .i64 (Y:Nat),.int .i64 (Z:Nat)] 259)/\cJ base w wr) (fun _ i _=>Y-(intOf i).toNat)
   case atStart=>exact⟨0,Nat.zero_le _,rfl,(ab I).1,(ab I).2.2,(ab I).2.1⟩
   case round=>
    obtain⟨k,U,rfl,hq,d,c⟩:=hrel;obtain⟨c0,c1,al⟩:=df d;have f:Hid ((rep s Z k).length=n+k):=by show _=_;rw[lx,(ab F).1]
    obtain⟨va,vc,rfl⟩:=hq.formN (ab f);have V:=ae U;by_cases ad:k<Y
    .
     obtain⟨g,rfl⟩:=hq.somes (by rw[ab f];have:=ab K;have:=(ab F).2.2;omega);obtain⟨p,hp⟩:∃p,n+k-Z=p:=⟨_,rfl⟩;have a0:((n:Int)+(k:Int))-(Z:Int)=(p:Int):=by have:=ab K;omega
     obtain⟨d0,_,_⟩:=hq.at (j:=p) (ab f) (by have:=ab K;have:=(ab F).2.2;omega);have P:Hid (rep s Z (k+1)=rep s Z k++[(rep s Z k).getD p 0]):=by
      show _=_;simp only[rep];rw[ab f,hp]
     have A:=Nat.le_trans hb c.size;have T:Hid (n+k+1<=maxLen/\(n+k+1)*1<=140737488355328):=by show _/\_;have:=(ab F).2.1;unfold maxLen;omega
     have a1:(p:Int)<(n:Int)+(k:Int):=by omega
     have W:=ae (And.intro hq (And.intro d c));have z:=ae (hq.own (ab f));have Hp:=ae hp;clear hq d c U hp;generalize (rep s Z k).getD p 0=b at *
     go_wp2_with (at_builtin;refine wpList_append_own _ rfl _ _ 103 rfl base 5 i0 (.int .u8 0) 1 1 underlying103 hi Q R S rfl (by decide) _ _ _ rfl (World.ownsRow.alloc (ab z) _) ⟨wr.heap.size,0,none⟩ 1 1 [.int .u8 (b.toNat:Int)] rfl rfl (bE _ _ rfl _ _) (one_byte _) (ab T).1 (ab T).2 (ao A _) ?_;intro v' x2 r m C;clear C);obtain⟨hq,d,c⟩:=ab W;have L:=iD (v:=.slice (some ⟨g,0,none⟩) (n+k) vc) m (ab z) (Nat.le_refl _) A c;have E:=cq (ab f) r;rw[←ab P]at E;have t:=((bm.refl 259 wr).alloc (.cells #[.int .u8 (b.toNat:Int)] 5)).grown (World.ownsRow.alloc (ab z) _) (by decide) m _ _ _ d;clear r m hq d c;go_wp2;go_roundw
     case rel=>exact⟨k+1,by have:=ab V;omega,by go_num,E,t,L⟩
     case measure=>simp[intOf];omega
    .
     obtain rfl:k=Y:=by omega
     go_wp2
     go_ret2
     exact⟨_,rfl,hq,c⟩
  .
   have N:(n:Int)<(Z:Int):=by omega
   have M:decide (n<Z)=true:=decide_eq_true (by omega);have q:cJ base w ((w.alloc (.cells #[.int .i64 (Y:Nat),.int .i64 (Z:Nat)] 259)).alloc (.cells #[.int .i64 (Y:Nat),.int .i64 (Z:Nat)] 259)):=o.alloc (by simp;omega) _;rw[decide_eq_false (fun x=>u x.2),if_neg (fun x=>u x.2)];clear H h G y u y1 z0 z1;go_enter func244,ntmps244;go_wp2_with fail;refine(ab J).mono ?_;rintro e w' ⟨rfl,l⟩;rw[l];clear l w';go_wp2
   go_ret2
   exact⟨_,rfl,aQ.nil _ _,q⟩
 .
  have O:(300:Int)<(n:Int)+(Y:Int):=by omega
  rw[decide_eq_false (fun x=>y x.1),if_neg (fun x=>y x.1)];clear H h G y y1 z0 z1;go_enter func244,ntmps244;go_wp2_with fail;refine(ab J).mono ?_;rintro e w' ⟨rfl,l⟩;rw[l];clear l w';go_wp2
  go_ret2
  exact⟨_,rfl,aQ.nil _ _,o⟩
theorem lzLay_any(base n cap:Nat)(a:Option Addr)(s:List UInt8)(t:Tk)(w:World)(g:s.length=n)(h:aQ w base (.slice a n cap) s)(r:n<=100000)(hb:base<=w.heap.size)(p:okT t=true) :
  Calls prog 244 #[.slice a n cap,fG t] w fun e w'=>∃v,e = .returned (.tuple #[v,.bool (eT s t).isSome])/\aQ w' base v ((eT s t).getD [])/\cJ base w w':=by
 cases f:isB t
 .
  have m:isK t=true:=by simpa[okT,f]using p
  rw[oH m];have j:=m;simp only[isK,Bool.and_eq_true,decide_eq_true_eq]at j;obtain⟨⟨_,u⟩,x⟩:=j;obtain⟨y1,y2⟩:=aB.1 u;obtain⟨z1,z2⟩:=aB.1 x;obtain⟨Y,o⟩:=Int.eq_ofNat_of_zero_le (show 0<=t.2.1 by omega);obtain⟨Z,l⟩:=Int.eq_ofNat_of_zero_le (show 0<=t.2.2 by omega);rw[o,l];have k:se t=Y:=by unfold se;rw[f,o];simp
  refine(oo base n cap Y Z a s w g h r hb (by omega) (by omega) (by omega)).mono ?_;rintro e w' ⟨v,rfl,hq,b⟩;by_cases d:n+Y<=300/\Z<=n
  . have c:=oM (s:=s) p (fun _=>by rw[l,g];omega) (by rw[k,g];exact d.1);rw[f,o,l]at c;simp only[Bool.false_eq_true,if_false,Int.toNat_natCast]at c;rw[if_pos d]at hq;rw[c,decide_eq_true d];exact⟨v,rfl,hq,b⟩
  .
   have c:eT s t=none:=by
    by_cases y:n+Y<=300
    . exact yI m (by rw[l,g];omega)
    . exact mR (by rw[k,g];omega)
   rw[if_neg d]at hq;rw[c,decide_eq_false d];exact⟨v,rfl,hq,b⟩
 .
  rw[lB f];have i:=f;simp only[isB,Bool.and_eq_true,decide_eq_true_eq]at i;obtain⟨x1,x2⟩:=aB.1 i.2.1;have k:se t=1:=by unfold se;rw[f];rfl
  refine(oq base n cap a s t.1 w g h r hb x1 x2).mono ?_;rintro e w' ⟨v,rfl,hq,b⟩;by_cases d:n+1<=300
  . have c:=oM (s:=s) p (fun q=>by rw[EO f]at q;cases q) (by rw[k,g];exact d);rw[f]at c;simp only[if_true]at c;rw[if_pos d]at hq;rw[c,decide_eq_true d];exact⟨v,rfl,hq,b⟩
  . have c:eT s t=none:=mR (by rw[k,g];omega);rw[if_neg d]at hq;rw[c,decide_eq_false d];exact⟨v,rfl,hq,b⟩
end Go.Proofs.YtchidddpplangaaGreatDoor.U
namespace Go.Proofs.YtchidddpplangaaGreatDoor.U
open Go.Proofs.Tryz
open Go.Proofs.YtchidddpplangaaGreatDoor
open Go.RowKit
theorem ct{W x1:World}{v u:Value}{k o:Nat}(b:W.grownBy x1 v.ownBlock)(c:∀g,v.ownBlock=some g->g<k)(a:W.cell? ⟨k,o,none⟩=some u):x1.cell? ⟨k,o,none⟩=some u:=
 b.cell a (fun e=>by have:=c k e.symm;omega)
theorem qH{w:World}{base size n:Nat}{e:TypeId}{v:Value}{xs:List Value}(h:w.ownsRow base e size v n xs):∀g,v.ownBlock=some g->g<w.heap.size:=fun g a=>(World.ownsRow.lt h g a).2
theorem oe(base n cap:Nat)(a:Option Addr)(s:List UInt8)(t:Tk)(w:World)(K:s.length=n)(h:aQ w base (.slice a n cap) s)(S:n<=100000)(hb:base<=w.heap.size)(O:t.2.1=0) :
  Calls prog 224 #[.slice a n cap,.agg #[.int .i64 t.1,.int .i64 t.2.1,.int .i64 t.2.2]] w fun e w'=>∃v x,e = .returned (.tuple #[v,.bool (isB t)])/\aQ w' base v x/\(isB t=true->x=s++[dz t.1])/\cJ base w w':=by
 obtain⟨i0,M,B,C,D⟩:=info_parts Tryz.infoU8;obtain⟨x,y,z⟩:=t;simp only at O;subst O;simp only;have T:(n:Int)<=100000:=by omega
 have Q:∃X:Int,IntKind.u8.wrap x=X:=⟨_,rfl⟩;obtain⟨X,P⟩:=Q;have p:0<=X/\X<=255:=by rw[←P];simp[IntKind.wrap,IntKind.bits,IntKind.signed];omega
 have A:Hid (isB (x,0,z)=true->(dz X)=dz x):=by
  intro u;simp only[isB,Bool.and_eq_true,decide_eq_true_eq]at u;have:=aB.1 u.2.1;have e:X=x:=by rw[←P];simp[IntKind.wrap,IntKind.bits,IntKind.signed];omega
  rw[e]
 have k:Hid (isB (x,0,z)=(inB x 0 255&&decide (z=0))):=by show _=_;simp[isB]
 have L:=ae K;have r:World.ownsRow ((w.alloc (.cells #[.int .i64 x,.int .i64 0,.int .i64 z] 229)).alloc (.cells #[.int .u8 X] 5)).drew base 5 1 (.slice a n cap) n (da s):=World.ownsRow.alloc (World.ownsRow.alloc (h.own K) _) _;have o:=ae (bE (w.alloc (.cells #[.int .i64 x,.int .i64 0,.int .i64 z] 229)) (w.heap.size+1) (by simp) (.int .u8 X) 5);have i:cJ base w ((w.alloc (.cells #[.int .i64 x,.int .i64 0,.int .i64 z] 229)).alloc (.cells #[.int .u8 X] 5)).drew:=((((cJ.refl base w).alloc hb _).alloc (by simp;omega) _)).drew;have f:∀g,(Value.slice a n cap).ownBlock=some g->g<w.heap.size:=qH (h.own K);have E:Hid (n+1<=maxLen/\(n+1)*1<=140737488355328):=by show _/\_;unfold maxLen;omega
 have F:(w.alloc (.cells #[.int .i64 x,.int .i64 0,.int .i64 z] 229)).drew.cell? ⟨w.heap.size,0,none⟩=some (.int .i64 x):=by show(w.alloc (.cells #[.int .i64 x,.int .i64 0,.int .i64 z] 229)).cell? ⟨w.heap.size,0,none⟩=some (.int .i64 x);simp
 have G:(w.alloc (.cells #[.int .i64 x,.int .i64 0,.int .i64 z] 229)).drew.cell? ⟨w.heap.size,2,none⟩=some (.int .i64 z):=by show(w.alloc (.cells #[.int .i64 x,.int .i64 0,.int .i64 z] 229)).cell? ⟨w.heap.size,2,none⟩=some (.int .i64 z);simp
 have e00:((w.alloc (.cells #[.int .i64 x,.int .i64 0,.int .i64 z] 229)).alloc (.cells #[.int .u8 X] 5)).drew.cell? ⟨w.heap.size,0,none⟩=some (.int .i64 x):=by show((w.alloc (.cells #[.int .i64 x,.int .i64 0,.int .i64 z] 229)).alloc (.cells #[.int .u8 X] 5)).cell? ⟨w.heap.size,0,none⟩=some (.int .i64 x);simp
 have e02:((w.alloc (.cells #[.int .i64 x,.int .i64 0,.int .i64 z] 229)).alloc (.cells #[.int .u8 X] 5)).drew.cell? ⟨w.heap.size,2,none⟩=some (.int .i64 z):=by show((w.alloc (.cells #[.int .i64 x,.int .i64 0,.int .i64 z] 229)).alloc (.cells #[.int .u8 X] 5)).cell? ⟨w.heap.size,2,none⟩=some (.int .i64 z);simp
 have q:=And.intro F G;have d:=And.intro e00 e02;clear h K S F G e00 e02;cases I:inB x 0 255
 .
  rw[I]at k;go_enter func224,ntmps224;go_wp2_with fail;first|(go_region_law (first|(refine aL rfl (.tmp 10) (.tmp 14) 103 rfl base 5 i0 (.int .u8 0) 1 1 underlying103 M B C D rfl (Nat.zero_lt_succ 0) (.slice a n cap) _ _ rfl r ⟨w.heap.size+1,0,none⟩ 1 1 [.int .u8 X] rfl rfl (ab o) (one_byte _) (ab E).1 (ab E).2 (Nat.le_trans hb i.size) ?_;intro v' x5 c b l;clear l;have H:=ct b f d.1;have R:=ct b f d.2)|(go_simp;go_at_call 24;refine(aG _ _ _ _).mono ?_;rintro e y5 ⟨rfl,m⟩;rw[m,I];clear m)))|fail
  all_goals
   clear o q d;have j:cJ base w x5:=i.grown b (Nat.le_trans hb i.size) (fun g J=>(World.ownsRow.lt r g J).1) (DV r);have hq:aQ x5 base v' (s++[dz X]):=cq (ab L) (by rw[ew p.1 p.2];exact c);obtain⟨va,vc,rfl⟩:=hq.form;clear c b;go_wp2
   go_ret2
   exact⟨_,_,by rw[ab k];rfl,hq,fun u=>by rw[ab A u],j⟩
 .
  rw[I]at k;by_cases N:z=0
  .
   subst N;go_enter func224,ntmps224;go_wp2_with fail;first|(go_region_held3 (fun W=>W.cell? ⟨w.heap.size,0,none⟩=some (.int .i64 x)/\W.cell? ⟨w.heap.size,2,none⟩=some (.int .i64 0)) (first|exact q|assumption|exact d) (first
    | (go_at_call 24;refine(aG _ _ _ _).mono ?_;rintro e y5 ⟨rfl,m⟩;rw[m,I];clear m)
    | (refine aL rfl (.tmp 10) (.tmp 14) 103 rfl base 5 i0 (.int .u8 0) 1 1 underlying103 M B C D rfl (Nat.zero_lt_succ 0) (.slice a n cap) _ _ rfl r ⟨w.heap.size+1,0,none⟩ 1 1 [.int .u8 X] rfl rfl (ab o) (one_byte _) (ab E).1 (ab E).2 (Nat.le_trans hb i.size) ?_;intro v' x5 c b l;clear l;have H:=And.intro (ct b f d.1) (ct b f d.2))))|fail
   clear o q d;have j:cJ base w x5:=i.grown b (Nat.le_trans hb i.size) (fun g J=>(World.ownsRow.lt r g J).1) (DV r);have hq:aQ x5 base v' (s++[dz X]):=cq (ab L) (by rw[ew p.1 p.2];exact c);obtain⟨va,vc,rfl⟩:=hq.form;clear c b;go_wp2
   go_ret2
   exact⟨_,_,by rw[ab k];rfl,hq,fun u=>by rw[ab A u],j⟩
  .
   have U:(z == 0)=false:=by simpa using N
   go_enter func224,ntmps224;go_wp2_with fail;first|(go_region_held3 (fun W=>W.cell? ⟨w.heap.size,0,none⟩=some (.int .i64 x)/\W.cell? ⟨w.heap.size,2,none⟩=some (.int .i64 z)) (first|exact q|assumption|exact d) (first
    | (go_at_call 24;refine(aG _ _ _ _).mono ?_;rintro e y5 ⟨rfl,m⟩;rw[m,I];clear m)
    | (refine aL rfl (.tmp 10) (.tmp 14) 103 rfl base 5 i0 (.int .u8 0) 1 1 underlying103 M B C D rfl (Nat.zero_lt_succ 0) (.slice a n cap) _ _ rfl r ⟨w.heap.size+1,0,none⟩ 1 1 [.int .u8 X] rfl rfl (ab o) (one_byte _) (ab E).1 (ab E).2 (Nat.le_trans hb i.size) ?_;intro v' x5 c b l;clear l;have H:=And.intro (ct b f d.1) (ct b f d.2))))|fail
   clear o q d;have j:cJ base w x5:=i.grown b (Nat.le_trans hb i.size) (fun g J=>(World.ownsRow.lt r g J).1) (DV r);have hq:aQ x5 base v' (s++[dz X]):=cq (ab L) (by rw[ew p.1 p.2];exact c);obtain⟨va,vc,rfl⟩:=hq.form;clear c b;go_wp2
   go_ret2
   exact⟨_,_,by rw[ab k];simp[N],hq,fun u=>by rw[ab A u],j⟩
theorem tH{t:Tk}(h:t.2.1≠0):isB t=false:=by simp[isB,h]
theorem od(base n cap:Nat)(a:Option Addr)(s:List UInt8)(t:Tk)(w:World)(U:s.length=n)(h:aQ w base (.slice a n cap) s)(T:n<=100000)(hb:base<=w.heap.size)(P:t.2.1≠0) :
  Calls prog 224 #[.slice a n cap,.agg #[.int .i64 t.1,.int .i64 t.2.1,.int .i64 t.2.2]] w fun e w'=>∃v x,e = .returned (.tuple #[v,.bool (isK t&&decide (t.2.2<=(n:Int)))])/\aQ w' base v x/\((isK t&&decide (t.2.2<=(n:Int)))=true->x=rep s t.2.2.toNat t.2.1.toNat)/\cJ base w w':=by
 obtain⟨i0,hi,K,L,M⟩:=info_parts Tryz.infoU8;obtain⟨x,y,z⟩:=t;simp only at P ⊢;have ad:(n:Int)<=100000:=by omega
 have a1:(y == 0)=false:=by simpa using P
 have D:cJ base w (w.alloc (.cells #[.int .i64 x,.int .i64 y,.int .i64 z] 229)):=(cJ.refl base w).alloc hb _;have Q:aQ (w.alloc (.cells #[.int .i64 x,.int .i64 y,.int .i64 z] 229)) base (.slice a n cap) s:=h.later ((Below.refl w.heap.size w).alloc (Nat.le_refl _) _) (Nat.le_refl _);have N:=ae (And.intro U T);have q:=ae (And.intro Q D);clear U T h Q D;by_cases J:x=0
 .
  subst J;cases B:inB y 3 60
  .
   have m:Hid ((isK (0,y,z)&&decide (z<=(n:Int)))=false):=by show _=false;simp[isK,B]
   go_enter func224,ntmps224;go_wp2_with (go_at_call 24;refine(aG _ _ _ _).mono ?_;rintro e w' ⟨rfl,c⟩;rw[c,B];clear c w')
   go_ret2
   rw[ab m];exact⟨_,s,rfl,(ab q).1,(fun h=>by cases h),(ab q).2⟩
  .
   cases C:inB z 1 250
   .
    have m:Hid ((isK (0,y,z)&&decide (z<=(n:Int)))=false):=by show _=false;simp[isK,C]
    go_enter func224,ntmps224;go_wp2_with fail;refine(aG _ _ _ _).mono ?_;rintro e w' ⟨rfl,c⟩;rw[c,B];clear c w';go_wp2_with fail;refine(aG _ _ _ _).mono ?_;rintro e w' ⟨rfl,c⟩;rw[c,C];clear c w';go_wp2
    go_ret2
    rw[ab m];exact⟨_,s,rfl,(ab q).1,(fun h=>by cases h),(ab q).2⟩
   .
    obtain⟨y1,y2⟩:=aB.1 B;obtain⟨z1,z2⟩:=aB.1 C;by_cases R:z<=(n:Int)
    .
     have m:Hid ((isK (0,y,z)&&decide (z<=(n:Int)))=true):=by show _=true;simp[isK,B,C,R]
     obtain⟨Y,rfl⟩:=Int.eq_ofNat_of_zero_le (show 0<=y by omega);obtain⟨Z,rfl⟩:=Int.eq_ofNat_of_zero_le (show 0<=z by omega);have X:decide (n<Z)=false:=decide_eq_false (by omega);go_enter func224,ntmps224;go_wp2_with fail;refine(aG _ _ _ _).mono ?_;rintro e w' ⟨rfl,c⟩;rw[c,B];clear c w';go_wp2_with fail;refine(aG _ _ _ _).mono ?_;rintro e w' ⟨rfl,c⟩;rw[c,C];clear c w';go_wp2_with fail
     go_loopw [0,6] (fun v i wr=>∃k:Nat,k<=Y/\i = .int .i64 k/\aQ wr base v (rep s Z k)/\wr.heap[w.heap.size]?=some (Obj.cells #[.int .i64 0,.int .i64 (Y:Int),.int .i64 (Z:Int)] 229)/\cJ base w wr) (fun _ i _=>Y-(intOf i).toNat)
     case atStart=>exact⟨0,Nat.zero_le _,rfl,(ab q).1,alloc_at _ _,(ab q).2⟩
     case round=>
      obtain⟨k,S,rfl,hq,f,d⟩:=hrel;obtain⟨c0,c1,c2,ac⟩:=oZ f;have l:Hid ((rep s Z k).length=n+k):=by show _=_;rw[lx,(ab N).1]
      obtain⟨va,vc,rfl⟩:=hq.formN (ab l);have V:=ae S;by_cases aa:k<Y
      .
       obtain⟨g,rfl⟩:=hq.somes (by rw[ab l];omega);obtain⟨p,hp⟩:∃p,n+k-Z=p:=⟨_,rfl⟩;have al:((n:Int)+(k:Int))-(Z:Int)=(p:Int):=by omega
       obtain⟨d0,_,_⟩:=hq.at (j:=p) (ab l) (by omega);have I:Hid (rep s Z (k+1)=rep s Z k++[(rep s Z k).getD p 0]):=by
        show _=_;simp only[rep];rw[ab l,hp]
       have E:=Nat.le_trans hb d.size;have O:Hid (n+k+1<=maxLen/\(n+k+1)*1<=140737488355328):=by show _/\_;have:=(ab N).2;unfold maxLen;omega
       have an:(p:Int)<(n:Int)+(k:Int):=by omega
       have W:=ae (And.intro hq (And.intro f d));have A:=ae (hq.own (ab l));have Hp:=ae hp;clear hq f d S hp;generalize (rep s Z k).getD p 0=b at *
       go_wp2_with (at_builtin;refine wpList_append_own _ rfl _ _ 103 rfl base 5 i0 (.int .u8 0) 1 1 underlying103 hi K L M rfl (by decide) _ _ _ rfl (World.ownsRow.alloc (ab A) _) ⟨wr.heap.size,0,none⟩ 1 1 [.int .u8 (b.toNat:Int)] rfl rfl (bE _ _ rfl _ _) (one_byte _) (ab O).1 (ab O).2 (ao E _) ?_;intro v' x2 r o F;clear F);obtain⟨hq,f,d⟩:=ab W;have H:=iD (v:=.slice (some ⟨g,0,none⟩) (n+k) vc) o (ab A) (Nat.le_refl _) E d;have G:=cq (ab l) r;rw[←ab I]at G;have u:=((bm.refl 229 wr).alloc (.cells #[.int .u8 (b.toNat:Int)] 5)).grown (World.ownsRow.alloc (ab A) _) (by decide) o _ _ _ f;clear r o hq f d;go_wp2;go_roundw
       case rel=>exact⟨k+1,by have:=ab V;omega,by go_num,G,u,H⟩
       case measure=>simp[intOf];omega
      .
       obtain rfl:k=Y:=by omega
       go_wp2
       go_ret2
       rw[ab m];exact⟨_,_,rfl,hq,(fun _=>by simp),d⟩
    .
     have m:Hid ((isK (0,y,z)&&decide (z<=(n:Int)))=false):=by show _=false;simp[R]
     go_enter func224,ntmps224;go_wp2_with fail;refine(aG _ _ _ _).mono ?_;rintro e w' ⟨rfl,c⟩;rw[c,B];clear c w';go_wp2_with fail;refine(aG _ _ _ _).mono ?_;rintro e w' ⟨rfl,c⟩;rw[c,C];clear c w';go_wp2
     go_ret2
     rw[ab m];exact⟨_,s,rfl,(ab q).1,(fun h=>by cases h),(ab q).2⟩
 .
  have a0:(x == 0)=false:=by simpa using J
  have m:Hid ((isK (x,y,z)&&decide (z<=(n:Int)))=false):=by show _=false;simp[isK,J]
  go_enter func224,ntmps224;go_wp2
  go_ret2
  rw[ab m];exact⟨_,s,rfl,(ab q).1,(fun h=>by cases h),(ab q).2⟩
theorem l4Add_any(base n cap:Nat)(a:Option Addr)(s:List UInt8)(t:Tk)(w:World)(i:s.length=n)(h:aQ w base (.slice a n cap) s)(j:n<=100000)(hb:base<=w.heap.size) :
  Calls prog 224 #[.slice a n cap,.agg #[.int .i64 t.1,.int .i64 t.2.1,.int .i64 t.2.2]] w fun e w'=>∃v x,e = .returned (.tuple #[v,.bool (gJ s t).isSome])/\aQ w' base v x/\((gJ s t).isSome=true->gJ s t=some x)/\cJ base w w':=by
 by_cases g:t.2.1=0
 .
  have k:isK t=false:=by
   have:inB t.2.1 3 60=false:=dN.2 (by omega);simp[isK,this]
  have e:gJ s t=if isB t then some (s++[dz t.1])else none:=by unfold gJ;rw[k];rfl
  refine(oe base n cap a s t w i h j hb g).mono ?_;rintro e1 w' ⟨v,x,rfl,f,c,b⟩;cases d:isB t
  . rw[d]at e c;exact⟨v,x,by rw[e];rfl,f,(fun h=>by rw[e]at h;cases h),b⟩
  . rw[d]at e c;exact⟨v,x,by rw[e];rfl,f,(fun _=>by rw[e,c rfl];rfl),b⟩
 .
  have e:gJ s t=if isK t&&decide (t.2.2<=(n:Int))then some (rep s t.2.2.toNat t.2.1.toNat)else none:=by unfold gJ;rw[tH g,i];rfl
  refine(od base n cap a s t w i h j hb g).mono ?_;rintro e1 w' ⟨v,x,rfl,f,c,b⟩;cases d:isK t&&decide (t.2.2<=(n:Int))
  . rw[d]at e c;exact⟨v,x,by rw[e];rfl,f,(fun h=>by rw[e]at h;cases h),b⟩
  . rw[d]at e c;exact⟨v,x,by rw[e];rfl,f,(fun _=>by rw[e,c rfl];rfl),b⟩
end Go.Proofs.YtchidddpplangaaGreatDoor.U
