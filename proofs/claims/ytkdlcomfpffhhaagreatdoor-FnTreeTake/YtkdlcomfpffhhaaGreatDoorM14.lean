/- Of what the proof is made: 4 texts, one behind the other. -/
import Derived.Test.YtkdlcomfpffhhaaGreatDoorM8
import Derived.Test.YtkdlcomfpffhhaaGreatDoorM5
import Derived.Laws.Bits64b
import Derived.Laws.CopyOwn
import Derived.Deep.RegionLaw
import Derived.Test.YtkdlcomfpffhhaaGreatDoorTi1
import Derived.Test.YtkdlcomfpffhhaaGreatDoorTt2
set_option maxRecDepth 100000
set_option linter.unusedSimpArgs false
set_option linter.unusedVariables false
set_option maxHeartbeats 3200000
namespace Go.Proofs.YtkdlcomfpffhhaaGreatDoor
open Go.Proofs.Tryz
open Go.RowKit
variable {e:TypeId}{g:Nat}{w:World}
theorem Gw(c:Nat)(a:(c:Int)<=1000):bits .and .u64 (c:Int) 4294967295=(c:Int):=by
 have h:=Go.bits_and_u64_nat c 4294967295 (by omega) (by decide);have e:c &&& 4294967295=c:=by
  have:=Nat.and_two_pow_sub_one_eq_mod c 32;rw[show(2 ^ 32-1:Nat)=4294967295 by decide]at this;rw[this];omega
 rw[e]at h;exact h
theorem wrap_small(c:Nat)(a:(c:Int)<=1000):IntKind.u64.wrap (c:Int)=(c:Int):=by
 simp only[IntKind.wrap,IntKind.signed,IntKind.bits];simp;omega
theorem Fh(c:Nat)(w:World)(a:(c:Int)<=1000) :
  Calls prog 200 #[.int .u64 1,.int .u64 (c:Nat)] w fun e w'=>e = .returned (.tuple #[.int .u64 0,.int .u64 (c:Nat)])/\w'=w:=by
 have e1:bits .and .u64 1 4294967295=1:=by decide +kernel
 have e0:bits .and .u64 0 4294967295=0:=by decide +kernel
 have e2:=Gw c a;have e3:(c:Int)/4294967296=0:=by omega
 have e4:=wrap_small c a;go_enter func200,ntmps200;go_wp2
 go_ret2
 exact⟨rfl,rfl⟩
theorem mul_one(c:Nat)(w:World)(b:(c:Int)<=1000) :
  Calls prog 161 #[.int .u64 1,.int .u64 (c:Nat)] w fun e w'=>e = .returned (.tuple #[.int .u64 0,.int .u64 (c:Nat)])/\w'=w:=by
 go_enter func161,ntmps161;go_wp2_with (go_at_call 200;refine(Fh c _ b).mono ?_;rintro e w' ⟨rfl,a⟩;rw[a];clear a)
 go_ret2
 exact⟨rfl,rfl⟩
theorem Jh{base n:Nat}{xs:List Value}(h:w.ownsRow base e 1 (.slice (some ⟨g,0,none⟩) n n) n xs):w.heap[g]?=some (.cells xs.toArray e (0,0)):=by
 rcases h.2 with⟨e,_⟩|⟨g',cap,b,e',_,c,_,_,d,a⟩
 . cases e
 . simp only[a0O,a0m,a0F,a1a]at e';obtain⟨rfl,-,rfl⟩:=e';rw[a0D (by simp;omega)]at a;rw[c,←a]
theorem Ig{base n:Nat}{xs:List Value}(h:w.heap[g]?=some (.cells xs.toArray e (0,0)))(b:xs.length=n)(hb:base<=g)(a:n<=maxLen):w.ownsRow base e 1 (.slice (some ⟨g,0,none⟩) n n) n xs:=
 ⟨by omega,.inr ⟨g,n,xs.toArray,rfl,hb,h,a0a _,a,by simp;omega,by simp;exact a0D (by omega)⟩⟩
def gN(v:Int)(k c:Nat):List Value:=List.replicate k (.int .i64 v)++List.replicate (c-k) (.int .i64 0)
theorem uj(v:Int)(k c:Nat)(h:k<=c):(gN v k c).length=c:=by simp[gN];omega
theorem pN(v:Int)(k m c:Nat)(h:k+m<=c):splice (gN v k c) k (List.replicate m (.int .i64 v))=gN v (k+m) c:=by
 unfold splice gN;rw[a1J (by simp),a0D (by simp),List.drop_append,a2p (by simp)];simp only[a0A,List.drop_replicate,a1v];rw[←a0U,List.replicate_append_replicate]
 congr 2
 omega
theorem Eh{k c:Nat}{v:Int}(h:w.heap[g]?=some (.cells (gN v k c).toArray e (0,0)))(j:Nat)(a:j<k):w.cell? ((⟨g,0,none⟩:Addr).add j)=some (.int .i64 v):=by
 have e1:(⟨g,0,none⟩:Addr).add j=⟨g,j,none⟩:=by unfold Addr.add;split<;>simp_all
 rw[e1];simp only[World.cell?,h,gN];simp[List.getElem?_append,a]
theorem Jx(v:Int)(m j:Nat)(u:Value)(h:(List.replicate m (Value.int .i64 v))[j]?=some u):j<m/\u = .int .i64 v:=by
 rw[List.getElem?_replicate]at h;by_cases a:j<m
 . rw[a0e a]at h;exact⟨a,(a0Z h).symm⟩
 . rw[a0d a]at h;cases h
theorem Jy(v:Int)(m:Nat):∀u∈List.replicate m (Value.int .i64 v),u.oneCell'=true:=by
 intro u a;rw[(List.mem_replicate.1 a).2];rfl
theorem Fa(n:Nat):(madeCells (Value.int .i64 0).cells (n*1)).toList=gN 0 0 n:=by
 unfold gN;simp only[a3e,a1v,a3L,a2l];apply List.ext_getElem?;intro i;by_cases a:i<n
 . rw[List.getElem?_replicate,a0e a,List.getElem?_eq_getElem (by simpa[madeCells]using a)];simp[madeCells,Value.cells,a1w]
 . rw[List.getElem?_eq_none (by simp[madeCells];omega),List.getElem?_eq_none (by simp;omega)]
theorem mV(v:Int)(c cap g o:Nat)(w:World)(Y:w.cell? ⟨g,o,none⟩=some (.int .i64 v))(Q:1<=c)(W:(c:Int)<=1000) :
  Calls prog 115 #[.slice (some ⟨g,o,none⟩) 1 cap,.int .i64 (c:Nat)] w fun e w'=>e = .returned (.slice (some ⟨w.heap.size,0,none⟩) c c)/\ax w' w.heap.size (.slice (some ⟨w.heap.size,0,none⟩) c c) (List.replicate c v)/\Below w.heap.size w w':=by
 obtain⟨i0,hi,S,T,U⟩:=a0s Tryz.infoInt;have hg:g<w.heap.size:=World.block_lt_of_cell? _ _ Y;have ao:=wrap_small c W;have F:(prog.info? 3).map (·.size)=some 1:=by kernel_rfl
 have D:([.int .i64 v]:List Value).length=Nat.min 1 c:=by show 1=min 1 c;omega
 have z:0+([.int .i64 v]:List Value).length<=(gN v 0 c).length:=by rw[uj v 0 c (by omega)];simpa using Q
 have R:∀u∈([.int .i64 v]:List Value),u.oneCell'=true:=by intro u X;simp at X;subst X;rfl
 have HP:Hid (∀w1:World,w1.cell? ⟨g,o,none⟩=some (.int .i64 v)->∀(j:Nat) (u:Value),([.int .i64 v]:List Value)[j]?=some u->w1.cell? ((⟨g,o,none⟩:Addr).add j)=some u):=by
  intro w1 h j u t
  match j,t with
  | 0,t=>simp at t;subst t;simpa[Addr.add]using h
 have M:=af D;have K:=af z;clear D z;go_enter func115,ntmps115;go_wp2_with (first
  | (at_make;refine a2a _ rfl _ _ 146 rfl w.heap.size 3 i0 (.int .i64 0) 1 a0L hi S T .i64 .i64 _ _ c rfl rfl rfl rfl (by rw[U];omega) (by unfold maxLen;omega) (a0a _) ?_;intro w1 d b;rw[Fa]at d;have i:=Jh d;have q:Below w.heap.size w w1:=(a0c _ _).grown b (a0a _) (fun k h=>by cases h);have E:=(q.cell (p:=⟨g,o,none⟩) hg).trans Y;clear d b)
  | (refine wpList_copy_splice rfl (.tmp 31) (.tmp 32) 146 146 rfl 3 a0L F _ _ _ _ _ _ rfl rfl w.heap.size 0 (gN v 0 c) 3 i [.int .i64 v] (ae M) (fun _=>⟨rfl,⟨g,o,none⟩,rfl,ae HP _ E⟩) (ae K) R w.heap.size w q (a0a _) ?_;intro w2 A x)
  | (go_at_call 161;refine(mul_one c _ W).mono ?_;rintro e w' ⟨rfl,Z⟩;rw[Z];clear Z))
 have l:w2.heap[w.heap.size]?=some (.cells (gN v 1 c).toArray 3 (0,0)):=by
  have:=ae A;rw[show([.int .i64 v]:List Value)=List.replicate 1 (.int .i64 v)from rfl,pN v 0 1 c (by omega)]at this;simpa using this
 clear A E i q
 go_loopw [8] (fun n wr=>∃k:Nat,1<=k/\k<=c/\n = .int .i64 k/\wr.heap[w.heap.size]?=some (.cells (gN v k c).toArray 3 (0,0))/\Below w.heap.size w wr) (fun n _=>c-(intOf n).toNat)
 case atStart=>exact⟨1,a0a _,Q,rfl,l,x⟩
 case round=>
  obtain⟨k,ab,ad,rfl,a,r⟩:=hrel;clear l x;by_cases al:k<c
  .
   have ac:(k:Int)<(c:Int):=by omega
   obtain⟨m,hm⟩:∃m,m=Nat.min k (c-k):=⟨_,rfl⟩;have C:m<=k:=by rw[hm];exact Nat.min_le_left _ _
   have f:k+m<=c:=by
    have:m<=c-k:=by rw[hm];exact a3f _ _
    omega
   have B:1<=m:=by
    have:m=min k (c-k):=hm;omega
   have N:Hid ((List.replicate m (Value.int .i64 v)).length=Nat.min k (c-k)):=by show _=_;rw[a0A];exact hm
   have O:Hid (∀(j:Nat) (u:Value),(List.replicate m (Value.int .i64 v))[j]?=some u->wr.cell? ((⟨w.heap.size,0,none⟩:Addr).add j)=some u):=by
    intro j u t;obtain⟨Q,rfl⟩:=Jx v m j u t;exact Eh a j (by omega)
   have L:Hid (k+(List.replicate m (Value.int .i64 v)).length<=(gN v k c).length):=by show _<=_;rw[uj v k c (by omega),a0A];exact f
   have P:=af (pN v k m c f);have V:=af (a0b C (a0b f B));have an:(k:Int)+(m:Int)<=1000:=by omega
   have J:=af a;have H:=af r;have aa:¬ c=k:=by omega
   clear hm C f B a r;go_wp2_with fail
   go_region_law (first|(refine step_copy_splice rfl (.tmp 41) (.tmp 44) 146 146 rfl 3 a0L F (some ⟨w.heap.size,k,none⟩) (some ⟨w.heap.size,0,none⟩) (c-k) (c-k) k c (by simp[Act.eval,Act.put]) (by simp[Act.eval,Act.put]) w.heap.size k (gN v k c) 3 (ae J) (List.replicate m (.int .i64 v)) (ae N) (fun _=>⟨rfl,⟨w.heap.size,0,none⟩,rfl,ae O⟩) (ae L) (Jy v m) w.heap.size w (ae H).drew (a0a _) ?_;intro w3 s y))
   rw[ae P]at s;have I:=af (ae s);have G:=af y;clear s y;have a0:=bp ((k:Int)+(m:Int)) (by omega) (by omega);go_simp;go_wp2;go_roundw
   case rel=>exact⟨k+m,by omega,(ae V).2.1,by go_num,ae I,ae G⟩
   case measure=>have:=ae V;simp[intOf];omega
  .
   have:k=c:=by omega
   subst this;have HO:Hid (ax wr w.heap.size (.slice (some ⟨w.heap.size,0,none⟩) k k) (List.replicate k v)):=by
    show World.ownsRow _ _ _ _ _ (List.replicate k v).length _;rw[a0A];refine Ig ?_ (by simp) (a0a _) (by unfold maxLen;omega);rw[a];simp[gN]
   clear a;go_wp2;go_ret;exact⟨rfl,ae HO,r⟩
theorem mP(base n cap:Nat)(a:Option Addr)(s:List UInt8)(x:Int)(w:World)(l:s.length=n)(h:aK w base (.slice a n cap) s)(p:n<=100000)(hb:base<=w.heap.size)(x0:0<=x)(x1:x<=255) :
  Calls prog 279 #[.slice a n cap,.iface 247 (.int .u8 x)] w fun e w'=>∃v,e = .returned (.tuple #[v,.bool (decide (n+1<=300))])/\aK w' base v (if n+1<=300 then s++[cU x]else [])/\Below base w w':=by
 obtain⟨i0,A,q,r,t⟩:=a0s Tryz.infoU8;have B:(n:Int)<=100000:=by omega
 have m1:=yB;have t1:=q9;have y:=af (a0b l p);by_cases f:n+1<=300
 .
  obtain⟨N,hN⟩:∃N:Int,(n:Int)+1=N:=⟨_,rfl⟩;have g:¬ (300:Int)<N:=by omega
  have z:decide ((300:Int)<N)=false:=a0j g;have o:Hid (x=((cU x).toNat:Int)):=(dJ x0 x1).symm;have u:Hid (n+1<=maxLen/\(n+1)*1<=140737488355328):=by show _/\_;unfold maxLen;omega
  have k:=af (h.own l);rw[a0w f,a0e f];clear l h p f;go_enter a1W,a1X;go_wp2_with fail;refine(gT x w).mono ?_;rintro e w' ⟨rfl,d⟩;rw[d];clear d w';go_wp2_with (at_builtin;refine a0v _ rfl _ _ 22 rfl base 5 i0 (.int .u8 0) 1 1 a0S A q r t rfl (by decide) _ _ _ rfl (a0k (ae k) _) ⟨w.heap.size,0,none⟩ 1 1 [.int .u8 x] rfl rfl (bo _ _ rfl _ _) (one_byte _) (ae u).1 (ae u).2 (av hb _) ?_;intro v' x2 c b i;clear i);have m:Below base w x2:=aI (v:=.slice a n cap) b (ae k) (a0a _) hb (a0c _ _);rw[ae o]at c;have j:=bO (ae y).1 c;obtain⟨va,vc,rfl⟩:=j.form;clear c b;go_wp2
  go_ret2
  exact⟨_,rfl,j,m⟩
 .
  obtain⟨N,hN⟩:∃N:Int,(n:Int)+1=N:=⟨_,rfl⟩;have g:(300:Int)<N:=by omega
  rw[a0j f,a0d f];clear l h p f;go_enter a1W,a1X;go_wp2_with fail;refine(gT x w).mono ?_;rintro e w' ⟨rfl,d⟩;rw[d];clear d w';go_wp2
  go_ret2
  exact⟨_,rfl,aK.nil _ _,a0c _ _⟩
theorem mO(base n cap Y Z:Nat)(a:Option Addr)(s:List UInt8)(w:World)(H:s.length=n)(h:aK w base (.slice a n cap) s)(G:n<=100000)(hb:base<=w.heap.size)(y1:Y<=60)(z0:1<=Z)(z1:Z<=250) :
  Calls prog 279 #[.slice a n cap,.iface 249 (.agg #[.int .i64 (Y:Nat),.int .i64 (Z:Nat)])] w fun e w'=>∃v,e = .returned (.tuple #[v,.bool (decide (n+Y<=300/\Z<=n))])/\aK w' base v (if n+Y<=300/\Z<=n then rep s Z Y else [])/\Below base w w':=by
 obtain⟨i0,hi,P,Q,R⟩:=a0s Tryz.infoU8;have al:(n:Int)<=100000:=by omega
 have W:(Y:Int)<=60:=by omega
 have aa:(Z:Int)<=250:=by omega
 have X:(1:Int)<=(Z:Int):=by omega
 have m1:=yA;have t1:=tW;have t2:=q7;have F:=af (a0b H (a0b G z0));have J:=af (nt (Y:Nat) (Z:Nat) w);have o:Below base w (w.alloc (.cells #[.int .i64 (Y:Nat),.int .i64 (Z:Nat)] 249)):=(a0c _ _).alloc hb _;by_cases y:n+Y<=300
 .
  have N:¬ (300:Int)<(n:Int)+(Y:Int):=by omega
  by_cases u:Z<=n
  .
   have M:¬ (n:Int)<(Z:Int):=by omega
   have ab:decide (n<Z)=false:=a0j (by omega);rw[a0w ⟨y,u⟩,a0e ⟨y,u⟩];have K:=af u;have D:aK ((w.alloc (.cells #[.int .i64 (Y:Nat),.int .i64 (Z:Nat)] 249)).alloc (.cells #[.int .i64 (Y:Nat),.int .i64 (Z:Nat)] 249)) base (.slice a n cap) s:=(h.later ((a0c w.heap.size w).alloc (a0a _) _) (a0a _)).later ((a0c _ _).alloc (a0a _) _) (a0a _);have q:Below base w ((w.alloc (.cells #[.int .i64 (Y:Nat),.int .i64 (Z:Nat)] 249)).alloc (.cells #[.int .i64 (Y:Nat),.int .i64 (Z:Nat)] 249)):=o.alloc (by simp;omega) _;have B:((w.alloc (.cells #[.int .i64 (Y:Nat),.int .i64 (Z:Nat)] 249)).alloc (.cells #[.int .i64 (Y:Nat),.int .i64 (Z:Nat)] 249)).heap[w.heap.size+1]?=some (Obj.cells #[.int .i64 (Y:Nat),.int .i64 (Z:Nat)] 249):=by
    have e:(w.alloc (.cells #[.int .i64 (Y:Nat),.int .i64 (Z:Nat)] 249)).heap.size=w.heap.size+1:=by simp
    rw[←e];exact alloc_at _ _
   have I:=af (a0b D (a0b q B));clear H h G y u y1 z0 z1 D q B o;go_enter a1W,a1X;go_wp2_with fail;refine(ae J).mono ?_;rintro e w' ⟨rfl,l⟩;rw[l];clear l w';go_wp2_with fail
   go_loopw [0,32] (fun v i wr=>∃k:Nat,k<=Y/\i = .int .i64 k/\aK wr base v (rep s Z k)/\wr.heap[w.heap.size+1]?=some (Obj.cells #[.int .i64 (Y:Nat),.int .i64 (Z:Nat)] 249)/\Below base w wr) (fun _ i _=>Y-(intOf i).toNat)
   case atStart=>exact⟨0,a0h _,rfl,(ae I).1,(ae I).2.2,(ae I).2.1⟩
   case round=>
    obtain⟨k,T,rfl,hq,d,c⟩:=hrel;obtain⟨c0,c1,ad⟩:=xS d;have f:Hid ((rep s Z k).length=n+k):=by show _=_;rw[jW,(ae F).1]
    obtain⟨va,vc,rfl⟩:=hq.formN (ae f);have U:=af T;by_cases ac:k<Y
    .
     obtain⟨g,rfl⟩:=hq.somes (by rw[ae f];have:=ae K;have:=(ae F).2.2;omega);obtain⟨p,hp⟩:∃p,n+k-Z=p:=⟨_,rfl⟩;have an:((n:Int)+(k:Int))-(Z:Int)=(p:Int):=by have:=ae K;omega
     obtain⟨d0,_,_⟩:=hq.at (j:=p) (ae f) (by have:=ae K;have:=(ae F).2.2;omega);have O:Hid (rep s Z (k+1)=rep s Z k++[(rep s Z k).getD p 0]):=by
      show _=_;simp only[rep];rw[ae f,hp]
     have A:=a0G hb c.size;have S:Hid (n+k+1<=maxLen/\(n+k+1)*1<=140737488355328):=by show _/\_;have:=(ae F).2.1;unfold maxLen;omega
     have ao:(p:Int)<(n:Int)+(k:Int):=by omega
     have V:=af (a0b hq (a0b d c));have z:=af (hq.own (ae f));clear hq d c T hp;generalize (rep s Z k).getD p 0=b at *
     go_wp2_with (at_builtin;refine a0v _ rfl _ _ 22 rfl base 5 i0 (.int .u8 0) 1 1 a0S hi P Q R rfl (by decide) _ _ _ rfl (a0k (ae z) _) ⟨wr.heap.size,0,none⟩ 1 1 [.int .u8 (b.toNat:Int)] rfl rfl (bo _ _ rfl _ _) (one_byte _) (ae S).1 (ae S).2 (av A _) ?_;intro v' x2 r m C;clear C);obtain⟨hq,d,c⟩:=ae V;have L:=aI (v:=.slice (some ⟨g,0,none⟩) (n+k) vc) m (ae z) (a0a _) A c;have E:=bO (ae f) r;rw[←ae O]at E;have t:=((cf.refl 249 wr).alloc (.cells #[.int .u8 (b.toNat:Int)] 5)).grown (a0k (ae z) _) (by decide) m _ _ _ d;clear r m hq d c;go_wp2;go_roundw
     case rel=>exact⟨k+1,by have:=ae U;omega,by go_num,E,t,L⟩
     case measure=>simp[intOf];omega
    .
     obtain rfl:k=Y:=by omega
     go_wp2
     go_ret2
     exact⟨_,rfl,hq,c⟩
  .
   have M:(n:Int)<(Z:Int):=by omega
   have q:Below base w ((w.alloc (.cells #[.int .i64 (Y:Nat),.int .i64 (Z:Nat)] 249)).alloc (.cells #[.int .i64 (Y:Nat),.int .i64 (Z:Nat)] 249)):=o.alloc (by simp;omega) _;rw[a0j (fun x=>u x.2),a0d (fun x=>u x.2)];clear H h G y u y1 z0 z1;go_enter a1W,a1X;go_wp2_with fail;refine(ae J).mono ?_;rintro e w' ⟨rfl,l⟩;rw[l];clear l w';go_wp2
   go_ret2
   exact⟨_,rfl,aK.nil _ _,q⟩
 .
  have N:(300:Int)<(n:Int)+(Y:Int):=by omega
  rw[a0j (fun x=>y x.1),a0d (fun x=>y x.1)];clear H h G y y1 z0 z1;go_enter a1W,a1X;go_wp2_with fail;refine(ae J).mono ?_;rintro e w' ⟨rfl,l⟩;rw[l];clear l w';go_wp2
  go_ret2
  exact⟨_,rfl,aK.nil _ _,o⟩
theorem lzLay_any(base n cap:Nat)(a:Option Addr)(s:List UInt8)(t:Tk)(w:World)(g:s.length=n)(h:aK w base (.slice a n cap) s)(r:n<=100000)(hb:base<=w.heap.size)(p:okT t=true) :
  Calls prog 279 #[.slice a n cap,lm t] w fun e w'=>∃v,e = .returned (.tuple #[v,.bool (dT s t).isSome])/\aK w' base v ((dT s t).getD [])/\Below base w w':=by
 cases f:isB t
 .
  have m:isK t=true:=by simpa[okT,f]using p
  rw[Cc m];have j:=m;simp only[isK,a0n,a0E]at j;obtain⟨⟨_,u⟩,x⟩:=j;obtain⟨y1,y2⟩:=aG.1 u;obtain⟨z1,z2⟩:=aG.1 x;obtain⟨Y,o⟩:=a0r (show 0<=t.2.1 by omega);obtain⟨Z,l⟩:=a0r (show 0<=t.2.2 by omega);rw[o,l];have k:qE t=Y:=by unfold qE;rw[f,o];simp
  refine(mO base n cap Y Z a s w g h r hb (by omega) (by omega) (by omega)).mono ?_;rintro e w' ⟨v,rfl,hq,b⟩;by_cases d:n+Y<=300/\Z<=n
  . have c:=nr (s:=s) p (fun _=>by rw[l,g];omega) (by rw[k,g];exact d.1);rw[f,o,l]at c;simp only[a1e,a1f,a0x]at c;rw[a0e d]at hq;rw[c,a0w d];exact⟨v,rfl,hq,b⟩
  .
   have c:dT s t=none:=by
    by_cases y:n+Y<=300
    . exact wI m (by rw[l,g];omega)
    . exact lq (by rw[k,g];omega)
   rw[a0d d]at hq;rw[c,a0j d];exact⟨v,rfl,hq,b⟩
 .
  rw[tg f];have i:=f;simp only[isB,a0n,a0E]at i;obtain⟨x1,x2⟩:=aG.1 i.2.1;have k:qE t=1:=by unfold qE;rw[f];rfl
  refine(mP base n cap a s t.1 w g h r hb x1 x2).mono ?_;rintro e w' ⟨v,rfl,hq,b⟩;by_cases d:n+1<=300
  . have c:=nr (s:=s) p (fun q=>by rw[Db f]at q;cases q) (by rw[k,g];exact d);rw[f]at c;simp only[a09]at c;rw[a0e d]at hq;rw[c,a0w d];exact⟨v,rfl,hq,b⟩
  . have c:dT s t=none:=lq (by rw[k,g];omega);rw[a0d d]at hq;rw[c,a0j d];exact⟨v,rfl,hq,b⟩
end Go.Proofs.YtkdlcomfpffhhaaGreatDoor
namespace Go.Proofs.YtkdlcomfpffhhaaGreatDoor.U
open Go.Proofs.Tryz
open Go.Proofs.YtkdlcomfpffhhaaGreatDoor
open Go.RowKit
theorem mP(base n cap:Nat)(a:Option Addr)(s:List UInt8)(x:Int)(w:World)(l:s.length=n)(h:aK w base (.slice a n cap) s)(p:n<=100000)(hb:base<=w.heap.size)(x0:0<=x)(x1:x<=255) :
  Calls prog 279 #[.slice a n cap,.iface 247 (.int .u8 x)] w fun e w'=>∃v,e = .returned (.tuple #[v,.bool (decide (n+1<=300))])/\aK w' base v (if n+1<=300 then s++[cU x]else [])/\bZ base w w':=by
 obtain⟨i0,A,q,r,t⟩:=info_parts Tryz.infoU8;have B:(n:Int)<=100000:=by omega
 have m1:=yB;have t1:=q9;have y:=af (And.intro l p);by_cases f:n+1<=300
 .
  obtain⟨N,hN⟩:∃N:Int,(n:Int)+1=N:=⟨_,rfl⟩;have g:¬ (300:Int)<N:=by omega
  have z:decide ((300:Int)<N)=false:=decide_eq_false g;have o:Hid (x=((cU x).toNat:Int)):=(dJ x0 x1).symm;have u:Hid (n+1<=maxLen/\(n+1)*1<=140737488355328):=by show _/\_;unfold maxLen;omega
  have k:=af (h.own l);rw[decide_eq_true f,if_pos f];clear l h p f;go_enter func279,ntmps279;go_wp2_with fail;refine(gT x w).mono ?_;rintro e w' ⟨rfl,d⟩;rw[d];clear d w';go_wp2_with (at_builtin;refine wpList_append_own _ rfl _ _ 22 rfl base 5 i0 (.int .u8 0) 1 1 underlying22 A q r t rfl (by decide) _ _ _ rfl (World.ownsRow.alloc (ae k) _) ⟨w.heap.size,0,none⟩ 1 1 [.int .u8 x] rfl rfl (bo _ _ rfl _ _) (one_byte _) (ae u).1 (ae u).2 (av hb _) ?_;intro v' x2 c b i;clear i);have m:bZ base w x2:=gn (v:=.slice a n cap) b (ae k) (Nat.le_refl _) hb (bZ.refl _ _);rw[ae o]at c;have j:=bO (ae y).1 c;obtain⟨va,vc,rfl⟩:=j.form;clear c b;go_wp2
  go_ret2
  exact⟨_,rfl,j,m⟩
 .
  obtain⟨N,hN⟩:∃N:Int,(n:Int)+1=N:=⟨_,rfl⟩;have g:(300:Int)<N:=by omega
  rw[decide_eq_false f,if_neg f];clear l h p f;go_enter func279,ntmps279;go_wp2_with fail;refine(gT x w).mono ?_;rintro e w' ⟨rfl,d⟩;rw[d];clear d w';go_wp2
  go_ret2
  exact⟨_,rfl,aK.nil _ _,bZ.refl _ _⟩
theorem mO(base n cap Y Z:Nat)(a:Option Addr)(s:List UInt8)(w:World)(H:s.length=n)(h:aK w base (.slice a n cap) s)(G:n<=100000)(hb:base<=w.heap.size)(y1:Y<=60)(z0:1<=Z)(z1:Z<=250) :
  Calls prog 279 #[.slice a n cap,.iface 249 (.agg #[.int .i64 (Y:Nat),.int .i64 (Z:Nat)])] w fun e w'=>∃v,e = .returned (.tuple #[v,.bool (decide (n+Y<=300/\Z<=n))])/\aK w' base v (if n+Y<=300/\Z<=n then rep s Z Y else [])/\bZ base w w':=by
 obtain⟨i0,hi,Q,R,S⟩:=info_parts Tryz.infoU8;have al:(n:Int)<=100000:=by omega
 have X:(Y:Int)<=60:=by omega
 have ab:(Z:Int)<=250:=by omega
 have aa:(1:Int)<=(Z:Int):=by omega
 have m1:=yA;have t1:=tW;have t2:=q7;have F:=af (And.intro H (And.intro G z0));have J:=af (nt (Y:Nat) (Z:Nat) w);have o:bZ base w (w.alloc (.cells #[.int .i64 (Y:Nat),.int .i64 (Z:Nat)] 249)):=(bZ.refl _ _).alloc hb _;by_cases y:n+Y<=300
 .
  have O:¬ (300:Int)<(n:Int)+(Y:Int):=by omega
  by_cases u:Z<=n
  .
   have N:¬ (n:Int)<(Z:Int):=by omega
   have M:decide (n<Z)=false:=decide_eq_false (by omega);rw[decide_eq_true ⟨y,u⟩,if_pos ⟨y,u⟩];have K:=af u;have D:aK ((w.alloc (.cells #[.int .i64 (Y:Nat),.int .i64 (Z:Nat)] 249)).alloc (.cells #[.int .i64 (Y:Nat),.int .i64 (Z:Nat)] 249)) base (.slice a n cap) s:=(h.later ((Below.refl w.heap.size w).alloc (Nat.le_refl _) _) (Nat.le_refl _)).later ((Below.refl _ _).alloc (Nat.le_refl _) _) (Nat.le_refl _);have q:bZ base w ((w.alloc (.cells #[.int .i64 (Y:Nat),.int .i64 (Z:Nat)] 249)).alloc (.cells #[.int .i64 (Y:Nat),.int .i64 (Z:Nat)] 249)):=o.alloc (by simp;omega) _;have B:((w.alloc (.cells #[.int .i64 (Y:Nat),.int .i64 (Z:Nat)] 249)).alloc (.cells #[.int .i64 (Y:Nat),.int .i64 (Z:Nat)] 249)).heap[w.heap.size+1]?=some (Obj.cells #[.int .i64 (Y:Nat),.int .i64 (Z:Nat)] 249):=by
    have e:(w.alloc (.cells #[.int .i64 (Y:Nat),.int .i64 (Z:Nat)] 249)).heap.size=w.heap.size+1:=by simp
    rw[←e];exact alloc_at _ _
   have I:=af (And.intro D (And.intro q B));clear H h G y u y1 z0 z1 D q B o;go_enter func279,ntmps279;go_wp2_with fail;refine(ae J).mono ?_;rintro e w' ⟨rfl,l⟩;rw[l];clear l w';go_wp2_with fail
   go_loopw [0,32] (fun v i wr=>∃k:Nat,k<=Y/\i = .int .i64 k/\aK wr base v (rep s Z k)/\wr.heap[w.heap.size+1]?=some (Obj.cells #[.int .i64 (Y:Nat),.int .i64 (Z:Nat)] 249)/\bZ base w wr) (fun _ i _=>Y-(intOf i).toNat)
   case atStart=>exact⟨0,Nat.zero_le _,rfl,(ae I).1,(ae I).2.2,(ae I).2.1⟩
   case round=>
    obtain⟨k,U,rfl,hq,d,c⟩:=hrel;obtain⟨c0,c1,ad⟩:=xS d;have f:Hid ((rep s Z k).length=n+k):=by show _=_;rw[jW,(ae F).1]
    obtain⟨va,vc,rfl⟩:=hq.formN (ae f);have V:=af U;by_cases ac:k<Y
    .
     obtain⟨g,rfl⟩:=hq.somes (by rw[ae f];have:=ae K;have:=(ae F).2.2;omega);obtain⟨p,hp⟩:∃p,n+k-Z=p:=⟨_,rfl⟩;have an:((n:Int)+(k:Int))-(Z:Int)=(p:Int):=by have:=ae K;omega
     obtain⟨d0,_,_⟩:=hq.at (j:=p) (ae f) (by have:=ae K;have:=(ae F).2.2;omega);have P:Hid (rep s Z (k+1)=rep s Z k++[(rep s Z k).getD p 0]):=by
      show _=_;simp only[rep];rw[ae f,hp]
     have A:=Nat.le_trans hb c.size;have T:Hid (n+k+1<=maxLen/\(n+k+1)*1<=140737488355328):=by show _/\_;have:=(ae F).2.1;unfold maxLen;omega
     have ao:(p:Int)<(n:Int)+(k:Int):=by omega
     have W:=af (And.intro hq (And.intro d c));have z:=af (hq.own (ae f));have Hp:=af hp;clear hq d c U hp;generalize (rep s Z k).getD p 0=b at *
     go_wp2_with (at_builtin;refine wpList_append_own _ rfl _ _ 22 rfl base 5 i0 (.int .u8 0) 1 1 underlying22 hi Q R S rfl (by decide) _ _ _ rfl (World.ownsRow.alloc (ae z) _) ⟨wr.heap.size,0,none⟩ 1 1 [.int .u8 (b.toNat:Int)] rfl rfl (bo _ _ rfl _ _) (one_byte _) (ae T).1 (ae T).2 (av A _) ?_;intro v' x2 r m C;clear C);obtain⟨hq,d,c⟩:=ae W;have L:=gn (v:=.slice (some ⟨g,0,none⟩) (n+k) vc) m (ae z) (Nat.le_refl _) A c;have E:=bO (ae f) r;rw[←ae P]at E;have t:=((cf.refl 249 wr).alloc (.cells #[.int .u8 (b.toNat:Int)] 5)).grown (World.ownsRow.alloc (ae z) _) (by decide) m _ _ _ d;clear r m hq d c;go_wp2;go_roundw
     case rel=>exact⟨k+1,by have:=ae V;omega,by go_num,E,t,L⟩
     case measure=>simp[intOf];omega
    .
     obtain rfl:k=Y:=by omega
     go_wp2
     go_ret2
     exact⟨_,rfl,hq,c⟩
  .
   have N:(n:Int)<(Z:Int):=by omega
   have M:decide (n<Z)=true:=decide_eq_true (by omega);have q:bZ base w ((w.alloc (.cells #[.int .i64 (Y:Nat),.int .i64 (Z:Nat)] 249)).alloc (.cells #[.int .i64 (Y:Nat),.int .i64 (Z:Nat)] 249)):=o.alloc (by simp;omega) _;rw[decide_eq_false (fun x=>u x.2),if_neg (fun x=>u x.2)];clear H h G y u y1 z0 z1;go_enter func279,ntmps279;go_wp2_with fail;refine(ae J).mono ?_;rintro e w' ⟨rfl,l⟩;rw[l];clear l w';go_wp2
   go_ret2
   exact⟨_,rfl,aK.nil _ _,q⟩
 .
  have O:(300:Int)<(n:Int)+(Y:Int):=by omega
  rw[decide_eq_false (fun x=>y x.1),if_neg (fun x=>y x.1)];clear H h G y y1 z0 z1;go_enter func279,ntmps279;go_wp2_with fail;refine(ae J).mono ?_;rintro e w' ⟨rfl,l⟩;rw[l];clear l w';go_wp2
  go_ret2
  exact⟨_,rfl,aK.nil _ _,o⟩
theorem lzLay_any(base n cap:Nat)(a:Option Addr)(s:List UInt8)(t:Tk)(w:World)(g:s.length=n)(h:aK w base (.slice a n cap) s)(r:n<=100000)(hb:base<=w.heap.size)(p:okT t=true) :
  Calls prog 279 #[.slice a n cap,lm t] w fun e w'=>∃v,e = .returned (.tuple #[v,.bool (dT s t).isSome])/\aK w' base v ((dT s t).getD [])/\bZ base w w':=by
 cases f:isB t
 .
  have m:isK t=true:=by simpa[okT,f]using p
  rw[Cc m];have j:=m;simp only[isK,Bool.and_eq_true,decide_eq_true_eq]at j;obtain⟨⟨_,u⟩,x⟩:=j;obtain⟨y1,y2⟩:=aG.1 u;obtain⟨z1,z2⟩:=aG.1 x;obtain⟨Y,o⟩:=Int.eq_ofNat_of_zero_le (show 0<=t.2.1 by omega);obtain⟨Z,l⟩:=Int.eq_ofNat_of_zero_le (show 0<=t.2.2 by omega);rw[o,l];have k:qE t=Y:=by unfold qE;rw[f,o];simp
  refine(mO base n cap Y Z a s w g h r hb (by omega) (by omega) (by omega)).mono ?_;rintro e w' ⟨v,rfl,hq,b⟩;by_cases d:n+Y<=300/\Z<=n
  . have c:=nr (s:=s) p (fun _=>by rw[l,g];omega) (by rw[k,g];exact d.1);rw[f,o,l]at c;simp only[Bool.false_eq_true,if_false,Int.toNat_natCast]at c;rw[if_pos d]at hq;rw[c,decide_eq_true d];exact⟨v,rfl,hq,b⟩
  .
   have c:dT s t=none:=by
    by_cases y:n+Y<=300
    . exact wI m (by rw[l,g];omega)
    . exact lq (by rw[k,g];omega)
   rw[if_neg d]at hq;rw[c,decide_eq_false d];exact⟨v,rfl,hq,b⟩
 .
  rw[tg f];have i:=f;simp only[isB,Bool.and_eq_true,decide_eq_true_eq]at i;obtain⟨x1,x2⟩:=aG.1 i.2.1;have k:qE t=1:=by unfold qE;rw[f];rfl
  refine(mP base n cap a s t.1 w g h r hb x1 x2).mono ?_;rintro e w' ⟨v,rfl,hq,b⟩;by_cases d:n+1<=300
  . have c:=nr (s:=s) p (fun q=>by rw[Db f]at q;cases q) (by rw[k,g];exact d);rw[f]at c;simp only[if_true]at c;rw[if_pos d]at hq;rw[c,decide_eq_true d];exact⟨v,rfl,hq,b⟩
  . have c:dT s t=none:=lq (by rw[k,g];omega);rw[if_neg d]at hq;rw[c,decide_eq_false d];exact⟨v,rfl,hq,b⟩
end Go.Proofs.YtkdlcomfpffhhaaGreatDoor.U
namespace Go.Proofs.YtkdlcomfpffhhaaGreatDoor.U
open Go.Proofs.Tryz
open Go.Proofs.YtkdlcomfpffhhaaGreatDoor
open Go.RowKit
theorem bQ{W x1:World}{v u:Value}{k o:Nat}(b:W.grownBy x1 v.ownBlock)(c:∀g,v.ownBlock=some g->g<k)(a:W.cell? ⟨k,o,none⟩=some u):x1.cell? ⟨k,o,none⟩=some u:=
 b.cell a (fun e=>by have:=c k e.symm;omega)
theorem pi{w:World}{base size n:Nat}{e:TypeId}{v:Value}{xs:List Value}(h:w.ownsRow base e size v n xs):∀g,v.ownBlock=some g->g<w.heap.size:=fun g a=>(World.ownsRow.lt h g a).2
theorem mJ(base n cap:Nat)(a:Option Addr)(s:List UInt8)(t:Tk)(w:World)(K:s.length=n)(h:aK w base (.slice a n cap) s)(S:n<=100000)(hb:base<=w.heap.size)(O:t.2.1=0) :
  Calls prog 275 #[.slice a n cap,.agg #[.int .i64 t.1,.int .i64 t.2.1,.int .i64 t.2.2]] w fun e w'=>∃v x,e = .returned (.tuple #[v,.bool (isB t)])/\aK w' base v x/\(isB t=true->x=s++[cU t.1])/\bZ base w w':=by
 obtain⟨i0,M,B,C,D⟩:=info_parts Tryz.infoU8;obtain⟨x,y,z⟩:=t;simp only at O;subst O;simp only;have T:(n:Int)<=100000:=by omega
 have Q:∃X:Int,IntKind.u8.wrap x=X:=⟨_,rfl⟩;obtain⟨X,P⟩:=Q;have p:0<=X/\X<=255:=by rw[←P];simp[IntKind.wrap,IntKind.bits,IntKind.signed];omega
 have A:Hid (isB (x,0,z)=true->(cU X)=cU x):=by
  intro u;simp only[isB,Bool.and_eq_true,decide_eq_true_eq]at u;have:=aG.1 u.2.1;have e:X=x:=by rw[←P];simp[IntKind.wrap,IntKind.bits,IntKind.signed];omega
  rw[e]
 have k:Hid (isB (x,0,z)=(inB x 0 255&&decide (z=0))):=by show _=_;simp[isB]
 have L:=af K;have r:World.ownsRow ((w.alloc (.cells #[.int .i64 x,.int .i64 0,.int .i64 z] 343)).alloc (.cells #[.int .u8 X] 5)).drew base 5 1 (.slice a n cap) n (bW s):=World.ownsRow.alloc (World.ownsRow.alloc (h.own K) _) _;have o:=af (bo (w.alloc (.cells #[.int .i64 x,.int .i64 0,.int .i64 z] 343)) (w.heap.size+1) (by simp) (.int .u8 X) 5);have i:bZ base w ((w.alloc (.cells #[.int .i64 x,.int .i64 0,.int .i64 z] 343)).alloc (.cells #[.int .u8 X] 5)).drew:=((((bZ.refl base w).alloc hb _).alloc (by simp;omega) _)).drew;have f:∀g,(Value.slice a n cap).ownBlock=some g->g<w.heap.size:=pi (h.own K);have E:Hid (n+1<=maxLen/\(n+1)*1<=140737488355328):=by show _/\_;unfold maxLen;omega
 have F:(w.alloc (.cells #[.int .i64 x,.int .i64 0,.int .i64 z] 343)).drew.cell? ⟨w.heap.size,0,none⟩=some (.int .i64 x):=by show(w.alloc (.cells #[.int .i64 x,.int .i64 0,.int .i64 z] 343)).cell? ⟨w.heap.size,0,none⟩=some (.int .i64 x);simp
 have G:(w.alloc (.cells #[.int .i64 x,.int .i64 0,.int .i64 z] 343)).drew.cell? ⟨w.heap.size,2,none⟩=some (.int .i64 z):=by show(w.alloc (.cells #[.int .i64 x,.int .i64 0,.int .i64 z] 343)).cell? ⟨w.heap.size,2,none⟩=some (.int .i64 z);simp
 have e00:((w.alloc (.cells #[.int .i64 x,.int .i64 0,.int .i64 z] 343)).alloc (.cells #[.int .u8 X] 5)).drew.cell? ⟨w.heap.size,0,none⟩=some (.int .i64 x):=by show((w.alloc (.cells #[.int .i64 x,.int .i64 0,.int .i64 z] 343)).alloc (.cells #[.int .u8 X] 5)).cell? ⟨w.heap.size,0,none⟩=some (.int .i64 x);simp
 have e02:((w.alloc (.cells #[.int .i64 x,.int .i64 0,.int .i64 z] 343)).alloc (.cells #[.int .u8 X] 5)).drew.cell? ⟨w.heap.size,2,none⟩=some (.int .i64 z):=by show((w.alloc (.cells #[.int .i64 x,.int .i64 0,.int .i64 z] 343)).alloc (.cells #[.int .u8 X] 5)).cell? ⟨w.heap.size,2,none⟩=some (.int .i64 z);simp
 have q:=And.intro F G;have d:=And.intro e00 e02;clear h K S F G e00 e02;cases I:inB x 0 255
 .
  rw[I]at k;go_enter func275,ntmps275;go_wp2_with fail;first|(go_region_law (first|(refine ak rfl (.tmp 10) (.tmp 14) 22 rfl base 5 i0 (.int .u8 0) 1 1 underlying22 M B C D rfl (Nat.zero_lt_succ 0) (.slice a n cap) _ _ rfl r ⟨w.heap.size+1,0,none⟩ 1 1 [.int .u8 X] rfl rfl (ae o) (one_byte _) (ae E).1 (ae E).2 (Nat.le_trans hb i.size) ?_;intro v' x5 c b l;clear l;have H:=bQ b f d.1;have R:=bQ b f d.2)|(go_simp;go_at_call 58;refine(aE _ _ _ _).mono ?_;rintro e y5 ⟨rfl,m⟩;rw[m,I];clear m)))|fail
  all_goals
   clear o q d;have j:bZ base w x5:=i.grown b (Nat.le_trans hb i.size) (fun g J=>(World.ownsRow.lt r g J).1) (Bv r);have hq:aK x5 base v' (s++[cU X]):=bO (ae L) (by rw[dJ p.1 p.2];exact c);obtain⟨va,vc,rfl⟩:=hq.form;clear c b;go_wp2
   go_ret2
   exact⟨_,_,by rw[ae k];rfl,hq,fun u=>by rw[ae A u],j⟩
 .
  rw[I]at k;by_cases N:z=0
  .
   subst N;go_enter func275,ntmps275;go_wp2_with fail;first|(go_region_held3 (fun W=>W.cell? ⟨w.heap.size,0,none⟩=some (.int .i64 x)/\W.cell? ⟨w.heap.size,2,none⟩=some (.int .i64 0)) (first|exact q|assumption|exact d) (first
    | (go_at_call 58;refine(aE _ _ _ _).mono ?_;rintro e y5 ⟨rfl,m⟩;rw[m,I];clear m)
    | (refine ak rfl (.tmp 10) (.tmp 14) 22 rfl base 5 i0 (.int .u8 0) 1 1 underlying22 M B C D rfl (Nat.zero_lt_succ 0) (.slice a n cap) _ _ rfl r ⟨w.heap.size+1,0,none⟩ 1 1 [.int .u8 X] rfl rfl (ae o) (one_byte _) (ae E).1 (ae E).2 (Nat.le_trans hb i.size) ?_;intro v' x5 c b l;clear l;have H:=And.intro (bQ b f d.1) (bQ b f d.2))))|fail
   clear o q d;have j:bZ base w x5:=i.grown b (Nat.le_trans hb i.size) (fun g J=>(World.ownsRow.lt r g J).1) (Bv r);have hq:aK x5 base v' (s++[cU X]):=bO (ae L) (by rw[dJ p.1 p.2];exact c);obtain⟨va,vc,rfl⟩:=hq.form;clear c b;go_wp2
   go_ret2
   exact⟨_,_,by rw[ae k];rfl,hq,fun u=>by rw[ae A u],j⟩
  .
   have U:(z == 0)=false:=by simpa using N
   go_enter func275,ntmps275;go_wp2_with fail;first|(go_region_held3 (fun W=>W.cell? ⟨w.heap.size,0,none⟩=some (.int .i64 x)/\W.cell? ⟨w.heap.size,2,none⟩=some (.int .i64 z)) (first|exact q|assumption|exact d) (first
    | (go_at_call 58;refine(aE _ _ _ _).mono ?_;rintro e y5 ⟨rfl,m⟩;rw[m,I];clear m)
    | (refine ak rfl (.tmp 10) (.tmp 14) 22 rfl base 5 i0 (.int .u8 0) 1 1 underlying22 M B C D rfl (Nat.zero_lt_succ 0) (.slice a n cap) _ _ rfl r ⟨w.heap.size+1,0,none⟩ 1 1 [.int .u8 X] rfl rfl (ae o) (one_byte _) (ae E).1 (ae E).2 (Nat.le_trans hb i.size) ?_;intro v' x5 c b l;clear l;have H:=And.intro (bQ b f d.1) (bQ b f d.2))))|fail
   clear o q d;have j:bZ base w x5:=i.grown b (Nat.le_trans hb i.size) (fun g J=>(World.ownsRow.lt r g J).1) (Bv r);have hq:aK x5 base v' (s++[cU X]):=bO (ae L) (by rw[dJ p.1 p.2];exact c);obtain⟨va,vc,rfl⟩:=hq.form;clear c b;go_wp2
   go_ret2
   exact⟨_,_,by rw[ae k];simp[N],hq,fun u=>by rw[ae A u],j⟩
theorem rG{t:Tk}(h:t.2.1≠0):isB t=false:=by simp[isB,h]
theorem mH(base n cap:Nat)(a:Option Addr)(s:List UInt8)(t:Tk)(w:World)(U:s.length=n)(h:aK w base (.slice a n cap) s)(T:n<=100000)(hb:base<=w.heap.size)(P:t.2.1≠0) :
  Calls prog 275 #[.slice a n cap,.agg #[.int .i64 t.1,.int .i64 t.2.1,.int .i64 t.2.2]] w fun e w'=>∃v x,e = .returned (.tuple #[v,.bool (isK t&&decide (t.2.2<=(n:Int)))])/\aK w' base v x/\((isK t&&decide (t.2.2<=(n:Int)))=true->x=rep s t.2.2.toNat t.2.1.toNat)/\bZ base w w':=by
 obtain⟨i0,hi,K,L,M⟩:=info_parts Tryz.infoU8;obtain⟨x,y,z⟩:=t;simp only at P ⊢;have ac:(n:Int)<=100000:=by omega
 have ao:(y == 0)=false:=by simpa using P
 have D:bZ base w (w.alloc (.cells #[.int .i64 x,.int .i64 y,.int .i64 z] 343)):=(bZ.refl base w).alloc hb _;have Q:aK (w.alloc (.cells #[.int .i64 x,.int .i64 y,.int .i64 z] 343)) base (.slice a n cap) s:=h.later ((Below.refl w.heap.size w).alloc (Nat.le_refl _) _) (Nat.le_refl _);have N:=af (And.intro U T);have q:=af (And.intro Q D);clear U T h Q D;by_cases J:x=0
 .
  subst J;cases B:inB y 3 60
  .
   have m:Hid ((isK (0,y,z)&&decide (z<=(n:Int)))=false):=by show _=false;simp[isK,B]
   go_enter func275,ntmps275;go_wp2_with (go_at_call 58;refine(aE _ _ _ _).mono ?_;rintro e w' ⟨rfl,c⟩;rw[c,B];clear c w')
   go_ret2
   rw[ae m];exact⟨_,s,rfl,(ae q).1,(fun h=>by cases h),(ae q).2⟩
  .
   cases C:inB z 1 250
   .
    have m:Hid ((isK (0,y,z)&&decide (z<=(n:Int)))=false):=by show _=false;simp[isK,C]
    go_enter func275,ntmps275;go_wp2_with fail;refine(aE _ _ _ _).mono ?_;rintro e w' ⟨rfl,c⟩;rw[c,B];clear c w';go_wp2_with fail;refine(aE _ _ _ _).mono ?_;rintro e w' ⟨rfl,c⟩;rw[c,C];clear c w';go_wp2
    go_ret2
    rw[ae m];exact⟨_,s,rfl,(ae q).1,(fun h=>by cases h),(ae q).2⟩
   .
    obtain⟨y1,y2⟩:=aG.1 B;obtain⟨z1,z2⟩:=aG.1 C;by_cases R:z<=(n:Int)
    .
     have m:Hid ((isK (0,y,z)&&decide (z<=(n:Int)))=true):=by show _=true;simp[isK,B,C,R]
     obtain⟨Y,rfl⟩:=Int.eq_ofNat_of_zero_le (show 0<=y by omega);obtain⟨Z,rfl⟩:=Int.eq_ofNat_of_zero_le (show 0<=z by omega);have X:decide (n<Z)=false:=decide_eq_false (by omega);go_enter func275,ntmps275;go_wp2_with fail;refine(aE _ _ _ _).mono ?_;rintro e w' ⟨rfl,c⟩;rw[c,B];clear c w';go_wp2_with fail;refine(aE _ _ _ _).mono ?_;rintro e w' ⟨rfl,c⟩;rw[c,C];clear c w';go_wp2_with fail
     go_loopw [0,6] (fun v i wr=>∃k:Nat,k<=Y/\i = .int .i64 k/\aK wr base v (rep s Z k)/\wr.heap[w.heap.size]?=some (Obj.cells #[.int .i64 0,.int .i64 (Y:Int),.int .i64 (Z:Int)] 343)/\bZ base w wr) (fun _ i _=>Y-(intOf i).toNat)
     case atStart=>exact⟨0,Nat.zero_le _,rfl,(ae q).1,alloc_at _ _,(ae q).2⟩
     case round=>
      obtain⟨k,S,rfl,hq,f,d⟩:=hrel;obtain⟨c0,c1,c2,ab⟩:=rH f;have l:Hid ((rep s Z k).length=n+k):=by show _=_;rw[jW,(ae N).1]
      obtain⟨va,vc,rfl⟩:=hq.formN (ae l);have V:=af S;by_cases aa:k<Y
      .
       obtain⟨g,rfl⟩:=hq.somes (by rw[ae l];omega);obtain⟨p,hp⟩:∃p,n+k-Z=p:=⟨_,rfl⟩;have ad:((n:Int)+(k:Int))-(Z:Int)=(p:Int):=by omega
       obtain⟨d0,_,_⟩:=hq.at (j:=p) (ae l) (by omega);have I:Hid (rep s Z (k+1)=rep s Z k++[(rep s Z k).getD p 0]):=by
        show _=_;simp only[rep];rw[ae l,hp]
       have E:=Nat.le_trans hb d.size;have O:Hid (n+k+1<=maxLen/\(n+k+1)*1<=140737488355328):=by show _/\_;have:=(ae N).2;unfold maxLen;omega
       have al:(p:Int)<(n:Int)+(k:Int):=by omega
       have W:=af (And.intro hq (And.intro f d));have A:=af (hq.own (ae l));have Hp:=af hp;clear hq f d S hp;generalize (rep s Z k).getD p 0=b at *
       go_wp2_with (at_builtin;refine wpList_append_own _ rfl _ _ 22 rfl base 5 i0 (.int .u8 0) 1 1 underlying22 hi K L M rfl (by decide) _ _ _ rfl (World.ownsRow.alloc (ae A) _) ⟨wr.heap.size,0,none⟩ 1 1 [.int .u8 (b.toNat:Int)] rfl rfl (bo _ _ rfl _ _) (one_byte _) (ae O).1 (ae O).2 (av E _) ?_;intro v' x2 r o F;clear F);obtain⟨hq,f,d⟩:=ae W;have H:=gn (v:=.slice (some ⟨g,0,none⟩) (n+k) vc) o (ae A) (Nat.le_refl _) E d;have G:=bO (ae l) r;rw[←ae I]at G;have u:=((cf.refl 343 wr).alloc (.cells #[.int .u8 (b.toNat:Int)] 5)).grown (World.ownsRow.alloc (ae A) _) (by decide) o _ _ _ f;clear r o hq f d;go_wp2;go_roundw
       case rel=>exact⟨k+1,by have:=ae V;omega,by go_num,G,u,H⟩
       case measure=>simp[intOf];omega
      .
       obtain rfl:k=Y:=by omega
       go_wp2
       go_ret2
       rw[ae m];exact⟨_,_,rfl,hq,(fun _=>by simp),d⟩
    .
     have m:Hid ((isK (0,y,z)&&decide (z<=(n:Int)))=false):=by show _=false;simp[R]
     go_enter func275,ntmps275;go_wp2_with fail;refine(aE _ _ _ _).mono ?_;rintro e w' ⟨rfl,c⟩;rw[c,B];clear c w';go_wp2_with fail;refine(aE _ _ _ _).mono ?_;rintro e w' ⟨rfl,c⟩;rw[c,C];clear c w';go_wp2
     go_ret2
     rw[ae m];exact⟨_,s,rfl,(ae q).1,(fun h=>by cases h),(ae q).2⟩
 .
  have an:(x == 0)=false:=by simpa using J
  have m:Hid ((isK (x,y,z)&&decide (z<=(n:Int)))=false):=by show _=false;simp[isK,J]
  go_enter func275,ntmps275;go_wp2
  go_ret2
  rw[ae m];exact⟨_,s,rfl,(ae q).1,(fun h=>by cases h),(ae q).2⟩
theorem l4Add_any(base n cap:Nat)(a:Option Addr)(s:List UInt8)(t:Tk)(w:World)(i:s.length=n)(h:aK w base (.slice a n cap) s)(j:n<=100000)(hb:base<=w.heap.size) :
  Calls prog 275 #[.slice a n cap,.agg #[.int .i64 t.1,.int .i64 t.2.1,.int .i64 t.2.2]] w fun e w'=>∃v x,e = .returned (.tuple #[v,.bool (fQ s t).isSome])/\aK w' base v x/\((fQ s t).isSome=true->fQ s t=some x)/\bZ base w w':=by
 by_cases g:t.2.1=0
 .
  have k:isK t=false:=by
   have:inB t.2.1 3 60=false:=dK.2 (by omega);simp[isK,this]
  have e:fQ s t=if isB t then some (s++[cU t.1])else none:=by unfold fQ;rw[k];rfl
  refine(mJ base n cap a s t w i h j hb g).mono ?_;rintro e1 w' ⟨v,x,rfl,f,c,b⟩;cases d:isB t
  . rw[d]at e c;exact⟨v,x,by rw[e];rfl,f,(fun h=>by rw[e]at h;cases h),b⟩
  . rw[d]at e c;exact⟨v,x,by rw[e];rfl,f,(fun _=>by rw[e,c rfl];rfl),b⟩
 .
  have e:fQ s t=if isK t&&decide (t.2.2<=(n:Int))then some (rep s t.2.2.toNat t.2.1.toNat)else none:=by unfold fQ;rw[rG g,i];rfl
  refine(mH base n cap a s t w i h j hb g).mono ?_;rintro e1 w' ⟨v,x,rfl,f,c,b⟩;cases d:isK t&&decide (t.2.2<=(n:Int))
  . rw[d]at e c;exact⟨v,x,by rw[e];rfl,f,(fun h=>by rw[e]at h;cases h),b⟩
  . rw[d]at e c;exact⟨v,x,by rw[e];rfl,f,(fun _=>by rw[e,c rfl];rfl),b⟩
end Go.Proofs.YtkdlcomfpffhhaaGreatDoor.U
