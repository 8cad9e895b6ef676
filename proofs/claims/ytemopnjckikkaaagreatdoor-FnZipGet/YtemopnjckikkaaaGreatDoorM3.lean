/- Texts. -/
import Derived.Test.YtemopnjckikkaaaGreatDoorRows
import Derived.WalkSpells
import Derived.Test.YtemopnjckikkaaaGreatDoorM2
import Derived.Test.YtemopnjckikkaaaGreatDoorM1
set_option linter.all false
set_option maxHeartbeats 400000
namespace Go.Proofs.YtemopnjckikkaaaGreatDoor
open Go.Proofs.Tryz
open Go.RowKit
def cC:prog.follows .mixedOrders=true:=by kernel_rfl
def bx{w:World}{o:Obj}:Below w.heap.size w (w.alloc o):=(Below.refl _ _).alloc (Nat.le_refl _) _
abbrev CD(f:Nat)(a:Array Value)(w:World)(v:Value):Prop:=Calls prog f a w fun e w'=>e = .returned v/\Below w.heap.size w w'
def af{p:Prop}(h:p):Hid p:=h
def ae{p:Prop}(h:Hid p):p:=h
def aJ{k:IntKind}{a b:Int}(h:a=b):Ending.returned (.int k a) = .returned (.int k b):=by rw[h]
def am{a b:Bool}(h:a=b):Ending.returned (.bool a) = .returned (.bool b):=by rw[h]
def inB(n lo hi:Int):Bool:=decide (lo<=n)&&decide (n<=hi)
def aH{n lo a:Int} : inB n lo a=true<->lo<=n/\n<=a:=by simp[inB]
def eG{n lo a:Int} : inB n lo a=false<->n<lo∨a<n:=by
 rw[←a2C,aH];omega
def aT(n lo a:Int)(w:World) :
  Calls prog 16 #[n,lo,a] w fun e w'=>e = .returned (.bool (inB n lo a))/\w'=w:=by
 by_cases h:lo<=n
 . go_enter func16,ntmps16;go_wp2;go_ret;exact⟨am (by simp[inB,h]),rfl⟩
 . go_enter func16,ntmps16;go_wp2;go_ret;exact⟨am (by simp[inB];omega),rfl⟩
def cO:List UInt8->Nat
 | []=>0
 | b :: l=>b.toNat+256*cO l
def iZ(a b:List UInt8):cO (a++b)=cO a+2 ^ (8*a.length)*cO b:=by
 induction a with
 | nil=>simp[cO]
 | cons x a ih=>
  simp only[a1g,cO,ih,a0A];have e:2 ^ (8*(a.length+1))=256*2 ^ (8*a.length):=by rw[a17,a0P,a1c]
  rw[e,a17,a1y];omega
def qm(l:List UInt8):cO l<2 ^ (8*l.length):=by
 induction l with
 | nil=>simp[cO]
 | cons x l ih=>
  simp only[cO,a0A];have e:2 ^ (8*(l.length+1))=256*2 ^ (8*l.length):=by rw[a17,a0P,a1c]
  rw[e];have:=x.toNat_lt;omega
def Dm(l:List UInt8)(j:Nat):cO l/2 ^ (8*j)%256=(l.getD j 0).toNat:=by
 induction l generalizing j with
 | nil=>simp[cO]
 | cons x l ih=>
  have a:=x.toNat_lt;cases j with
  | zero=>
   simp only[cO,Nat.mul_zero,Nat.pow_zero,Nat.div_one,List.getD_cons_zero];omega
  | succ j=>
   simp only[cO,a2n];rw[←ih j,show 8*(j+1)=8+8*j by omega,a0P,←a1I]
   congr 2
   show(x.toNat+256*cO l)/256=cO l;omega
def Qg(l:List UInt8)(p:Nat):(l.getD (p/8) 0).toNat/2 ^ (p%8)%2=cO l/2 ^ p%2:=by
 rw[←Dm];have e8:256=2 ^ (p%8)*2 ^ (8-p%8):=by
  rw[←a0P,show p%8+(8-p%8)=8 by omega]
 have e2:2∣2 ^ (8-p%8):=by
  rw[show 8-p%8=(7-p%8)+1 by omega,a1l];exact Nat.dvd_mul_left _ _
 rw[e8,a2R,Nat.mod_mod_of_dvd _ e2,a1I,←a0P,show 8*(p/8)+p%8=p by omega]
def Ks(l:List UInt8)(p:Nat)(h:8*l.length<=p):cO l/2 ^ p%2=0:=by
 rw[a1J (a0h (qm l) (a0M (by omega) h))]
def bC:List Nat:=[16,17,18,0,8,7,9,6,10,5,11,4,12,3,13,2,14,1,15]
def xF(n:Int)(w:World) :
  Calls prog 119 #[n] w fun e w'=>e = .returned (.bool (inB n 0 4294967295))/\w'=w:=by
 by_cases h:0<=n
 . go_enter func119,ntmps119;go_wp2;go_ret;exact⟨am (by simp[inB,h]),rfl⟩
 . go_enter func119,ntmps119;go_wp2;go_ret;exact⟨am (by simp[inB];omega),rfl⟩
open Corb
def PM(x:Nat)(h:x<4294967296):bits .and .u32 (x:Int) 1=(x:Int)%2:=by
 have:=u32_and_nat x 1 h (by omega);rw[show((1:Nat):Int)=1 from rfl]at this;rw[this,nat_mask1];omega
def Dk(x:Nat)(h:x<4294967296):bits .xor .u32 ((x:Int)/2) 3988292384=((x/2 ^^^ 3988292384:Nat):Int):=by
 have:=a2o (x/2) 3988292384 (by omega) (by omega);rw[show((x/2:Nat):Int)=(x:Int)/2 by omega]at this;exact this
def M4(x:Nat)(h:x%2=1):sh x=x/2 ^^^ 3988292384:=a0c h
def Gs(x:Nat)(h:¬ x%2=1):sh x=x/2:=a0d h
def yr(r n:Int)(w:World)(d:0<=r)(o:r<4294967296)(b:0<=n)(l:n<=1000000) :
  Calls prog 151 #[.int .u32 r,n] w fun e w'=>e = .returned (.int .u32 (shN n.toNat r.toNat:Nat))/\w'=w:=by
 obtain⟨R,rfl⟩:=a0o d;obtain⟨m,rfl⟩:=a0o b;rw[a0n,a0n];go_enter func151,ntmps151;go_wp2
 go_loop [0,6] (fun x i=>∃k:Nat,k<=m/\i = .int .i64 k/\x = .int .u32 (shN k R:Nat)) (fun _ i=>m-(intOf i).toNat)
 case atStart=>exact⟨0,a0f _,rfl,rfl⟩
 case round=>
  obtain⟨k,q,rfl,rfl⟩:=hrel;have g:=vD k R (by omega);have f:=af (xB k R);by_cases j:k<m
  .
   generalize h:shN k R=x at *
   clear h;have p:=PM x g;have h2:=Dk x g;by_cases a:x%2=1
   .
    have c:(x:Int)%2=1:=by omega
    have H:=af a;clear a;go_wp2
    go_round
    case rel=>exact⟨k+1,by omega,by go_num,by rw[ae f,M4 x H]⟩
    case measure=>simp[intOf];omega
   .
    have c:(x:Int)%2=0:=by omega
    have H:=af a;clear a;go_wp2
    go_round
    case rel=>exact⟨k+1,by omega,by go_num,by rw[ae f,Gs x H];rfl⟩
    case measure=>simp[intOf];omega
  . go_wp2;go_ret;exact⟨aJ (by rw[show k=m by omega]),rfl⟩
def qk(x:Nat)(b:Nat)(h:x<4294967296)(hb:b<256):bits .xor .u32 (x:Int) (b:Int)=((x ^^^ b:Nat):Int):=
 a2o x b h (by omega)
def Ex(c b:Int)(w:World)(h:0<=c)(s:c<4294967296)(f:0<=b)(r:b<256) :
  Calls prog 107 #[.int .u32 c,.int .u8 b] w fun e w'=>e = .returned (.int .u32 (shN 8 (c.toNat ^^^ b.toNat):Nat))/\w'=w:=by
 obtain⟨R,rfl⟩:=a0o h;obtain⟨B,rfl⟩:=a0o f;rw[a0n,a0n];have j:=qk R B (by omega) (by omega);have a:R ^^^ B<4294967296:=a1x (n:=32) (by omega) (by omega);generalize R ^^^ B=X at *
 go_enter func107,ntmps107;go_wp2
 go_loop [0,5] (fun x i=>∃k:Nat,k<=8/\i = .int .i64 k/\x = .int .u32 (shN k X:Nat)) (fun _ i=>8-(intOf i).toNat)
 case atStart=>exact⟨0,by omega,rfl,rfl⟩
 case round=>
  obtain⟨k,o,rfl,rfl⟩:=hrel;have t:=vD k X a;have p:(k:Int)<=8:=by omega
  clear o;have l:=af (xB k X);clear j a;by_cases q:(k:Int)<8
  .
   generalize m:shN k X=x at *
   clear m;have h2:=Dk x t;by_cases d:x%2=1
   .
    have g:(x:Int)%2=1:=by omega
    have H:=af d;clear d;go_wp2
    go_round
    case rel=>exact⟨k+1,by omega,by go_num,by rw[ae l,M4 x H]⟩
    case measure=>simp[intOf];omega
   .
    have g:(x:Int)%2=0:=by omega
    have H:=af d;clear d;go_wp2
    go_round
    case rel=>exact⟨k+1,by omega,by go_num,by rw[ae l,Gs x H];rfl⟩
    case measure=>simp[intOf];omega
  . go_wp2;go_ret;exact⟨aJ (by rw[show k=8 by omega]),rfl⟩
def xJ(s:ByteArray)(k:Nat)(h:k<s.size):s.data.toList.take (k+1)=s.data.toList.take k++[s[k]]:=by
 rw[a1b (by simpa using h)];rfl
def wQ(c:Nat)(l:List UInt8)(b:UInt8):fold c (l++[b])=shN 8 (fold c l ^^^ b.toNat):=by
 rw[Au];rfl
def Ew(c:Int)(s:ByteArray)(w:World)(m:0<=c)(q:c<4294967296)(p:s.size<=maxLen) :
  Calls prog 75 #[.int .u32 c,s] w fun e w'=>e = .returned (.int .u32 (aE c.toNat s.data.toList:Nat))/\w'=w:=by
 obtain⟨C,rfl⟩:=a0o m;rw[a0n];unfold maxLen at p;have g:bits .xor .u32 (C:Int) 4294967295=((C ^^^ full:Nat):Int):=a2o C 4294967295 (by omega) (by omega);have a:C ^^^ full<4294967296:=a1x (n:=32) (by omega) (by decide);have l:Hid (aE C s.data.toList=fold (C ^^^ full) s.data.toList ^^^ full):=rfl;generalize C ^^^ full=X at *
 generalize b:aE C s.data.toList=F at *
 clear b;go_enter func75,ntmps75;go_wp2
 go_loop [5,6] (fun c i=>∃k:Nat,k<=s.size/\i = .int .i64 k/\c = .int .u32 (fold X (s.data.toList.take k):Nat)) (fun _ i=>s.size-(intOf i).toNat)
 case atStart=>exact⟨0,a0f _,rfl,rfl⟩
 case round=>
  obtain⟨k,r,rfl,rfl⟩:=hrel;have o:=yD X (s.data.toList.take k) a;by_cases d:k<s.size
  .
   have f:Hid (fold X (s.data.toList.take (k+1))=shN 8 (fold X (s.data.toList.take k) ^^^ s[k].toNat)):=by
    rw[xJ s k d,wQ];exact rfl
   have hb:(s[k].toNat:Int)<256:=by have:=yk s[k];omega
   generalize fold X (s.data.toList.take k)=x at *
   clear g a;go_wp2_with (go_at_call 107;refine(Ex _ _ _ (by omega) (by omega) (by omega) (by omega)).mono ?_;rintro e w'⟨rfl,rfl⟩)
   go_round
   case rel=>exact⟨k+1,by omega,by go_num,by rw[ae f]⟩
   case measure=>simp[intOf];omega
  .
   have t:bits .xor .u32 ((fold X (s.data.toList.take k):Nat):Int) 4294967295=((fold X (s.data.toList.take k) ^^^ full:Nat):Int):=a2o _ 4294967295 o (by omega);have j:Hid (fold X (s.data.toList.take k) ^^^ full=F):=by
    have h:=ae l;rw[h,a0t (by simp;omega)];exact rfl
   generalize fold X (s.data.toList.take k) ^^^ full=v at *
   generalize fold X (s.data.toList.take k)=x at *
   clear g a;go_wp2;go_ret;exact⟨aJ (by rw[ae j]),rfl⟩
def sx(s:ByteArray)(w:World)(a:s.size<=maxLen) :
  Calls prog 43 #[s] w fun e w'=>e = .returned (.int .i64 (aE 0 s.data.toList:Nat))/\w'=w:=by
 have hb:aE 0 s.data.toList<4294967296:=gp _ _ (by omega);go_enter func43,ntmps43;go_wp2_with (go_at_call 75;refine(Ew _ _ _ (by omega) (by omega) a).mono ?_;rintro e w'⟨rfl,rfl⟩);go_ret;exact⟨rfl,rfl⟩
def cmI(c:Int)(l:List UInt8):Int:=if inB c 0 4294967295=true then(aE c.toNat l:Nat)else -1
def FQ{c:Int}{l:List UInt8}(h:inB c 0 4294967295=true):cmI c l=(aE c.toNat l:Nat):=a0c h
def Qm{c:Int}{l:List UInt8}(h:inB c 0 4294967295=false):cmI c l = -1:=a0d (by simp[h])
def dn{a b:ByteArray}(h:a.data.toList=b.data.toList):a=b:=ByteArray.ext (Array.toList_inj.1 h)
