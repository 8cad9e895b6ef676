set_option linter.unusedSimpArgs false
set_option linter.unusedVariables false
/- Of what the proof is made: 4 texts, one behind the other. -/
namespace Corb
def rv:Nat->Nat->Nat
 | 0,_=>0
 | k+1,n=>2*rv k n+n/2 ^ k%2
theorem Lt(k n:Nat):rv k n<2 ^ k:=by
 induction k with
 | zero=>simp[rv]
 | succ k ih=>simp only[rv,Nat.pow_succ];omega
theorem Mg(k n i:Nat):(rv k n).testBit i=(decide (i<k)&&n.testBit (k-1-i)):=by
 induction k generalizing i with
 | zero=>simp[rv]
 | succ k ih=>
  cases i with
  | zero=>
   simp only[rv,Nat.testBit_zero];rw[show(2*rv k n+n/2 ^ k%2)%2=n/2 ^ k%2 by omega];simp[Nat.testBit_eq_decide_div_mod_eq]
  | succ i=>
   have:(2*rv k n+n/2 ^ k%2)/2=rv k n:=by omega
   simp only[rv];rw[Nat.testBit_succ,this,ih i];rw[show k+1-1-(i+1)=k-1-i by omega]
   congr 1
   simp
theorem xV(k:Nat)(h:k<=16):2 ^ k<=65536:=Nat.pow_le_pow_right (n:=2) (by omega) h
theorem uD(n k:Nat):n/2 ^ k/2=n/2 ^ (k+1):=by
 rw[Nat.div_div_eq_div_mul,Nat.pow_succ]
end Corb
namespace Corb
def leS:Nat->Nat->List UInt8
 | 0,_=>[]
 | k+1,V=>leS k V++[UInt8.ofNat (V/2 ^ (8*k)%256)]
theorem az(k V:Nat):(leS k V).length=k:=by
 induction k with
 | zero=>rfl
 | succ k ih=>simp[leS,ih]
theorem DC(k V W:Nat)(h:V%2 ^ (8*k)=W%2 ^ (8*k)):leS k V=leS k W:=by
 induction k with
 | zero=>rfl
 | succ k ih=>
  have e:2 ^ (8*(k+1))=2 ^ (8*k)*256:=by rw[show 8*(k+1)=8*k+8 by omega,Nat.pow_add]
  rw[e]at h;have h1:V%2 ^ (8*k)=W%2 ^ (8*k):=by
   have a:=congrArg (· % 2 ^ (8*k)) h;simpa[Nat.mod_mul_right_mod]using a
  have h2:V/2 ^ (8*k)%256=W/2 ^ (8*k)%256:=by
   have a:=congrArg (· / 2 ^ (8*k)) h;simpa[Nat.mod_mul_right_div_self]using a
  simp only[leS];rw[ih h1,h2]
theorem BA(k V x m:Nat)(hm:8*k<=m):leS k (V+x*2 ^ m)=leS k V:=by
 apply DC;have e:x*2 ^ m=2 ^ (8*k)*(x*2 ^ (m-8*k)):=by
  rw[Nat.mul_left_comm,←Nat.pow_add,show 8*k+(m-8*k)=m by omega]
 rw[e,Nat.add_mul_mod_self_left]
theorem JR(V x m q:Nat)(hm:8*q<=m):(V+x*2 ^ m)/2 ^ (8*q)=V/2 ^ (8*q)+x*2 ^ (m-8*q):=by
 have e:x*2 ^ m=2 ^ (8*q)*(x*2 ^ (m-8*q)):=by
  rw[Nat.mul_left_comm,←Nat.pow_add,show 8*q+(m-8*q)=m by omega]
 rw[e,Nat.add_mul_div_left _ _ (Nat.two_pow_pos _)]
theorem add_lt(V x m:Nat)(hV:V<2 ^ m)(hx:x<=1):V+x*2 ^ m<2 ^ (m+1):=by
 rw[Nat.pow_succ];have:x*2 ^ m<=1*2 ^ m:=Nat.mul_le_mul_right _ hx;omega
theorem Bp(V m q:Nat)(hV:V<2 ^ m)(hq:8*q<=m):V/2 ^ (8*q)<2 ^ (m-8*q):=by
 rw[Nat.div_lt_iff_lt_mul (Nat.two_pow_pos _),←Nat.pow_add];rw[show m-8*q+8*q=m by omega];exact hV
theorem xt(n k:Nat):n%2 ^ (k+1)=n%2 ^ k+n/2 ^ k%2*2 ^ k:=by
 rw[Nat.mod_pow_succ,Nat.mul_comm]
theorem BB(k V j:Nat)(h:j<k):(leS k V).getD j 0=UInt8.ofNat (V/2 ^ (8*j)%256):=by
 induction k with
 | zero=>omega
 | succ k ih=>
  simp only[leS];by_cases hj:j<k
  · have:=ih hj;simp only[List.getD]at this ⊢;rw[List.getElem?_append_left (by rw[az];exact hj)];exact this
  ·
   have:j=k:=by omega
   subst this;simp[List.getD,az]
theorem Km(k V x m:Nat)(hk:k=m/8)(hx:x<=1)(hV:V<2 ^ m) :
  leS (k+1) (V+x*2 ^ m)=(leS (k+1) V).set k (UInt8.ofNat (V/2 ^ (8*k)+x*2 ^ (m%8))):=by
 have h8:8*k<=m:=by omega
 simp only[leS];rw[BA k V x m h8,JR V x m k h8,show m-8*k=m%8 by omega];have h1:V/2 ^ (8*k)<2 ^ (m%8):=by
  have:=Bp V m k hV h8;rwa[show m-8*k=m%8 by omega]at this
 have h2:V/2 ^ (8*k)+x*2 ^ (m%8)<2 ^ (m%8+1):=add_lt _ _ _ h1 hx;have h3:2 ^ (m%8+1)<=2 ^ 8:=Nat.pow_le_pow_right (by omega) (by omega);rw[Nat.mod_eq_of_lt (by omega)];rw[List.set_append_right _ _ (by rw[az];exact Nat.le_refl _),az];simp
theorem Kl(k V:Nat)(hV:V<2 ^ (8*k)):leS (k+1) V=leS k V++[0]:=by
 simp only[leS];rw[Nat.div_eq_of_lt hV];rfl
def gm:Nat×Nat->List (Nat×Nat)->Nat×Nat
 | s,[]=>s
 | s,p :: l=>gm (s.1+p.1*2 ^ s.2,s.2+p.2) l
theorem pq(s:Nat×Nat)(l m:List (Nat×Nat)):gm s (l++m)=gm (gm s l) m:=by
 induction l generalizing s with
 | nil=>rfl
 | cons p l ih=>exact ih _
theorem Io(V m n b:Nat)(hV:V<2 ^ m)(hn:n<2 ^ b):V+n*2 ^ m<2 ^ (m+b):=by
 rw[Nat.pow_add];have:(n+1)*2 ^ m<=2 ^ b*2 ^ m:=Nat.mul_le_mul_right _ hn;rw[Nat.add_mul]at this;rw[Nat.mul_comm (2 ^ m)];omega
end Corb
namespace Corb
def sh(n:Nat):Nat:=if n%2=1 then(n/2) ^^^ 3988292384 else n/2
def shN:Nat->Nat->Nat
 | 0,x=>x
 | k+1,x=>shN k (sh x)
theorem lE(a b x:Nat):shN (a+b) x=shN b (shN a x):=by
 induction a generalizing x with
 | zero=>simp[shN]
 | succ a ih=>rw[show a+1+b=(a+b)+1 by omega];simp[shN,ih]
theorem Ev(k x:Nat):shN (k+1) x=sh (shN k x):=by
 rw[lE k 1 x];rfl
theorem MX(x:Nat)(h:x<4294967296):sh x<4294967296:=by
 unfold sh
 split
 · exact Nat.xor_lt_two_pow (n:=32) (by omega) (by omega)
 · omega
theorem vr(k x:Nat)(h:x<4294967296):shN k x<4294967296:=by
 induction k generalizing x with
 | zero=>exact h
 | succ k ih=>exact ih _ (MX x h)
theorem yQ(x y:Nat):(x ^^^ y)/2=(x/2) ^^^ (y/2):=by
 apply Nat.eq_of_testBit_eq;intro i;simp[Nat.testBit_xor,Nat.testBit_div_two]
theorem yR(x y:Nat):(x ^^^ y)%2=(x%2+y%2)%2:=by
 have h:=Nat.xor_mod_two_pow (a:=x) (b:=y) (n:=1);simp only[Nat.pow_one]at h;rw[h];rcases Nat.mod_two_eq_zero_or_one x with hx|hx<;>rcases Nat.mod_two_eq_zero_or_one y with hy|hy<;>simp[hx,hy]
theorem Au(x:Nat):sh x=(x/2) ^^^ (if x%2=1 then 3988292384 else 0):=by
 unfold sh;split<;>simp
theorem Mj(x y:Nat):sh (x ^^^ y)=sh x ^^^ sh y:=by
 rw[Au,Au x,Au y,yQ,yR];rcases Nat.mod_two_eq_zero_or_one x with hx|hx<;>rcases Nat.mod_two_eq_zero_or_one y with hy|hy<;>simp[hx,hy]
 · ac_rfl
 · ac_rfl
 · rw[show(x/2 ^^^ 3988292384 ^^^ (y/2 ^^^ 3988292384))=(x/2 ^^^ y/2) ^^^ (3988292384 ^^^ 3988292384) by ac_rfl];simp
theorem qf(k x y:Nat):shN k (x ^^^ y)=shN k x ^^^ shN k y:=by
 induction k generalizing x y with
 | zero=>rfl
 | succ k ih=>simp[shN,Mj,ih]
theorem Ew(k:Nat):sh (2*k)=k:=by
 unfold sh;rw[if_neg (by omega)];omega
theorem K5(x:Nat):x=(x%16) ^^^ (2*(2*(2*(2*(x/16))))):=by
 apply Nat.eq_of_testBit_eq;intro i;have h1:x%16=x%2 ^ 4:=rfl;have h2:2*(2*(2*(2*(x/16))))=2 ^ 4*(x/2 ^ 4):=by omega
 rw[h1,h2,Nat.testBit_xor,Nat.testBit_mod_two_pow,Nat.testBit_two_pow_mul,Nat.testBit_div_two_pow];by_cases hi:i<4
 · simp[hi,show ¬ 4<=i by omega]
 · simp[hi,show i-4+4=i by omega,show 4<=i by omega]
theorem II(x:Nat):shN 4 x=shN 4 (x%16) ^^^ (x/16):=by
 conv=>lhs;rw[K5 x]
 rw[qf]
 congr 1
 simp[shN,Ew]
def fold(c:Nat)(l:List UInt8):Nat:=l.foldl (fun c b=>shN 8 (c ^^^ b.toNat)) c
@[simp] theorem MF (c:Nat):fold c []=c:=rfl
theorem Do(c:Nat)(b:UInt8)(l:List UInt8):fold c (b :: l)=fold (shN 8 (c ^^^ b.toNat)) l:=rfl
theorem wz(c:Nat)(l m:List UInt8):fold c (l++m)=fold (fold c l) m:=by
 unfold fold;rw[List.foldl_append]
theorem A9(b:UInt8):b.toNat<256:=b.toNat_lt
theorem Lj(c:Nat)(b:UInt8)(h:c<4294967296):c ^^^ b.toNat<4294967296:=
 Nat.xor_lt_two_pow (n:=32) h (by have:=A9 b;omega)
theorem Bo(c:Nat)(l:List UInt8)(h:c<4294967296):fold c l<4294967296:=by
 induction l generalizing c with
 | nil=>exact h
 | cons b l ih=>rw[Do];exact ih _ (vr _ _ (Lj c b h))
def full:Nat:=4294967295
def aQ(c:Nat)(l:List UInt8):Nat:=fold (c ^^^ full) l ^^^ full
theorem jk(c:Nat)(l:List UInt8)(h:c<4294967296):aQ c l<4294967296:=
 Nat.xor_lt_two_pow (n:=32) (Bo _ _ (Nat.xor_lt_two_pow (n:=32) h (by decide))) (by decide)
theorem As(x:Nat):shN 8 x=shN 8 (x%256) ^^^ (x/256):=by
 have e:∀y,shN 8 y=shN 4 (shN 4 y):=fun y=>lE 4 4 y;rw[e x,II x,qf,II (x/16),e (x%256),II (x%256),qf,II (x%256/16)];rw[show x%256%16=x%16 by omega,show x%256/16%16=x/16%16 by omega,show x%256/16/16=0 by omega,show x/16/16=x/256 by omega];simp[Nat.xor_assoc]
theorem IL(x:Nat):x=(x%256) ^^^ (256*(x/256)):=by
 apply Nat.eq_of_testBit_eq;intro i;have h1:x%256=x%2 ^ 8:=rfl;have h2:256*(x/256)=2 ^ 8*(x/2 ^ 8):=rfl;rw[h1,h2,Nat.testBit_xor,Nat.testBit_mod_two_pow,Nat.testBit_two_pow_mul,Nat.testBit_div_two_pow];by_cases hi:i<8
 · simp[hi,show ¬ 8<=i by omega]
 · simp[hi,show i-8+8=i by omega,show 8<=i by omega]
theorem IJ(k:Nat):shN 8 (256*k)=k:=by
 rw[As,show 256*k%256=0 by omega,show 256*k/256=k by omega];simp[shN,sh]
theorem oK(c n:Nat):shN 8 (c ^^^ n)=shN 8 (c ^^^ (n%256)) ^^^ (n/256):=by
 conv=>lhs;rw[IL n]
 rw[←Nat.xor_assoc,qf,IJ]
theorem four(c n:Nat) :
  shN 8 (shN 8 (shN 8 (shN 8 (c ^^^ n%256) ^^^ n/256%256) ^^^ n/65536%256) ^^^ n/16777216)=shN 32 (c ^^^ n):=by
 rw[show(32:Nat)=8+(8+(8+8))from rfl,lE,lE,lE,oK c n,oK _ (n/256),oK _ (n/256/256)];rw[show n/256/256/256=n/16777216 by omega,show n/256/256%256=n/65536%256 by omega]
end Corb
namespace Corb
def Mv(p:Nat×Nat)(b:UInt8):Nat×Nat:=((p.1+b.toNat)%65521,(p.2+(p.1+b.toNat)%65521)%65521)
def Mu(p:Nat×Nat)(l:List UInt8):Nat×Nat:=l.foldl Mv p
@[simp] theorem Mr (p:Nat×Nat):Mu p []=p:=rfl
end Corb
