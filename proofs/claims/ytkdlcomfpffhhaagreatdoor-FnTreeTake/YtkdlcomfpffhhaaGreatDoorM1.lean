set_option linter.unusedSimpArgs false
set_option linter.unusedVariables false
/- Of what the proof is made: 4 texts, one behind the other. -/
namespace Corb
def rv:Nat->Nat->Nat
 | 0,_=>0
 | k+1,n=>2*rv k n+n/2 ^ k%2
theorem MI(k n:Nat):rv k n<2 ^ k:=by
 induction k with
 | zero=>simp[rv]
 | succ k ih=>simp only[rv,Nat.pow_succ];omega
theorem y6(k:Nat)(h:k<=16):2 ^ k<=65536:=Nat.pow_le_pow_right (n:=2) (by omega) h
theorem nC(n k:Nat):n/2 ^ k/2=n/2 ^ (k+1):=by
 rw[Nat.div_div_eq_div_mul,Nat.pow_succ]
end Corb
namespace Corb
def leS:Nat->Nat->List UInt8
 | 0,_=>[]
 | k+1,V=>leS k V++[UInt8.ofNat (V/2 ^ (8*k)%256)]
theorem aH(k V:Nat):(leS k V).length=k:=by
 induction k with
 | zero=>rfl
 | succ k ih=>simp[leS,ih]
theorem ER(k V W:Nat)(h:V%2 ^ (8*k)=W%2 ^ (8*k)):leS k V=leS k W:=by
 induction k with
 | zero=>rfl
 | succ k ih=>
  have e:2 ^ (8*(k+1))=2 ^ (8*k)*256:=by rw[show 8*(k+1)=8*k+8 by omega,Nat.pow_add]
  rw[e]at h;have b:V%2 ^ (8*k)=W%2 ^ (8*k):=by
   have a:=congrArg (· % 2 ^ (8*k)) h;simpa[Nat.mod_mul_right_mod]using a
  have h2:V/2 ^ (8*k)%256=W/2 ^ (8*k)%256:=by
   have a:=congrArg (· / 2 ^ (8*k)) h;simpa[Nat.mod_mul_right_div_self]using a
  simp only[leS];rw[ih b,h2]
theorem qN(k V x m:Nat)(a:8*k<=m):leS k (V+x*2 ^ m)=leS k V:=by
 apply ER;have e:x*2 ^ m=2 ^ (8*k)*(x*2 ^ (m-8*k)):=by
  rw[Nat.mul_left_comm,←Nat.pow_add,show 8*k+(m-8*k)=m by omega]
 rw[e,Nat.add_mul_mod_self_left]
theorem vI(V x m q:Nat)(a:8*q<=m):(V+x*2 ^ m)/2 ^ (8*q)=V/2 ^ (8*q)+x*2 ^ (m-8*q):=by
 have e:x*2 ^ m=2 ^ (8*q)*(x*2 ^ (m-8*q)):=by
  rw[Nat.mul_left_comm,←Nat.pow_add,show 8*q+(m-8*q)=m by omega]
 rw[e,Nat.add_mul_div_left _ _ (Nat.two_pow_pos _)]
theorem add_lt(V x m:Nat)(b:V<2 ^ m)(a:x<=1):V+x*2 ^ m<2 ^ (m+1):=by
 rw[Nat.pow_succ];have:x*2 ^ m<=1*2 ^ m:=Nat.mul_le_mul_right _ a;omega
theorem vV(V m q:Nat)(a:V<2 ^ m)(hq:8*q<=m):V/2 ^ (8*q)<2 ^ (m-8*q):=by
 rw[Nat.div_lt_iff_lt_mul (Nat.two_pow_pos _),←Nat.pow_add];rw[show m-8*q+8*q=m by omega];exact a
theorem yv(n k:Nat):n%2 ^ (k+1)=n%2 ^ k+n/2 ^ k%2*2 ^ k:=by
 rw[Nat.mod_pow_succ,Nat.mul_comm]
theorem De(k V j:Nat)(h:j<k):(leS k V).getD j 0=UInt8.ofNat (V/2 ^ (8*j)%256):=by
 induction k with
 | zero=>omega
 | succ k ih=>
  simp only[leS];by_cases a:j<k
  . have:=ih a;simp only[List.getD]at this ⊢;rw[List.getElem?_append_left (by rw[aH];exact a)];exact this
  .
   have:j=k:=by omega
   subst this;simp[List.getD,aH]
theorem Ll(k V x m:Nat)(f:k=m/8)(d:x<=1)(c:V<2 ^ m) :
  leS (k+1) (V+x*2 ^ m)=(leS (k+1) V).set k (UInt8.ofNat (V/2 ^ (8*k)+x*2 ^ (m%8))):=by
 have a:8*k<=m:=by omega
 simp only[leS];rw[qN k V x m a,vI V x m k a,show m-8*k=m%8 by omega];have b:V/2 ^ (8*k)<2 ^ (m%8):=by
  have:=vV V m k c a;rwa[show m-8*k=m%8 by omega]at this
 have h2:V/2 ^ (8*k)+x*2 ^ (m%8)<2 ^ (m%8+1):=add_lt _ _ _ b d;have e:2 ^ (m%8+1)<=2 ^ 8:=Nat.pow_le_pow_right (by omega) (by omega);rw[Nat.mod_eq_of_lt (by omega)];rw[List.set_append_right _ _ (by rw[aH];exact Nat.le_refl _),aH];simp
theorem Lk(k V:Nat)(a:V<2 ^ (8*k)):leS (k+1) V=leS k V++[0]:=by
 simp only[leS];rw[Nat.div_eq_of_lt a];rfl
def iA:Nat×Nat->List (Nat×Nat)->Nat×Nat
 | s,[]=>s
 | s,p :: l=>iA (s.1+p.1*2 ^ s.2,s.2+p.2) l
theorem kV(s:Nat×Nat)(l m:List (Nat×Nat)):iA s (l++m)=iA (iA s l) m:=by
 induction l generalizing s with
 | nil=>rfl
 | cons p l ih=>exact ih _
theorem Jo(V m n b:Nat)(c:V<2 ^ m)(a:n<2 ^ b):V+n*2 ^ m<2 ^ (m+b):=by
 rw[Nat.pow_add];have:(n+1)*2 ^ m<=2 ^ b*2 ^ m:=Nat.mul_le_mul_right _ a;rw[Nat.add_mul]at this;rw[Nat.mul_comm (2 ^ m)];omega
end Corb
namespace Corb
def sh(n:Nat):Nat:=if n%2=1 then(n/2) ^^^ 3988292384 else n/2
def shN:Nat->Nat->Nat
 | 0,x=>x
 | k+1,x=>shN k (sh x)
theorem lP(a b x:Nat):shN (a+b) x=shN b (shN a x):=by
 induction a generalizing x with
 | zero=>simp[shN]
 | succ a ih=>rw[show a+1+b=(a+b)+1 by omega];simp[shN,ih]
theorem uU(k x:Nat):shN (k+1) x=sh (shN k x):=by
 rw[lP k 1 x];rfl
theorem N8(x:Nat)(h:x<4294967296):sh x<4294967296:=by
 unfold sh
 split
 . exact Nat.xor_lt_two_pow (n:=32) (by omega) (by omega)
 . omega
theorem sU(k x:Nat)(h:x<4294967296):shN k x<4294967296:=by
 induction k generalizing x with
 | zero=>exact h
 | succ k ih=>exact ih _ (N8 x h)
theorem zU(x y:Nat):(x ^^^ y)/2=(x/2) ^^^ (y/2):=by
 apply Nat.eq_of_testBit_eq;intro i;simp[Nat.testBit_xor,Nat.testBit_div_two]
theorem zV(x y:Nat):(x ^^^ y)%2=(x%2+y%2)%2:=by
 have h:=Nat.xor_mod_two_pow (a:=x) (b:=y) (n:=1);simp only[Nat.pow_one]at h;rw[h];rcases Nat.mod_two_eq_zero_or_one x with c|c<;>rcases Nat.mod_two_eq_zero_or_one y with d|d<;>simp[c,d]
theorem BM(x:Nat):sh x=(x/2) ^^^ (if x%2=1 then 3988292384 else 0):=by
 unfold sh;split<;>simp
theorem Nn(x y:Nat):sh (x ^^^ y)=sh x ^^^ sh y:=by
 rw[BM,BM x,BM y,zU,zV];rcases Nat.mod_two_eq_zero_or_one x with a|a<;>rcases Nat.mod_two_eq_zero_or_one y with b|b<;>simp[a,b]
 . ac_rfl
 . ac_rfl
 . rw[show(x/2 ^^^ 3988292384 ^^^ (y/2 ^^^ 3988292384))=(x/2 ^^^ y/2) ^^^ (3988292384 ^^^ 3988292384) by ac_rfl];simp
theorem qS(k x y:Nat):shN k (x ^^^ y)=shN k x ^^^ shN k y:=by
 induction k generalizing x y with
 | zero=>rfl
 | succ k ih=>simp[shN,Nn,ih]
theorem FN(k:Nat):sh (2*k)=k:=by
 unfold sh;rw[if_neg (by omega)];omega
theorem Mc(x:Nat):x=(x%16) ^^^ (2*(2*(2*(2*(x/16))))):=by
 apply Nat.eq_of_testBit_eq;intro i;have b:x%16=x%2 ^ 4:=rfl;have h2:2*(2*(2*(2*(x/16))))=2 ^ 4*(x/2 ^ 4):=by omega
 rw[b,h2,Nat.testBit_xor,Nat.testBit_mod_two_pow,Nat.testBit_two_pow_mul,Nat.testBit_div_two_pow];by_cases a:i<4
 . simp[a,show ¬ 4<=i by omega]
 . simp[a,show i-4+4=i by omega,show 4<=i by omega]
theorem JE(x:Nat):shN 4 x=shN 4 (x%16) ^^^ (x/16):=by
 conv=>lhs;rw[Mc x]
 rw[qS]
 congr 1
 simp[shN,FN]
def fold(c:Nat)(l:List UInt8):Nat:=l.foldl (fun c b=>shN 8 (c ^^^ b.toNat)) c
@[simp] theorem NU (c:Nat):fold c []=c:=rfl
theorem Er(c:Nat)(b:UInt8)(l:List UInt8):fold c (b :: l)=fold (shN 8 (c ^^^ b.toNat)) l:=rfl
theorem xC(c:Nat)(l m:List UInt8):fold c (l++m)=fold (fold c l) m:=by
 unfold fold;rw[List.foldl_append]
theorem vE(b:UInt8):b.toNat<256:=b.toNat_lt
theorem Mw(c:Nat)(b:UInt8)(h:c<4294967296):c ^^^ b.toNat<4294967296:=
 Nat.xor_lt_two_pow (n:=32) h (by have:=vE b;omega)
theorem vQ(c:Nat)(l:List UInt8)(h:c<4294967296):fold c l<4294967296:=by
 induction l generalizing c with
 | nil=>exact h
 | cons b l ih=>rw[Er];exact ih _ (sU _ _ (Mw c b h))
def full:Nat:=4294967295
def aL(c:Nat)(l:List UInt8):Nat:=fold (c ^^^ full) l ^^^ full
theorem mt(c:Nat)(l:List UInt8)(h:c<4294967296):aL c l<4294967296:=
 Nat.xor_lt_two_pow (n:=32) (vQ _ _ (Nat.xor_lt_two_pow (n:=32) h (by decide))) (by decide)
theorem BL(x:Nat):shN 8 x=shN 8 (x%256) ^^^ (x/256):=by
 have e:∀y,shN 8 y=shN 4 (shN 4 y):=fun y=>lP 4 4 y;rw[e x,JE x,qS,JE (x/16),e (x%256),JE (x%256),qS,JE (x%256/16)];rw[show x%256%16=x%16 by omega,show x%256/16%16=x/16%16 by omega,show x%256/16/16=0 by omega,show x/16/16=x/256 by omega];simp[Nat.xor_assoc]
theorem JJ(x:Nat):x=(x%256) ^^^ (256*(x/256)):=by
 apply Nat.eq_of_testBit_eq;intro i;have b:x%256=x%2 ^ 8:=rfl;have h2:256*(x/256)=2 ^ 8*(x/2 ^ 8):=rfl;rw[b,h2,Nat.testBit_xor,Nat.testBit_mod_two_pow,Nat.testBit_two_pow_mul,Nat.testBit_div_two_pow];by_cases a:i<8
 . simp[a,show ¬ 8<=i by omega]
 . simp[a,show i-8+8=i by omega,show 8<=i by omega]
theorem JF(k:Nat):shN 8 (256*k)=k:=by
 rw[BL,show 256*k%256=0 by omega,show 256*k/256=k by omega];simp[shN,sh]
theorem pm(c n:Nat):shN 8 (c ^^^ n)=shN 8 (c ^^^ (n%256)) ^^^ (n/256):=by
 conv=>lhs;rw[JJ n]
 rw[←Nat.xor_assoc,qS,JF]
theorem four(c n:Nat) :
  shN 8 (shN 8 (shN 8 (shN 8 (c ^^^ n%256) ^^^ n/256%256) ^^^ n/65536%256) ^^^ n/16777216)=shN 32 (c ^^^ n):=by
 rw[show(32:Nat)=8+(8+(8+8))from rfl,lP,lP,lP,pm c n,pm _ (n/256),pm _ (n/256/256)];rw[show n/256/256/256=n/16777216 by omega,show n/256/256%256=n/65536%256 by omega]
end Corb
namespace Corb
def NF(p:Nat×Nat)(b:UInt8):Nat×Nat:=((p.1+b.toNat)%65521,(p.2+(p.1+b.toNat)%65521)%65521)
def NE(p:Nat×Nat)(l:List UInt8):Nat×Nat:=l.foldl NF p
@[simp] theorem NC (p:Nat×Nat):NE p []=p:=rfl
end Corb
