/- Of what the proof is made: 5 texts, one behind the other. -/
import Derived.Test.YtkpfkgoiaicgbaaGreatDoorM17
import Derived.Test.YtkpfkgoiaicgbaaGreatDoorM20
import Derived.Test.YtkpfkgoiaicgbaaGreatDoorM14
import Derived.Test.YtkpfkgoiaicgbaaGreatDoorM34
import Derived.Test.YtkpfkgoiaicgbaaGreatDoorM22
import Derived.Test.YtkpfkgoiaicgbaaGreatDoorM5
import Derived.Test.YtkpfkgoiaicgbaaGreatDoorM6
set_option linter.unusedSimpArgs false
set_option linter.unusedVariables false
set_option maxHeartbeats 6400000
namespace Go.Proofs.YtkpfkgoiaicgbaaGreatDoor
open Go.RowKit Corb
def Std(V:Nat):Nat->List (Int×Int)->Prop
 | _,[]=>True
 | p,x :: l=>V/2 ^ p%2 ^ x.2.toNat=x.1.toNat/\Std V (p+x.2.toNat) l
def bN(l:List (Int×Int)):Nat:=d9 (bitsOf l)
theorem iF:bN []=0:=rfl
theorem dO(x:Int×Int)(l:List (Int×Int)):bN (x :: l)=x.2.toNat+bN l:=by unfold bN bitsOf;rw[List.map_cons,jb]
theorem cK(a b:List (Int×Int)):bN (a++b)=bN a+bN b:=by unfold bN bitsOf;rw[List.map_append,pw]
theorem mC{V:Nat}{a b:List (Int×Int)} : ∀{p:Nat},Std V p (a++b)<->Std V p a/\Std V (p+bN a) b:=by
 induction a with
 | nil=>intro p;simp[Std,iF]
 | cons x a ih=>
  intro p;rw[List.cons_append];simp only[Std];rw[ih,dO,and_assoc,Nat.add_assoc]
theorem IV{V:Nat} : ∀(l:List (Int×Int)) (p:Nat),de V p (bitsOf l)=numsOf l->Std V p l:=by
 intro l;induction l with
 | nil=>intro p _;trivial
 | cons x l ih=>
  intro p h;unfold bitsOf numsOf at h;rw[List.map_cons,List.map_cons]at h;simp only[de,List.cons.injEq]at h;refine⟨?_,ih _ h.2⟩;rw[←h.1,Int.toNat_natCast]
theorem K8{l:List (Int×Int)}(W:Nat)(h:aN l=true):Std ((aU l).1+W*2 ^ (aU l).2) 0 l:=IV l 0 (Er l W h)
theorem oJ{V sz p:Nat}{x:Int×Int}{l:List (Int×Int)}(h:Std V p (x :: l))(hs:p+x.2.toNat<=sz):rdN V sz p x.2.toNat=some (x.1.toNat,p+x.2.toNat):=by
 rw[lB hs,h.1]
theorem mU{B:List Int}(hok:ap B=true){V sz p k:Nat}{l:List (Int×Int)}(h0:0<B.getD k 0)(h:Std V p (pcM B k :: l))(hs:p+(B.getD k 0).toNat<=sz):dec B V sz p=some ((k:Int),p+(B.getD k 0).toNat):=by
 have hk:k<B.length:=by
  rcases Nat.lt_or_ge k B.length with h'|h'
  · exact h'
  · simp[List.getD,h']at h0
 have hb:=kk (eD hok) hk;obtain⟨n,hn⟩:∃n:Nat,B.getD k 0=(n:Int)+1:=⟨(B.getD k 0).toNat-1,by omega⟩;have h1:=h.1;unfold pcM at h1;simp only at h1;rw[xL B 15 k hk,if_pos (by omega),Int.toNat_natCast,Int.toNat_natCast,hn,show((n:Int)+1).toNat=n+1 by omega]at h1;rw[hn,show((n:Int)+1).toNat=n+1 by omega]at hs ⊢;have:=FP hok hk hn h1 (by omega);rw[this]
 congr 1
theorem Ks:(List.range 61).all (fun y=>decide (y<3) || (decide (fnd 3 4 y 27<28)&&decide ((stF 3 4 (fnd 3 4 y 27)).1<=y)))=true:=by decide +kernel
theorem JK:(List.range 251).all (fun y=>decide (y<1) || (decide (fnd 1 2 y 29<30)&&decide ((stF 1 2 (fnd 1 2 y 29)).1<=y)))=true:=by decide +kernel
theorem GQ{y:Nat}(h0:3<=y)(h1:y<=60):fnd 3 4 y 27<28/\(stF 3 4 (fnd 3 4 y 27)).1<=y:=by
 have:=List.all_eq_true.1 Ks y (List.mem_range.2 (by omega));simp only[Bool.or_eq_true,Bool.and_eq_true,decide_eq_true_eq]at this;omega
theorem Fy{y:Nat}(h0:1<=y)(h1:y<=250):fnd 1 2 y 29<30/\(stF 1 2 (fnd 1 2 y 29)).1<=y:=by
 have:=List.all_eq_true.1 JK y (List.mem_range.2 (by omega));simp only[Bool.or_eq_true,Bool.and_eq_true,decide_eq_true_eq]at this;omega
theorem ID{V sz p least group many k y:Nat}{l:List (Int×Int)}(hk:k<many)(hy:(stF least group k).1<=y)(h:Std V p (((y:Int)-((stF least group k).1:Int),((stF least group k).2:Nat)) :: l))(hs:p+(stF least group k).2<=sz):scG V sz least group many k p=some (y,p+(stF least group k).2):=by
 unfold scG;rw[if_pos hk];have h1:=oJ (sz:=sz) h (by simpa using hs);simp only[Int.toNat_natCast]at h1;rw[h1];simp only[Option.bind_some]
 congr 2
 omega
def zJ(L D:List Int)(t:Tk):Prop:=if isB t then 0<L.getD t.1.toNat 0 else 0<L.getD (257+fnd 3 4 t.2.1.toNat 27) 0/\0<D.getD (fnd 1 2 t.2.2.toNat 29) 0
theorem jT(B:List Int)(k:Nat):(pcM B k).2.toNat=(B.getD k 0).toNat:=rfl
theorem KD{L D:List Int}(okL:ap L=true)(okD:ap D=true){V sz p:Nat}{t:Tk}{l:List (Int×Int)}(ht:okT t=true)(hh:zJ L D t)(h:Std V p (f9 L D t++l))(hs:p+bN (f9 L D t)<=sz) :
  ∃i q,dec L V sz p=some (i,q)/\i≠256/\oneG V sz D i q=some (t,p+bN (f9 L D t)):=by
 obtain⟨y,lo,ba⟩:=t;unfold zJ at hh;unfold f9 at h hs ⊢;by_cases hB:isB (y,lo,ba)=true
 ·
  rw[if_pos hB]at h hs hh ⊢;have hb:0<=y/\y<=255/\lo=0/\ba=0:=by unfold isB inB at hB;simp only[Bool.and_eq_true,decide_eq_true_eq]at hB;omega
  rw[dO,iF,Nat.add_zero,jT]at hs ⊢;refine⟨_,_,mU okL hh h hs,?_,?_⟩
  · simp only;omega
  · unfold oneG;rw[if_pos (by simp only;omega)];simp only[Option.some.injEq,Prod.mk.injEq,and_true];omega
 ·
  rw[if_neg hB]at h hs hh ⊢;have hK:isK (y,lo,ba)=true:=by unfold okT at ht;simpa[hB]using ht
  have hb:y=0/\3<=lo/\lo<=60/\1<=ba/\ba<=250:=by unfold isK inB at hK;simp only[Bool.and_eq_true,decide_eq_true_eq]at hK;omega
  obtain⟨rfl,b1,b2,b3,b4⟩:=hb;obtain⟨x,rfl⟩:=Int.eq_ofNat_of_zero_le (show 0<=lo by omega);obtain⟨z,rfl⟩:=Int.eq_ofNat_of_zero_le (show 0<=ba by omega);simp only[Int.toNat_natCast]at h hs hh ⊢;obtain⟨f1,f2⟩:=GQ (y:=x) (by omega) (by omega);obtain⟨g1,g2⟩:=Fy (y:=z) (by omega) (by omega);generalize fnd 3 4 x 27=k at *
  generalize fnd 1 2 z 29=j at *
  simp only[dO,iF,Nat.add_zero,jT,Int.toNat_natCast]at hs ⊢;have s1:=h;have s2:=h.2;have s3:=s2.2;have s4:=s3.2;simp only[jT,Int.toNat_natCast]at s2 s3 s4;refine⟨_,_,mU okL hh.1 s1 (by omega),by omega,?_⟩;unfold oneG;rw[if_neg (by omega),show((257+k:Nat):Int).toNat-257=k by omega];unfold jU;rw[ID f1 f2 s2 (by omega)];simp only[Option.bind_some];rw[mU okD hh.2 s3 (by omega)];simp only[Option.bind_some,Int.toNat_natCast];rw[ID g1 g2 s4 (by omega)];simp only[Option.bind_some,Option.some.injEq,Prod.mk.injEq,true_and];omega
def m8(R:List UInt8):List Tk->Option (List UInt8)
 | []=>some R
 | t :: T=>(dE R t).bind fun x=>m8 x T
theorem Cb{L D:List Int}(okL:ap L=true)(okD:ap D=true){V sz:Nat}(hE:0<L.getD 256 0){l:List (Int×Int)} : ∀(T:List Tk) (p:Nat) (R R':List UInt8),(∀t∈T,okT t=true/\zJ L D t)->Std V p (T.flatMap (f9 L D)++(pcM L 256 :: l))->p+bN (T.flatMap (f9 L D))+(L.getD 256 0).toNat<=sz->m8 R T=some R'->jA V sz L D p R=some (R',p+bN (T.flatMap (f9 L D))+(L.getD 256 0).toNat):=by
 intro T;induction T with
 | nil=>
  intro p R R' _ h hs hf;simp only[m8,Option.some.injEq]at hf;subst hf;simp only[List.flatMap_nil,List.nil_append,iF,Nat.add_zero]at h hs ⊢;exact yB (mU okL hE h hs)
 | cons t T ih=>
  intro p R R' hT h hs hf;simp only[List.flatMap_cons,List.append_assoc,cK]at h hs ⊢;obtain⟨h1,h2⟩:=hT t (by simp);obtain⟨i,q,d1,d2,d3⟩:=KD (sz:=sz) okL okD h1 h2 h (by omega);rw[ug d1 d2,d3];simp only[Option.bind_some];simp only[m8]at hf;rcases ha:dE R t with _|x
  · rw[ha]at hf;cases hf
  · rw[ha]at hf;simp only[Option.bind_some]at hf ⊢;rw[ih (p+bN (f9 L D t)) x R' (fun t' ht'=>hT t' (by simp[ht'])) (mC.1 h).2 (by omega) hf,Nat.add_assoc p]
theorem EL{L:List UInt8}(hl:L.length<=300):∀(n p:Nat),L.length-p<=n->p<=L.length->m8 (L.take p) (bh L p)=some L:=by
 intro n;induction n with
 | zero=>
  intro p h1 h2;have e:p=L.length:=by omega
  subst e;rw[dR (Nat.lt_irrefl _)];simp only[m8,List.take_length]
 | succ n ih=>
  intro p h1 h2;by_cases hp:p<L.length
  · rw[ij hp];simp only[m8];rw[Ch hp hl];have h3:=fo L p;have h4:=qg hp;exact ih _ (by omega) h4
  ·
   have e:p=L.length:=by omega
   subst e;rw[dR (Nat.lt_irrefl _)];simp only[m8,List.take_length]
theorem sr{L:List UInt8}(hl:L.length<=300):m8 [] (bh L 0)=some L:=EL hl L.length 0 (by omega) (Nat.zero_le _)
def ia(a b:ByteArray):ByteArray:=if b.size<a.size then b else a
theorem fI{a b:ByteArray}(h:b.size<a.size):ia a b=b:=if_pos h
theorem gK{a b:ByteArray}(h:¬ b.size<a.size):ia a b=a:=if_neg h
def byO(s:ByteArray):ByteArray:=⟨(kz s).toArray⟩
def bV(s:ByteArray):ByteArray:=ia (ia (byS s) (byF s)) (byO s)
def oQ(s:ByteArray):Nat->ByteArray
 | 1=>byS s
 | 2=>ia (byS s) (byF s)
 | _=>bV s
theorem FJ(s:ByteArray)(h:¬ s.size<=300):byO s=⟨#[]⟩:=by unfold byO kz;rw[if_neg h]
theorem ue(l:List (Int×Int)):(bS l).length=((aU l).2+7)/8:=by unfold bS;exact az _ _
theorem r9{l:List UInt8}(h:l.length<=100000):((⟨l.toArray⟩:ByteArray).size:Int)<=100000:=by
 have:(⟨l.toArray⟩:ByteArray).size=l.length:=by simp[ByteArray.size]
 omega
theorem AU{l:List (Int×Int)}(h:lOk l=true):(aU l).2<=64000:=by
 unfold lOk at h;simp only[Bool.and_eq_true,decide_eq_true_eq]at h;have h1:=D7 (0,0) l (fun x hx=>by
  have h2:=h.1;unfold aN at h2;exact(aW.1 (List.all_eq_true.1 h2 x hx)).1.2)
 have h3:Mc (0,0) l=aU l:=rfl;rw[h3]at h1;omega
theorem jf{B:Nat}{a w:World}(h:Below B a w){r:Nat}(hB:B<=w.heap.size)(hr:B<=r)(o:Obj):Below B a (w.putObj r o):=h.grown (grownBy_putObj' w r o) hB (fun j hj=>by cases hj;exact hr)
theorem vM(s:ByteArray):((byS s).size:Int)<=100000/\((byF s).size:Int)<=100000/\((byO s).size:Int)<=100000:=by
 by_cases hs:s.size<=300
 ·
  have hT:=kN s hs;have hk:=fR s;refine⟨r9 ?_,r9 ?_,r9 ?_⟩
  ·
   unfold ew
   split
   · rw[List.length_append,az,lF];omega
   · simp
  · unfold ka;rw[if_pos hs];show(bS (gT s)).length<=_;rw[ue];have h1:=AU (mZ s hs);omega
  · unfold kz;rw[if_pos hs];show(bS (jO _)).length<=_;rw[ue];have h1:=AU (qb _ hT hk);omega
 · rw[FK s hs,FI s hs,FJ s hs];exact⟨by decide,by decide,by decide⟩
set_option maxRecDepth 100000 in
theorem ot(s:ByteArray)(w:World)(hs:s.size<=1048576)(hO:dk w) :
  Calls Tryz.prog 49 #[.string s] w fun e w'=>e = .returned (.string (bV s))/\Below w.heap.size w w':=by
 have hmm:=@run_makeMap Tryz.prog;have hu:=Tryz.underlying133;have hk:=Tryz.underlying3;obtain⟨b,hb⟩:∃b,w.heap.size=b:=⟨_,rfl⟩;have m0:=BG w;obtain⟨w1,r1,m1,e1⟩:=lu hu hk _ _ _ 0 (.func (.func 78) #[] #[]) m0 (by simp);obtain⟨w2,r2,m2,e2⟩:=lu hu hk _ _ _ 1 (.func (.func 79) #[] #[]) m1 (by simp);obtain⟨w3,r3,m3,e3⟩:=lu hu hk _ _ _ 2 (.func (.func 80) #[] #[]) m2 (by simp);have z1:w1.heap.size=w.heap.size+1:=by rw[e1];simp[World.putObj]
 have z2:w2.heap.size=w.heap.size+1:=by rw[e2];simpa[World.putObj]using z1
 have hB1:Below w.heap.size w w1:=by rw[e1];exact jf ((Below.refl _ w).alloc (Nat.le_refl _) _) (by simp) (Nat.le_refl _) _
 have hB2:Below w.heap.size w w2:=by rw[e2];exact jf hB1 (by omega) (Nat.le_refl _) _
 have hB3:Below w.heap.size w w3:=by rw[e3];exact jf hB2 (by omega) (Nat.le_refl _) _
 simp only[List.nil_append,List.cons_append]at m3;have HG:=af (fun W k v (h:iE W w.heap.size [(0,.func (.func 78) #[] #[]),(1,.func (.func 79) #[] #[]),(2,.func (.func 80) #[] #[])]) hm=>BF hu hk W w.heap.size _ k v false h hm (by decide));have g0:=ae HG w3 0 (.func (.func 78) #[] #[]) m3 (by simp);have HM:=af m3;have HB3:=af hB3;have HO:=af hO;have HS:=af hs;have HSm:=af (vM s);clear e1 e2 e3 z1 z2 hB1 hB2 hB3 m0 m1 m2 m3 hu hk hs hO hb b;go_enter Tryz.func49,Tryz.ntmps49;go_wp2_with fail;refine(ow s w3 (ae HS)).mono ?_;rintro e x1 ⟨rfl,b1⟩;have hM1:=(ae HM).later b1;have hB1:=aj (ae HB3) b1;have eS:(⟨(ew s.data.toList).toArray⟩:ByteArray)=oQ s 1:=rfl;rw[eS];clear b1 HM HB3 r1 r2 r3 g0 hmm eS;go_wp2_with fail
 go_loopw [4,5,6] (fun v i _ wr=>∃k:Nat,1<=k/\k<=3/\i = .int .i64 k/\v = .string (oQ s k)/\iE wr w.heap.size [(0,.func (.func 78) #[] #[]),(1,.func (.func 79) #[] #[]),(2,.func (.func 80) #[] #[])]/\Below w.heap.size w wr) (fun _ i _ _=>3-(intOf i).toNat)
 case atStart=>exact⟨1,by omega,by omega,rfl,rfl,hM1,hB1⟩
 case round=>
  obtain⟨k,hk1,hk3,rfl,rfl,hM,hbel⟩:=hrel;clear hM1 hB1;rcases (show k=1∨k=2∨k=3 by omega)with hk|hk|hk
  ·
   have hkI:(k:Int)=1:=by omega
   have hle:(k:Int)<=2:=by omega
   have g1:(Instr.lookup 133 (.map (some w.heap.size)) (.int .i64 (k:Int)) false).run Tryz.prog wr = .ok (.func (.func 79) #[] #[]) wr:=by rw[hkI];exact ae HG wr 1 (.func (.func 79) #[] #[]) hM (by simp)
   have HC:=af (oo s wr (ae HS));have eF:(⟨(ka s).toArray⟩:ByteArray)=byF s:=rfl;rw[eF]at HC;have hb1:oQ s k=byS s:=by rw[hk];rfl
   have hb2:Hid (oQ s (k+1)=ia (byS s) (byF s)):=by show _=_;rw[hk];rfl
   obtain⟨q1,q2,q3⟩:=ae HSm;rw[hb1];have Hk:=af hk;have HMB:=af (And.intro hM hbel);clear hM hbel hk hk1 hk3 hb1 eF hkI;generalize byF s=F at *
   generalize byS s=A at *
   go_wp2_with fail;refine(ae HC).mono ?_;rintro e x2 ⟨rfl,b2⟩;have HY:=af (And.intro ((ae HMB).1.later b2) (aj (ae HMB).2 b2));clear b2 HMB HC;by_cases hlt:F.size<A.size
   ·
    have hltI:(F.size:Int)<(A.size:Int):=by omega
    have HE:=af (fI hlt);go_wp2;go_roundw
    case rel=>exact⟨k+1,by omega,by have:=ae Hk;omega,by go_num,by rw[ae hb2,ae HE],(ae HY).1,(ae HY).2⟩
    case measure=>have:=ae Hk;simp[intOf];omega
   ·
    have HE:=af (gK hlt);go_wp2;go_roundw
    case rel=>exact⟨k+1,by omega,by have:=ae Hk;omega,by go_num,by rw[ae hb2,ae HE],(ae HY).1,(ae HY).2⟩
    case measure=>have:=ae Hk;simp[intOf];omega
  ·
   have hkI:(k:Int)=2:=by omega
   have hle:(k:Int)<=2:=by omega
   have g1:(Instr.lookup 133 (.map (some w.heap.size)) (.int .i64 (k:Int)) false).run Tryz.prog wr = .ok (.func (.func 80) #[] #[]) wr:=by rw[hkI];exact ae HG wr 2 (.func (.func 80) #[] #[]) hM (by simp)
   have HC:=af (qP s wr (ae HS) ((ae HO).later hbel));have eF:(⟨(kz s).toArray⟩:ByteArray)=byO s:=rfl;rw[eF]at HC;have hb1:oQ s k=ia (byS s) (byF s):=by rw[hk];rfl
   have hb2:Hid (oQ s (k+1)=ia (ia (byS s) (byF s)) (byO s)):=by show _=_;rw[hk];rfl
   obtain⟨q1,q2,q3⟩:=ae HSm;rw[hb1];have Hk:=af hk;have HMB:=af (And.intro hM hbel);clear hM hbel hk hk1 hk3 hb1 eF q1 q2 hkI;generalize byO s=F at *
   generalize ia (byS s) (byF s)=A at *
   go_wp2_with fail;refine(ae HC).mono ?_;rintro e x2 ⟨rfl,b2⟩;have HY:=af (And.intro ((ae HMB).1.later b2) (aj (ae HMB).2 b2));clear b2 HMB HC;by_cases hlt:F.size<A.size
   ·
    have hltI:(F.size:Int)<(A.size:Int):=by omega
    have HE:=af (fI hlt);go_wp2;go_roundw
    case rel=>exact⟨k+1,by omega,by have:=ae Hk;omega,by go_num,by rw[ae hb2,ae HE],(ae HY).1,(ae HY).2⟩
    case measure=>have:=ae Hk;simp[intOf];omega
   ·
    have HE:=af (gK hlt);go_wp2;go_roundw
    case rel=>exact⟨k+1,by omega,by have:=ae Hk;omega,by go_num,by rw[ae hb2,ae HE],(ae HY).1,(ae HY).2⟩
    case measure=>have:=ae Hk;simp[intOf];omega
  ·
   have hle:¬ (k:Int)<=2:=by omega
   have hb1:Hid (oQ s k=bV s):=by show _=_;rw[hk];rfl
   have HB:=af hbel;clear hM hbel hk hk1 hk3;generalize oQ s k=A at *
   go_wp2;go_ret;exact⟨by rw[←ae hb1];rfl,ae HB⟩
set_option maxRecDepth 100000
def eW(s:ByteArray):Nat:=if (bV s).size<s.size then 8 else 0
def bj(s:ByteArray):ByteArray:=if (bV s).size<s.size then bV s else s
theorem jl(s:ByteArray):((bV s).size:Int)<=100000:=by
 obtain⟨h1,h2,h3⟩:=vM s;have key:∀a b:ByteArray,(a.size:Int)<=100000->(b.size:Int)<=100000->((ia a b).size:Int)<=100000:=fun a b ha hb=>by
  by_cases h:b.size<a.size
  · rw[fI h];exact hb
  · rw[gK h];exact ha
 unfold bV;exact key _ _ (key _ _ h1 h2) h3
def yY(W:World)(g:Nat)(n:ByteArray)(y mo d h mi s:Int)(t:ByteArray):Prop:=W.cell? ⟨g,0,none⟩=some (.string n)/\W.cell? ⟨g,1,none⟩=some (.int .i64 y)/\W.cell? ⟨g,2,none⟩=some (.int .i64 mo)/\W.cell? ⟨g,3,none⟩=some (.int .i64 d)/\W.cell? ⟨g,4,none⟩=some (.int .i64 h)/\W.cell? ⟨g,5,none⟩=some (.int .i64 mi)/\W.cell? ⟨g,6,none⟩=some (.int .i64 s)/\W.cell? ⟨g,7,none⟩=some (.string t)
def qm(w:World)(n:ByteArray)(y mo d h mi s:Int)(t:ByteArray)(W:World):Prop:=Below w.heap.size w W/\w.heap.size<W.heap.size/\yY W w.heap.size n y mo d h mi s t
theorem qm.later{w W W':World}{n t:ByteArray}{y mo d h mi s:Int}(k:qm w n y mo d h mi s t W)(hb:Below W.heap.size W W'):qm w n y mo d h mi s t W':=by
 have hc:∀j,W'.cell? ⟨w.heap.size,j,none⟩=W.cell? ⟨w.heap.size,j,none⟩:=fun j=>hb.cell (p:=⟨w.heap.size,j,none⟩) k.2.1;obtain⟨b1,b2,e0,e1,e2,e3,e4,e5,e6,e7⟩:=k;exact⟨b1.trans (hb.mono (Nat.le_of_lt b2)),Nat.lt_of_lt_of_le b2 hb.size,(hc 0).trans e0,(hc 1).trans e1,(hc 2).trans e2,(hc 3).trans e3,(hc 4).trans e4,(hc 5).trans e5,(hc 6).trans e6,(hc 7).trans e7⟩
def cJ(n t:ByteArray)(N:Nat):ByteArray:=bJ (eW t) N (aQ 0 t.data.toList) (bj t).size t.size n++bj t
end Go.Proofs.YtkpfkgoiaicgbaaGreatDoor
