/- Of what the proof is made: 2 texts, one behind the other. -/
import Derived.Test.YtlpmnnjlmjffpaaGreatDoorM9
import Derived.Test.YtlpmnnjlmjffpaaGreatDoorM24
import Derived.Test.YtlpmnnjlmjffpaaGreatDoorM26
import Derived.Test.YtlpmnnjlmjffpaaGreatDoorM22
import Derived.Test.YtlpmnnjlmjffpaaGreatDoorM5
set_option maxRecDepth 100000
set_option linter.unusedSimpArgs false
set_option linter.unusedVariables false
set_option maxHeartbeats 3200000
namespace Go.Proofs.YtlpmnnjlmjffpaaGreatDoor
open Go.Proofs.Tryz
open Go.RowKit
variable {T T':List UInt8}{V g p q sz:Nat}{w:World}
def iu(e:En):List Value:=[.string e.n,.int .i64 e.y,.int .i64 e.mo,.int .i64 e.d,.int .i64 e.h,.int .i64 e.mi,.int .i64 e.s,.string e.t]
theorem IW(e:En):(iu e).length=8:=rfl
theorem iK(e:En):∀u∈iu e,u.oneCell'=true:=by
 intro u a;simp only[iu,a1a,a1Y,a1L]at a;rcases a with rfl|rfl|rfl|rfl|rfl|rfl|rfl|rfl<;>rfl
abbrev im(w:World)(base:Nat)(v:Value)(l:List En):Prop:=bD 35 8 iu w base v l
theorem NH{o:Nat}{e:En}(h:∀j,j<8->w.cell? ⟨g,o+j,none⟩=(iu e)[j]?):NR w g o e:=
 ⟨h 0 (by omega),h 1 (by omega),h 2 (by omega),h 3 (by omega),h 4 (by omega),h 5 (by omega),h 6 (by omega),h 7 (by omega)⟩
theorem wC{base cap n:Nat}{l:List En}(c:l.length=n)(h:im w base (.slice (some ⟨g,0,none⟩) n cap) l)(i:Nat)(a:i<n):NR w g (i*8) (l.getD i default):=
 NH fun j b=>(bD.at IW default c h i j a b).1
theorem iL{base cap n:Nat}{a:Option Addr}{l:List En}(c:l.length=n)(h:im w base (.slice a n cap) l):jK w a l:=by
 intro b;obtain⟨g,rfl⟩:=h.somes b;refine⟨g,0,rfl,h.below.2,fun i d=>?_⟩;rw[a0J];exact wC c h i (by omega)
theorem Tryz.infoEnt:(prog.info? 35).map (fun i=>(i.zero,i.size,i.bytes))=some (some (.agg #[.string ⟨#[]⟩,.int .i64 0,.int .i64 0,.int .i64 0,.int .i64 0,.int .i64 0,.int .i64 0,.string ⟨#[]⟩]),8,80):=by kernel_rfl
open Corb
theorem ko.ku{w':World}{b:Nat}{es:List (Int×Value)}(h:ko w g es)(f:KU b w w')(c:g≠b):ko w' g es:=by
 unfold ko at h ⊢;have a:g<w.heap.size:=(Array.getElem?_eq_some_iff.1 h).1;rw[f.2 g a c (by intro e fr d;rw[h]at d;cases d)];exact h
def pH:List (Int×Value):=[(0,.func (.func 215) #[] #[]),(1,.func (.func 216) #[] #[]),(2,.func (.func 217) #[] #[])]
theorem Dg(h:dk V sz p T=some (T',q)):q<=sz/\p<=q/\(T.length<=300->T'.length<=300):=vE h
theorem I6(h:BH V sz p T=some (T',q)):q<=sz/\p<=q/\(T.length<=300->T'.length<=300):=by
 have:=xm h;exact⟨this.1,by omega,this.2.2⟩
theorem Ki(h:tt V sz p T=some (T',q)):q<=sz/\p<=q/\(T.length<=300->T'.length<=300):=Er h
def Lr:Value:=.nilFunc
theorem Hi(W:World):(zeroValue 287).run prog W = .ok Lr W:=by kernel_rfl
def PtI(b:Nat)(s:ByteArray)(d:Option (List UInt8×Nat))(w:World)(v:Value)(wr:World):Prop:=
 ∃(l:Bool) (p:Nat) (T:List UInt8),v = .bool l/\KU b w wr/\Sou wr b s p T/\T.length<=300/\p<=8*s.size/\ko wr w.heap.size pH/\(if l=true then some (T,p)else fq (ai s) (8*s.size) p T)=d
theorem jB{B:Nat}{a:World}{b:Nat}(h:Below B a w)(hb:B<=b)(o:Obj):Below B a (w.putObj b o):=by
 refine h.trans ⟨rfl,rfl,rfl,by simp[World.putObj],fun k c=>?_⟩;have:k≠b:=by omega
 simp[World.putObj,Ne.symm this]
theorem Gx(b p:Nat)(s:ByteArray)(T:List UInt8)(w:World)(h:Sou w b s p T)(V:T.length<=300)(P:p<=8*s.size)(hs:s.size<=2000000)(hO:dO w)(hb:2<b) :
  Calls prog 178 #[.pointer (some ⟨b,0,none⟩)] w (cP w b s (eE (ai s) (8*s.size) p T)):=by
 have ad:=@run_makeMap prog;have Q:=underlying288;have o:=a2C;obtain⟨d,hd⟩:∃d,fq (ai s) (8*s.size) p T=d:=⟨_,rfl⟩;unfold eE;rw[hd];have Y:=h.lt;have G:w.heap.size≠b:=by omega
 have m0:=MF w;obtain⟨w1,O,m1,e1⟩:=wX Q o _ _ _ 0 (.func (.func 215) #[] #[]) m0 (by simp);obtain⟨w2,Z,m2,e2⟩:=wX Q o _ _ _ 1 (.func (.func 216) #[] #[]) m1 (by simp);obtain⟨w3,r3,m3,e3⟩:=wX Q o _ _ _ 2 (.func (.func 217) #[] #[]) m2 (by simp);have S:Below w.heap.size w w1:=by rw[e1];exact jB ((a0c _ w).alloc (a0a _) _) (a0a _) _
 have U:Below w.heap.size w w2:=by rw[e2];exact jB S (a0a _) _
 have N:Below w.heap.size w w3:=by rw[e3];exact jB U (a0a _) _
 simp only[a1i,a12]at m3;have J:Hid (PtI b s d w (.bool false) w3):=⟨false,p,T,rfl,(KU.refl b w).later N Y,h.later N,V,P,m3,by simpa using hd⟩;have HG:=af (fun W k v (h:ko W w.heap.size pH) hm=>ME Q o W w.heap.size _ k v true h hm (by decide));have aa:=af (fun W (h:ko W w.heap.size pH)=>map_none Q o W w.heap.size _ 3 _ h (by decide) (Hi W));have I:=af (a0b hs (a0b hO (a0b hb Y)));clear e1 e2 e3 S U N m0 m1 m2 m3 Q o hs hO hb V P h hd;go_enter func178,ntmps178;go_wp2_with fail;clear O Z r3 ad
 go_loopw [3,4,5] (fun v _ _ wr=>PtI b s d w v wr) (fun _ _ _ wr=>8*s.size-kQ b wr)
 case atStart=>exact ae J
 case round=>
  obtain⟨l,p,T,rfl,X,H,V,P,hM,hd⟩:=hrel;clear J;have n:=af (a0b X (a0b H (a0b V (a0b P hM))));have L:=af (H.place P);have f:=af hd;clear X H V P hM hd;cases l
  .
   simp only[a0Z,a00]at f;rw[lM]at f;have y:=af (bS b p 1 s wr (ae n).2.1.1 (ae I).1 (by omega));unfold iG at y;rcases A:rdN (ai s) (8*s.size) p 1 with _|⟨a,q1⟩
   .
    rw[A]at y f;have F:Hid (d=none):=by show d=none;rw[←ae f];rfl
    clear A f;go_wp2_with fail;refine(ae y).mono ?_;rintro e x1 ⟨B,rfl⟩;refine⟨rfl,?_⟩;unfold cP;rw[ae F];exact⟨(ae n).1.trans B.ku,rfl⟩
   rw[A]at y f;simp only[a0f]at f;have M:=af (bm A);have HA:Hid (((a:Int) == 1)=decide (a=1)):=by show _=_;rw[a2e];simp;omega
   clear A;go_wp2_with fail;refine(ae y).mono ?_;rintro e x1 ⟨B,rfl,O⟩;have z:=af (a0b ((ae n).1.trans B.ku) (a0b ((ae n).2.1.keep1 B O) ((ae n).2.2.2.2.ku B.ku G)));clear B O y;obtain⟨l,hl⟩:∃l,((a:Int) == 1)=l:=⟨_,rfl⟩;have Hl:Hid (l=decide (a=1)):=by show _=_;rw[←hl];exact ae HA
   have y:=af (bS b q1 2 s x1 (ae z).2.1.1 (ae I).1 (by omega));unfold iG at y;rcases h2:rdN (ai s) (8*s.size) q1 2 with _|⟨k,x⟩
   .
    rw[h2]at y f;have F:Hid (d=none):=by show d=none;rw[←ae f];rfl
    clear h2 f;go_wp2_with fail;refine(ae y).mono ?_;rintro e x2 ⟨R,rfl⟩;refine⟨rfl,?_⟩;unfold cP;rw[ae F];exact⟨(ae z).1.trans R.ku,rfl⟩
   rw[h2]at y f;simp only[a0f]at f;have D:=af (bm h2);have ac:k<4:=by have:=(bm h2).2.2.2;omega
   clear h2;go_wp2_with fail;refine(ae y).mono ?_;rintro e x2 ⟨R,rfl,Z⟩;have c:=af (a0b ((ae z).1.trans R.ku) (a0b ((ae z).2.1.keep1 R Z) ((ae z).2.2.ku R.ku G)));have ab:Hid (dO x2):=(ae I).2.1.below (ae c).1.1 (ae I).2.2.1;clear R Z y z hl HA;have e4:k=0∨k=1∨k=2∨k=3:=by omega
   clear ac;rcases e4 with o|o|o|o
   .
    have j:(k:Int)=0:=by omega
    have g1:(Instr.lookup 288 (.map (some w.heap.size)) (.int .i64 (k:Int)) true).run prog x2 = .ok (.tuple #[.func (.func 215) #[] #[],.bool true]) x2:=by rw[j];exact ae HG x2 0 (.func (.func 215) #[] #[]) (ae c).2.2 (by unfold pH;simp)
    have K:Hid (fi (ai s) (8*s.size) k x T=dk (ai s) (8*s.size) x T):=by show _=_;rw[o];unfold fi;simp
    rw[ae K]at f;have i:=af (uA b x s T x2 (ae c).2.1 (ae n).2.2.1 (ae D).1 (ae I).1);unfold cP at i;clear j K o;go_wp2_with fail;refine(dc _).mono ?_;rintro e x3 ⟨rfl,m⟩;rw[m];clear m x3 g1;rcases r:dk (ai s) (8*s.size) x T with _|⟨T',u⟩
    .
     rw[r]at i f;have F:Hid (d=none):=by show d=none;rw[←ae f];rfl
     clear r f;go_wp2_with fail;refine(ae i).mono ?_;rintro e x4 ⟨t,rfl⟩;refine⟨rfl,?_⟩;unfold cP;rw[ae F];exact⟨(ae c).1.trans t,rfl⟩
    rw[r]at i f;simp only[a0f]at f;have g:Hid (u<=8*s.size/\x<=u/\(T.length<=300->T'.length<=300)):=Dg r;clear r;go_wp2_with fail;refine(ae i).mono ?_;rintro e x4 ⟨t,rfl,s4⟩;have J:Hid (PtI b s d w (.bool l) x4):=⟨l,u,T',rfl,(ae c).1.trans t,s4,(ae g).2.2 (ae n).2.2.1,(ae g).1,(ae c).2.2.ku t G,by rw[ae Hl];simpa using ae f⟩;have C:=af (s4.place (ae g).1);have E:Hid (p<u/\u<=8*s.size):=⟨by have:=ae M;have:=ae D;have:=ae g;omega,(ae g).1⟩;clear t s4 i c n;go_wp2_with fail;go_roundw
    case rel=>exact ae J
    case measure=>rw[ae C,ae L];have:=ae E;omega
   .
    have j:(k:Int)=1:=by omega
    have g1:(Instr.lookup 288 (.map (some w.heap.size)) (.int .i64 (k:Int)) true).run prog x2 = .ok (.tuple #[.func (.func 216) #[] #[],.bool true]) x2:=by rw[j];exact ae HG x2 1 (.func (.func 216) #[] #[]) (ae c).2.2 (by unfold pH;simp)
    have K:Hid (fi (ai s) (8*s.size) k x T=BH (ai s) (8*s.size) x T):=by show _=_;rw[o];unfold fi;simp
    rw[ae K]at f;have i:=af (ug b x s T x2 (ae c).2.1 (ae n).2.2.1 (ae D).1 (ae I).1);unfold cP at i;clear j K o;go_wp2_with fail;refine(dc _).mono ?_;rintro e x3 ⟨rfl,m⟩;rw[m];clear m x3 g1;rcases r:BH (ai s) (8*s.size) x T with _|⟨T',u⟩
    .
     rw[r]at i f;have F:Hid (d=none):=by show d=none;rw[←ae f];rfl
     clear r f;go_wp2_with fail;refine(ae i).mono ?_;rintro e x4 ⟨t,rfl⟩;refine⟨rfl,?_⟩;unfold cP;rw[ae F];exact⟨(ae c).1.trans t,rfl⟩
    rw[r]at i f;simp only[a0f]at f;have g:Hid (u<=8*s.size/\x<=u/\(T.length<=300->T'.length<=300)):=I6 r;clear r;go_wp2_with fail;refine(ae i).mono ?_;rintro e x4 ⟨t,rfl,s4⟩;have J:Hid (PtI b s d w (.bool l) x4):=⟨l,u,T',rfl,(ae c).1.trans t,s4,(ae g).2.2 (ae n).2.2.1,(ae g).1,(ae c).2.2.ku t G,by rw[ae Hl];simpa using ae f⟩;have C:=af (s4.place (ae g).1);have E:Hid (p<u/\u<=8*s.size):=⟨by have:=ae M;have:=ae D;have:=ae g;omega,(ae g).1⟩;clear t s4 i c n;go_wp2_with fail;go_roundw
    case rel=>exact ae J
    case measure=>rw[ae C,ae L];have:=ae E;omega
   .
    have j:(k:Int)=2:=by omega
    have g1:(Instr.lookup 288 (.map (some w.heap.size)) (.int .i64 (k:Int)) true).run prog x2 = .ok (.tuple #[.func (.func 217) #[] #[],.bool true]) x2:=by rw[j];exact ae HG x2 2 (.func (.func 217) #[] #[]) (ae c).2.2 (by unfold pH;simp)
    have K:Hid (fi (ai s) (8*s.size) k x T=tt (ai s) (8*s.size) x T):=by show _=_;rw[o];unfold fi;simp
    rw[ae K]at f;have i:=af (zM b x s T x2 (ae c).2.1 (ae n).2.2.1 (ae I).1 (ae ab) (ae I).2.2.1);unfold cP at i;clear j K o;go_wp2_with fail;refine(dc _).mono ?_;rintro e x3 ⟨rfl,m⟩;rw[m];clear m x3 g1;rcases r:tt (ai s) (8*s.size) x T with _|⟨T',u⟩
    .
     rw[r]at i f;have F:Hid (d=none):=by show d=none;rw[←ae f];rfl
     clear r f;go_wp2_with fail;refine(ae i).mono ?_;rintro e x4 ⟨t,rfl⟩;refine⟨rfl,?_⟩;unfold cP;rw[ae F];exact⟨(ae c).1.trans t,rfl⟩
    rw[r]at i f;simp only[a0f]at f;have g:Hid (u<=8*s.size/\x<=u/\(T.length<=300->T'.length<=300)):=Ki r;clear r;go_wp2_with fail;refine(ae i).mono ?_;rintro e x4 ⟨t,rfl,s4⟩;have J:Hid (PtI b s d w (.bool l) x4):=⟨l,u,T',rfl,(ae c).1.trans t,s4,(ae g).2.2 (ae n).2.2.1,(ae g).1,(ae c).2.2.ku t G,by rw[ae Hl];simpa using ae f⟩;have C:=af (s4.place (ae g).1);have E:Hid (p<u/\u<=8*s.size):=⟨by have:=ae M;have:=ae D;have:=ae g;omega,(ae g).1⟩;clear t s4 i c n;go_wp2_with fail;go_roundw
    case rel=>exact ae J
    case measure=>rw[ae C,ae L];have:=ae E;omega
   .
    have j:(k:Int)=3:=by omega
    have g1:(Instr.lookup 288 (.map (some w.heap.size)) (.int .i64 (k:Int)) true).run prog x2 = .ok (.tuple #[Lr,.bool false]) x2:=by rw[j];exact ae aa x2 (ae c).2.2
    have F:Hid (d=none):=by show d=none;rw[←ae f,o];unfold fi;simp
    clear j o f;unfold Lr at g1;go_wp2_with fail;refine(eU _).mono ?_;rintro e x3 ⟨rfl,m⟩;rw[m];clear m x3;refine⟨rfl,?_⟩;unfold cP;rw[ae F];exact⟨(ae c).1,rfl⟩
  .
   simp only[a0R]at f;have i:=af (na b p s wr (ae n).2.1.1 (ae I).1 (ae n).2.2.2.1);rcases A:fk (ai s) p with _|q
   . rw[A]at i;have H1:=af A;clear A;go_wp2_with fail;refine(ae i).mono ?_;rintro e x1 ⟨B,rfl⟩;refine⟨rfl,?_⟩;unfold cP;rw[←ae f];simp only[a0f];rw[ae H1];exact⟨(ae n).1.trans B.ku,rfl⟩
   .
    rw[A]at i;have H1:=af A;clear A;go_wp2_with fail;refine(ae i).mono ?_;rintro e x1 ⟨B,rfl,O⟩;have HY:=af (a0b ((ae n).1.trans B.ku) ((ae n).2.1.keep1 B O));clear B O i n;go_wp2
    go_end0
    unfold cP;rw[←ae f];simp only[a0f];rw[ae H1];exact⟨(ae HY).1,trivial,(ae HY).2⟩
end Go.Proofs.YtlpmnnjlmjffpaaGreatDoor
