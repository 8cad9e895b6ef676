/- Of what the proof is made: 4 texts, one behind the other. -/
import Derived.Test.YtkdlcomfpffhhaaGreatDoorM24
import Derived.Test.YtkdlcomfpffhhaaGreatDoorM21
import Derived.Test.YtkdlcomfpffhhaaGreatDoorM4
import Derived.Test.YtkdlcomfpffhhaaGreatDoorM8
import Derived.Test.YtkdlcomfpffhhaaGreatDoorM20
import Derived.Test.YtkdlcomfpffhhaaGreatDoorM3
import Derived.Sort.Walk0
set_option maxRecDepth 100000
set_option linter.unusedSimpArgs false
set_option linter.unusedVariables false
set_option maxHeartbeats 3200000
namespace Go.Proofs.YtkdlcomfpffhhaaGreatDoor
open Go.Proofs.Tryz
open Go.RowKit Corb
variable {T T':List UInt8}{V g p q sz:Nat}{w:World}
theorem jB.ku{w':World}{b:Nat}{es:List (Int×Value)}(h:jB w g es)(f:KU b w w')(c:g≠b):jB w' g es:=by
 unfold jB at h ⊢;have a:g<w.heap.size:=(Array.getElem?_eq_some_iff.1 h).1;rw[f.2 g a c (by intro e fr d;rw[h]at d;cases d)];exact h
def oR:List (Int×Value):=[(0,.func (.func 246) #[] #[]),(1,.func (.func 247) #[] #[]),(2,.func (.func 248) #[] #[])]
theorem BO(h:dk V sz p T=some (T',q)):q<=sz/\p<=q/\(T.length<=300->T'.length<=300):=uV h
theorem Ia(h:Ek V sz p T=some (T',q)):q<=sz/\p<=q/\(T.length<=300->T'.length<=300):=by
 have:=wE h;exact⟨this.1,by omega,this.2.2⟩
theorem Jf(h:sB V sz p T=some (T',q)):q<=sz/\p<=q/\(T.length<=300->T'.length<=300):=Do h
def Kh:Value:=.nilFunc
theorem Gm(W:World):(zeroValue 332).run prog W = .ok Kh W:=by kernel_rfl
def PtI(b:Nat)(s:ByteArray)(d:Option (List UInt8×Nat))(w:World)(v:Value)(wr:World):Prop:=
 ∃(l:Bool) (p:Nat) (T:List UInt8),v = .bool l/\KU b w wr/\Sou wr b s p T/\T.length<=300/\p<=8*s.size/\jB wr w.heap.size oR/\(if l=true then some (T,p)else fZ (ai s) (8*s.size) p T)=d
theorem iV{B:Nat}{a:World}{b:Nat}(h:Below B a w)(hb:B<=b)(o:Obj):Below B a (w.putObj b o):=by
 refine h.trans ⟨rfl,rfl,rfl,by simp[World.putObj],fun k c=>?_⟩;have:k≠b:=by omega
 simp[World.putObj,Ne.symm this]
theorem FB(b p:Nat)(s:ByteArray)(T:List UInt8)(w:World)(h:Sou w b s p T)(V:T.length<=300)(P:p<=8*s.size)(hs:s.size<=2000000)(hO:fP w)(hb:1<b) :
  Calls prog 224 #[.pointer (some ⟨b,0,none⟩)] w (cn w b s (eK (ai s) (8*s.size) p T)):=by
 have ad:=@run_makeMap prog;have Q:=underlying333;have o:=a2N;obtain⟨d,hd⟩:∃d,fZ (ai s) (8*s.size) p T=d:=⟨_,rfl⟩;unfold eK;rw[hd];have Y:=h.lt;have G:w.heap.size≠b:=by omega
 have m0:=Lu w;obtain⟨w1,O,m1,e1⟩:=wi Q o _ _ _ 0 (.func (.func 246) #[] #[]) m0 (by simp);obtain⟨w2,Z,m2,e2⟩:=wi Q o _ _ _ 1 (.func (.func 247) #[] #[]) m1 (by simp);obtain⟨w3,r3,m3,e3⟩:=wi Q o _ _ _ 2 (.func (.func 248) #[] #[]) m2 (by simp);have S:Below w.heap.size w w1:=by rw[e1];exact iV ((a0c _ w).alloc (a0a _) _) (a0a _) _
 have U:Below w.heap.size w w2:=by rw[e2];exact iV S (a0a _) _
 have N:Below w.heap.size w w3:=by rw[e3];exact iV U (a0a _) _
 simp only[a1v,a2i]at m3;have J:Hid (PtI b s d w (.bool false) w3):=⟨false,p,T,rfl,(KU.refl b w).later N Y,h.later N,V,P,m3,by simpa using hd⟩;have HG:=af (fun W k v (h:jB W w.heap.size oR) hm=>Lt Q o W w.heap.size _ k v true h hm (by decide));have aa:=af (fun W (h:jB W w.heap.size oR)=>map_none Q o W w.heap.size _ 3 _ h (by decide) (Gm W));have I:=af (a0b hs (a0b hO (a0b hb Y)));clear e1 e2 e3 S U N m0 m1 m2 m3 Q o hs hO hb V P h hd;go_enter func224,ntmps224;go_wp2_with fail;clear O Z r3 ad
 go_loopw [3,4,5] (fun v _ _ wr=>PtI b s d w v wr) (fun _ _ _ wr=>8*s.size-jU b wr)
 case atStart=>exact ae J
 case round=>
  obtain⟨l,p,T,rfl,X,H,V,P,hM,hd⟩:=hrel;clear J;have n:=af (a0b X (a0b H (a0b V (a0b P hM))));have L:=af (H.place P);have f:=af hd;clear X H V P hM hd;cases l
  .
   simp only[a1e,a1f]at f;rw[p6]at f;have y:=af (bD b p 1 s wr (ae n).2.1.1 (ae I).1 (by omega));unfold ig at y;rcases A:rdN (ai s) (8*s.size) p 1 with _|⟨a,q1⟩
   .
    rw[A]at y f;have F:Hid (d=none):=by show d=none;rw[←ae f];rfl
    clear A f;go_wp2_with fail;refine(ae y).mono ?_;rintro e x1 ⟨B,rfl⟩;refine⟨rfl,?_⟩;unfold cn;rw[ae F];exact⟨(ae n).1.trans B.ku,rfl⟩
   rw[A]at y f;simp only[a0g]at f;have M:=af (bh A);have HA:Hid (((a:Int) == 1)=decide (a=1)):=by show _=_;rw[a2j];simp;omega
   clear A;go_wp2_with fail;refine(ae y).mono ?_;rintro e x1 ⟨B,rfl,O⟩;have z:=af (a0b ((ae n).1.trans B.ku) (a0b ((ae n).2.1.keep1 B O) ((ae n).2.2.2.2.ku B.ku G)));clear B O y;obtain⟨l,hl⟩:∃l,((a:Int) == 1)=l:=⟨_,rfl⟩;have Hl:Hid (l=decide (a=1)):=by show _=_;rw[←hl];exact ae HA
   have y:=af (bD b q1 2 s x1 (ae z).2.1.1 (ae I).1 (by omega));unfold ig at y;rcases h2:rdN (ai s) (8*s.size) q1 2 with _|⟨k,x⟩
   .
    rw[h2]at y f;have F:Hid (d=none):=by show d=none;rw[←ae f];rfl
    clear h2 f;go_wp2_with fail;refine(ae y).mono ?_;rintro e x2 ⟨R,rfl⟩;refine⟨rfl,?_⟩;unfold cn;rw[ae F];exact⟨(ae z).1.trans R.ku,rfl⟩
   rw[h2]at y f;simp only[a0g]at f;have D:=af (bh h2);have ac:k<4:=by have:=(bh h2).2.2.2;omega
   clear h2;go_wp2_with fail;refine(ae y).mono ?_;rintro e x2 ⟨R,rfl,Z⟩;have c:=af (a0b ((ae z).1.trans R.ku) (a0b ((ae z).2.1.keep1 R Z) ((ae z).2.2.ku R.ku G)));have ab:Hid (fP x2):=(ae I).2.1.below (ae c).1.1 (ae I).2.2.1;clear R Z y z hl HA;have e4:k=0∨k=1∨k=2∨k=3:=by omega
   clear ac;rcases e4 with o|o|o|o
   .
    have j:(k:Int)=0:=by omega
    have g1:(Instr.lookup 333 (.map (some w.heap.size)) (.int .i64 (k:Int)) true).run prog x2 = .ok (.tuple #[.func (.func 246) #[] #[],.bool true]) x2:=by rw[j];exact ae HG x2 0 (.func (.func 246) #[] #[]) (ae c).2.2 (by unfold oR;simp)
    have K:Hid (fS (ai s) (8*s.size) k x T=dk (ai s) (8*s.size) x T):=by show _=_;rw[o];unfold fS;simp
    rw[ae K]at f;have i:=af (tT b x s T x2 (ae c).2.1 (ae n).2.2.1 (ae D).1 (ae I).1);unfold cn at i;clear j K o;go_wp2_with fail;refine(cG _).mono ?_;rintro e x3 ⟨rfl,m⟩;rw[m];clear m x3 g1;rcases r:dk (ai s) (8*s.size) x T with _|⟨T',u⟩
    .
     rw[r]at i f;have F:Hid (d=none):=by show d=none;rw[←ae f];rfl
     clear r f;go_wp2_with fail;refine(ae i).mono ?_;rintro e x4 ⟨t,rfl⟩;refine⟨rfl,?_⟩;unfold cn;rw[ae F];exact⟨(ae c).1.trans t,rfl⟩
    rw[r]at i f;simp only[a0g]at f;have g:Hid (u<=8*s.size/\x<=u/\(T.length<=300->T'.length<=300)):=BO r;clear r;go_wp2_with fail;refine(ae i).mono ?_;rintro e x4 ⟨t,rfl,s4⟩;have J:Hid (PtI b s d w (.bool l) x4):=⟨l,u,T',rfl,(ae c).1.trans t,s4,(ae g).2.2 (ae n).2.2.1,(ae g).1,(ae c).2.2.ku t G,by rw[ae Hl];simpa using ae f⟩;have C:=af (s4.place (ae g).1);have E:Hid (p<u/\u<=8*s.size):=⟨by have:=ae M;have:=ae D;have:=ae g;omega,(ae g).1⟩;clear t s4 i c n;go_wp2_with fail;go_roundw
    case rel=>exact ae J
    case measure=>rw[ae C,ae L];have:=ae E;omega
   .
    have j:(k:Int)=1:=by omega
    have g1:(Instr.lookup 333 (.map (some w.heap.size)) (.int .i64 (k:Int)) true).run prog x2 = .ok (.tuple #[.func (.func 247) #[] #[],.bool true]) x2:=by rw[j];exact ae HG x2 1 (.func (.func 247) #[] #[]) (ae c).2.2 (by unfold oR;simp)
    have K:Hid (fS (ai s) (8*s.size) k x T=Ek (ai s) (8*s.size) x T):=by show _=_;rw[o];unfold fS;simp
    rw[ae K]at f;have i:=af (tC b x s T x2 (ae c).2.1 (ae n).2.2.1 (ae D).1 (ae I).1);unfold cn at i;clear j K o;go_wp2_with fail;refine(cG _).mono ?_;rintro e x3 ⟨rfl,m⟩;rw[m];clear m x3 g1;rcases r:Ek (ai s) (8*s.size) x T with _|⟨T',u⟩
    .
     rw[r]at i f;have F:Hid (d=none):=by show d=none;rw[←ae f];rfl
     clear r f;go_wp2_with fail;refine(ae i).mono ?_;rintro e x4 ⟨t,rfl⟩;refine⟨rfl,?_⟩;unfold cn;rw[ae F];exact⟨(ae c).1.trans t,rfl⟩
    rw[r]at i f;simp only[a0g]at f;have g:Hid (u<=8*s.size/\x<=u/\(T.length<=300->T'.length<=300)):=Ia r;clear r;go_wp2_with fail;refine(ae i).mono ?_;rintro e x4 ⟨t,rfl,s4⟩;have J:Hid (PtI b s d w (.bool l) x4):=⟨l,u,T',rfl,(ae c).1.trans t,s4,(ae g).2.2 (ae n).2.2.1,(ae g).1,(ae c).2.2.ku t G,by rw[ae Hl];simpa using ae f⟩;have C:=af (s4.place (ae g).1);have E:Hid (p<u/\u<=8*s.size):=⟨by have:=ae M;have:=ae D;have:=ae g;omega,(ae g).1⟩;clear t s4 i c n;go_wp2_with fail;go_roundw
    case rel=>exact ae J
    case measure=>rw[ae C,ae L];have:=ae E;omega
   .
    have j:(k:Int)=2:=by omega
    have g1:(Instr.lookup 333 (.map (some w.heap.size)) (.int .i64 (k:Int)) true).run prog x2 = .ok (.tuple #[.func (.func 248) #[] #[],.bool true]) x2:=by rw[j];exact ae HG x2 2 (.func (.func 248) #[] #[]) (ae c).2.2 (by unfold oR;simp)
    have K:Hid (fS (ai s) (8*s.size) k x T=sB (ai s) (8*s.size) x T):=by show _=_;rw[o];unfold fS;simp
    rw[ae K]at f;have i:=af (yQ b x s T x2 (ae c).2.1 (ae n).2.2.1 (ae I).1 (ae ab) (ae I).2.2.1);unfold cn at i;clear j K o;go_wp2_with fail;refine(cG _).mono ?_;rintro e x3 ⟨rfl,m⟩;rw[m];clear m x3 g1;rcases r:sB (ai s) (8*s.size) x T with _|⟨T',u⟩
    .
     rw[r]at i f;have F:Hid (d=none):=by show d=none;rw[←ae f];rfl
     clear r f;go_wp2_with fail;refine(ae i).mono ?_;rintro e x4 ⟨t,rfl⟩;refine⟨rfl,?_⟩;unfold cn;rw[ae F];exact⟨(ae c).1.trans t,rfl⟩
    rw[r]at i f;simp only[a0g]at f;have g:Hid (u<=8*s.size/\x<=u/\(T.length<=300->T'.length<=300)):=Jf r;clear r;go_wp2_with fail;refine(ae i).mono ?_;rintro e x4 ⟨t,rfl,s4⟩;have J:Hid (PtI b s d w (.bool l) x4):=⟨l,u,T',rfl,(ae c).1.trans t,s4,(ae g).2.2 (ae n).2.2.1,(ae g).1,(ae c).2.2.ku t G,by rw[ae Hl];simpa using ae f⟩;have C:=af (s4.place (ae g).1);have E:Hid (p<u/\u<=8*s.size):=⟨by have:=ae M;have:=ae D;have:=ae g;omega,(ae g).1⟩;clear t s4 i c n;go_wp2_with fail;go_roundw
    case rel=>exact ae J
    case measure=>rw[ae C,ae L];have:=ae E;omega
   .
    have j:(k:Int)=3:=by omega
    have g1:(Instr.lookup 333 (.map (some w.heap.size)) (.int .i64 (k:Int)) true).run prog x2 = .ok (.tuple #[Kh,.bool false]) x2:=by rw[j];exact ae aa x2 (ae c).2.2
    have F:Hid (d=none):=by show d=none;rw[←ae f,o];unfold fS;simp
    clear j o f;unfold Kh at g1;go_wp2_with fail;refine(er _).mono ?_;rintro e x3 ⟨rfl,m⟩;rw[m];clear m x3;refine⟨rfl,?_⟩;unfold cn;rw[ae F];exact⟨(ae c).1,rfl⟩
  .
   simp only[a09]at f;have i:=af (ml b p s wr (ae n).2.1.1 (ae I).1 (ae n).2.2.2.1);rcases A:fJ (ai s) p with _|q
   . rw[A]at i;have H1:=af A;clear A;go_wp2_with fail;refine(ae i).mono ?_;rintro e x1 ⟨B,rfl⟩;refine⟨rfl,?_⟩;unfold cn;rw[←ae f];simp only[a0g];rw[ae H1];exact⟨(ae n).1.trans B.ku,rfl⟩
   .
    rw[A]at i;have H1:=af A;clear A;go_wp2_with fail;refine(ae i).mono ?_;rintro e x1 ⟨B,rfl,O⟩;have HY:=af (a0b ((ae n).1.trans B.ku) ((ae n).2.1.keep1 B O));clear B O i n;go_wp2
    go_end0
    unfold cn;rw[←ae f];simp only[a0g];rw[ae H1];exact⟨(ae HY).1,trivial,(ae HY).2⟩
structure Fl where
 p:ByteArray
 t:ByteArray
instance:Inhabited Fl:=⟨⟨ByteArray.empty,ByteArray.empty⟩⟩
def aM(e:Fl):List Value:=[.string e.p,.string e.t]
theorem cV(e:Fl):(aM e).length=2:=rfl
theorem cW(e:Fl):∀u∈aM e,u.oneCell'=true:=by
 intro u a;simp only[aM,a1h,a1M,a1C]at a;rcases a with rfl|rfl<;>rfl
def DJ(w:World)(g o:Nat)(e:Fl):Prop:=w.cell? ⟨g,o,none⟩=some (.string e.p)/\w.cell? ⟨g,o+1,none⟩=some (.string e.t)
def lU(w:World)(a:Option Addr)(l:List Fl):Prop:=0<l.length->∃g o,a=some ⟨g,o,none⟩/\g<w.heap.size/\∀i,i<l.length->DJ w g (o+i*2) (l.getD i default)
theorem lU.later{w':World}{a:Option Addr}{l:List Fl}(h:lU w a l)(hb:Below w.heap.size w w'):lU w' a l:=by
 intro c;obtain⟨g,o,e,b,d⟩:=h c;refine⟨g,o,e,a0i b hb.size,fun i f=>?_⟩;obtain⟨c0,c1⟩:=d i f;exact⟨(hb.cell (p:=⟨g,o+i*2,none⟩) b).trans c0,(hb.cell (p:=⟨g,o+i*2+1,none⟩) b).trans c1⟩
theorem lU.at{o:Nat}{l:List Fl}(h:lU w (some ⟨g,o,none⟩) l)(i:Nat)(b:i<l.length):DJ w g (o+i*2) (l.getD i default):=by
 obtain⟨g',o',e,_,a⟩:=h (by omega);simp only[a0m,a0F,a1a]at e;obtain⟨rfl,rfl⟩:=e;exact a i b
abbrev eQ(w:World)(base:Nat)(v:Value)(l:List Fl):Prop:=aN 28 2 aM w base v l
theorem NT{o:Nat}{e:Fl}(h:∀j,j<2->w.cell? ⟨g,o+j,none⟩=(aM e)[j]?):DJ w g o e:=⟨h 0 (by omega),h 1 (by omega)⟩
theorem vR{base cap n:Nat}{l:List Fl}(c:l.length=n)(h:eQ w base (.slice (some ⟨g,0,none⟩) n cap) l)(i:Nat)(a:i<n):DJ w g (i*2) (l.getD i default):=
 NT fun j b=>(aN.at cV default c h i j a b).1
theorem fz{base cap n:Nat}{a:Option Addr}{l:List Fl}(c:l.length=n)(h:eQ w base (.slice a n cap) l):lU w a l:=by
 intro b;obtain⟨g,rfl⟩:=h.somes b;refine⟨g,0,rfl,h.below.2,fun i d=>?_⟩;rw[a0B];exact vR c h i (by omega)
theorem Tryz.infoFile:(prog.info? 28).map (fun i=>(i.zero,i.size,i.bytes))=some (some (.agg #[.string ⟨#[]⟩,.string ⟨#[]⟩]),2,32):=by kernel_rfl
def pA(l:List Fl)(i:Nat):ByteArray:=(l.getD i default).p
def ltP(a b:ByteArray):Bool:=Op.bytesLess a.toList b.toList
theorem lG(a b:ByteArray):ltP a b=true<->a.data.toList<b.data.toList:=by
 unfold ltP;rw[bytesLess_eq,a08,a08];simp
def upT(l:List Fl)(i:Nat):Bool:=decide (i=0) || ltP (pA l (i-1)) (pA l i)
def pP(l:List Fl)(i:Nat):Bool:=(List.range l.length).all fun k=>!ce (pA l i).data.toList (pA l k).data.toList
def qe(l:List Fl)(i:Nat):Bool:=fG (pA l i).data.toList&&decide ((l.getD i default).t.size<=300)
def lX(l:List Fl)(i:Nat):Bool:=qe l i&&(upT l i&&pP l i)
def cH(l:List Fl):Bool:=(List.range l.length).all (lX l)&&decide (l.length<=8)
def kT(l:List Fl)(i j:Nat):Bool:=(ltP (pA l j) (pA l i) || (pA l j).toList == (pA l i).toList)&&!aZ (pA l j).data.toList (pA l i).data.toList
def lW(l:List Fl)(i:Nat):Bool:=qe l i&&(List.range i).all (kT l i)
theorem Mj{l:List Fl}{i:Nat}(a:i<l.length)(h:lX l i=false):cH l=false:=by
 unfold cH;have:(List.range l.length).all (lX l)=false:=by
  rw[a2r];exact⟨i,List.mem_range.2 a,by simp[h]⟩
 rw[this];rfl
theorem J4{l:List Fl}(h:∀i,i<l.length->lX l i=true):cH l=decide (l.length<=8):=by
 unfold cH;have:(List.range l.length).all (lX l)=true:=a06.2 fun i a=>h i (List.mem_range.1 a);rw[this];rfl
theorem Ie{l:List Fl}{i k:Nat}(a:k<l.length)(h:ce (pA l i).data.toList (pA l k).data.toList=true):pP l i=false:=by
 unfold pP;rw[a2r];exact⟨k,List.mem_range.2 a,by simp[h]⟩
theorem uq{l:List Fl}{i:Nat}(h:∀k,k<l.length->ce (pA l i).data.toList (pA l k).data.toList=false):pP l i=true:=by
 unfold pP;rw[a06];exact fun k a=>by rw[h k (List.mem_range.1 a)];rfl
theorem Gc(a:List UInt8):ce a a=false:=by
 unfold ce;cases h:(a++[47]).isPrefixOf a
 . rfl
 . have:=(List.isPrefixOf_iff_prefix.1 h).length_le;simp at this;omega
theorem sj(a:List UInt8):¬ a<a:=List.lt_irrefl a
theorem Kc{l:List Fl}(n:Nat)(h:∀i,i<n->upT l i=true):∀i,i<n->∀j,j<i->ltP (pA l j) (pA l i)=true:=by
 intro i;induction i with
 | zero=>intro _ j c;omega
 | succ i ih=>
  intro b j c;have a:=h (i+1) b;unfold upT at a;simp only[Nat.add_eq_zero_iff,Nat.one_ne_zero,and_false,a3B,a1Z,a3K]at a;by_cases e:j=i
  . rw[e];exact a
  .
   have h2:=ih (by omega) j (by omega);rw[lG]at *
   exact List.lt_trans h2 a
theorem nY{l:List Fl}{i j:Nat} : kT l i j=true<->ltP (pA l j) (pA l i)=true/\ce (pA l i).data.toList (pA l j).data.toList=false/\ce (pA l j).data.toList (pA l i).data.toList=false:=by
 unfold kT aZ;simp only[a0n,a1U,Bool.not_eq_true',Bool.or_eq_false_iff,a2U,a03,ne_eq];constructor
 .
  rintro⟨a,h2,b,c⟩;rcases a with a|a
  . exact⟨a,b,c⟩
  . exact absurd (by rw[a08,a08]at a;exact a) h2
 . rintro⟨a,b,c⟩;refine⟨.inl a,?_,b,c⟩;intro e;rw[lG,e]at a;exact sj _ a
theorem vi(l:List Fl):((List.range l.length).all (lX l))=((List.range l.length).all (lW l)):=by
 rw[a2j,a06,a06];simp only[List.mem_range,lX,lW,a0n,a06];constructor
 .
  intro h i a;refine⟨(h i a).1,fun j g=>nY.2 ?_⟩;have f:∀i,i<l.length->∀k,k<l.length->ce (pA l i).data.toList (pA l k).data.toList=false:=by
   intro i a k c;have:=(h i a).2.2;unfold pP at this;rw[a06]at this;simpa using this k (List.mem_range.2 c)
  exact⟨Kc l.length (fun i a=>(h i a).2.1) i a j g,f i a j (by omega),f j (by omega) i a⟩
 .
  intro h i a;refine⟨(h i a).1,?_,?_⟩
  .
   unfold upT;by_cases e:i=0
   . simp[e]
   . simp only[e,a3B,a1Z];exact(nY.1 ((h i a).2 (i-1) (by omega))).1
  .
   refine uq fun k c=>?_;rcases Nat.lt_trichotomy k i with d|rfl|b
   . exact(nY.1 ((h i a).2 k d)).2.1
   . exact Gc _
   . exact(nY.1 ((h k c).2 i b)).2.2
theorem J0{l:List Fl}{i:Nat}(a:i<l.length)(h:lW l i=false):cH l=false:=by
 unfold cH;rw[vi];have:(List.range l.length).all (lW l)=false:=by
  rw[a2r];exact⟨i,List.mem_range.2 a,by simp[h]⟩
 rw[this];rfl
theorem Ga{l:List Fl}(h:∀i,i<l.length->lW l i=true):cH l=decide (l.length<=8):=by
 unfold cH;rw[vi];have:(List.range l.length).all (lW l)=true:=a06.2 fun i a=>h i (List.mem_range.1 a);rw[this];rfl
theorem LC{l:List Fl}{i j:Nat}(a:j<i)(h:kT l i j=false):lW l i=false:=by
 unfold lW;have:(List.range i).all (kT l i)=false:=by
  rw[a2r];exact⟨j,List.mem_range.2 a,by simp[h]⟩
 rw[this];simp
theorem I6{l:List Fl}{i:Nat}(h:∀j,j<i->kT l i j=true):lW l i=qe l i:=by
 unfold lW;have:(List.range i).all (kT l i)=true:=a06.2 fun j a=>h j (List.mem_range.1 a);rw[this];simp
def eJ:List Fl->ByteArray->Nat
 | [],_=>0
 | e :: l,x=>if ltP e.p x=true then eJ l x+1 else 0
def bH:List Fl->Fl->List Fl
 | [],f=>[f]
 | e :: l,f=>if ltP e.p f.p=true then e :: bH l f else if e.p=f.p then f :: l else f :: e :: l
def eR(l:List Fl):Prop:=l.Pairwise fun a b=>ltP a.p b.p=true
theorem iz(a:ByteArray):ltP a a=false:=by
 cases h:ltP a a
 . rfl
 . exact absurd ((lG _ _).1 h) (sj _)
theorem oX{a b c:ByteArray}(h:ltP a b=true)(k:ltP b c=true):ltP a c=true:=by
 rw[lG]at *;exact List.lt_trans h k
theorem Lp{a b:ByteArray}(h:ltP a b=false)(c:a≠b):ltP b a=true:=by
 rw[lG];have d:¬ a.data.toList<b.data.toList:=fun e=>by rw[(lG a b).2 e]at h;cases h
 rcases Std.le_iff_lt_or_eq.1 (List.not_lt.1 d)with h2|h2
 . exact h2
 . exact absurd (a2y (Array.toList_inj.1 h2.symm)) c
theorem LW(l:List Fl)(x:ByteArray):eJ l x<=l.length:=by
 induction l with
 | nil=>exact a0a _
 | cons e l ih=>unfold eJ;split<;>simp;exact ih
theorem wo{l:List Fl}{x:ByteArray}{k:Nat}(a:k<=l.length)(b:∀i,i<k->ltP (l.getD i default).p x=true)(h2:k<l.length->ltP (l.getD k default).p x=false):eJ l x=k:=by
 induction l generalizing k with
 | nil=>simp at a;simp[eJ,a]
 | cons e l ih=>
  unfold eJ;cases k with
  | zero=>
   have:=h2 (by simp);simp only[a2I]at this;rw[a0d (by simp[this])]
  | succ k=>
   have:=b 0 (by omega);simp only[a2I]at this;rw[a0e this,ih (by simpa using a) (fun i c=>by simpa using b (i+1) (by omega)) (fun h=>by simpa using h2 (by simpa using h))]
theorem uQ{l:List Fl}{f:Fl}(h:eJ l f.p<l.length)(a:(l.getD (eJ l f.p) default).p=f.p):bH l f=l.take (eJ l f.p)++f :: l.drop (eJ l f.p+1):=by
 induction l with
 | nil=>simp at h
 | cons e l ih=>
  unfold eJ at h a ⊢;unfold bH
  split at h
  . rename_i h1;rw[a0e h1,a0e h1];rw[a0e h1]at a;simp only[a3S,a2i,List.drop_succ_cons];rw[ih (by simpa using h) (by simpa using a)]
  . rename_i h1;rw[a0d h1,a0d h1];rw[a0d h1]at a;rw[a0e (by simpa using a)];simp
theorem sM{l:List Fl}{f:Fl}(b:eJ l f.p<l.length->(l.getD (eJ l f.p) default).p≠f.p):bH l f=l.take (eJ l f.p)++f :: l.drop (eJ l f.p):=by
 induction l with
 | nil=>rfl
 | cons e l ih=>
  unfold eJ at b ⊢;unfold bH;by_cases a:ltP e.p f.p=true
  . rw[a0e a,a0e a];rw[a0e a]at b;simp only[a3S,a2i,List.drop_succ_cons];rw[ih (fun h=>by have:=b (by simpa using h);simpa using this)]
  . rw[a0d a,a0d a];rw[a0d a]at b;rw[a0d (by simpa using b (by simp))];simp
theorem Jr(l:List Fl)(f:Fl):(bH l f).length<=l.length+1:=by
 induction l with
 | nil=>simp[bH]
 | cons e l ih=>
  unfold bH
  split
  . simpa using ih
  . split<;>simp
theorem sL{l:List Fl}{f e:Fl}(h:e∈bH l f):e=f∨e∈l:=by
 induction l with
 | nil=>simpa[bH]using h
 | cons d l ih=>
  unfold bH at h
  split at h
  .
   rcases a1h.1 h with rfl|h
   . exact .inr (by simp)
   .
    rcases ih h with rfl|h
    . exact .inl rfl
    . exact .inr (a10 _ h)
  .
   split at h
   .
    rcases a1h.1 h with rfl|h
    . exact .inl rfl
    . exact .inr (a10 _ h)
   .
    rcases a1h.1 h with rfl|h
    . exact .inl rfl
    . exact .inr h
theorem FH{l:List Fl}(f:Fl)(h:eR l):eR (bH l f):=by
 unfold eR at *
 induction l with
 | nil=>simp[bH]
 | cons e l ih=>
  obtain⟨b,h2⟩:=List.pairwise_cons.1 h;unfold bH
  split
  .
   rename_i h3;refine List.pairwise_cons.2 ⟨fun x a=>?_,ih h2⟩;rcases sL a with rfl|a
   . exact h3
   . exact b x a
  .
   rename_i h3
   split
   . rename_i h4;exact List.pairwise_cons.2 ⟨fun x a=>by rw[←h4];exact b x a,h2⟩
   .
    rename_i h4;have c:=Lp (by simpa using h3) h4;refine List.pairwise_cons.2 ⟨fun x a=>?_,h⟩;rcases a1h.1 a with rfl|a
    . exact c
    . exact oX c (b x a)
theorem FF{l:List Fl}{f:Fl}(h:∀e∈l,ltP e.p f.p=true):bH l f=l++[f]:=by
 induction l with
 | nil=>rfl
 | cons e l ih=>
  unfold bH;rw[a0e (h e (by simp)),ih fun x a=>h x (a10 _ a)];rfl
theorem FJ{a l:List Fl}(h:eR (a++l)):l.foldl bH a=a++l:=by
 induction l generalizing a with
 | nil=>simp
 | cons f l ih=>
  have b:∀e∈a,ltP e.p f.p=true:=fun e c=>(List.pairwise_append.1 h).2.2 e c f (by simp);rw[List.foldl_cons,FF b,ih (by simpa using h)];simp
theorem FG{l:List Fl}{f:Fl}(h:eR l)(a:f∈l):bH l f=l:=by
 unfold eR at h;induction l with
 | nil=>simp at a
 | cons e l ih=>
  obtain⟨b,h2⟩:=List.pairwise_cons.1 h;unfold bH;rcases a1h.1 a with rfl|a
  . rw[a0d (by simp[iz]),a0e rfl]
  . rw[a0e (b f a),ih h2 a]
theorem uR{l:List Fl}{f e:Fl}(a:e∈l)(b:e.p≠f.p):e∈bH l f:=by
 induction l with
 | nil=>simp at a
 | cons d l ih=>
  unfold bH
  split
  .
   rcases a1h.1 a with rfl|a
   . simp
   . exact a10 _ (ih a)
  .
   split
   .
    rename_i h4;rcases a1h.1 a with rfl|a
    . exact absurd h4 b
    . exact a10 _ a
   . exact a10 _ a
theorem Du(l:List Fl)(f:Fl):f∈bH l f:=by
 induction l with
 | nil=>simp[bH]
 | cons d l ih=>
  unfold bH
  split
  . exact a10 _ ih
  . split<;>simp
theorem Ev(x:ByteArray)(w:World):Calls prog 98 #[.string x] w fun e w'=>e = .returned (.bool false)/\w'=w:=by
 go_enter func98,ntmps98;go_wp2;go_ret;exact⟨by simp,rfl⟩
theorem Ax(x:ByteArray)(w:World):Calls prog 148 #[.string x] w fun e w'=>e = .returned (.bool false)/\w'=w:=by
 go_enter func148,ntmps148;go_wp2;go_ret;exact⟨by simp,rfl⟩
theorem xe(x y:ByteArray)(w:World):Calls prog 97 #[.string x,.string y] w fun e w'=>e = .returned (.bool (ltP x y))/\w'=w:=by
 go_enter func97,ntmps97;go_wp2_with fail;refine(Ax x w).mono ?_;rintro e w1 ⟨rfl,rfl⟩;go_wp2;go_ret;exact⟨by simp[ltP],rfl⟩
def Kr(w:World)(a:Option Addr)(l:List ByteArray):Prop:=0<l.length->∃g,a=some ⟨g,0,none⟩/\g<w.heap.size/\∀i,i<l.length->w.cell? ⟨g,i,none⟩=some (.string (l.getD i default))
def tP:List ByteArray->ByteArray->Nat
 | [],_=>0
 | e :: l,x=>if ltP e x=true then tP l x+1 else 0
theorem LU{l:List ByteArray}{x:ByteArray}{k:Nat}(a:k<=l.length)(b:∀i,i<k->ltP (l.getD i default) x=true)(h2:k<l.length->ltP (l.getD k default) x=false):tP l x=k:=by
 induction l generalizing k with
 | nil=>simp at a;simp[tP,a]
 | cons e l ih=>
  unfold tP;cases k with
  | zero=>
   have:=h2 (by simp);simp only[a2I]at this;rw[a0d (by simp[this])]
  | succ k=>
   have:=b 0 (by omega);simp only[a2I]at this;rw[a0e this,ih (by simpa using a) (fun i c=>by simpa using b (i+1) (by omega)) (fun h=>by simpa using h2 (by simpa using h))]
theorem Dy{l:List ByteArray}(h:l.Pairwise fun a b=>ltP a b=true){i j:Nat}(c:i<j)(d:j<l.length):ltP (l.getD i default) (l.getD j default)=true:=by
 have:=List.pairwise_iff_getElem.1 h i j (by omega) d c;have e1:l.getD i default=l[i]:=by simp[show i<l.length by omega]
 have e2:l.getD j default=l[j]:=by simp[d]
 rw[e1,e2];exact this
theorem tA(a:Option Addr)(cap n:Nat)(l:List ByteArray)(x:ByteArray)(w:World)(J:l.length=n)(h:Kr w a l)(hl:n<=1000)(L:l.Pairwise fun a b=>ltP a b=true) :
  Calls prog 66 #[.slice a n cap,.string x] w fun e w'=>e = .returned (.tuple #[.int .i64 (tP l x:Nat),.bool (decide (tP l x<n/\l.getD (tP l x) default=x))])/\w'=w:=by
 have c:=af J;have F:=af h;have G:=af L;have U:(n:Int)<=1000:=by omega
 clear h L J;go_enter func66,ntmps66;go_wp2_with fail
 go_loopw [7,8,9] (fun i j _ wr=>∃p q:Nat,i = .int .i64 p/\j = .int .i64 q/\p<=q/\q<=n/\(∀k,k<p->ltP (l.getD k default) x=true)/\(∀k,q<=k->k<n->ltP (l.getD k default) x=false)/\wr=w) (fun i j _ _=>(intOf j).toNat-(intOf i).toNat)
 case atStart=>exact⟨0,n,rfl,rfl,a0h _,a0a _,fun k B=>absurd B (by omega),fun k N h2=>absurd h2 (by omega),rfl⟩
 case round=>
  obtain⟨p,q,rfl,rfl,W,hq,u,t,rfl⟩:=hrel;have s:=af u;have r:=af t;clear u t;have V:(p:Int)<=1000:=by omega
  have X:(q:Int)<=1000:=by omega
  by_cases Q:p<q
  .
   have I:(p:Int)<(q:Int):=by omega
   obtain⟨g,rfl,O,f⟩:=ae F (by have:=ae c;omega);obtain⟨m,hm⟩:∃m,m=(p+q)/2:=⟨_,rfl⟩;have S:((p:Int)+(q:Int))/2=((m:Nat):Int):=by omega
   have v:p<=m/\m<q:=by omega
   have T:(m:Int)<(n:Int):=by omega
   have R:(m:Int)<=1000:=by omega
   have M:=f m (by have:=ae c;omega);have Y:=af f;clear f hm;obtain⟨y,hy⟩:∃y,l.getD m default=y:=⟨_,rfl⟩;rw[hy]at M;have d:=af hy;clear hy;go_wp2_with fail;refine(xe y x _).mono ?_;rintro e w1 ⟨rfl,rfl⟩;cases hb:ltP y x
   .
    have o:=af hb;clear hb;go_wp2_with fail;go_roundw
    case rel=>
     refine⟨p,m,rfl,rfl,v.1,by omega,ae s,fun k N h2=>?_,trivial⟩;by_cases e:k=m
     . rw[e,ae d];exact ae o
     .
      cases B:ltP (l.getD k default) x
      . rfl
      . have:=oX (Dy (ae G) (show m<k by omega) (by have:=ae c;omega)) B;rw[ae d,ae o]at this;cases this
    case measure=>simp[intOf];omega
   .
    have o:=af hb;clear hb;go_wp2_with fail;go_roundw
    case rel=>
     refine⟨m+1,q,by go_num,rfl,v.2,hq,fun k B=>?_,ae r,trivial⟩;by_cases e:k=m
     . rw[e,ae d];exact ae o
     . exact oX (Dy (ae G) (show k<m by omega) (by have:=ae c;omega)) (by rw[ae d];exact ae o)
    case measure=>simp[intOf];omega
  .
   have P:(q:Int)<=(p:Int):=by omega
   obtain rfl:p=q:=by omega
   have HP:=af (LU (l:=l) (x:=x) (k:=p) (by have:=ae c;omega) (ae s) (fun h=>ae r p (a0a _) (by have:=ae c;omega)));by_cases z:p<n
   .
    have K:(p:Int)<(n:Int):=by omega
    obtain⟨g,rfl,O,f⟩:=ae F (by have:=ae c;omega);obtain⟨y,hy⟩:∃y,l.getD p default=y:=⟨_,rfl⟩;have Z:wr.cell? ⟨g,p,none⟩=some (.string y):=by rw[←hy];exact f p (by have:=ae c;omega)
    have d:=af hy;clear hy f;by_cases A:y.toList=x.toList
    .
     have hb:(y.toList == x.toList)=true:=by simpa using A
     have C:=af A;go_wp2_with fail
     go_ret2
     have E:y=x:=a2y (Array.toList_inj.1 (by have:=ae C;rw[a08,a08]at this;exact this));exact⟨by rw[ae HP,ae d];simp[z,E],rfl⟩
    .
     have hb:(y.toList == x.toList)=false:=by simpa using A
     have C:=af A;go_wp2_with fail;refine(Ev y _).mono ?_;rintro e w1 ⟨rfl,rfl⟩;go_wp2_with fail
     go_ret2
     have D:y≠x:=fun h=>ae C (by rw[h]);exact⟨by rw[ae HP,ae d];simp[D],rfl⟩
   .
    have H:(n:Int)<=(p:Int):=by omega
    go_wp2_with fail
    go_ret2
    exact⟨by rw[ae HP];simp[z],rfl⟩
end Go.Proofs.YtkdlcomfpffhhaaGreatDoor
