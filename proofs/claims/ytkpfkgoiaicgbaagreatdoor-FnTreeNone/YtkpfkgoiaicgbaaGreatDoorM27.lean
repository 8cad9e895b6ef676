/- Of what the proof is made: 8 texts, one behind the other. -/
import Derived.Test.YtkpfkgoiaicgbaaGreatDoorM25
import Derived.Test.YtkpfkgoiaicgbaaGreatDoorM22
import Derived.Test.YtkpfkgoiaicgbaaGreatDoorM5
import Derived.Test.YtkpfkgoiaicgbaaGreatDoorM9
import Derived.Test.YtkpfkgoiaicgbaaGreatDoorM23
import Derived.Test.YtkpfkgoiaicgbaaGreatDoorM16
import Derived.Test.YtkpfkgoiaicgbaaGreatDoorShelf
import Derived.Test.YtkpfkgoiaicgbaaGreatDoorM6
import Derived.Test.YtkpfkgoiaicgbaaGreatDoorM8
set_option linter.unusedSimpArgs false
set_option linter.unusedVariables false
set_option maxHeartbeats 4000000
namespace Go.Proofs.YtkpfkgoiaicgbaaGreatDoor
open Go.RowKit Corb
theorem iE.ku{w w':World}{b g:Nat}{es:List (Int×Value)}(h:iE w g es)(hk:KU b w w')(hne:g≠b):iE w' g es:=by
 unfold iE at h ⊢;have hlt:g<w.heap.size:=(Array.getElem?_eq_some_iff.1 h).1;rw[hk.2 g hlt hne (by intro cur fr hc;rw[h]at hc;cases hc)];exact h
def oz:List (Int×Value):=[(0,.func (.func 205) #[] #[]),(1,.func (.func 206) #[] #[]),(2,.func (.func 207) #[] #[])]
theorem Av{V sz p q:Nat}{T T':List UInt8}(h:ic V sz p T=some (T',q)):q<=sz/\p<=q/\(T.length<=300->T'.length<=300):=tV h
theorem F9{V sz p q:Nat}{T T':List UInt8}(h:zB V sz p T=some (T',q)):q<=sz/\p<=q/\(T.length<=300->T'.length<=300):=by
 have:=vv h;exact⟨this.1,by omega,this.2.2⟩
theorem Ib{V sz p q:Nat}{T T':List UInt8}(h:rF V sz p T=some (T',q)):q<=sz/\p<=q/\(T.length<=300->T'.length<=300):=BO h
def Jt:Value:=.nilFunc
theorem E7(W:World):(zeroValue 318).run Tryz.prog W = .ok Jt W:=by kernel_rfl
def PtI(b:Nat)(s:ByteArray)(d:Option (List UInt8×Nat))(w:World)(v:Value)(wr:World):Prop:=
 ∃(l:Bool) (p:Nat) (T:List UInt8),v = .bool l/\KU b w wr/\Sou wr b s p T/\T.length<=300/\p<=8*s.size/\iE wr w.heap.size oz/\(if l=true then some (T,p)else gk (au s) (8*s.size) p T)=d
theorem iG{B:Nat}{a w:World}{b:Nat}(h:Below B a w)(hb:B<=b)(o:Obj):Below B a (w.putObj b o):=by
 refine h.trans ⟨rfl,rfl,rfl,by simp[World.putObj],fun k hk=>?_⟩;have:k≠b:=by omega
 simp[World.putObj,Ne.symm this]
set_option maxRecDepth 100000 in
theorem Ee(b p:Nat)(s:ByteArray)(T:List UInt8)(w:World)(h:Sou w b s p T)(hT:T.length<=300)(hp:p<=8*s.size)(hs:s.size<=2000000)(hO:dk w)(hb:1<b) :
  Calls Tryz.prog 199 #[.pointer (some ⟨b,0,none⟩)] w (bZ w b s (jE (au s) (8*s.size) p T)):=by
 have hmm:=@run_makeMap Tryz.prog;have hu:=Tryz.underlying319;have hk:=Tryz.underlying3;obtain⟨d,hd⟩:∃d,gk (au s) (8*s.size) p T=d:=⟨_,rfl⟩;unfold jE;rw[hd];have hlt:=h.lt;have hne:w.heap.size≠b:=by omega
 have m0:=BG w;obtain⟨w1,r1,m1,e1⟩:=lu hu hk _ _ _ 0 (.func (.func 205) #[] #[]) m0 (by simp);obtain⟨w2,r2,m2,e2⟩:=lu hu hk _ _ _ 1 (.func (.func 206) #[] #[]) m1 (by simp);obtain⟨w3,r3,m3,e3⟩:=lu hu hk _ _ _ 2 (.func (.func 207) #[] #[]) m2 (by simp);have hB1:Below w.heap.size w w1:=by rw[e1];exact iG ((Below.refl _ w).alloc (Nat.le_refl _) _) (Nat.le_refl _) _
 have hB2:Below w.heap.size w w2:=by rw[e2];exact iG hB1 (Nat.le_refl _) _
 have hB3:Below w.heap.size w w3:=by rw[e3];exact iG hB2 (Nat.le_refl _) _
 simp only[List.nil_append,List.cons_append]at m3;have HI:Hid (PtI b s d w (.bool false) w3):=⟨false,p,T,rfl,(KU.refl b w).later hB3 hlt,h.later hB3,hT,hp,m3,by simpa using hd⟩;have HG:=af (fun W k v (h:iE W w.heap.size oz) hm=>BF hu hk W w.heap.size _ k v true h hm (by decide));have HGn:=af (fun W (h:iE W w.heap.size oz)=>map_none hu hk W w.heap.size _ 3 _ h (by decide) (E7 W));have HN:=af (And.intro hs (And.intro hO (And.intro hb hlt)));clear e1 e2 e3 hB1 hB2 hB3 m0 m1 m2 m3 hu hk hs hO hb hT hp h hd;go_enter Tryz.func199,Tryz.ntmps199;go_wp2_with fail;clear r1 r2 r3 hmm
 go_loopw [3,4,5] (fun v _ _ wr=>PtI b s d w v wr) (fun _ _ _ wr=>8*s.size-mx b wr)
 case atStart=>exact ae HI
 case round=>
  obtain⟨l,p,T,rfl,hku,hsou,hT,hp,hM,hd⟩:=hrel;clear HI;have HX:=af (And.intro hku (And.intro hsou (And.intro hT (And.intro hp hM))));have HPl:=af (hsou.place hp);have HD:=af hd;clear hku hsou hT hp hM hd;cases l
  ·
   simp only[Bool.false_eq_true,if_false]at HD;rw[po]at HD;have HM:=af (bv b p 1 s wr (ae HX).2.1.1 (ae HN).1 (by omega));unfold gP at HM;rcases h1:rdN (au s) (8*s.size) p 1 with _|⟨a,q1⟩
   ·
    rw[h1]at HM HD;have Hn:Hid (d=none):=by show d=none;rw[←ae HD];rfl
    clear h1 HD;go_wp2_with fail;refine(ae HM).mono ?_;rintro e x1 ⟨k1,rfl⟩;refine⟨rfl,?_⟩;unfold bZ;rw[ae Hn];exact⟨(ae HX).1.trans k1.ku,rfl⟩
   rw[h1]at HM HD;simp only[Option.bind_some]at HD;have Hb1:=af (br h1);have HA:Hid (((a:Int) == 1)=decide (a=1)):=by show _=_;rw[Bool.eq_iff_iff];simp;omega
   clear h1;go_wp2_with fail;refine(ae HM).mono ?_;rintro e x1 ⟨k1,rfl,r1⟩;have HX1:=af (And.intro ((ae HX).1.trans k1.ku) (And.intro ((ae HX).2.1.keep1 k1 r1) ((ae HX).2.2.2.2.ku k1.ku hne)));clear k1 r1 HM;obtain⟨l,hl⟩:∃l,((a:Int) == 1)=l:=⟨_,rfl⟩;have Hl:Hid (l=decide (a=1)):=by show _=_;rw[←hl];exact ae HA
   have HM:=af (bv b q1 2 s x1 (ae HX1).2.1.1 (ae HN).1 (by omega));unfold gP at HM;rcases h2:rdN (au s) (8*s.size) q1 2 with _|⟨k,q2⟩
   ·
    rw[h2]at HM HD;have Hn:Hid (d=none):=by show d=none;rw[←ae HD];rfl
    clear h2 HD;go_wp2_with fail;refine(ae HM).mono ?_;rintro e x2 ⟨k2,rfl⟩;refine⟨rfl,?_⟩;unfold bZ;rw[ae Hn];exact⟨(ae HX1).1.trans k2.ku,rfl⟩
   rw[h2]at HM HD;simp only[Option.bind_some]at HD;have Hb2:=af (br h2);have hk4:k<4:=by have:=(br h2).2.2.2;omega
   clear h2;go_wp2_with fail;refine(ae HM).mono ?_;rintro e x2 ⟨k2,rfl,r2⟩;have HX2:=af (And.intro ((ae HX1).1.trans k2.ku) (And.intro ((ae HX1).2.1.keep1 k2 r2) ((ae HX1).2.2.ku k2.ku hne)));have HO2:Hid (dk x2):=(ae HN).2.1.below (ae HX2).1.1 (ae HN).2.2.1;clear k2 r2 HM HX1 hl HA;have e4:k=0∨k=1∨k=2∨k=3:=by omega
   clear hk4;rcases e4 with hk|hk|hk|hk
   ·
    have hkI:(k:Int)=0:=by omega
    have g1:(Instr.lookup 319 (.map (some w.heap.size)) (.int .i64 (k:Int)) true).run Tryz.prog x2 = .ok (.tuple #[.func (.func 205) #[] #[],.bool true]) x2:=by rw[hkI];exact ae HG x2 0 (.func (.func 205) #[] #[]) (ae HX2).2.2 (by unfold oz;simp)
    have HK:Hid (fu (au s) (8*s.size) k q2 T=ic (au s) (8*s.size) q2 T):=by show _=_;rw[hk];unfold fu;simp
    rw[ae HK]at HD;have HC:=af (sS b q2 s T x2 (ae HX2).2.1 (ae HX).2.2.1 (ae Hb2).1 (ae HN).1);unfold bZ at HC;clear hkI HK hk;go_wp2_with fail;refine(cj _).mono ?_;rintro e x3 ⟨rfl,hx3⟩;rw[hx3];clear hx3 x3 g1;rcases h3:ic (au s) (8*s.size) q2 T with _|⟨T',q3⟩
    ·
     rw[h3]at HC HD;have Hn:Hid (d=none):=by show d=none;rw[←ae HD];rfl
     clear h3 HD;go_wp2_with fail;refine(ae HC).mono ?_;rintro e x4 ⟨k4,rfl⟩;refine⟨rfl,?_⟩;unfold bZ;rw[ae Hn];exact⟨(ae HX2).1.trans k4,rfl⟩
    rw[h3]at HC HD;simp only[Option.bind_some]at HD;have Hb3:Hid (q3<=8*s.size/\q2<=q3/\(T.length<=300->T'.length<=300)):=Av h3;clear h3;go_wp2_with fail;refine(ae HC).mono ?_;rintro e x4 ⟨k4,rfl,s4⟩;have HI:Hid (PtI b s d w (.bool l) x4):=⟨l,q3,T',rfl,(ae HX2).1.trans k4,s4,(ae Hb3).2.2 (ae HX).2.2.1,(ae Hb3).1,(ae HX2).2.2.ku k4 hne,by rw[ae Hl];simpa using ae HD⟩;have HP4:=af (s4.place (ae Hb3).1);have Hlt:Hid (p<q3/\q3<=8*s.size):=⟨by have:=ae Hb1;have:=ae Hb2;have:=ae Hb3;omega,(ae Hb3).1⟩;clear k4 s4 HC HX2 HX;go_wp2_with fail;go_roundw
    case rel=>exact ae HI
    case measure=>rw[ae HP4,ae HPl];have:=ae Hlt;omega
   ·
    have hkI:(k:Int)=1:=by omega
    have g1:(Instr.lookup 319 (.map (some w.heap.size)) (.int .i64 (k:Int)) true).run Tryz.prog x2 = .ok (.tuple #[.func (.func 206) #[] #[],.bool true]) x2:=by rw[hkI];exact ae HG x2 1 (.func (.func 206) #[] #[]) (ae HX2).2.2 (by unfold oz;simp)
    have HK:Hid (fu (au s) (8*s.size) k q2 T=zB (au s) (8*s.size) q2 T):=by show _=_;rw[hk];unfold fu;simp
    rw[ae HK]at HD;have HC:=af (sF b q2 s T x2 (ae HX2).2.1 (ae HX).2.2.1 (ae Hb2).1 (ae HN).1);unfold bZ at HC;clear hkI HK hk;go_wp2_with fail;refine(cj _).mono ?_;rintro e x3 ⟨rfl,hx3⟩;rw[hx3];clear hx3 x3 g1;rcases h3:zB (au s) (8*s.size) q2 T with _|⟨T',q3⟩
    ·
     rw[h3]at HC HD;have Hn:Hid (d=none):=by show d=none;rw[←ae HD];rfl
     clear h3 HD;go_wp2_with fail;refine(ae HC).mono ?_;rintro e x4 ⟨k4,rfl⟩;refine⟨rfl,?_⟩;unfold bZ;rw[ae Hn];exact⟨(ae HX2).1.trans k4,rfl⟩
    rw[h3]at HC HD;simp only[Option.bind_some]at HD;have Hb3:Hid (q3<=8*s.size/\q2<=q3/\(T.length<=300->T'.length<=300)):=F9 h3;clear h3;go_wp2_with fail;refine(ae HC).mono ?_;rintro e x4 ⟨k4,rfl,s4⟩;have HI:Hid (PtI b s d w (.bool l) x4):=⟨l,q3,T',rfl,(ae HX2).1.trans k4,s4,(ae Hb3).2.2 (ae HX).2.2.1,(ae Hb3).1,(ae HX2).2.2.ku k4 hne,by rw[ae Hl];simpa using ae HD⟩;have HP4:=af (s4.place (ae Hb3).1);have Hlt:Hid (p<q3/\q3<=8*s.size):=⟨by have:=ae Hb1;have:=ae Hb2;have:=ae Hb3;omega,(ae Hb3).1⟩;clear k4 s4 HC HX2 HX;go_wp2_with fail;go_roundw
    case rel=>exact ae HI
    case measure=>rw[ae HP4,ae HPl];have:=ae Hlt;omega
   ·
    have hkI:(k:Int)=2:=by omega
    have g1:(Instr.lookup 319 (.map (some w.heap.size)) (.int .i64 (k:Int)) true).run Tryz.prog x2 = .ok (.tuple #[.func (.func 207) #[] #[],.bool true]) x2:=by rw[hkI];exact ae HG x2 2 (.func (.func 207) #[] #[]) (ae HX2).2.2 (by unfold oz;simp)
    have HK:Hid (fu (au s) (8*s.size) k q2 T=rF (au s) (8*s.size) q2 T):=by show _=_;rw[hk];unfold fu;simp
    rw[ae HK]at HD;have HC:=af (xN b q2 s T x2 (ae HX2).2.1 (ae HX).2.2.1 (ae HN).1 (ae HO2) (ae HN).2.2.1);unfold bZ at HC;clear hkI HK hk;go_wp2_with fail;refine(cj _).mono ?_;rintro e x3 ⟨rfl,hx3⟩;rw[hx3];clear hx3 x3 g1;rcases h3:rF (au s) (8*s.size) q2 T with _|⟨T',q3⟩
    ·
     rw[h3]at HC HD;have Hn:Hid (d=none):=by show d=none;rw[←ae HD];rfl
     clear h3 HD;go_wp2_with fail;refine(ae HC).mono ?_;rintro e x4 ⟨k4,rfl⟩;refine⟨rfl,?_⟩;unfold bZ;rw[ae Hn];exact⟨(ae HX2).1.trans k4,rfl⟩
    rw[h3]at HC HD;simp only[Option.bind_some]at HD;have Hb3:Hid (q3<=8*s.size/\q2<=q3/\(T.length<=300->T'.length<=300)):=Ib h3;clear h3;go_wp2_with fail;refine(ae HC).mono ?_;rintro e x4 ⟨k4,rfl,s4⟩;have HI:Hid (PtI b s d w (.bool l) x4):=⟨l,q3,T',rfl,(ae HX2).1.trans k4,s4,(ae Hb3).2.2 (ae HX).2.2.1,(ae Hb3).1,(ae HX2).2.2.ku k4 hne,by rw[ae Hl];simpa using ae HD⟩;have HP4:=af (s4.place (ae Hb3).1);have Hlt:Hid (p<q3/\q3<=8*s.size):=⟨by have:=ae Hb1;have:=ae Hb2;have:=ae Hb3;omega,(ae Hb3).1⟩;clear k4 s4 HC HX2 HX;go_wp2_with fail;go_roundw
    case rel=>exact ae HI
    case measure=>rw[ae HP4,ae HPl];have:=ae Hlt;omega
   ·
    have hkI:(k:Int)=3:=by omega
    have g1:(Instr.lookup 319 (.map (some w.heap.size)) (.int .i64 (k:Int)) true).run Tryz.prog x2 = .ok (.tuple #[Jt,.bool false]) x2:=by rw[hkI];exact ae HGn x2 (ae HX2).2.2
    have Hn:Hid (d=none):=by show d=none;rw[←ae HD,hk];unfold fu;simp
    clear hkI hk HD;unfold Jt at g1;go_wp2_with fail;refine(dP _).mono ?_;rintro e x3 ⟨rfl,hx3⟩;rw[hx3];clear hx3 x3;refine⟨rfl,?_⟩;unfold bZ;rw[ae Hn];exact⟨(ae HX2).1,rfl⟩
  ·
   simp only[if_true]at HD;have HC:=af (lY b p s wr (ae HX).2.1.1 (ae HN).1 (ae HX).2.2.2.1);rcases h1:iZ (au s) p with _|q
   · rw[h1]at HC;have H1:=af h1;clear h1;go_wp2_with fail;refine(ae HC).mono ?_;rintro e x1 ⟨k1,rfl⟩;refine⟨rfl,?_⟩;unfold bZ;rw[←ae HD];simp only[Option.bind_some];rw[ae H1];exact⟨(ae HX).1.trans k1.ku,rfl⟩
   ·
    rw[h1]at HC;have H1:=af h1;clear h1;go_wp2_with fail;refine(ae HC).mono ?_;rintro e x1 ⟨k1,rfl,r1⟩;have HY:=af (And.intro ((ae HX).1.trans k1.ku) ((ae HX).2.1.keep1 k1 r1));clear k1 r1 HC HX;go_wp2
    go_end0
    unfold bZ;rw[←ae HD];simp only[Option.bind_some];rw[ae H1];exact⟨(ae HY).1,trivial,(ae HY).2⟩
end Go.Proofs.YtkpfkgoiaicgbaaGreatDoor
namespace Go.Proofs.YtkpfkgoiaicgbaaGreatDoor
open Go.RowKit
def C3(e:En):List Value:=[.string e.n,.int .i64 e.y,.int .i64 e.mo,.int .i64 e.d,.int .i64 e.h,.int .i64 e.mi,.int .i64 e.s,.string e.t]
theorem FY(e:En):(C3 e).length=8:=rfl
theorem FZ(e:En):∀u∈C3 e,u.oneCell'=true:=by
 intro u hu;simp only[C3,List.mem_cons,List.not_mem_nil,or_false]at hu;rcases hu with rfl|rfl|rfl|rfl|rfl|rfl|rfl|rfl<;>rfl
abbrev Cf(w:World)(base:Nat)(v:Value)(l:List En):Prop:=be 51 8 C3 w base v l
theorem MB{w:World}{g o:Nat}{e:En}(h:∀j,j<8->w.cell? ⟨g,o+j,none⟩=(C3 e)[j]?):Lu w g o e:=
 ⟨h 0 (by omega),h 1 (by omega),h 2 (by omega),h 3 (by omega),h 4 (by omega),h 5 (by omega),h 6 (by omega),h 7 (by omega)⟩
theorem JS{w:World}{base g cap n:Nat}{l:List En}(hn:l.length=n)(h:Cf w base (.slice (some ⟨g,0,none⟩) n cap) l)(i:Nat)(hi:i<n):Lu w g (i*8) (l.getD i default):=
 MB fun j hj=>(be.at FY default hn h i j hi hj).1
theorem wk{w:World}{base cap n:Nat}{a:Option Addr}{l:List En}(hn:l.length=n)(h:Cf w base (.slice a n cap) l):lZ w a l:=by
 intro h0;obtain⟨g,rfl⟩:=h.somes h0;refine⟨g,0,rfl,h.below.2,fun i hi=>?_⟩;rw[Nat.zero_add];exact JS hn h i (by omega)
theorem Tryz.infoEnt:(Tryz.prog.info? 51).map (fun i=>(i.zero,i.size,i.bytes))=some (some (.agg #[.string ⟨#[]⟩,.int .i64 0,.int .i64 0,.int .i64 0,.int .i64 0,.int .i64 0,.int .i64 0,.string ⟨#[]⟩]),8,80):=by kernel_rfl
def BS:ByteArray:=⟨#[97,98,99,100,101,102,103,104,105,106,107,108,109,110,111,112,113,114,115,116,117,118,119,120,121,122,48,49,50,51,52,53,54,55,56,57,46,45,95]⟩
theorem zL(b:UInt8):Lib.indexByte BS.data.toList ((b.toNat:Int).toNat.toUInt8)=Lib.indexByte xS b:=by
 have:(b.toNat:Int).toNat.toUInt8=b:=by simp
 rw[this];rfl
theorem Du(b:UInt8)(w:World):Calls Tryz.prog 63 #[.string BS,.int .u8 (b.toNat:Int)] w fun e w'=>e = .returned (.int .i64 (Lib.indexByte xS b))/\w'=w:=by
 have:=Tryz.strings_IndexByte BS (b.toNat:Int) w;rw[zL]at this;exact this
set_option maxRecDepth 100000 in
theorem Ai(p:ByteArray)(w:World)(hs:p.size<=1048576) :
  Calls Tryz.prog 37 #[.string p] w fun e w'=>e = .returned (.bool (dS p.data.toList))/\Below w.heap.size w w':=by
 have hsI:(p.size:Int)<=1048576:=by omega
 obtain⟨c,x1,cs,f,hcv,hbx,hrow,hcs⟩:=zo p w;have HB:=af hbx;have HC:Hid (∀i (h:i<p.size),x1.cell? ⟨w.heap.size,i,none⟩=some (.int .u8 (p[i].toNat:Int))):=fun i h=>Et hrow (hcs i h);have HI:=af (fun b W=>Du b W);unfold BS at HI;clear hs hrow hcs hbx;go_enter Tryz.func37,Tryz.ntmps37;go_wp2_with fail
 go_loop [4,8] (fun _ i=>∃m:Nat,m<=p.size/\i = .int .i64 m/\∀j (hj:j<p.size),j<m->okB p[j]=true) (fun _ i=>p.size-(intOf i).toNat)
 case atStart=>exact⟨0,Nat.zero_le _,rfl,fun j _ hj=>absurd hj (by omega)⟩
 case round=>
  obtain⟨m,hm,rfl,hoks⟩:=hrel;have HOKS:=af hoks;have HMM:=af hm;clear hoks;by_cases hml:m<p.size
  ·
   have hmI:(m:Int)<(p.size:Int):=by omega
   have HML:=af hml;have hc:=ae HC m hml;have HMX:Hid (okB p[m]=true->∀j (hj:j<p.size),j<m+1->okB p[j]=true):=by
    intro e j hj hjm;by_cases hjk:j=m
    · subst hjk;exact e
    · exact ae HOKS j hj (by omega)
   have HNo:=af (fun e=>@ly p m hml e);have hpin:=KI p[m];have HIb:=af (ae HI p[m]);generalize p[m]=b at *
   generalize Lib.indexByte xS b=ix at *
   clear hm HOKS HMM HI HC;cases hok:okB b
   ·
    have hix:ix<0:=by rw[hok]at hpin;simpa using hpin
    have HP:=af (ae HNo hok);clear hpin;go_wp2_with (go_at_call 63;refine(ae HIb _).mono ?_;rintro e w9 ⟨rfl,hw9⟩;rw[hw9];clear hw9);go_ret;exact⟨ak (ae HP).symm,ae HB⟩
   ·
    have hix:¬ ix<0:=by rw[hok]at hpin;simpa using hpin
    have HX:=af (ae HMX hok);clear hpin;go_wp2_with (go_at_call 63;refine(ae HIb _).mono ?_;rintro e w9 ⟨rfl,hw9⟩;rw[hw9];clear hw9)
    go_round
    case rel=>exact⟨m+1,by have:=ae HML;omega,by go_num,ae HX⟩
    case measure=>have:=ae HML;simp[intOf];omega
  ·
   obtain rfl:m=p.size:=by have:=ae HMM;omega
   have HOK2:Hid (∀j (hj:j<p.size),okB p[j]=true):=fun j hj=>ae HOKS j hj hj;clear HOKS hml hm HI HC;by_cases z1:(1:Int)<=(p.size:Int)
   ·
    by_cases z2:(p.size:Int)<=10
    ·
     have hz:inB (p.size:Int) 1 10=true:=aD.2 ⟨z1,z2⟩;cases d1:(p.toList == [46])
     ·
      cases d2:(p.toList == [46,46])
      · have HP:=af (BU (ae HOK2) hz d1 d2);go_wp2;go_ret;exact⟨ak (ae HP).symm,ae HB⟩
      ·
       have HP:=af (tP d2);have d2':p.toList=[46,46]:=by simpa using d2
       go_wp2;go_ret;exact⟨ak (ae HP).symm,ae HB⟩
     ·
      have HP:=af (xT d1);have d1':p.toList=[46]:=by simpa using d1
      go_wp2;go_ret;exact⟨ak (ae HP).symm,ae HB⟩
    · have HP:=af (oF (eC.2 (.inr (by omega)):inB (p.size:Int) 1 10=false));go_wp2;go_ret;exact⟨ak (ae HP).symm,ae HB⟩
   · have HP:=af (oF (eC.2 (.inl (by omega)):inB (p.size:Int) 1 10=false));go_wp2;go_ret;exact⟨ak (ae HP).symm,ae HB⟩
def mB:ByteArray:=⟨#[47]⟩
def mu(s:ByteArray):List ByteArray:=Lib.splitB mB 0 (Lib.countB s mB) s
theorem Eg(s:ByteArray):(mu s).length=Lib.countB s mB+1:=Lib.splitB_all mB (by decide) 0 _ s rfl
theorem Ef(s:ByteArray):(mu s).map (·.data.toList)=lL s.data.toList:=by
 unfold mu lL;rw[Lib.splitB_data,←oM];rfl
theorem Ex(s:ByteArray)(m:Int)(w:World)(hs:s.size<=1048576)(hm:w.cell? ⟨2,0,none⟩=some (.int .i64 m)) :
  Calls Tryz.prog 36 #[.string s,.string mB] w fun e w'=>e = .returned (.slice (some ⟨w.heap.size,0,none⟩) (mu s).length (mu s).length)/\w'=w.alloc (.cells ((mu s).map Value.string).toArray 9):=by
 have:=Tryz.strings_Split s mB m w (by omega) hm (by decide);rw[Eg];exact this
set_option maxRecDepth 100000 in
theorem gX(s:ByteArray)(m:Int)(w:World)(hs:s.size<=1048576)(hm:w.cell? ⟨2,0,none⟩=some (.int .i64 m)) :
  Calls Tryz.prog 13 #[.string s] w fun e w'=>e = .returned (.bool (f8 s.data.toList))/\Below w.heap.size w w':=by
 have HSP:=af (Ex s m w hs hm);unfold mB at HSP;have hcut:=Ef s;generalize mu s=l at *
 obtain⟨n,hn⟩:∃n,l.length=n:=⟨_,rfl⟩;rw[hn]at HSP;have hnS:n<=s.size+1:=by
  have e:=congrArg List.length hcut;have:=mR s.data.toList [];simp only[List.length_map]at e;have h2:s.data.toList.length=s.size:=by simp
  unfold lL at e;omega
 have hnI:(n:Int)<=1048577:=by omega
 have PL:Hid (∀k,k<n->(l.getD k ByteArray.empty).size<=1048576):=by
  intro k hk;have hmem:(l.getD k ByteArray.empty).data.toList∈lL s.data.toList:=by
   rw[←hcut,List.mem_map];exact⟨l.getD k ByteArray.empty,by simp[List.getD,hn,hk],rfl⟩
  have:=lc s.data.toList [] _ hmem;have e1:(l.getD k ByteArray.empty).data.toList.length=(l.getD k ByteArray.empty).size:=by simp
  have e2:s.data.toList.length=s.size:=by simp
  simp only[List.length_nil]at *
  omega
 have HNO:=af (fun j (hj:j<l.length)=>@BI s l hcut j hj);have HYES:=af (@xD s l hcut);rw[hn]at HNO HYES;obtain⟨x1,hx1⟩:∃x,x=w.alloc (.cells (l.map Value.string).toArray 9):=⟨_,rfl⟩;have HC:Hid (∀j,j<n->x1.cell? ⟨w.heap.size,j,none⟩=some (.string (l.getD j ByteArray.empty))):=by
  intro j hj;rw[hx1];have:j<l.length:=by omega
  simp[this,List.getD]
 have HB1:Hid (Below w.heap.size w x1):=by rw[hx1];exact(Below.refl _ _).alloc (Nat.le_refl _) _
 have HL1:Hid (w.heap.size<x1.heap.size):=by show _<_;rw[hx1];simp
 rw[←hx1]at HSP;clear hx1 hs hm hcut hnS hn;go_enter Tryz.func13,Tryz.ntmps13;go_wp2_with fail;refine(ae HSP).mono ?_;rintro e y1 ⟨rfl,hy1⟩;rw[hy1];clear hy1 HSP;go_wp2_with fail
 go_loopw [5,10] (fun _ i wr=>∃k:Nat,k<=n/\i = .int .i64 k/\(∀j,j<k->dS (l.getD j ByteArray.empty).data.toList=true)/\Below x1.heap.size x1 wr) (fun _ i _=>n-(intOf i).toNat)
 case atStart=>exact⟨0,Nat.zero_le _,rfl,fun j hj=>absurd hj (by omega),Below.refl _ _⟩
 case round=>
  obtain⟨k,hk,rfl,hall,hbel⟩:=hrel;have HALL:=af hall;have HK:=af hk;have HBel:=af hbel;clear hall;by_cases hkn:k<n
  ·
   have hkI:(k:Int)<(n:Int):=by omega
   have hc:=(hbel.cell (p:=⟨w.heap.size,k,none⟩) (ae HL1)).trans (ae HC k hkn);have HNOk:=af (ae HNO k hkn);have HNX:Hid (dS (l.getD k ByteArray.empty).data.toList=true->∀j,j<k+1->dS (l.getD j ByteArray.empty).data.toList=true):=by
    intro e j hj;by_cases hjk:j=k
    · rw[hjk];exact e
    · exact ae HALL j (by omega)
   have HKN:=af hkn;have HPS:=af (ae PL k hkn);clear hk HALL hbel;generalize l.getD k ByteArray.empty=p at *
   go_wp2_with fail;refine(Ai p _ (ae HPS)).mono ?_;rintro e z1 ⟨rfl,hz⟩;have HZ:=af (aj (ae HBel) hz);clear hz;cases hp:dS p.data.toList
   · have HP:=af (ae HNOk hp);go_wp2;go_ret;exact⟨ak (ae HP).symm,(ae HB1).trans ((ae HZ).mono (ae HB1).size)⟩
   ·
    have HP:=af (ae HNX hp);go_wp2;go_roundw
    case rel=>exact⟨k+1,by have:=ae HKN;omega,by go_num,ae HP,ae HZ⟩
    case measure=>have:=ae HKN;simp[intOf];omega
  ·
   obtain rfl:k=n:=by omega
   have HY:=af (ae HYES (ae HALL));have HB:=af ((ae HB1).trans (hbel.mono (ae HB1).size));clear HALL HYES HNO HC hbel;by_cases h4:k<=4
   ·
    have h4I:(k:Int)<=4:=by omega
    go_wp2;go_ret;exact⟨ak (by rw[ae HY];simp[h4]),ae HB⟩
   ·
    have h4I:¬ (k:Int)<=4:=by omega
    go_wp2;go_ret;exact⟨ak (by rw[ae HY];simp[h4]),ae HB⟩
def Ent(w:World)(b:Nat)(n:ByteArray)(y mo d h mi s:Int)(t:ByteArray):Prop:=(w.cell? ⟨b,0,none⟩=some (.string n)/\w.cell? ⟨b,1,none⟩=some (.int .i64 y)/\w.cell? ⟨b,2,none⟩=some (.int .i64 mo)/\w.cell? ⟨b,3,none⟩=some (.int .i64 d)/\w.cell? ⟨b,4,none⟩=some (.int .i64 h)/\w.cell? ⟨b,5,none⟩=some (.int .i64 mi)/\w.cell? ⟨b,6,none⟩=some (.int .i64 s)/\w.cell? ⟨b,7,none⟩=some (.string t))/\(w.frozen? ⟨b,0,none⟩=false/\w.frozen? ⟨b,1,none⟩=false/\w.frozen? ⟨b,2,none⟩=false/\w.frozen? ⟨b,3,none⟩=false/\w.frozen? ⟨b,4,none⟩=false/\w.frozen? ⟨b,5,none⟩=false/\w.frozen? ⟨b,6,none⟩=false/\w.frozen? ⟨b,7,none⟩=false)/\b<w.heap.size
theorem og(w:World)(n:ByteArray)(y mo d h mi s:Int)(t:ByteArray)(u:TypeId):Ent (w.alloc (.cells #[.string n,.int .i64 y,.int .i64 mo,.int .i64 d,.int .i64 h,.int .i64 mi,.int .i64 s,.string t] u)) w.heap.size n y mo d h mi s t:=by
 refine⟨⟨?_,?_,?_,?_,?_,?_,?_,?_⟩,⟨?_,?_,?_,?_,?_,?_,?_,?_⟩,?_⟩<;>simp
theorem Ent.later{w w':World}{b B:Nat}{n t:ByteArray}{y mo d h mi s:Int}(k:Ent w b n y mo d h mi s t)(hb:Below B w w')(hB:b<B):Ent w' b n y mo d h mi s t:=by
 obtain⟨⟨c0,c1,c2,c3,c4,c5,c6,c7⟩,⟨f0,f1,f2,f3,f4,f5,f6,f7⟩,hlt⟩:=k;refine⟨⟨?_,?_,?_,?_,?_,?_,?_,?_⟩,⟨?_,?_,?_,?_,?_,?_,?_,?_⟩,Nat.lt_of_lt_of_le hlt hb.size⟩
 · exact(hb.cell (p:=⟨b,0,none⟩) hB).trans c0
 · exact(hb.cell (p:=⟨b,1,none⟩) hB).trans c1
 · exact(hb.cell (p:=⟨b,2,none⟩) hB).trans c2
 · exact(hb.cell (p:=⟨b,3,none⟩) hB).trans c3
 · exact(hb.cell (p:=⟨b,4,none⟩) hB).trans c4
 · exact(hb.cell (p:=⟨b,5,none⟩) hB).trans c5
 · exact(hb.cell (p:=⟨b,6,none⟩) hB).trans c6
 · exact(hb.cell (p:=⟨b,7,none⟩) hB).trans c7
 · exact(hb.frozen (p:=⟨b,0,none⟩) hB).trans f0
 · exact(hb.frozen (p:=⟨b,1,none⟩) hB).trans f1
 · exact(hb.frozen (p:=⟨b,2,none⟩) hB).trans f2
 · exact(hb.frozen (p:=⟨b,3,none⟩) hB).trans f3
 · exact(hb.frozen (p:=⟨b,4,none⟩) hB).trans f4
 · exact(hb.frozen (p:=⟨b,5,none⟩) hB).trans f5
 · exact(hb.frozen (p:=⟨b,6,none⟩) hB).trans f6
 · exact(hb.frozen (p:=⟨b,7,none⟩) hB).trans f7
theorem am{w:World}{b i j:Nat}{v:Value}{c:Option Value}(k:w.cell? ⟨b,j,none⟩=c)(h:i≠j):(w.setCell ⟨b,i,none⟩ v).cell? ⟨b,j,none⟩=c:=by
 rw[World.cell?_setCell_other _ _ _ _ (fun e=>h (by cases e;rfl))];exact k
theorem Ent.store{w:World}{b:Nat}{n t:ByteArray}{y mo d h mi s:Int}(k:Ent w b n y mo d h mi s t)(n':ByteArray)(y' mo' d' h' mi' s':Int)(t':ByteArray) :
  Ent ((((((((w.setCell ⟨b,0,none⟩ (.string n')).setCell ⟨b,1,none⟩ (.int .i64 y')).setCell ⟨b,2,none⟩ (.int .i64 mo')).setCell ⟨b,3,none⟩ (.int .i64 d')).setCell ⟨b,4,none⟩ (.int .i64 h')).setCell ⟨b,5,none⟩ (.int .i64 mi')).setCell ⟨b,6,none⟩ (.int .i64 s')).setCell ⟨b,7,none⟩ (.string t')) b n' y' mo' d' h' mi' s' t':=by
 obtain⟨⟨c0,c1,c2,c3,c4,c5,c6,c7⟩,⟨f0,f1,f2,f3,f4,f5,f6,f7⟩,hlt⟩:=k;refine⟨⟨?_,?_,?_,?_,?_,?_,?_,?_⟩,⟨?_,?_,?_,?_,?_,?_,?_,?_⟩,by simpa using hlt⟩
 · exact am (am (am (am (am (am (am (World.cell?_setCell_same _ _ _ c0) (by decide)) (by decide)) (by decide)) (by decide)) (by decide)) (by decide)) (by decide)
 · exact am (am (am (am (am (am (World.cell?_setCell_same _ _ _ (am (c1) (by decide))) (by decide)) (by decide)) (by decide)) (by decide)) (by decide)) (by decide)
 · exact am (am (am (am (am (World.cell?_setCell_same _ _ _ (am (am (c2) (by decide)) (by decide))) (by decide)) (by decide)) (by decide)) (by decide)) (by decide)
 · exact am (am (am (am (World.cell?_setCell_same _ _ _ (am (am (am (c3) (by decide)) (by decide)) (by decide))) (by decide)) (by decide)) (by decide)) (by decide)
 · exact am (am (am (World.cell?_setCell_same _ _ _ (am (am (am (am (c4) (by decide)) (by decide)) (by decide)) (by decide))) (by decide)) (by decide)) (by decide)
 · exact am (am (World.cell?_setCell_same _ _ _ (am (am (am (am (am (c5) (by decide)) (by decide)) (by decide)) (by decide)) (by decide))) (by decide)) (by decide)
 · exact am (World.cell?_setCell_same _ _ _ (am (am (am (am (am (am (c6) (by decide)) (by decide)) (by decide)) (by decide)) (by decide)) (by decide))) (by decide)
 · exact World.cell?_setCell_same _ _ _ (am (am (am (am (am (am (am (c7) (by decide)) (by decide)) (by decide)) (by decide)) (by decide)) (by decide)) (by decide))
 · simpa using f0
 · simpa using f1
 · simpa using f2
 · simpa using f3
 · simpa using f4
 · simpa using f5
 · simpa using f6
 · simpa using f7
theorem Ent.set_other{w:World}{b c o:Nat}{n t:ByteArray}{y mo d h mi s:Int}(k:Ent w b n y mo d h mi s t)(v:Value)(hc:b≠c):Ent (w.setCell ⟨c,o,none⟩ v) b n y mo d h mi s t:=by
 have e:(w.setCell ⟨c,o,none⟩ v).heap[b]?=w.heap[b]?:=Below.heap_setCell w ⟨c,o,none⟩ v b hc;obtain⟨⟨c0,c1,c2,c3,c4,c5,c6,c7⟩,⟨f0,f1,f2,f3,f4,f5,f6,f7⟩,hlt⟩:=k;refine⟨⟨?_,?_,?_,?_,?_,?_,?_,?_⟩,⟨?_,?_,?_,?_,?_,?_,?_,?_⟩,by simpa using hlt⟩
 · exact(World.cell?_of_block (w:=w) e).trans c0
 · exact(World.cell?_of_block (w:=w) e).trans c1
 · exact(World.cell?_of_block (w:=w) e).trans c2
 · exact(World.cell?_of_block (w:=w) e).trans c3
 · exact(World.cell?_of_block (w:=w) e).trans c4
 · exact(World.cell?_of_block (w:=w) e).trans c5
 · exact(World.cell?_of_block (w:=w) e).trans c6
 · exact(World.cell?_of_block (w:=w) e).trans c7
 · exact(World.frozen?_of_block (w:=w) e).trans f0
 · exact(World.frozen?_of_block (w:=w) e).trans f1
 · exact(World.frozen?_of_block (w:=w) e).trans f2
 · exact(World.frozen?_of_block (w:=w) e).trans f3
 · exact(World.frozen?_of_block (w:=w) e).trans f4
 · exact(World.frozen?_of_block (w:=w) e).trans f5
 · exact(World.frozen?_of_block (w:=w) e).trans f6
 · exact(World.frozen?_of_block (w:=w) e).trans f7
theorem mY{w w1:World}{n t:ByteArray}{y mo d h mi s:Int}{u:TypeId}(hb:Below (w.alloc (.cells #[.string n,.int .i64 y,.int .i64 mo,.int .i64 d,.int .i64 h,.int .i64 mi,.int .i64 s,.string t] u)).heap.size (w.alloc (.cells #[.string n,.int .i64 y,.int .i64 mo,.int .i64 d,.int .i64 h,.int .i64 mi,.int .i64 s,.string t] u)) w1):Ent w1 w.heap.size n y mo d h mi s t/\Below w.heap.size w w1:=
 ⟨(og w n y mo d h mi s t u).later hb (by simp),((Below.refl _ _).alloc (Nat.le_refl _) _).trans (hb.mono (by simp))⟩
def j8(n:ByteArray)(y mo d h mi s:Int)(t:ByteArray):Bool:=f8 n.data.toList&&(eu y mo d h mi s&&decide (t.size<=300))
theorem jK(n:ByteArray)(y mo d h mi s:Int)(t:ByteArray)(m:Int)(w:World)(hs:n.size<=1048576)(ht:(t.size:Int)<=9223372036854775807)(hm:w.cell? ⟨2,0,none⟩=some (.int .i64 m)) :
  Calls Tryz.prog 111 #[.agg #[.string n,.int .i64 y,.int .i64 mo,.int .i64 d,.int .i64 h,.int .i64 mi,.int .i64 s,.string t]] w fun e w'=>e = .returned (.bool (j8 n y mo d h mi s t))/\Below w.heap.size w w':=by
 have HSZ:=af hs;clear hs;have HM:Hid ((w.alloc (.cells #[.string n,.int .i64 y,.int .i64 mo,.int .i64 d,.int .i64 h,.int .i64 mi,.int .i64 s,.string t] 51)).cell? ⟨2,0,none⟩=some (.int .i64 m)):=by
  show _=_;rw[World.cell?_alloc_past _ _ _ (World.block_lt_of_cell? _ _ hm)];exact hm
 clear hm;go_enter Tryz.func111,Tryz.ntmps111;go_wp2_with fail;refine(gX n m _ (ae HSZ) (ae HM)).mono ?_;rintro e w1 ⟨rfl,hb1⟩;obtain⟨X1,B1⟩:=mY hb1;have HX:=af X1;have HB1:=af B1;clear hb1 X1 B1;obtain⟨⟨c0,c1,c2,c3,c4,c5,c6,c7⟩,_,hlt⟩:=ae HX;cases hk:f8 n.data.toList
 ·
  have HP:Hid (j8 n y mo d h mi s t=false):=by simp[Hid,j8,hk]
  go_wp2;go_ret;exact⟨ak (ae HP).symm,ae HB1⟩
 ·
  go_wp2_with fail;refine(bK y mo d h mi s _).mono ?_;rintro e w2 ⟨rfl,hb2⟩;have HX2:=af ((ae HX).later hb2 (ae HX).2.2);have HB2:=af (aj (ae HB1) hb2);clear hb2 HX HB1 c0 c1 c2 c3 c4 c5 c6 c7;obtain⟨⟨c0,c1,c2,c3,c4,c5,c6,c7⟩,_,_⟩:=ae HX2;cases ho:eu y mo d h mi s
  ·
   have HP:Hid (j8 n y mo d h mi s t=false):=by simp[Hid,j8,hk,ho]
   go_wp2;go_ret;exact⟨ak (ae HP).symm,ae HB2⟩
  ·
   have HP:Hid (j8 n y mo d h mi s t=decide (t.size<=300)):=by simp[Hid,j8,hk,ho]
   by_cases h3:(t.size:Int)<=300
   · go_wp2;go_ret;exact⟨ak (by rw[ae HP];simp;omega),ae HB2⟩
   · go_wp2;go_ret;exact⟨ak (by rw[ae HP];simp;omega),ae HB2⟩
def Blk(w:World)(b:Nat)(vs:List Value):Prop:=b<w.heap.size/\∀(i:Nat) (v:Value),vs[i]?=some v->w.cell? ⟨b,i,none⟩=some v/\w.frozen? ⟨b,i,none⟩=false
theorem Blk.cell{w:World}{b:Nat}{vs:List Value}(h:Blk w b vs)(i:Nat)(v:Value)(e:vs[i]?=some v):w.cell? ⟨b,i,none⟩=some v:=(h.2 i v e).1
theorem Blk.free{w:World}{b:Nat}{vs:List Value}(h:Blk w b vs)(i:Nat)(hi:i<vs.length):w.frozen? ⟨b,i,none⟩=false:=(h.2 i (vs[i]) (by simp[hi])).2
theorem Blk.later{w w':World}{b B:Nat}{vs:List Value}(h:Blk w b vs)(hb:Below B w w')(hB:b<B):Blk w' b vs:=
 ⟨Nat.lt_of_lt_of_le h.1 hb.size,fun i v e=>⟨(hb.cell (p:=⟨b,i,none⟩) hB).trans (h.2 i v e).1,(hb.frozen (p:=⟨b,i,none⟩) hB).trans (h.2 i v e).2⟩⟩
theorem Blk.drew{w:World}{b:Nat}{vs:List Value}(h:Blk w b vs):Blk w.drew b vs:=h
theorem Blk.set_other{w:World}{b c o:Nat}{vs:List Value}(h:Blk w b vs)(v:Value)(hc:b≠c):Blk (w.setCell ⟨c,o,none⟩ v) b vs:=by
 have e:(w.setCell ⟨c,o,none⟩ v).heap[b]?=w.heap[b]?:=Below.heap_setCell w ⟨c,o,none⟩ v b hc;exact⟨by simpa using h.1,fun i x ex=>⟨(World.cell?_of_block (w:=w) e).trans (h.2 i x ex).1,(World.frozen?_of_block (w:=w) e).trans (h.2 i x ex).2⟩⟩
theorem Blk.set{w:World}{b:Nat}{vs:List Value}(h:Blk w b vs)(o:Nat)(v:Value):Blk (w.setCell ⟨b,o,none⟩ v) b (vs.set o v):=by
 refine⟨by simpa using h.1,fun i x ex=>?_⟩;by_cases hi:o=i
 ·
  subst hi;rw[List.getElem?_set]at ex;by_cases hl:o<vs.length
  ·
   rw[if_pos rfl,if_pos hl]at ex;obtain rfl:v=x:=by simpa using ex
   have:=h.2 o vs[o] (by simp[hl]);exact⟨World.cell?_setCell_same _ _ _ this.1,by simpa using this.2⟩
  · rw[if_pos rfl,if_neg hl]at ex;cases ex
 · rw[List.getElem?_set_ne hi]at ex;have:=h.2 i x ex;exact⟨am this.1 hi,by simpa using this.2⟩
theorem aS(w:World)(cs:Array Value)(u:TypeId):Blk (w.alloc (.cells cs u)) w.heap.size cs.toList:=by
 refine⟨by simp,fun i v e=>?_⟩;have e':cs[i]?=some v:=by simpa using e
 constructor
 · simp[e']
 · simp
theorem Blk.cells{w:World}{b:Nat}{vs:List Value}(h:Blk w b vs){n:Nat}(hn:vs.length=n):∀i,i<n->w.cell? ⟨b,i,none⟩=vs[i]?:=fun i hi=>by
 have e:vs[i]?=some (vs[i]'(by omega)):=List.getElem?_eq_getElem (by omega);rw[e];exact h.cell i _ e
theorem Blk.frees{w:World}{b:Nat}{vs:List Value}(h:Blk w b vs){n:Nat}(hn:vs.length=n):∀i,i<n->w.frozen? ⟨b,i,none⟩=false:=fun i hi=>h.free i (by omega)
theorem H7{b c:Nat}{W:World}{vs:List Value}(h:Blk W c vs)(hc:c≠b)(a0 a1 a2 a3 a4 a5 a6 a7:Value):Blk ((((((((W.setCell ⟨b,0,none⟩ a0).setCell ⟨b,1,none⟩ a1).setCell ⟨b,2,none⟩ a2).setCell ⟨b,3,none⟩ a3).setCell ⟨b,4,none⟩ a4).setCell ⟨b,5,none⟩ a5).setCell ⟨b,6,none⟩ a6).setCell ⟨b,7,none⟩ a7) c vs:=((((((((h.set_other a0 hc).set_other a1 hc).set_other a2 hc).set_other a3 hc).set_other a4 hc).set_other a5 hc).set_other a6 hc).set_other a7 hc)
theorem Blk.set6{b:Nat}{W:World}{x0 x1 x2 x3 x4 x5:Value}(h:Blk W b [x0,x1,x2,x3,x4,x5])(a0 a1 a2 a3 a4 a5:Value):Blk ((((((W.setCell ⟨b,0,none⟩ a0).setCell ⟨b,1,none⟩ a1).setCell ⟨b,2,none⟩ a2).setCell ⟨b,3,none⟩ a3).setCell ⟨b,4,none⟩ a4).setCell ⟨b,5,none⟩ a5) b [a0,a1,a2,a3,a4,a5]:=((((((h.set 0 a0).set 1 a1).set 2 a2).set 3 a3).set 4 a4).set 5 a5)
theorem FC{B b:Nat}{w W:World}(hb:Below B w W)(hB:B<=b)(a0 a1 a2 a3 a4 a5 a6:Value):Below B w (((((((W.setCell ⟨b,0,none⟩ a0).setCell ⟨b,1,none⟩ a1).setCell ⟨b,2,none⟩ a2).setCell ⟨b,3,none⟩ a3).setCell ⟨b,4,none⟩ a4).setCell ⟨b,5,none⟩ a5).setCell ⟨b,6,none⟩ a6):=(ai (ai (ai (ai (ai (ai (ai hb hB a0) hB a1) hB a2) hB a3) hB a4) hB a5) hB a6)
theorem Blk.set7{b:Nat}{W:World}{x0 x1 x2 x3 x4 x5 x6:Value}(h:Blk W b [x0,x1,x2,x3,x4,x5,x6])(a0 a1 a2 a3 a4 a5 a6:Value):Blk (((((((W.setCell ⟨b,0,none⟩ a0).setCell ⟨b,1,none⟩ a1).setCell ⟨b,2,none⟩ a2).setCell ⟨b,3,none⟩ a3).setCell ⟨b,4,none⟩ a4).setCell ⟨b,5,none⟩ a5).setCell ⟨b,6,none⟩ a6) b [a0,a1,a2,a3,a4,a5,a6]:=(((((((h.set 0 a0).set 1 a1).set 2 a2).set 3 a3).set 4 a4).set 5 a5).set 6 a6)
theorem H5{b c:Nat}{W:World}{vs:List Value}(h:Blk W c vs)(hc:c≠b)(a0 a1 a2 a3 a4 a5 a6:Value):Blk (((((((W.setCell ⟨b,0,none⟩ a0).setCell ⟨b,1,none⟩ a1).setCell ⟨b,2,none⟩ a2).setCell ⟨b,3,none⟩ a3).setCell ⟨b,4,none⟩ a4).setCell ⟨b,5,none⟩ a5).setCell ⟨b,6,none⟩ a6) c vs:=(((((((h.set_other a0 hc).set_other a1 hc).set_other a2 hc).set_other a3 hc).set_other a4 hc).set_other a5 hc).set_other a6 hc)
theorem FD{B b:Nat}{w W:World}(hb:Below B w W)(hB:B<=b)(a0 a1 a2 a3 a4 a5 a6 a7:Value):Below B w ((((((((W.setCell ⟨b,0,none⟩ a0).setCell ⟨b,1,none⟩ a1).setCell ⟨b,2,none⟩ a2).setCell ⟨b,3,none⟩ a3).setCell ⟨b,4,none⟩ a4).setCell ⟨b,5,none⟩ a5).setCell ⟨b,6,none⟩ a6).setCell ⟨b,7,none⟩ a7):=(ai (ai (ai (ai (ai (ai (ai (ai hb hB a0) hB a1) hB a2) hB a3) hB a4) hB a5) hB a6) hB a7)
theorem Blk.set8{b:Nat}{W:World}{x0 x1 x2 x3 x4 x5 x6 x7:Value}(h:Blk W b [x0,x1,x2,x3,x4,x5,x6,x7])(a0 a1 a2 a3 a4 a5 a6 a7:Value):Blk ((((((((W.setCell ⟨b,0,none⟩ a0).setCell ⟨b,1,none⟩ a1).setCell ⟨b,2,none⟩ a2).setCell ⟨b,3,none⟩ a3).setCell ⟨b,4,none⟩ a4).setCell ⟨b,5,none⟩ a5).setCell ⟨b,6,none⟩ a6).setCell ⟨b,7,none⟩ a7) b [a0,a1,a2,a3,a4,a5,a6,a7]:=((((((((h.set 0 a0).set 1 a1).set 2 a2).set 3 a3).set 4 a4).set 5 a5).set 6 a6).set 7 a7)
theorem Ent.kn{w w':World}{b c:Nat}{n t:ByteArray}{y mo d h mi s:Int}(k:Ent w c n y mo d h mi s t)(hk:Kn b w w')(hc:c≠b):Ent w' c n y mo d h mi s t:=by
 obtain⟨⟨c0,c1,c2,c3,c4,c5,c6,c7⟩,⟨f0,f1,f2,f3,f4,f5,f6,f7⟩,hlt⟩:=k;have e:=hk.2.1 c hlt hc;refine⟨⟨?_,?_,?_,?_,?_,?_,?_,?_⟩,⟨?_,?_,?_,?_,?_,?_,?_,?_⟩,Nat.lt_of_lt_of_le hlt hk.2.2⟩
 · exact(World.cell?_of_block (w:=w) e).trans c0
 · exact(World.cell?_of_block (w:=w) e).trans c1
 · exact(World.cell?_of_block (w:=w) e).trans c2
 · exact(World.cell?_of_block (w:=w) e).trans c3
 · exact(World.cell?_of_block (w:=w) e).trans c4
 · exact(World.cell?_of_block (w:=w) e).trans c5
 · exact(World.cell?_of_block (w:=w) e).trans c6
 · exact(World.cell?_of_block (w:=w) e).trans c7
 · exact(World.frozen?_of_block (w:=w) e).trans f0
 · exact(World.frozen?_of_block (w:=w) e).trans f1
 · exact(World.frozen?_of_block (w:=w) e).trans f2
 · exact(World.frozen?_of_block (w:=w) e).trans f3
 · exact(World.frozen?_of_block (w:=w) e).trans f4
 · exact(World.frozen?_of_block (w:=w) e).trans f5
 · exact(World.frozen?_of_block (w:=w) e).trans f6
 · exact(World.frozen?_of_block (w:=w) e).trans f7
end Go.Proofs.YtkpfkgoiaicgbaaGreatDoor
