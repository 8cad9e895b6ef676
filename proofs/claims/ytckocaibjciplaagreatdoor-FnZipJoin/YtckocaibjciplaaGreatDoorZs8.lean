/- Walk of the law: files that are added one by one are joined. -/
import Derived.Test.YtckocaibjciplaaGreatDoorM45
set_option linter.all false
set_option maxRecDepth 100000
set_option maxHeartbeats 6400000
namespace Go.Proofs.YtckocaibjciplaaGreatDoor
open Go.RowKit Corb
def pM(a:Option Addr)(len cap:Nat)(zs:List Int)(m:Int)(w:World)(w0:Kj .u8 w a len cap zs)(hm:w.cell? ⟨2,0,none⟩=some (.int .i64 m))(hg:oC w)(hO:dQ w) :
  Ds 3 #[.slice a len cap] w (.bool true):=by
 obtain⟨⟨z,O⟩,hc,B⟩:=Re w0;have ab:=af (s9 a len cap z w O hc B);have E:=af (fun W (hb:Below w.heap.size w W)=>a0b ((hb.cell (p:=⟨2,0,none⟩) (World.block_lt_of_cell? _ _ hm)).trans hm) (a0b (hg.later hb) (hO.later hb)));unfold maxLen at B;clear w0 O hm hg hO;by_cases hl:(len:Int)<=1048576
 .
  go_enter Tryz.func3,Tryz.ntmps3;go_wp2_with fail;refine ab.mono ?_;rintro e w1⟨⟨l,t,rfl,V,ht⟩,a0⟩;have h:=af a0;clear a0 ab B hc;have a7:=af V;have HT:=af ht;have C:=pr l;have I:=af (fun W (S:Below w.heap.size w W)=>tf (fe l) t m W (by omega) (by omega) (E W S).1 (E W S).2.1 (E W S).2.2);have J:=af (fun W=>tq (fe l) t W (by omega) (by omega));have X:=af (fun W (S:Below w.heap.size w W)=>jP t m W (by omega) (E W S).1 (E W S).2.1 (E W S).2.2);have F:=af (DV V);clear V ht C;rcases U:dD t with _|M
  . rw[nN U]at I J;rw[U]at X;clear U;obtain⟨A,C⟩:∃x,fe l=x:=⟨_,rfl⟩;rw[C]at I J;rw[C];clear C F;go_wp2_with fail;refine(I _ (ae h)).mono ?_;rintro e w3⟨rfl,q⟩;have k:=af (aj h q);clear q h;go_wp2_with fail;refine(J _).mono ?_;rintro e w4⟨rfl,s⟩;have d:=af (aj k s);clear s k;go_wp2_with fail;refine(X _ (ae d)).mono ?_;rintro e w5⟨⟨v5,rfl,b⟩,u⟩;have o:=af (aj d u);obtain⟨a5,c5,rfl,_,_⟩:=b.formN (l:=[]) rfl;clear u b d;go_wp2;go_ret;exact⟨rfl,o⟩
  .
   have HJ:Hid (pR (fe l) t=edR (fe l) (dZ M)):=nO U;rw[U]at X;rw[ae HJ]at I J;have hM:=oc U;have R:=af (jK hM);have h6:=(ep hM).2;clear U HJ;obtain⟨N,hN⟩:∃n,M.length=n:=⟨_,rfl⟩;rw[hN]at R h6;have HN:=af hN;have bc:(N:Int)<=6:=by omega
   obtain⟨A,C⟩:∃x,fe l=x:=⟨_,rfl⟩;have a3:=af C;obtain⟨xv,c,hE⟩:=yL A (dZ M);have HE:=af hE;rw[C]at I J F;rw[hE]at I J;rw[C];clear C hM hN hE h6;go_wp2_with fail;refine(I _ (ae h)).mono ?_;rintro e w3⟨rfl,q⟩;have k:=af (aj h q);clear q h;go_wp2_with fail;refine(J _).mono ?_;rintro e w4⟨rfl,s⟩;have d:=af (aj k s);clear s k;go_wp2_with fail;refine(X _ (ae d)).mono ?_;rintro e w5⟨⟨v5,rfl,b⟩,u⟩;have o:=af (aj d u);have b:fS w5 w4.heap.size v5 M:=b;obtain⟨a5,c5,rfl,_,_⟩:=b.formN HN;have O5:=af b;clear u b d X I J;by_cases h0:N=0
   .
    have a8:(N:Int)=0:=by omega
    have a9:((N:Int) == 0)=true:=by simp[h0]
    clear h0;go_wp2;go_ret;exact⟨rfl,o⟩
   .
    have a9:((N:Int) == 0)=false:=by simp;omega
    have a8:¬ (N:Int)=0:=by omega
    have a4:Hid (0<N):=by show _<_;omega
    clear h0;by_cases h1:c=1
    . subst h1;go_wp2;go_ret;exact⟨rfl,o⟩
    .
     have bb:(c == 1)=false:=by simpa using h1
     obtain⟨g5,rfl⟩:=O5.somes (by rw[ae HN];exact a4);go_wp2_with fail
     go_loopw [11,12,13,14] (fun y i _ _ wr=>∃(j:Nat) (L:List En),j<=N/\i = .int .i64 j/\y = .string (fe L)/\cB L=true/\dZ (M.drop j) L=dZ M l/\Below w5.heap.size w5 wr) (fun _ i _ _ _=>N-(intOf i).toNat)
     case atStart=>exact⟨0,l,a0g _,rfl,by rw[ae a3],a7,rfl,a0c _ _⟩
     case round=>
      obtain⟨j,L,hj,rfl,rfl,a2,K,T⟩:=hrel;have G:=af T;have f:=af (aj o T);have ad:=af a2;have P:=af K;clear T a2 K;by_cases g:j<N
      .
       have a1:(j:Int)<(N:Int):=by omega
       have HJ:=af g;obtain⟨c0,c1,c2,c3,c4,al,ao,c7⟩:=Gg HN (O5.later G (a0a _)) j g;have hL:=pr L;have CA:=af (uA (fe L) (M.getD j default) m wr (by omega) (R j g).1 (R j g).2 (E wr (ae f)).1 (E wr (ae f)).2.1 (E wr (ae f)).2.2);have H:Hid (dZ (M.drop j) L=_):=tN (by rw[ae HN];exact g);have aa:=af (DV ad);clear hj g hL;generalize M.getD j default=en at *
       by_cases D:aT L en=0
       .
        have ac:Hid (cB (L++[en])=true/\dZ (M.drop (j+1)) (L++[en])=dZ M l):=⟨(gG ad _).2 D,by rw[←ae P,ae H,a0d D]⟩;rw[yM aa (Kp D)]at CA;obtain⟨Z,hZ⟩:∃x,fe (L++[en])=x:=⟨_,rfl⟩;have a6:=af hZ;rw[hZ]at CA;generalize fe L=Y at *
        clear D H hZ;go_wp2_with fail;refine CA.mono ?_;rintro e w7⟨rfl,v⟩;have Q:=af (aj G v);clear v c0 c1 c2 c3 c4 al ao c7 CA G f;go_wp2_with fail;go_roundw
        case rel=>exact⟨j+1,L++[en],by have:=ae HJ;omega,by go_num,by rw[ae a6],ac.1,ac.2,Q⟩
        case measure=>have:=ae HJ;simp[intOf];omega
       .
        have HV:Hid (edR A (dZ M) = .tuple #[A,.int .i64 (aT L en)]):=Ge (r:=[]) F (by rw[←ae P,ae H,a0e D]) D;have hv:=HE.symm.trans HV;simp only[Value.tuple.injEq,Array.mk.injEq,a20,Value.string.injEq,Value.int.injEq,a0O,a1t]at hv;obtain⟨e1,e2⟩:=hv;rw[Ge (r:=[]) aa (Kq D) D]at CA;have ba:(aT L en == 0)=false:=by simpa using D
        subst e1;rw[←e2]at CA D ba;clear e2 H HV HE;generalize fe L=Y at *
        go_wp2_with fail;refine CA.mono ?_;rintro e w7⟨rfl,v⟩;have Q:=af (aj f v);clear v c0 c1 c2 c3 c4 al ao c7 CA G f;go_wp2;go_ret;exact⟨rfl,Q⟩
      .
       have a1:¬ (j:Int)<(N:Int):=by omega
       have hd:dZ M l=(0,L):=by rw[←ae P,a2L (by rw[ae HN];omega)];rfl
       have hv:=HE.symm.trans (yM F hd);simp only[Value.tuple.injEq,Array.mk.injEq,a20,Value.string.injEq,Value.int.injEq,a0O,a1t]at hv;obtain⟨e1,e2⟩:=hv;subst e2;rw[←e1];clear e1 hd hj g HE;go_wp2;go_ret;exact⟨rfl,f⟩
 . go_enter Tryz.func3,Tryz.ntmps3;go_wp2;go_ret;exact⟨rfl,a0c _ _⟩
