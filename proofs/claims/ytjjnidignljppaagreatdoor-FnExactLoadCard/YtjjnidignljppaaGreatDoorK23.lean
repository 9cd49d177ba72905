import Derived.Test.YtjjnidignljppaaGreatDoorK14
namespace Go.Proofs.YtjjnidignljppaaGreatDoor
set_option maxHeartbeats 25600000
set_option linter.all false
set_option maxRecDepth 100000
open Go.ChangeShapes Go.WideShapes Go.ChangeAt Go.RowKit Go.Proofs.Tryz
variable {B:Bool}{e f g k s:Int}
def fmF(se pa:Bool)(lo hi vs:Int)(sq:Bool)(s f:Int)(np nv:Nat)(e g:Int):Bool:=
 (se||s==0)&&((pa||np==0)&&(decide (lo<=f)&&(decide (f<=hi)&&(decide ((nv:Int)<=vs)&&(sq||(e==0&&g==0))))))
def Fq(h:1<=k/\k<=13){w:World}:Cp 84 #[.I k] w fun e w'=>e=.returned (.bool (decide (k=2\/k=3\/k=4\/k=5\/k=7\/k=8\/k=9\/k=10\/k=11\/k=12)))/\w'=w:=by
 have:k=1\/k=2\/k=3\/k=4\/k=5\/k=6\/k=7\/k=8\/k=9\/k=10\/k=11\/k=12\/k=13:=by omega
 rcases this with rfl|rfl|rfl|rfl|rfl|rfl|rfl|rfl|rfl|rfl|rfl|rfl|rfl
 all_goals(go_enter func84,ntmps84;go_wp2;go_ret;exact⟨rfl,rfl⟩)
def Ol(h:1<=k/\k<=13){w:World}:Cp 85 #[.I k] w fun e w'=>e=.returned (.bool (decide (k=4\/k=5\/k=6\/k=7\/k=8\/k=9\/k=10\/k=11\/k=13)))/\w'=w:=by
 have:k=1\/k=2\/k=3\/k=4\/k=5\/k=6\/k=7\/k=8\/k=9\/k=10\/k=11\/k=12\/k=13:=by omega
 rcases this with rfl|rfl|rfl|rfl|rfl|rfl|rfl|rfl|rfl|rfl|rfl|rfl|rfl
 all_goals(go_enter func85,ntmps85;go_wp2;go_ret;exact⟨rfl,rfl⟩)
def Hn(h:1<=k/\k<=13){w:World}:Cp 50 #[.I k] w fun e w'=>e=.returned (.bool (decide (k=1\/k=3\/k=4\/k=5\/k=7\/k=8\/k=9)))/\w'=w:=by
 have:k=1\/k=2\/k=3\/k=4\/k=5\/k=6\/k=7\/k=8\/k=9\/k=10\/k=11\/k=12\/k=13:=by omega
 rcases this with rfl|rfl|rfl|rfl|rfl|rfl|rfl|rfl|rfl|rfl|rfl|rfl|rfl
 all_goals(go_enter func50,ntmps50;go_wp2;go_ret;exact⟨rfl,rfl⟩)
def z0(s:Int):s=0\/(s != 0)=true:=(yy (s=0)).imp id (fun h=>by simp[h])
def zn(n:Nat):n=0\/((n:Int) != 0)=true:=(yy (n=0)).imp id (fun h=>by simp[h])
def zf(a f:Int):f=a\/(f==a)=false:=(yy (f=a)).imp id (fun h=>by simp[h])
def rowOf:Nat->Bool×Bool×Int×Int×Int×Bool×Bool
 |1=>(false,false,0,0,0,false,true)
 |2=>(true,false,0,0,0,false,false)
 |3=>(true,false,0,0,0,false,true)
 |4=>(true,true,0,1,40,false,true)
 |5=>(true,true,0,0,0,false,true)
 |6=>(false,true,0,0,0,false,false)
 |7=>(true,true,0,0,40,false,true)
 |8=>(true,true,1,2,0,false,true)
 |9=>(true,true,0,0,0,false,true)
 |10=>(true,true,0,0,0,true,false)
 |11=>(true,true,0,0,0,false,false)
 |12=>(true,false,0,0,0,false,false)
 |13=>(false,true,0,0,0,false,false)
 |_=>(false,false,0,0,0,false,false)
def DA(k:Nat)(s f:Int)(n m:Nat)(e g:Int):Bool:=fmF (rowOf k).1 (rowOf k).2.1 (rowOf k).2.2.1 (rowOf k).2.2.2.1 (rowOf k).2.2.2.2.1 (rowOf k).2.2.2.2.2.1 s f n m e g
def joR(k:Nat):Bool:=(rowOf k).2.2.2.2.2.2
def kinds{k:Nat}(h1:1<=k)(h2:k<=13):k=1\/k=2\/k=3\/k=4\/k=5\/k=6\/k=7\/k=8\/k=9\/k=10\/k=11\/k=12\/k=13:=by omega
def ac8(h1:1<=k)(h2:k<=13){p q:OA}{n m c d:Nat}{w:World}(eB:Hid (DA k.toNat s f n m e g=B)):Cp 49 #[ya k s (.S p n c) f (.S q m d) e g] w fun r w'=>r=.returned (.bool B)/\Bw w w':=by
 have:k=1\/k=2\/k=3\/k=4\/k=5\/k=6\/k=7\/k=8\/k=9\/k=10\/k=11\/k=12\/k=13:=by omega
 clear h1 h2;rcases this with rfl|rfl|rfl|rfl|rfl|rfl|rfl|rfl|rfl|rfl|rfl|rfl|rfl;rcases z0 s with rfl|hs;rcases zn n with rfl|hp;rcases z0 e with rfl|he;rcases z0 g with rfl|hg;rcases zn m with rfl|hv;rcases zf 0 f with rfl|hf;rotate_left 7;rcases zn n with rfl|hp;rcases z0 e with rfl|he;rcases z0 g with rfl|hg;rcases zn m with rfl|hv;rcases zf 0 f with rfl|hf;rotate_left 6;rcases zn n with rfl|hp;rcases z0 e with rfl|he;rcases z0 g with rfl|hg;rcases zn m with rfl|hv;rcases zf 0 f with rfl|hf;rotate_left 6;rcases z0 e with rfl|he;rcases z0 g with rfl|hg;rcases(yy ((40:Int)<(m:Int))).symm with hv|hv;rcases zf 0 f with rfl|hf;rotate_left;rcases zf 1 f with rfl|hh;rotate_left 5;rcases z0 e with rfl|he;rcases z0 g with rfl|hg;rcases zn m with rfl|hv;rcases zf 0 f with rfl|hf;rotate_left 5;rcases z0 s with rfl|hs;rcases z0 e with rfl|he;rcases z0 g with rfl|hg;rcases zn m with rfl|hv;rcases zf 0 f with rfl|hf;rotate_left 6;rcases z0 e with rfl|he;rcases z0 g with rfl|hg;rcases(yy ((40:Int)<(m:Int))).symm with hv|hv;rcases zf 0 f with rfl|hf;rotate_left 5;rcases z0 e with rfl|he;rcases z0 g with rfl|hg;rcases zn m with rfl|hv;rcases zf 1 f with rfl|hf;rotate_left;rcases zf 2 f with rfl|hh;rotate_left 5;rcases z0 e with rfl|he;rcases z0 g with rfl|hg;rcases zn m with rfl|hv;rcases zf 0 f with rfl|hf;rotate_left 5;rcases zn m with rfl|hv;rcases zf 0 f with rfl|hf;rotate_left 3;rcases z0 e with rfl|he;rcases z0 g with rfl|hg;rcases zn m with rfl|hv;rcases zf 0 f with rfl|hf;rotate_left 5;rcases zn n with rfl|hp;rcases z0 e with rfl|he;rcases z0 g with rfl|hg;rcases zn m with rfl|hv;rcases zf 0 f with rfl|hf;rotate_left 6;rcases z0 s with rfl|hs;rcases z0 e with rfl|he;rcases z0 g with rfl|hg;rcases zn m with rfl|hv;rcases zf 0 f with rfl|hf;rotate_left 6
 all_goals(cases B<;>first|(exfalso;have h:=aa eB;clear eB;simp_all[DA,fmF,rowOf]<;>omega)|clear eB)
 all_goals(go_enter func49,ntmps49;go_wp2_with fail;refine(Fq aU).mono ?_;rintro r w'⟨rfl,rfl⟩;(try(go_wp2_with fail;refine(Ol aU).mono ?_;rintro r w'⟨rfl,rfl⟩));go_wp2;go_ret;exact⟨rfl,ay.alloc ao _⟩)
def FN{p q:OA}{n m c d:Nat}{w:World}(hk:k<1\/13<k):Cp 49 #[ya k s (.S p n c) f (.S q m d) e g] w fun r w'=>r=.returned (.bool false)/\Bw w w':=by
 rcases hk with h1|h2;{go_enter func49,ntmps49;go_wp2;go_ret;exact⟨rfl,ay.alloc ao _⟩};{have h3:¬k<1:=ae;go_enter func49,ntmps49;go_wp2;go_ret;exact⟨rfl,ay.alloc ao _⟩}
def FO{k:Nat}(h1:1<=k)(h2:k<=13){p q:OA}{n m c d:Nat}{w:World}(eB:Hid (DA k s f n m e g=B)):Calls Tryz.prog 49 #[ya k s (.S p n c) f (.S q m d) e g] w fun r w'=>r=.returned (.bool B)/\Bw w w':=
 ac8 ae ae (p:=p) (q:=q) (c:=c) (d:=d) (w:=w) eB
def BJ{k:Nat}(h1:1<=k)(h2:k<=13){w:World}:Calls Tryz.prog 50 #[.I k] w fun r w'=>r=.returned (.bool (joR k))/\w'=w:=by
 have h:=Hn (k:=k) ae (w:=w);rcases kinds h1 h2 with rfl|rfl|rfl|rfl|rfl|rfl|rfl|rfl|rfl|rfl|rfl|rfl|rfl<;>exact h
end Go.Proofs.YtjjnidignljppaaGreatDoor
