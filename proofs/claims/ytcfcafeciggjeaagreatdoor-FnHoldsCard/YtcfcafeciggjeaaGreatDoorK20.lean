import Derived.Test.YtcfcafeciggjeaaGreatDoorK19
namespace Go.Proofs.YtcfcafeciggjeaaGreatDoor
set_option maxHeartbeats 25600000
set_option linter.all false
set_option maxRecDepth 100000
open Go.ChangeShapes Go.WideShapes Go.ChangeAt Go.RowKit Go.Proofs.Tryz
def Jf (se pa:Bool) (lo hi vs:Int) (sq:Bool) (s f:Int) (np nv:Nat) (e g:Int):Bool:=
 (se||s==0)&&((pa||np==0)&&(decide (lo<=f)&&(decide (f<=hi)&&(decide ((nv:Int)<=vs)&&(sq||(e==0&&g==0))))))
theorem xd (k:Int) (h:1<=k/\k<=13) (w:World):Calls prog 77 #[.I k] w fun e w'=>e=.returned (.bool (decide (k=2\/k=3\/k=4\/k=5\/k=7\/k=8\/k=9\/k=10\/k=11\/k=12)))/\w'=w:=by
 have:k=1\/k=2\/k=3\/k=4\/k=5\/k=6\/k=7\/k=8\/k=9\/k=10\/k=11\/k=12\/k=13:=by omega
 rcases this with rfl | rfl | rfl | rfl | rfl | rfl | rfl | rfl | rfl | rfl | rfl | rfl | rfl
 all_goals (go_enter func77,ntmps77;go_wp2;go_ret;exact ⟨rfl,rfl⟩)
theorem Dn (k:Int) (h:1<=k/\k<=13) (w:World):Calls prog 79 #[.I k] w fun e w'=>e=.returned (.bool (decide (k=4\/k=5\/k=6\/k=7\/k=8\/k=9\/k=10\/k=11\/k=13)))/\w'=w:=by
 have:k=1\/k=2\/k=3\/k=4\/k=5\/k=6\/k=7\/k=8\/k=9\/k=10\/k=11\/k=12\/k=13:=by omega
 rcases this with rfl | rfl | rfl | rfl | rfl | rfl | rfl | rfl | rfl | rfl | rfl | rfl | rfl
 all_goals (go_enter func79,ntmps79;go_wp2;go_ret;exact ⟨rfl,rfl⟩)
theorem z0 (s:Int):s=0\/(s != 0)=true:=(Decidable.em (s=0)).imp id (fun h=>by simp [h])
theorem zn (n:Nat):n=0\/((n:Int) != 0)=true:=(Decidable.em (n=0)).imp id (fun h=>by simp [h])
theorem zf (a f:Int):f=a\/(f==a)=false:=(Decidable.em (f=a)).imp id (fun h=>by simp [h])
def rowOf:Nat->Bool × Bool × Int × Int × Int × Bool × Bool
 | 1=>(false,false,0,0,0,false,true)
 | 2=>(true,false,0,0,0,false,false)
 | 3=>(true,false,0,0,0,false,true)
 | 4=>(true,true,0,1,40,false,true)
 | 5=>(true,true,0,0,0,false,true)
 | 6=>(false,true,0,0,0,false,false)
 | 7=>(true,true,0,0,40,false,true)
 | 8=>(true,true,1,2,0,false,true)
 | 9=>(true,true,0,0,0,false,true)
 | 10=>(true,true,0,0,0,true,false)
 | 11=>(true,true,0,0,0,false,false)
 | 12=>(true,false,0,0,0,false,false)
 | 13=>(false,true,0,0,0,false,false)
 | _=>(false,false,0,0,0,false,false)
def vH (k:Nat) (s f:Int) (n m:Nat) (e g:Int):Bool:=Jf (rowOf k).1 (rowOf k).2.1 (rowOf k).2.2.1 (rowOf k).2.2.2.1 (rowOf k).2.2.2.2.1 (rowOf k).2.2.2.2.2.1 s f n m e g
theorem kinds {k:Nat} (h1:1<=k) (h2:k<=13):k=1\/k=2\/k=3\/k=4\/k=5\/k=6\/k=7\/k=8\/k=9\/k=10\/k=11\/k=12\/k=13:=by omega
theorem Na (k:Int) (h1:1<=k) (h2:k<=13) (s f e g:Int) (p q:Option Addr) (n m c d:Nat) (w:World) (B:Bool) (eB:Hid (vH k.toNat s f n m e g=B)) :
  Calls prog 53 #[X5 k s (.S p n c) f (.S q m d) e g] w fun r w'=>r=.returned (.bool B)/\Bw w w':=by
 have:k=1\/k=2\/k=3\/k=4\/k=5\/k=6\/k=7\/k=8\/k=9\/k=10\/k=11\/k=12\/k=13:=by omega
 clear h1 h2;rcases this with rfl | rfl | rfl | rfl | rfl | rfl | rfl | rfl | rfl | rfl | rfl | rfl | rfl;rcases z0 s with rfl | hs;rcases zn n with rfl | hp;rcases z0 e with rfl | he;rcases z0 g with rfl | hg;rcases zn m with rfl | hv;rcases zf 0 f with rfl | hf;rotate_left 7;rcases zn n with rfl | hp;rcases z0 e with rfl | he;rcases z0 g with rfl | hg;rcases zn m with rfl | hv;rcases zf 0 f with rfl | hf;rotate_left 6;rcases zn n with rfl | hp;rcases z0 e with rfl | he;rcases z0 g with rfl | hg;rcases zn m with rfl | hv;rcases zf 0 f with rfl | hf;rotate_left 6;rcases z0 e with rfl | he;rcases z0 g with rfl | hg;rcases (Decidable.em ((40:Int)<(m:Int))).symm with hv | hv;rcases zf 0 f with rfl | hf;rotate_left;rcases zf 1 f with rfl | hh;rotate_left 5;rcases z0 e with rfl | he;rcases z0 g with rfl | hg;rcases zn m with rfl | hv;rcases zf 0 f with rfl | hf;rotate_left 5;rcases z0 s with rfl | hs;rcases z0 e with rfl | he;rcases z0 g with rfl | hg;rcases zn m with rfl | hv;rcases zf 0 f with rfl | hf;rotate_left 6;rcases z0 e with rfl | he;rcases z0 g with rfl | hg;rcases (Decidable.em ((40:Int)<(m:Int))).symm with hv | hv;rcases zf 0 f with rfl | hf;rotate_left 5;rcases z0 e with rfl | he;rcases z0 g with rfl | hg;rcases zn m with rfl | hv;rcases zf 1 f with rfl | hf;rotate_left;rcases zf 2 f with rfl | hh;rotate_left 5;rcases z0 e with rfl | he;rcases z0 g with rfl | hg;rcases zn m with rfl | hv;rcases zf 0 f with rfl | hf;rotate_left 5;rcases zn m with rfl | hv;rcases zf 0 f with rfl | hf;rotate_left 3;rcases z0 e with rfl | he;rcases z0 g with rfl | hg;rcases zn m with rfl | hv;rcases zf 0 f with rfl | hf;rotate_left 5;rcases zn n with rfl | hp;rcases z0 e with rfl | he;rcases z0 g with rfl | hg;rcases zn m with rfl | hv;rcases zf 0 f with rfl | hf;rotate_left 6;rcases z0 s with rfl | hs;rcases z0 e with rfl | he;rcases z0 g with rfl | hg;rcases zn m with rfl | hv;rcases zf 0 f with rfl | hf;rotate_left 6
 all_goals (cases B<;>first | (exfalso;have h:=aa eB;clear eB;simp_all [vH,Jf,rowOf]<;>omega) | clear eB)
 all_goals (go_enter func53,ntmps53;go_wp2_with fail;refine (xd _ (by decide) _).mono ?_;rintro r w' ⟨rfl,rfl⟩;(try (go_wp2_with fail;refine (Dn _ (by decide) _).mono ?_;rintro r w' ⟨rfl,rfl⟩));go_wp2;go_ret;exact ⟨rfl,aJ.alloc aA _⟩)
theorem Ge (k s f e g:Int) (p q:Option Addr) (n m c d:Nat) (w:World) (hk:k<1\/13<k) :
  Calls prog 53 #[X5 k s (.S p n c) f (.S q m d) e g] w fun r w'=>r=.returned (.bool false)/\Bw w w':=by
 rcases hk with h1 | h2;{go_enter func53,ntmps53;go_wp2;go_ret;exact ⟨rfl,aJ.alloc aA _⟩};{
 have h3:¬ k<1:=by omega
 go_enter func53,ntmps53;go_wp2;go_ret;exact ⟨rfl,aJ.alloc aA _⟩}
theorem M8 (k:Nat) (h1:1<=k) (h2:k<=13) (s f e g:Int) (p q:Option Addr) (n m c d:Nat) (w:World) (B:Bool) (eB:Hid (vH k s f n m e g=B)) :
  Calls Tryz.prog 53 #[X5 k s (.S p n c) f (.S q m d) e g] w fun r w'=>r=.returned (.bool B)/\Bw w w':=
 Na k (by omega) (by omega) s f e g p q n m c d w B eB
end Go.Proofs.YtcfcafeciggjeaaGreatDoor
