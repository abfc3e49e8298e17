/-
  Parts of this proof: Mathematics of the text of models. Words for worlds and lists of tokens in memory; . How a text is walked rune by rune, and the contr. The contracts of sign, wordSize, signSize, Numbe. The contract of formed. What reading leaves. What holds of every rule of the grammar. What Check says of a list; the contracts of plac.
-/
import Derived.Test.YtbgodajefaahdaaGreatDoorYDCheck
open Go.Proofs.Tryz renaming prog->ae
open Go renaming World->af,Calls->au
open Bool renaming and_eq_true->ag
open Go.RowKit renaming Below->ah
open Option renaming none->ai,some->ak
open Go.RowKit.Below renaming refl->aj
open Go.Lib renaming hid->av
open Nat renaming le_refl->ax,zero_le->ay
set_option linter.unusedVariables false
open Go.Lib (hid)
namespace Go.Proofs.YtbgodajefaahdaaGreatDoor
namespace Ps
open Lx (Tk bs mt)
open Na (lH)
open Ex (Ex)
open Sm (St Dt zE zD)
open Md (Val dQ dm iI iF d_ eQ h_ gU Lw gz b_ dx)
inductive R (α:Type) where
 | ok (x:α) (u:List Tk)
 | no (u:List Tk)
def hd (t:List Tk):Tk:=t.headD ⟨0,mt,0,0⟩
def is (s:ByteArray) (t:List Tk):Bool:=decide (bs (hd t).t=bs s)
inductive P:Type->Type 1 where
 | rt {α:Type} (x:α):P α
 | fl {α:Type}:P α
 | bd {α β:Type} (m:P α) (k:α->P β):P β
 | acc {α:Type} (s:ByteArray) (A B:P α):P α
 | see {α:Type} (s:ByteArray) (A B:P α):P α
 | kd {α:Type} (k:Int) (A B:P α):P α
 | kw {α:Type} (A B:P α):P α
 | tk (k:Int):P (ByteArray×Int)
 | exp (s:ByteArray):P Unit
 | len {α β:Type} (m:P α) (f:Nat->α->β):P β
open Ps.P (rt fl bd acc see kd kw tk exp len)
def run {α:Type}:P α->List Tk->R α
 | .rt x,t=>.ok x t
 | .fl,t=>.no t
 | .bd m k,t=>match run m t with
  | .ok x u=>run (k x) u
  | .no u=>.no u
 | .acc s A B,t=>if is s t=true then run A t.tail else run B t
 | .see s A B,t=>if is s t=true then run A t else run B t
 | .kd k A B,t=>if (hd t).k=k then run A t else run B t
 | .kw A B,t=>if lH (bs (hd t).t)=true then run A t else run B t
 | .tk k,t=>if (hd t).k=k then .ok ((hd t).t,(hd t).n) t.tail else .no t
 | .exp s,t=>if is s t=true then .ok () t.tail else .no t
 | .len m f,t=>match run m t with
  | .ok x u=>.ok (f (t.length-u.length) x) u
  | .no u=>.no u
section
variable {α β:Type} {m:P α} {k:α->P β} {t u:List Tk} {x:α} {s:ByteArray} {A B:P α} {n:Int} {f:Nat->α->β}
theorem zL:run (rt x) t=.ok x t:=rfl
theorem Vu:run (fl:P α) t=.no t:=rfl
theorem fD (h:run m t=.ok x u):run (bd m k) t=run (k x) u:=by rw[run,h]
theorem fQ (h:run m t=.no u):run (bd m k) t=.no u:=by rw[run,h]
theorem OW (h:run m t=.ok x u):run (len m f) t=.ok (f (t.length-u.length) x) u:=by rw[run,h]
theorem OV (h:run m t=.no u):run (len m f) t=.no u:=by rw[run,h]
theorem FW (h:is s t=true):run (acc s A B) t=run A t.tail:=by rw[run,if_pos h]
theorem D_ (h:is s t=false):run (acc s A B) t=run B t:=by rw[run,if_neg (by rw[h];decide)]
theorem KY (h:is s t=true):run (see s A B) t=run A t:=by rw[run,if_pos h]
theorem KW (h:is s t=false):run (see s A B) t=run B t:=by rw[run,if_neg (by rw[h];decide)]
theorem GH (h:(hd t).k=n):run (kd n A B) t=run A t:=by rw[run,if_pos h]
theorem GG (h:¬(hd t).k=n):run (kd n A B) t=run B t:=by rw[run,if_neg h]
theorem Kb (h:lH (bs (hd t).t)=true):run (kw A B) t=run A t:=by rw[run,if_pos h]
theorem UF (h:lH (bs (hd t).t)=false):run (kw A B) t=run B t:=by rw[run,if_neg (by rw[h];decide)]
theorem Bv (h:(hd t).k=n):run (tk n) t=.ok ((hd t).t,(hd t).n) t.tail:=by rw[run,if_pos h]
theorem Dx (h:¬(hd t).k=n):run (tk n) t=.no t:=by rw[run,if_neg h]
theorem Oi (h:is s t=true):run (exp s) t=.ok () t.tail:=by rw[run,if_pos h]
theorem Oh (h:is s t=false):run (exp s) t=.no t:=by rw[run,if_neg (by rw[h];decide)]
end
def FU:Nat:=100000
abbrev GD:ByteArray:=⟨#[109,111,100,101,108]⟩
abbrev qD:ByteArray:=⟨#[101,110,100]⟩
abbrev adm:ByteArray:=⟨#[112,97,114,97,109]⟩
abbrev adh:ByteArray:=⟨#[108,105,110,107]⟩
abbrev ady:ByteArray:=⟨#[115,105,116,101]⟩
abbrev anx:ByteArray:=⟨#[105,110,116]⟩
abbrev ant:ByteArray:=⟨#[98,111,111,108]⟩
abbrev anC:ByteArray:=⟨#[116,105,109,101]⟩
abbrev AL:ByteArray:=⟨#[116,114,117,101]⟩
abbrev Cy:ByteArray:=⟨#[102,97,108,115,101]⟩
abbrev adJ:ByteArray:=⟨#[118,97,114]⟩
abbrev adq:ByteArray:=⟨#[114,101,115,111,117,114,99,101]⟩
abbrev adD:ByteArray:=⟨#[115,116,111,114,101]⟩
abbrev ac4:ByteArray:=⟨#[98,101,108,116]⟩
abbrev ado:ByteArray:=⟨#[113,117,101,117,101]⟩
abbrev adE:ByteArray:=⟨#[115,116,114,101,97,109]⟩
abbrev adG:ByteArray:=⟨#[116,97,108,108,121]⟩
abbrev OL:ByteArray:=⟨#[108,101,118,101,108]⟩
abbrev ac7:ByteArray:=⟨#[99,111,117,110,116]⟩
abbrev adt:ByteArray:=⟨#[114,111,117,116,105,110,101]⟩
abbrev adB:ByteArray:=⟨#[115,116,97,114,116]⟩
abbrev ac5:ByteArray:=⟨#[99,111,110,115,101,114,118,101]⟩
abbrev UA:ByteArray:=⟨#[115,104,105,102,116]⟩
abbrev anu:ByteArray:=⟨#[99,121,99,108,101]⟩
abbrev Uv:ByteArray:=⟨#[102,97,117,108,116]⟩
abbrev kUp:ByteArray:=⟨#[117,112]⟩
abbrev anv:ByteArray:=⟨#[100,111,119,110]⟩
abbrev anw:ByteArray:=⟨#[102,105,102,111]⟩
abbrev anA:ByteArray:=⟨#[108,105,102,111]⟩
abbrev anz:ByteArray:=⟨#[108,101,97,115,116]⟩
abbrev Ux:ByteArray:=⟨#[108,111,99,97,108]⟩
abbrev kAt:ByteArray:=⟨#[97,116]⟩
abbrev ac_:ByteArray:=⟨#[101,118,101,114,121]⟩
abbrev anD:ByteArray:=⟨#[117,110,116,105,108]⟩
abbrev ac6:ByteArray:=⟨#[99,111,110,115,116]⟩
abbrev adI:ByteArray:=⟨#[117,110,105,102,111,114,109]⟩
abbrev UB:ByteArray:=⟨#[116,97,98,108,101]⟩
abbrev adF:ByteArray:=⟨#[115,117,109]⟩
abbrev adb:ByteArray:=⟨#[103,101,111,109]⟩
abbrev adw:ByteArray:=⟨#[115,101,116]⟩
abbrev ac8:ByteArray:=⟨#[100,114,97,119]⟩
abbrev kIf:ByteArray:=⟨#[105,102]⟩
abbrev adM:ByteArray:=⟨#[119,104,105,108,101]⟩
abbrev adf:ByteArray:=⟨#[104,111,108,100]⟩
abbrev adu:ByteArray:=⟨#[115,101,105,122,101]⟩
abbrev adp:ByteArray:=⟨#[114,101,108,101,97,115,101]⟩
abbrev adn:ByteArray:=⟨#[112,117,116]⟩
abbrev ade:ByteArray:=⟨#[103,101,116]⟩
abbrev ads:ByteArray:=⟨#[114,105,100,101]⟩
abbrev adK:ByteArray:=⟨#[119,97,105,116]⟩
abbrev adx:ByteArray:=⟨#[115,105,103,110,97,108]⟩
abbrev adv:ByteArray:=⟨#[115,101,110,100]⟩
abbrev adA:ByteArray:=⟨#[115,112,97,119,110]⟩
abbrev adl:ByteArray:=⟨#[111,98,115,101,114,118,101]⟩
abbrev ac2:ByteArray:=⟨#[97,100,100]⟩
abbrev adC:ByteArray:=⟨#[115,116,111,112]⟩
abbrev Uw:ByteArray:=⟨#[102,114,111,109]⟩
abbrev Cx:ByteArray:=⟨#[101,108,115,101]⟩
abbrev Uz:ByteArray:=⟨#[112,114,105,111]⟩
abbrev OP:ByteArray:=⟨#[112,114,101,101,109,112,116]⟩
abbrev adg:ByteArray:=⟨#[105,110,116,111]⟩
abbrev anr:ByteArray:=⟨#[97,102,116,101,114]⟩
abbrev kOr:ByteArray:=⟨#[111,114]⟩
abbrev ac3:ByteArray:=⟨#[97,110,100]⟩
abbrev Uy:ByteArray:=⟨#[110,111,116]⟩
abbrev adk:ByteArray:=⟨#[110,111,119]⟩
abbrev ac9:ByteArray:=⟨#[100,117,114]⟩
abbrev adH:ByteArray:=⟨#[116,105,99,107,115]⟩
abbrev adj:ByteArray:=⟨#[109,105,110]⟩
abbrev adi:ByteArray:=⟨#[109,97,120]⟩
abbrev ada:ByteArray:=⟨#[102,114,101,101]⟩
abbrev adz:ByteArray:=⟨#[115,105,122,101]⟩
abbrev adL:ByteArray:=⟨#[119,97,105,116,105,110,103]⟩
abbrev Yf:ByteArray:=⟨#[43]⟩
abbrev xK:ByteArray:=⟨#[45]⟩
abbrev Mc:ByteArray:=⟨#[42]⟩
abbrev ag2:ByteArray:=⟨#[47]⟩
abbrev ag0:ByteArray:=⟨#[37]⟩
abbrev BK:ByteArray:=⟨#[61]⟩
abbrev zNe:ByteArray:=⟨#[33,61]⟩
abbrev zLt:ByteArray:=⟨#[60]⟩
abbrev zLe:ByteArray:=⟨#[60,61]⟩
abbrev zGt:ByteArray:=⟨#[62]⟩
abbrev zGe:ByteArray:=⟨#[62,61]⟩
abbrev mY:ByteArray:=⟨#[40]⟩
abbrev yU:ByteArray:=⟨#[41]⟩
abbrev yS:ByteArray:=⟨#[44]⟩
abbrev XT:ByteArray:=⟨#[58]⟩
abbrev XW:ByteArray:=⟨#[46]⟩
def num:P Int:=bd (tk 2) fun x=>rt x.2
def vz:P Int:=acc xK (bd num fun n=>rt (-n)) num
def vW:P Int:=acc AL (rt 1) (bd (exp Cy) fun _=>rt 0)
def fP:P ByteArray:=kw fl (bd (tk 1) fun x=>rt x.1)
def vL (s:ByteArray):P ByteArray:=bd (exp s) fun _=>fP
def fU:P Unit:=bd (tk 4) fun _=>rt ()
def q_:P Unit:=bd (tk 0) fun _=>rt ()
def ui:P ByteArray:=bd fP fun s=>bd fU fun _=>rt s
def pr:P (Int×Int):=bd num fun a=>bd (exp XT) fun _=>bd num fun b=>rt (a,b)
def ER:Nat->List (Int×Int)->P (List (Int×Int))
 | 0,_=>fl
 | n+1,l=>kd 2 (bd pr fun x=>ER n (l++[x])) (rt l)
def yD:P (List (Int×Int)):=bd pr fun x=>ER FU [x]
def xq {α:Type} (e:P α):Nat->List α->P (List α)
 | 0,_=>fl
 | n+1,l=>acc yU (rt l) (match l with
  | []=>bd e fun x=>xq e n [x]
  | y::r=>bd (exp yS) fun _=>bd e fun x=>xq e n ((y::r)++[x]))
def xu {α:Type} (e:P α):P (List α):=bd (exp mY) fun _=>xq e FU []
def dst:P Dt:=
 acc ac6 (bd num fun a=>rt ⟨1,a,0,0,[],[]⟩) <|
 acc adI (bd num fun a=>bd num fun b=>rt ⟨2,a,b,0,[],[]⟩) <|
 acc UB (bd yD fun l=>rt ⟨3,0,0,0,l.map (·.1),l.map (·.2)⟩) <|
 acc adF (bd num fun n=>bd num fun a=>bd num fun b=>rt ⟨4,a,b,n,[],[]⟩) <|
 acc adb (bd num fun a=>bd num fun b=>rt ⟨5,a,b,0,[],[]⟩) fl
def nd0 (o:Int):Ex:=.mk o mt 0 []
def uh (o:Int) (x:Ex):Ex:=.mk o mt 0 [x]
def jl (o:Int) (x y:Ex):Ex:=.mk o mt 0 [x,y]
def A9 (o:Int) (s:ByteArray):Ex:=.mk o s 0 []
def iO (o n:Int):Ex:=.mk o mt n []
def zG {α:Type} (A:Int->P α) (B:P α):List (ByteArray×Int)->P α
 | []=>B
 | o::r=>acc o.1 (A o.2) (zG A B r)
def wI (m:P Ex) (os:List (ByteArray×Int)):Nat->Ex->P Ex
 | 0,_=>fl
 | n+1,e=>zG (fun o=>bd m fun y=>wI m os n (jl o e y)) (rt e) os
def zi (m:P Ex) (os:List (ByteArray×Int)):P Ex:=bd m fun e=>wI m os FU e
def one (E:P Ex) (o:Int):P Ex:=bd (exp mY) fun _=>bd E fun x=>bd (exp yU) fun _=>rt (uh o x)
def two (E:P Ex) (o:Int):P Ex:=bd (exp mY) fun _=>bd E fun x=>bd (exp yS) fun _=>bd E fun y=>bd (exp yU) fun _=>rt (jl o x y)
def zF (o:Int):P Ex:=bd (exp mY) fun _=>bd fP fun s=>bd (exp yU) fun _=>rt (A9 o s)
def neg (d:Nat) (e:Ex):Ex:=match d,e with
 | 4,.mk 5 s n [.mk 1 s' n' l']=>iO 1 (-n')
 | _,e=>e
def AB (E:P Ex):P Ex:=len (bd (exp mY) fun _=>bd E fun e=>bd (exp yU) fun _=>rt e) neg
def De (E:P Ex):P Ex:=
 kd 2 (bd num fun n=>rt (iO 1 n)) <|
 see AL (bd vW fun n=>rt (iO 2 n)) <|
 see Cy (bd vW fun n=>rt (iO 2 n)) <|
 acc adk (rt (nd0 4)) <|
 acc ac9 (one E 7) <|
 acc adH (one E 8) <|
 acc adj (two E 20) <|
 acc adi (two E 21) <|
 acc ada (zF 22) <|
 acc adz (zF 23) <|
 acc adL (zF 24) <|
 see mY (AB E) <|
 bd fP fun s=>rt (A9 3 s)
def x_ (E F:P Ex):P Ex:=acc xK (bd F fun x=>rt (uh 5 x)) (De E)
def GX (f:P Ex):P Ex:=zi f [(Mc,11),(ag2,12),(ag0,13)]
def sum (f:P Ex):P Ex:=zi (GX f) [(Yf,9),(xK,10)]
def cmp (f:P Ex):P Ex:=bd (sum f) fun x=>
 acc BK (bd (sum f) fun y=>rt (jl 14 x y)) <|
 acc zNe (bd (sum f) fun y=>rt (jl 15 x y)) <|
 acc zLt (bd (sum f) fun y=>rt (jl 16 x y)) <|
 acc zLe (bd (sum f) fun y=>rt (jl 17 x y)) <|
 acc zGt (bd (sum f) fun y=>rt (jl 16 y x)) <|
 acc zGe (bd (sum f) fun y=>rt (jl 17 y x)) <|
 rt x
def Ba (f N:P Ex):P Ex:=acc Uy (bd N fun x=>rt (uh 6 x)) (cmp f)
def Gl (g:P Ex):P Ex:=zi g [(ac3,18)]
def Ck (g:P Ex):P Ex:=zi (Gl g) [(kOr,19)]
mutual
def fF:Nat->P Ex
 | 0=>fl
 | n+1=>x_ (fE n) (fF n)
def fN:Nat->P Ex
 | 0=>fl
 | n+1=>Ba (x_ (fE n) (fF n)) (fN n)
def fE:Nat->P Ex
 | 0=>fl
 | n+1=>Ck (Ba (x_ (fE n) (fF n)) (fN n))
end
theorem abf (n:Nat):fF (n+1)=x_ (fE n) (fF n):=by rw[fF]
theorem abg (n:Nat):fN (n+1)=Ba (fF (n+1)) (fN n):=by rw[fN,fF]
theorem abe (n:Nat):fE (n+1)=Ck (fN (n+1)):=by rw[fE,fN]
def kF:P Ex:=fE FU
def dD (o:Int) (nm f:ByteArray) (e:Ex):St:=.mk o nm f e zE [] zD false [] []
def qZ (o:Int):P St:=bd fP fun s=>bd kF fun e=>rt (dD o s mt e)
def y8 (o:Int) (f:ByteArray):P St:=bd fP fun s=>bd (xu kF) fun l=>bd (exp anr) fun _=>bd kF fun e=>rt (.mk o s f e zE l zD false [] [])
def cnd:P Ex:=bd kF fun e=>bd fU fun _=>rt e
def stt (B:P (List St)):P St:=
 acc adw (bd fP fun s=>bd (exp BK) fun _=>bd kF fun e=>rt (dD 1 s mt e)) <|
 acc ac8 (bd fP fun s=>bd (vL Uw) fun f=>bd dst fun d=>rt (.mk 2 s f zE zE [] d false [] [])) <|
 acc kIf (bd cnd fun e=>bd B fun b=>bd (acc Cx (bd fU fun _=>B) (rt [])) fun l=>bd (exp qD) fun _=>rt (.mk 3 mt mt e zE [] zD false b l)) <|
 acc adM (bd cnd fun e=>bd B fun b=>bd (exp qD) fun _=>rt (.mk 4 mt mt e zE [] zD false b [])) <|
 acc adf (bd kF fun e=>rt (dD 5 mt mt e)) <|
 acc adu (bd fP fun s=>bd kF fun e=>bd (exp Uz) fun _=>bd kF fun g=>bd (acc OP (rt true) (rt false)) fun b=>rt (.mk 6 s mt e g [] zD b [] [])) <|
 acc adp (qZ 7) <|
 acc adn (bd kF fun e=>bd (vL adg) fun s=>rt (dD 8 s mt e)) <|
 acc ade (bd fP fun f=>bd (vL Uw) fun s=>rt (dD 9 s f zE)) <|
 acc ads (bd fP fun s=>rt (dD 10 s mt zE)) <|
 acc adK (bd fP fun s=>rt (dD 11 s mt zE)) <|
 acc adx (qZ 12) <|
 acc adv (bd fP fun f=>bd (exp XW) fun _=>y8 13 f) <|
 acc adA (y8 14 mt) <|
 acc adl (qZ 15) <|
 acc OL (qZ 16) <|
 acc ac2 (qZ 17) <|
 acc adC (rt (dD 18 mt mt zE)) <|
 fl
def xC (S:P St):Nat->List St->P (List St)
 | 0,_=>fl
 | n+1,l=>see qD (rt l) <| see Cx (rt l) <| kd 0 (rt l) <| bd S fun x=>bd fU fun _=>xC S n (l++[x])
def fS:Nat->P (List St)
 | 0=>fl
 | n+1=>xC (stt (fS n)) FU []
def Bu:P (List St):=fS FU
def typ:P Int:=acc anx (rt 1) <| acc ant (rt 2) <| acc anC (rt 3) fl
def val:P Val:=bd fP fun s=>bd typ fun y=>bd (exp BK) fun _=>bd (if y=2 then vW else vz) fun n=>bd fU fun _=>rt ⟨s,y,n⟩
def zm:P d_:=bd fP fun s=>bd typ fun y=>rt ⟨s,y⟩
def Qd:P (List dQ×Int):=acc UA (bd yD fun l=>bd (exp anu) fun _=>bd num fun n=>rt (l.map (fun q=>⟨q.1,q.2⟩),n)) (rt ([],0))
def Ay:P (ByteArray×Dt×Dt):=acc Uv (bd fP fun s=>bd (exp kUp) fun _=>bd dst fun a=>bd (exp anv) fun _=>bd dst fun b=>rt (s,a,b)) (rt (mt,zD,zD))
def gq:P dm:=bd fP fun s=>bd num fun n=>bd Qd fun h=>bd Ay fun f=>bd fU fun _=>rt ⟨s,n,h.1,h.2,f.1,f.2.1,f.2.2⟩
def GV:P Int:=acc anw (rt 1) <| acc anA (rt 2) <| acc anz (rt 3) fl
def Fu:P iI:=bd fP fun s=>bd num fun n=>bd GV fun p=>bd fU fun _=>rt ⟨s,n,p⟩
def blt:P iF:=bd fP fun s=>bd num fun n=>bd num fun p=>bd fU fun _=>rt ⟨s,n,p⟩
def Cz:Nat->List d_->P (List d_)
 | 0,_=>fl
 | n+1,l=>acc Ux (bd zm fun x=>bd fU fun _=>Cz n (l++[x])) (rt l)
def E_:P eQ:=bd fP fun s=>bd (xu zm) fun ps=>bd fU fun _=>bd (Cz FU []) fun ls=>bd Bu fun b=>bd (exp qD) fun _=>bd fU fun _=>rt ⟨s,ps,ls,b⟩
def arg:P Int:=see AL vW <| see Cy vW vz
def Od:P (Int×Int):=acc ac_ (bd num fun a=>bd (exp anD) fun _=>bd num fun b=>rt (a,b)) (rt (0,0))
def Fq:P h_:=bd fP fun s=>bd (xu arg) fun l=>bd (exp kAt) fun _=>bd num fun a=>bd Od fun v=>bd fU fun _=>rt ⟨s,l,a,v.1,v.2⟩
def xE:P gU:=bd (kd 2 (bd num fun n=>bd (exp Mc) fun _=>rt n) (rt 1)) fun c=>bd fP fun w=>bd fP fun s=>rt ⟨c,w,s⟩
def Dp:P gU:=acc Yf xE (bd (exp xK) fun _=>bd xE fun x=>rt ⟨-x.co,x.wh,x.nm⟩)
def CV:Nat->List gU->P (List gU)
 | 0,_=>fl
 | n+1,l=>acc BK (rt l) (bd Dp fun x=>CV n (l++[x]))
def law:P Lw:=bd fP fun s=>bd (exp XT) fun _=>bd (see xK (rt []) (bd xE fun x=>rt [x])) fun l=>bd (CV FU l) fun ts=>bd vz fun n=>bd fU fun _=>rt ⟨s,ts,n⟩
def Au (x:b_):P b_:=
 acc adJ (bd val fun y=>rt { x with va:=x.va++[y] }) <|
 acc adq (bd gq fun y=>rt { x with rs:=x.rs++[y] }) <|
 acc adD (bd Fu fun y=>rt { x with st:=x.st++[y] }) <|
 acc ac4 (bd blt fun y=>rt { x with be:=x.be++[y] }) <|
 acc ado (bd ui fun y=>rt { x with qu:=x.qu++[y] }) <|
 acc adE (bd ui fun y=>rt { x with sm:=x.sm++[y] }) <|
 acc adG (bd ui fun y=>rt { x with ta:=x.ta++[y] }) <|
 acc OL (bd ui fun y=>rt { x with le:=x.le++[y] }) <|
 acc ac7 (bd ui fun y=>rt { x with co:=x.co++[y] }) <|
 acc adt (bd E_ fun y=>rt { x with ro:=x.ro++[y] }) <|
 acc adB (bd Fq fun y=>rt { x with ss:=x.ss++[y] }) <|
 acc ac5 (bd law fun y=>rt { x with la:=x.la++[y] }) <|
 fl
def Dr (s:ByteArray):b_:=⟨s,[],[],[],[],[],[],[],[],[],[],[],[]⟩
def yF:Nat->b_->P b_
 | 0,_=>fl
 | n+1,x=>acc qD (rt x) (bd (Au x) fun y=>yF n y)
def sit:P b_:=bd ui fun s=>bd (yF FU (Dr s)) fun x=>bd fU fun _=>rt x
def Km:P gz:=bd fP fun a=>bd fP fun b=>bd num fun n=>bd fU fun _=>rt ⟨a,b,n⟩
def prt (m:dx):P dx:=
 acc adm (bd val fun y=>rt { m with pa:=m.pa++[y] }) <|
 acc adh (bd Km fun y=>rt { m with li:=m.li++[y] }) <|
 acc ady (bd sit fun y=>rt { m with si:=m.si++[y] }) <|
 fl
def AZ:Nat->dx->P dx
 | 0,_=>fl
 | n+1,m=>acc qD (rt m) (bd (prt m) fun y=>AZ n y)
def vK:P dx:=bd (vL GD) fun s=>bd fU fun _=>bd (AZ FU ⟨s,[],[],[]⟩) fun m=>bd fU fun _=>bd q_ fun _=>rt m
def vM:P (List St):=bd Bu fun l=>bd q_ fun _=>rt l
def Bb:P Ex:=bd kF fun e=>bd fU fun _=>bd q_ fun _=>rt e
end Ps
namespace Lx
open Nu
open Go.RowKit
set_option maxHeartbeats 1000000
theorem oG {k:IntKind} {a b:Int} (h:a=b):Ending.returned (.int k a)=.returned (.int k b):=by rw[h]
theorem iB {a b:Bool} (h:a=b):Ending.returned (.bool a)=.returned (.bool b):=by rw[h]
def Gives (v:Value) (w:af) (e:Ending) (w':af):Prop:=e=.returned v/\ah w.heap.size w w'
theorem abO {v u:Value} {w w1:af} (h:u=v) (hb:ah w.heap.size w w1):Gives u w (.returned v) w1:=⟨by rw[h],hb⟩
theorem below_drewN {B:Nat} {a w:af} (h:ah B a w) (n:Nat):ah B a (w.drewN n):=⟨h.os,h.tape,h.output,h.size,h.block⟩
section
variable {a w w2:af}
theorem ji {o:Obj} (h:ah a.heap.size a w):ah a.heap.size a (w.alloc o):=h.alloc h.size o
theorem wF {n:Nat} (h:ah a.heap.size a w):ah a.heap.size a (w.drewN n):=below_drewN h n
theorem qB (h:ah a.heap.size a w):ah a.heap.size a w.drew:=h.drew
theorem y_ {p:Addr} (h:ah a.heap.size a w) (hp:a.heap.size<=p.block) (u:Value):ah a.heap.size a (w.setCell p u):=h.setCell hp u
theorem tT (h:ah a.heap.size a w) (hb:ah w.heap.size w w2):ah a.heap.size a w2:=h.trans (hb.mono h.size)
end
theorem clash {x:Bool} (h:x=true) (g:x=false):False:=by rw[h] at g;cases g
theorem vo {a b:ByteArray} (h:bs a=bs b):(a.toList==b.toList)=true:=by rw[jO h];simp
theorem xZ {a b:ByteArray} (h:¬bs a=bs b):(a.toList==b.toList)=false:=by
 rw[beq_eq_false_iff_ne,Lib.toList_data,Lib.toList_data];exact h
theorem FZ (b o j:Nat):(⟨b,o,ai⟩:Addr).add j=⟨b,o+j,ai⟩:=by unfold Addr.add;split <;> simp_all
def c4 (x:Tk) (r:Nat):Value:=match r with
 | 0=>.int .i64 x.k
 | 1=>.string x.t
 | 2=>.int .i64 x.n
 | _=>.int .i64 x.l
def jQ (w:af) (g o:Nat) (x:Tk):Prop:=w.cell? ⟨g,o,ai⟩=ak (.int .i64 x.k)/\w.cell? ⟨g,o+1,ai⟩=ak (.string x.t)/\w.cell? ⟨g,o+2,ai⟩=ak (.int .i64 x.n)/\w.cell? ⟨g,o+3,ai⟩=ak (.int .i64 x.l)
theorem jQ.on {w w2:af} {g o:Nat} {x:Tk} (hb:ah w.heap.size w w2) (hg:g<w.heap.size) (h:jQ w g o x):jQ w2 g o x:=by
 obtain⟨h0,h1,h2,h3⟩:=h;exact⟨(hb.cell (p:=⟨g,o,ai⟩) hg).trans h0,(hb.cell (p:=⟨g,o+1,ai⟩) hg).trans h1,(hb.cell (p:=⟨g,o+2,ai⟩) hg).trans h2,(hb.cell (p:=⟨g,o+3,ai⟩) hg).trans h3⟩
theorem ajK {w:af} {g o r:Nat} {x:Tk} (h:jQ w g o x) (hr:r<4):w.cell? ⟨g,o+r,ai⟩=ak (c4 x r):=by
 obtain⟨h0,h1,h2,h3⟩:=h
 match r,hr with
 | 0,_=>exact h0
 | 1,_=>exact h1
 | 2,_=>exact h2
 | 3,_=>exact h3
theorem NK {w:af} {g o:Nat} {x:Tk} (h:∀r,r<4->w.cell? ⟨g,o+r,ai⟩=ak (c4 x r)):jQ w g o x:=
 ⟨h 0 (by omega),h 1 (by omega),h 2 (by omega),h 3 (by omega)⟩
def flat:List Tk->List Value
 | []=>[]
 | x::t=>.int .i64 x.k::.string x.t::.int .i64 x.n::.int .i64 x.l::flat t
theorem TH:∀l:List Tk,(flat l).length=l.length*4
 | []=>rfl
 | x::t=>by simp only[flat,List.length_cons,TH t];omega
theorem abo:∀a b:List Tk,flat (a++b)=flat a++flat b
 | [],b=>rfl
 | x::t,b=>by simp only[List.cons_append,flat,abo t b]
theorem flat_get:∀{l:List Tk} {i r:Nat} (h:i<l.length),r<4->(flat l)[i*4+r]?=ak (c4 l[i] r)
 | [],i,r,h,_=>absurd h (Nat.not_lt_zero _)
 | x::t,0,r,_,hr=>by
  match r,hr with
  | 0,_=>rfl
  | 1,_=>rfl
  | 2,_=>rfl
  | 3,_=>rfl
 | x::t,i+1,r,h,hr=>by
  have e:(i+1)*4+r=(i*4+r)+1+1+1+1:=by omega
  rw[e];simp only[flat,List.getElem?_cons_succ,List.getElem_cons_succ];exact flat_get (l:=t) (by simpa using h) hr
theorem abp:∀l:List Tk,∀u∈flat l,u.oneCell'=true
 | [],u,hu=>by cases hu
 | x::t,u,hu=>by
  simp only[flat,List.mem_cons] at hu;rcases hu with rfl|rfl|rfl|rfl|hu
  · rfl
  · rfl
  · rfl
  · rfl
  · exact abp t u hu
def j4 (w:af) (p:Option Addr) (n:Nat) (l:List Tk):Prop:=
 l.length=n/\n<=9223372036854775807/\(n=0∨∃b o,p=ak ⟨b,o,ai⟩/\b<w.heap.size/\Hid (∀i,(h:i<l.length)->jQ w b (o+i*4) l[i]))
theorem j4.on {w w2:af} {p:Option Addr} {n:Nat} {l:List Tk} (hb:ah w.heap.size w w2) (h:j4 w p n l):j4 w2 p n l:=by
 obtain⟨h0,hl,h|⟨b,o,rfl,h1,h2⟩⟩:=h
 · exact⟨h0,hl,.inl h⟩
 · exact⟨h0,hl,.inr ⟨b,o,rfl,Nat.lt_of_lt_of_le h1 hb.size,av fun i hi=>jQ.on hb h1 (h2.out i hi)⟩⟩
theorem j4.alloc {w:af} {o:Obj} {p:Option Addr} {n:Nat} {l:List Tk} (h:j4 w p n l):j4 (w.alloc o) p n l:=h.on ((aj _ _).alloc (ax _) o)
theorem j4.drew {w:af} {p:Option Addr} {n:Nat} {l:List Tk} (h:j4 w p n l):j4 w.drew p n l:=h
theorem j4.drewN {w:af} {p:Option Addr} {n:Nat} {l:List Tk} (h:j4 w p n l) (m:Nat):j4 (w.drewN m) p n l:=h
theorem j4.nil {w:af} {p:Option Addr}:j4 w p 0 []:=⟨rfl,by omega,.inl rfl⟩
abbrev Own (lo:Nat) (w:af) (v:Value) (l:List Tk):Prop:=w.ownsRow lo 135 4 v l.length (flat l)
theorem own_below {lo:Nat} {w w2:af} {v:Value} {l:List Tk} (h:Own lo w v l) (hb:ah w.heap.size w w2):Own lo w2 v l:=
 World.ownsRow.kept h (row:=ai) ⟨hb.os,hb.tape,hb.output,hb.size,fun k hk _=>hb.block k hk⟩ (by cases v.ownBlock <;> simp)
theorem EN {lo:Nat} {w:af} {v:Value} {l:List Tk} (h:Own lo w v l):∃p c,v=.slice p l.length c/\j4 w p l.length l/\l.length<=c/\((p=ai/\c=0)∨∃g,p=ak ⟨g,0,ai⟩/\lo<=g):=by
 have h':=h;rcases h'.2 with⟨rfl,h0⟩|⟨g,cap,cur,rfl,hg,Gw,hc,hm,h5,h6⟩
 · have:l=[]:=List.length_eq_zero_iff.1 h0;subst this;exact⟨ai,0,rfl,j4.nil,ax _,.inl ⟨rfl,rfl⟩⟩
 · refine⟨_,_,rfl,⟨rfl,?_,?_⟩,hc,.inr ⟨g,rfl,hg⟩⟩
   · unfold maxLen at hm;omega
   · refine .inr ⟨g,0,rfl,(h.lt g rfl).2,av fun i hi=>NK fun r hr=>?_⟩;rw[h.cellAt (0+i*4+r) (by omega),Nat.zero_add,flat_get hi hr]
theorem apx {o:Option TypeInfo} {z:Value} {s b:Nat} (h:o.map (fun i=>(i.zero,i.size,i.bytes))=ak (ak z,s,b)):∃i,o=ak i/\i.zero=ak z/\i.size=s/\i.bytes=b:=by
 cases o with
 | none=>cases h
 | some i=>simp only[Option.map_some,Option.some.injEq,Prod.mk.injEq] at h;exact⟨i,rfl,h.1,h.2.1,h.2.2⟩
theorem asc:(Tryz.prog.info? 135).map (fun i=>(i.zero,i.size,i.bytes))=ak (ak (.agg #[.int .i64 0,.string ⟨#[]⟩,.int .i64 0,.int .i64 0]),4,40):=by kernel_rfl
theorem RZ {lo:Nat} {w:af} {v:Value} {l:List Tk} (hown:Own lo w v l) {b:Nat} {x:Tk} (hb:b<w.heap.size) (hx:jQ w b 0 x) (hn:l.length<=1000000) (hlo:lo<=w.heap.size) :
 ∃v' w',(Builtin.append_ #[81,81] 81 #[v,.slice (ak ⟨b,0,ai⟩) 1 1]).run ae w=.ok v' w'/\Own lo w' v' (l++[x])/\w.grownBy w' v.ownBlock:=by
 obtain⟨i0,hi0,hz0,hz1,hz2⟩:=apx asc;have hnews:∀j u,(flat [x])[j]?=ak u->w.cell? ((⟨b,0,ai⟩:Addr).add j)=ak u:=by
  intro j u hu;have hj:j<4:=by
   have:=(List.getElem?_eq_some_iff.1 hu).1;rwa [TH] at this
  have h2:=flat_get (l:=[x]) (i:=0) (r:=j) (by simp) hj;rw[Nat.zero_mul,Nat.zero_add,hu] at h2;rw[FZ,ajK hx hj];exact h2.symm
 obtain⟨v',w',hrun,h2,h3,-,-⟩:=run_append_own_at (P:=ae) w lo 81 81 135 i0 _ 4 40 Tryz.underlying81 hi0 hz0 hz1 hz2 rfl (by omega) v l.length _ hown ⟨b,0,ai⟩ 1 1 (flat [x]) (TH _) hnews (abp _)
  (by unfold maxLen;omega) (by omega) hlo
 rw[← abo] at h2;refine⟨v',w',hrun,?_,h3⟩
 show w'.ownsRow lo 135 4 v' (l++[x]).length _
 rw[List.length_append];exact h2
theorem A_ {w:af} {x:Tk} {t:TypeId}:jQ (w.alloc (.cells #[.int .i64 x.k,.string x.t,.int .i64 x.n,.int .i64 x.l] t)) w.heap.size 0 x:=by
 refine NK fun r hr=>?_;rw[World.cell?_alloc_mark,Nat.zero_add]
 match r,hr with
 | 0,_=>rfl
 | 1,_=>rfl
 | 2,_=>rfl
 | 3,_=>rfl
theorem below_grown {lo:Nat} {a w w':af} {v:Value} {l:List Tk} (hB:ah lo a w) (hlo:lo<=w.heap.size) (ho:Own lo w v l) (hg:w.grownBy w' v.ownBlock):ah lo a w':=hB.grown hg hlo fun k hk=>(ho.lt k hk).1
theorem anG {w w':af} {lo:Nat} {v:Value} {l:List Tk} {k:Nat} {s:ByteArray} {pos:Nat} (ho:Own lo w v l) (hg:w.grownBy w' v.ownBlock) (hk:w.heap[k]?=ak (.stringIter s pos)):w'.heap[k]?=ak (.stringIter s pos):=by
 have hlt:k<w.heap.size:=(Array.getElem?_eq_some_iff.1 hk).1;rw[hg.block k hlt ?_]
 · exact hk
 · intro e;rcases ho.2 with⟨rfl,h0⟩|⟨g,cap,cur,rfl,hgg,Gw,-⟩
   · simp[Value.ownBlock] at e
   · simp[Value.ownBlock] at e
     subst e;rw[hk] at Gw;cases Gw
end Lx
namespace Lx
open Nu
open Go.RowKit
set_option maxHeartbeats 1000000
theorem amI (s:ByteArray) (p:Nat) (h:p<s.size):s.get! p=s[p]'h:=by
 simp[ByteArray.get!,getElem!_pos,h]
 rfl
theorem LU {p:Prop} (h:p:=by
 exact⟨ax _,h,fun j h1 h2=>by omega⟩
 ):p:=h
theorem Ch (s:ByteArray) (pos:Nat) (h:pos<s.size):1<=(Utf8.decode s pos).2/\pos+(Utf8.decode s pos).2<=s.size/\∀j,1<=j->j<(Utf8.decode s pos).2->(g:pos+j<s.size)->128<=(s[pos+j]'g).toNat:=by
 have key:∀k,(decide (pos+k<s.size)&&(s.get! (pos+k)).toNat / 64==2)=true->pos+k<s.size/\((g:pos+k<s.size)->128<=(s[pos+k]'g).toNat):=by
  intro k hk;simp only[ag,decide_eq_true_eq,beq_iff_eq] at hk;refine⟨hk.1,fun g=>?_⟩;have:=hk.2;rw[amI s _ g] at this;omega
 unfold Utf8.decode;simp only
 split
 · exact LU
 split
 · rename_i h2
   have h2':=(ag _ _▸h2:_/\_).2;obtain⟨a1,b1⟩:=key 1 h2'
   split
   · refine⟨by omega,a1,fun j hj1 hj2 g=>?_⟩;have hj2:j<2:=hj2;obtain rfl:j=1:=by omega
     exact b1 g
   · exact LU
 split
 · rename_i h2
   simp only[ag] at h2;obtain⟨a1,b1⟩:=key 1 (by simpa using h2.1.2);obtain⟨a2,b2⟩:=key 2 (by simpa using h2.2)
   split
   · refine⟨by omega,a2,fun j hj1 hj2 g=>?_⟩;have hj2:j<3:=hj2;rcases (by omega:j=1∨j=2) with rfl|rfl
     · exact b1 g
     · exact b2 g
   · exact LU
 split
 · rename_i h2
   simp only[ag] at h2;obtain⟨a1,b1⟩:=key 1 (by simpa using h2.1.1.2);obtain⟨a2,b2⟩:=key 2 (by simpa using h2.1.2);obtain⟨a3,b3⟩:=key 3 (by simpa using h2.2)
   split
   · refine⟨by omega,a3,fun j hj1 hj2 g=>?_⟩;have hj2:j<4:=hj2;rcases (by omega:j=1∨j=2∨j=3) with rfl|rfl|rfl
     · exact b1 g
     · exact b2 g
     · exact b3 g
   · exact LU
 · exact LU
structure Fair (P:Int->Bool) (p:UInt8->Bool):Prop where
 low:∀c:UInt8,p c=P (c.toNat:Int)
 high:∀x:Int,128<=x->P x=P 128
theorem TA:Fair mO ko:=⟨fun _=>rfl,fun x hx=>by unfold mO;rw[decide_eq_false (by omega:¬x<=122),Bool.and_false];decide⟩
theorem Tz:Fair nk kK:=⟨fun _=>rfl,fun x hx=>by unfold nk;rw[decide_eq_false (by omega:¬x<=57),Bool.and_false];decide⟩
theorem abj:Fair DN nW:=⟨fun _=>rfl,fun x hx=>by unfold DN;rw[TA.high x hx,Tz.high x hx,decide_eq_false (by omega:¬x=95)];decide⟩
theorem abh:Fair EC f_:=⟨fun _=>rfl,fun x hx=>by unfold EC;rw[decide_eq_false (by omega:¬x=10)];decide⟩
def All (p:UInt8->Bool) (l:List UInt8) (k:Nat):Prop:=∀j,j<k->(h:j<l.length)->p l[j]=true
theorem Om {P:Int->Bool} {p:UInt8->Bool} (F:Fair P p) {s:ByteArray} {pos:Nat} (h:pos<s.size) (hA:All p (bs s) pos) (e:P ((Utf8.decode s pos).1:Int)=true):All p (bs s) (pos+(Utf8.decode s pos).2):=by
 intro j hj hl;rcases Nat.lt_or_ge j pos with h1|h1
 · exact hA j h1 hl
 rw[eG] at hl;by_cases ha:(s[pos]'h).toNat<128
 · rw[decode_ascii s pos h ha] at e hj;have hj:j<pos+1:=hj;obtain rfl:j=pos:=by omega
   rw[F.low];exact e
 · have e1:=decode_high s pos h (by omega);rw[F.high _ (by have:=e1.1;omega)] at e;have hb:128<=(s[j]'hl).toNat:=by
    obtain⟨i,rfl⟩:∃i,j=pos+i:=⟨j-pos,by omega⟩
    by_cases hi:i=0
    · subst hi;simp only[Nat.add_zero];omega
    · exact(Ch s pos h).2.2 i (by omega) (by omega) hl
   rw[F.low]
   show P (((s[j]'hl).toNat:Nat):Int)=true
   rw[F.high _ (by omega)];exact e
theorem Ol {P:Int->Bool} {p:UInt8->Bool} (F:Fair P p) {s:ByteArray} {pos:Nat} (h:pos<s.size) (hA:All p (bs s) pos) (e:P ((Utf8.decode s pos).1:Int)=false):dz p (bs s)=pos:=by
 refine afc (by rw[eG];exact h) hA ?_;rw[F.low]
 show P (((s[pos]'h).toNat:Nat):Int)=false
 by_cases ha:(s[pos]'h).toNat<128
 · rw[decode_ascii s pos h ha] at e;exact e
 · have e1:=decode_high s pos h (by omega);rw[F.high _ (by have:=e1.1;omega)] at e;rw[F.high _ (by omega)];exact e
theorem al6 {p:UInt8->Bool} {s:ByteArray} {pos:Nat} (h:s.size<=pos) (hA:All p (bs s) pos):dz p (bs s)=s.size:=by
 rw[afa fun j hj=>hA j (by rw[eG] at hj;omega) hj,eG]
theorem Hl {p:Prop} (h:p:=by
 go_wp2_with fail;go_ret;exact⟨rfl,rfl⟩
 ):p:=h
theorem Kh (x:Int) (w:af):au ae 177 #[.int .i32 x] w fun e w'=>e=.returned (.bool (mO x))/\w'=w:=by
 unfold mO;by_cases h1:97<=x
 · have t1:decide (97<=x)=true:=decide_eq_true h1;by_cases h2:x<=122
   · have t2:decide (x<=122)=true:=decide_eq_true h2;rw[t1,t2];go_enter Tryz.func177,Tryz.ntmps177;exact Hl
   · have t2:decide (x<=122)=false:=decide_eq_false h2;rw[t1,t2];go_enter Tryz.func177,Tryz.ntmps177;exact Hl
 · have t1:decide (97<=x)=false:=decide_eq_false h1;rw[t1,Bool.false_and];go_enter Tryz.func177,Tryz.ntmps177;exact Hl
theorem Ju (x:Int) (w:af):au ae 149 #[.int .i32 x] w fun e w'=>e=.returned (.bool (nk x))/\w'=w:=by
 unfold nk;by_cases h1:48<=x
 · have t1:decide (48<=x)=true:=decide_eq_true h1;by_cases h2:x<=57
   · have t2:decide (x<=57)=true:=decide_eq_true h2;rw[t1,t2];go_enter Tryz.func149,Tryz.ntmps149;exact Hl
   · have t2:decide (x<=57)=false:=decide_eq_false h2;rw[t1,t2];go_enter Tryz.func149,Tryz.ntmps149;exact Hl
 · have t1:decide (48<=x)=false:=decide_eq_false h1;rw[t1,Bool.false_and];go_enter Tryz.func149,Tryz.ntmps149;exact Hl
theorem zw {x:Int} {b:Bool} (h:mO x=b) (w:af):au ae 177 #[.int .i32 x] w fun e w'=>e=.returned (.bool b)/\w'=w:=by rw[← h];exact Kh x w
theorem Gq {x:Int} {b:Bool} (h:nk x=b) (w:af):au ae 149 #[.int .i32 x] w fun e w'=>e=.returned (.bool b)/\w'=w:=by rw[← h];exact Ju x w
theorem acJ (x:Int) (w:af):au ae 178 #[.int .i32 x] w fun e w'=>e=.returned (.bool (DN x))/\w'=w:=by
 unfold DN
 cases h1:mO x with
 | true=>
  have I1:=zw h1 w;go_enter Tryz.func178,Tryz.ntmps178;go_wp2_with (go_at_call 177;refine I1.mono ?_;rintro e w1 ⟨rfl,rfl⟩)
  go_ret;exact⟨rfl,rfl⟩
 | false=>
  have I1:=zw h1 w
  cases h2:nk x with
  | true=>
   have I2:=Gq h2 w;go_enter Tryz.func178,Tryz.ntmps178;go_wp2_with (first|(go_at_call 177;refine I1.mono ?_;rintro e w1 ⟨rfl,rfl⟩)|(go_at_call 149;refine I2.mono ?_;rintro e w1 ⟨rfl,rfl⟩))
   go_ret;exact⟨rfl,rfl⟩
  | false=>
   have I2:=Gq h2 w;go_enter Tryz.func178,Tryz.ntmps178;go_wp2_with (first|(go_at_call 177;refine I1.mono ?_;rintro e w1 ⟨rfl,rfl⟩)|(go_at_call 149;refine I2.mono ?_;rintro e w1 ⟨rfl,rfl⟩))
   go_ret;exact⟨iB (by by_cases h:x=95 <;> simp[h]),rfl⟩
theorem acI (x:Int) (w:af):au ae 100 #[.int .i32 x] w fun e w'=>e=.returned (.bool (EC x))/\w'=w:=by
 have HD:Hid (EC x = !decide (x=10)):=av rfl;go_enter Tryz.func100,Tryz.ntmps100;go_wp2_with fail;go_ret;exact⟨iB (by rw[HD.out];by_cases h:x=10 <;> simp[h]),rfl⟩
theorem Qt {p:Prop} (h:p:=by
 rw[hv] at I1;clear HY HN hv;go_wp2_with fail;refine I1.mono ?_;rintro e w1 ⟨rfl,rfl⟩;go_wp2_with fail;go_roundw
 case rel=>exact⟨pos+M,m2,rfl,BS⟩
 case measure=>simp only[World.iterPos_iter];omega
 ):p:=h
theorem Qu {p:Prop} (h:p:=by
 have hnx:=fun ty=>run_next_end (P:=ae) w s pos ty h;have HR:=av (al6 (by omega) HA.out);go_wp2_with fail;go_ret;exact⟨oG (by rw[HR.out]),hbl⟩
 ):p:=h
theorem Qv {p:Prop} (h:p:=by
 rw[hv] at I1;clear HY HN hv;go_wp2_with fail;refine I1.mono ?_;rintro e w1 ⟨rfl,rfl⟩;go_wp2_with fail;go_ret;exact⟨oG (by rw[HR.out]),OD⟩
 ):p:=h
theorem arq (s:ByteArray) (w:af) (hs:s.size<=9223372036854775807):au ae 99 #[.string s,.func (.func 177) #[] #[]] w (Gives (.int .i64 ((dz ko (bs s):Nat):Int)) w):=by
 have hs':(s.size:Int)<=9223372036854775807:=by omega
 go_enter Tryz.func99,Tryz.ntmps99;go_wp2_with fail;go_loopw [] (fun wr=>∃pos:Nat,pos<=s.size/\wr=w.iter s pos/\Hid (All ko (bs s) pos)) (fun wr=>s.size-wr.iterPos w.heap.size)
 case atStart=>exact⟨0,ay _,rfl,av fun j hj=>absurd hj (Nat.not_lt_zero _)⟩
 case round=>
  obtain⟨pos,hp,rfl,HA⟩:=hrel;have hbl:ah w.heap.size w (w.iter s pos):=ji (aj _ _);by_cases h:pos<s.size
  · have hnx:=fun ty=>run_next_any (P:=ae) w s pos ty h;have hd:=decode_le s pos;obtain⟨m1,m2,-⟩:=Ch s pos h;have HY:=av (fun e=>Om TA h HA.out e);have HN:=av (fun e=>Ol TA h HA.out e);obtain⟨R,hR⟩:∃R,(Utf8.decode s pos).1=R:=⟨_,rfl⟩
    obtain⟨M,hM⟩:∃M,(Utf8.decode s pos).2=M:=⟨_,rfl⟩
    rw[hR] at hd HY HN;rw[hM] at m1 m2 HY;simp only[hR,hM] at hnx;clear hR hM;have OD:ah w.heap.size w (w.iter s (pos+M)):=ji (aj _ _)
    cases hv:mO (R:Int) with
    | true=>
     have BS:=av (HY.out hv);have I1:=Kh (R:Int) (w.iter s (pos+M));exact Qt
    | false=>
     have HR:=av (HN.out hv);have I1:=Kh (R:Int) (w.iter s (pos+M));exact Qv
  · exact Qu
theorem arn (s:ByteArray) (w:af) (hs:s.size<=9223372036854775807):au ae 99 #[.string s,.func (.func 149) #[] #[]] w (Gives (.int .i64 ((dz kK (bs s):Nat):Int)) w):=by
 have hs':(s.size:Int)<=9223372036854775807:=by omega
 go_enter Tryz.func99,Tryz.ntmps99;go_wp2_with fail;go_loopw [] (fun wr=>∃pos:Nat,pos<=s.size/\wr=w.iter s pos/\Hid (All kK (bs s) pos)) (fun wr=>s.size-wr.iterPos w.heap.size)
 case atStart=>exact⟨0,ay _,rfl,av fun j hj=>absurd hj (Nat.not_lt_zero _)⟩
 case round=>
  obtain⟨pos,hp,rfl,HA⟩:=hrel;have hbl:ah w.heap.size w (w.iter s pos):=ji (aj _ _);by_cases h:pos<s.size
  · have hnx:=fun ty=>run_next_any (P:=ae) w s pos ty h;have hd:=decode_le s pos;obtain⟨m1,m2,-⟩:=Ch s pos h;have HY:=av (fun e=>Om Tz h HA.out e);have HN:=av (fun e=>Ol Tz h HA.out e);obtain⟨R,hR⟩:∃R,(Utf8.decode s pos).1=R:=⟨_,rfl⟩
    obtain⟨M,hM⟩:∃M,(Utf8.decode s pos).2=M:=⟨_,rfl⟩
    rw[hR] at hd HY HN;rw[hM] at m1 m2 HY;simp only[hR,hM] at hnx;clear hR hM;have OD:ah w.heap.size w (w.iter s (pos+M)):=ji (aj _ _)
    cases hv:nk (R:Int) with
    | true=>
     have BS:=av (HY.out hv);have I1:=Ju (R:Int) (w.iter s (pos+M));exact Qt
    | false=>
     have HR:=av (HN.out hv);have I1:=Ju (R:Int) (w.iter s (pos+M));exact Qv
  · exact Qu
theorem ars (s:ByteArray) (w:af) (hs:s.size<=9223372036854775807):au ae 99 #[.string s,.func (.func 178) #[] #[]] w (Gives (.int .i64 ((dz nW (bs s):Nat):Int)) w):=by
 have hs':(s.size:Int)<=9223372036854775807:=by omega
 go_enter Tryz.func99,Tryz.ntmps99;go_wp2_with fail;go_loopw [] (fun wr=>∃pos:Nat,pos<=s.size/\wr=w.iter s pos/\Hid (All nW (bs s) pos)) (fun wr=>s.size-wr.iterPos w.heap.size)
 case atStart=>exact⟨0,ay _,rfl,av fun j hj=>absurd hj (Nat.not_lt_zero _)⟩
 case round=>
  obtain⟨pos,hp,rfl,HA⟩:=hrel;have hbl:ah w.heap.size w (w.iter s pos):=ji (aj _ _);by_cases h:pos<s.size
  · have hnx:=fun ty=>run_next_any (P:=ae) w s pos ty h;have hd:=decode_le s pos;obtain⟨m1,m2,-⟩:=Ch s pos h;have HY:=av (fun e=>Om abj h HA.out e);have HN:=av (fun e=>Ol abj h HA.out e);obtain⟨R,hR⟩:∃R,(Utf8.decode s pos).1=R:=⟨_,rfl⟩
    obtain⟨M,hM⟩:∃M,(Utf8.decode s pos).2=M:=⟨_,rfl⟩
    rw[hR] at hd HY HN;rw[hM] at m1 m2 HY;simp only[hR,hM] at hnx;clear hR hM;have OD:ah w.heap.size w (w.iter s (pos+M)):=ji (aj _ _)
    cases hv:DN (R:Int) with
    | true=>
     have BS:=av (HY.out hv);have I1:=acJ (R:Int) (w.iter s (pos+M));exact Qt
    | false=>
     have HR:=av (HN.out hv);have I1:=acJ (R:Int) (w.iter s (pos+M));exact Qv
  · exact Qu
theorem aro (s:ByteArray) (w:af) (hs:s.size<=9223372036854775807):au ae 99 #[.string s,.func (.func 100) #[] #[]] w (Gives (.int .i64 ((dz f_ (bs s):Nat):Int)) w):=by
 have hs':(s.size:Int)<=9223372036854775807:=by omega
 go_enter Tryz.func99,Tryz.ntmps99;go_wp2_with fail;go_loopw [] (fun wr=>∃pos:Nat,pos<=s.size/\wr=w.iter s pos/\Hid (All f_ (bs s) pos)) (fun wr=>s.size-wr.iterPos w.heap.size)
 case atStart=>exact⟨0,ay _,rfl,av fun j hj=>absurd hj (Nat.not_lt_zero _)⟩
 case round=>
  obtain⟨pos,hp,rfl,HA⟩:=hrel;have hbl:ah w.heap.size w (w.iter s pos):=ji (aj _ _);by_cases h:pos<s.size
  · have hnx:=fun ty=>run_next_any (P:=ae) w s pos ty h;have hd:=decode_le s pos;obtain⟨m1,m2,-⟩:=Ch s pos h;have HY:=av (fun e=>Om abh h HA.out e);have HN:=av (fun e=>Ol abh h HA.out e);obtain⟨R,hR⟩:∃R,(Utf8.decode s pos).1=R:=⟨_,rfl⟩
    obtain⟨M,hM⟩:∃M,(Utf8.decode s pos).2=M:=⟨_,rfl⟩
    rw[hR] at hd HY HN;rw[hM] at m1 m2 HY;simp only[hR,hM] at hnx;clear hR hM;have OD:ah w.heap.size w (w.iter s (pos+M)):=ji (aj _ _)
    cases hv:EC (R:Int) with
    | true=>
     have BS:=av (HY.out hv);have I1:=acI (R:Int) (w.iter s (pos+M));exact Qt
    | false=>
     have HR:=av (HN.out hv);have I1:=acI (R:Int) (w.iter s (pos+M));exact Qv
  · exact Qu
end Lx
namespace Lx
open Nu
open Go.RowKit
set_option maxHeartbeats 2000000
theorem aq7 {s:ByteArray} {c:List UInt8} (h:(s.toList==c)=true) (hc:Fh.contains c=true):true=iA (bs s):=by
 have e:bs s=c:=by
  have g:=eq_of_beq h;rw[Lib.toList_data] at g;exact g
 unfold iA;rw[e,hc]
theorem aq5 (s:ByteArray):iA (bs s)=Fh.any fun c=>s.toList==c:=by
 unfold iA;simp only[Lib.toList_data];rw[List.contains_eq_any_beq]
set_option maxRecDepth 100000 in
theorem aq9 (s:ByteArray) (w:af):au ae 180 #[.string s] w fun e w'=>e=.returned (.bool (iA (bs s)))/\w'=w:=by
 go_enter Tryz.func180,Tryz.ntmps180;go_wp2_with fail
 all_goals first
  | exact(clash (by assumption) (by assumption)).elim
  | (go_ret;exact⟨iB (aq7 (by assumption) (by decide)),rfl⟩)
  | (go_ret;exact⟨iB (by rw[aq5];simp only[Fh,List.any_cons,List.any_nil,Bool.or_false, *]),rfl⟩)
def xH (l:List UInt8):Nat:=if dz ko l=0 then 0 else dz nW l
theorem DT {p:Prop} (h:p:=by(repeat (first|(with_reducible exact aj _ _)|(with_reducible assumption)|(with_reducible apply ji)|(with_reducible apply wF)|(with_reducible apply qB)|(with_reducible refine y_ ?_ (by first|(simp;done)|(simp;omega)) _)|(with_reducible refine tT ?_ (by assumption))))):p:=h
theorem afY {p:Prop} (h:p:=by
 go_wp2_with fail;go_ret;exact abO (by rw[wu.out];rfl) DT
 ):p:=h
theorem asT (s:ByteArray) (w:af) (hs:s.size<=9223372036854775807):au ae 148 #[.string s] w (Gives (.int .i64 ((xH (bs s):Nat):Int)) w):=by
 have I1:=arq s w hs;have I2:=fun w1=>ars s w1 hs;have HV:Hid (xH (bs s)=if dz ko (bs s)=0 then 0 else dz nW (bs s)):=av rfl;obtain⟨K,hK⟩:∃K,dz ko (bs s)=K:=⟨_,rfl⟩
 obtain⟨M,hM⟩:∃M,dz nW (bs s)=M:=⟨_,rfl⟩
 rw[hK] at I1;simp only[hM] at I2;rw[hK,hM] at HV;clear hK hM;by_cases h:K=0
 · have wu:=av (HV.out.trans (if_pos h));subst h;clear HV;go_enter Tryz.func148,Tryz.ntmps148;go_wp2_with fail;refine I1.mono ?_;rintro e w1 ⟨rfl,hb1⟩;exact afY
 · have wu:=av (HV.out.trans (if_neg h));have q:((K:Int)==0)=false:=by rw[beq_eq_false_iff_ne];omega
   clear HV;go_enter Tryz.func148,Tryz.ntmps148;go_wp2_with fail;refine I1.mono ?_;rintro e w1 ⟨rfl,hb1⟩;go_wp2_with fail;refine(I2 w1).mono ?_;rintro e w2 ⟨rfl,hb2⟩;exact afY
theorem asU {s:ByteArray} {k:Nat} (h:xH (bs s)=k) (hs:s.size<=9223372036854775807) (w:af):au ae 148 #[.string s] w (Gives (.int .i64 (k:Int)) w):=by rw[← h];exact asT s w hs
def Bp (l:List UInt8):Nat:=if 2<=l.length/\iA (l.take 2)=true then 2 else if iA (l.take 1)=true then 1 else 0
def IE (l:List UInt8) (k m:Nat):Prop:=∀j,k<j->j<=m->iA (l.take j)=false
theorem aq3 {l:List UInt8} {k:Nat} (h0:0<k) (hk:k<=min 2 l.length) (h:IE l k (min 2 l.length)) (e:iA (l.take k)=true):Bp l=k:=by
 unfold Bp;by_cases h2:k=2
 · subst h2;rw[if_pos ⟨by omega,e⟩]
 · obtain rfl:k=1:=by omega
   rw[if_neg,if_pos e];rintro⟨g1,g2⟩;rw[h 2 (by omega) (by omega)] at g2;cases g2
theorem aq4 {l:List UInt8} (h:IE l 0 (min 2 l.length)):Bp l=0:=by
 unfold Bp;rw[if_neg,if_neg]
 · intro g;by_cases h1:l.length=0
   · have:l=[]:=List.length_eq_zero_iff.1 h1;subst this
     cases (by simpa using g:iA []=true)
   · rw[h 1 (by omega) (by omega)] at g;cases g
 · rintro⟨g1,g2⟩;rw[h 2 (by omega) (by omega)] at g2;cases g2
theorem aoR {l:List UInt8} {k m:Nat} (h:IE l (k+1) m) (e:iA (l.take (k+1))=false):IE l k m:=by
 intro j h1 h2;by_cases g:j=k+1
 · subst g;exact e
 · exact h j (by omega) h2
theorem afZ {p:Prop} (h:p:=by
 go_wp2_with fail;go_ret;exact abO (by rw[HR.out];rfl) DT
 ):p:=h
theorem aq_ (s:ByteArray) (w:af) (hs:s.size<=9223372036854775807):au ae 151 #[.string s] w (Gives (.int .i64 ((Bp (bs s):Nat):Int)) w):=by
 have hs':(s.size:Int)<=9223372036854775807:=by omega
 obtain⟨M,hM⟩:∃M,min 2 s.size=M:=⟨_,rfl⟩
 have hM2:M<=2:=by omega
 have hMs:(M:Int)<=(s.size:Int):=by omega
 have hmin:∀(ts:Array TypeId) (t:TypeId) (W:af),(Builtin.min_ ts t #[.int .i64 2,.int .i64 (s.size:Int)]).run ae W=.ok (.int .i64 (M:Int)) W:=fun ts t W=>by
  rw[run_min_int2]
  congr 2
  split <;> omega
 have HM:Hid (min 2 (bs s).length=M):=av (by rw[eG];exact hM);clear hM;go_enter Tryz.func151,Tryz.ntmps151;go_wp2_with fail;go_loop [3] (fun i=>∃k:Nat,k<=M/\i=.int .i64 (k:Nat)/\Hid (IE (bs s) k M)) (fun i=>(intOf i).toNat)
 case atStart=>exact⟨M,ax _,rfl,av fun j h1 h2=>by omega⟩
 case round=>
  obtain⟨k,hk,rfl,HN⟩:=hrel
  cases k with
  | zero=>
   have HR:=av (aq4 (by rw[HM.out];exact HN.out));exact afZ
  | succ k=>
   have c1:(0:Int)<((k+1:Nat):Int):=by omega
   have c2:((k+1:Nat):Int)<=(s.size:Int):=by omega
   have c3:((k+1:Nat):Int)-1=(k:Int):=by omega
   have hx:=Gy s (k+1);have HY:=av (fun e=>aq3 (k:=k+1) (Nat.succ_pos k) (by rw[HM.out];exact hk) (by rw[HM.out];exact HN.out) e);have HZ:=av (fun e=>aoR HN.out e);obtain⟨K,hK⟩:∃K:Nat,k+1=K:=⟨_,rfl⟩
   have I1:=aq9 (s.extract 0 K) w;rw[hK] at c1 c2 c3 hx HY HZ hk;rw[hK];rw[hx,pM,← hx] at I1;have hK1:(K:Int)-1=(k:Int):=c3;obtain⟨b,hb⟩:∃b,iA ((bs s).take K)=b:=⟨_,rfl⟩
   rw[hb] at I1 HY HZ;clear hx hb HN
   cases b with
   | true=>
    have HR:=av (HY.out rfl);clear HY HZ;go_wp2_with fail;refine I1.mono ?_;rintro e w1 ⟨rfl,rfl⟩;exact afZ
   | false=>
    have DW:=av (HZ.out rfl);clear HY HZ;go_wp2_with fail;refine I1.mono ?_;rintro e w1 ⟨rfl,rfl⟩;go_wp2_with fail;go_round
    case rel=>exact⟨k,by omega,by go_num,DW⟩
    case measure=>simp[intOf];omega
theorem aec {s:ByteArray} {v:Int}:num v=s↔bs s=Lib.itoa v:=by
 constructor
 · rintro rfl;rfl
 · intro h;exact(jO (a:=s) (b:=num v) h).symm
theorem XH {p:Prop} (h:p:=by
 go_enter Tryz.func150,Tryz.ntmps150;go_wp2_with fail;refine I1.mono ?_;rintro e w1 ⟨rfl,hb1⟩;go_wp2_with fail;go_ret2
 exact⟨rfl,hb1⟩
 ):p:=h
theorem aoZ {s:ByteArray} {v:Int} (h:xw (bs s)=ak v) (w:af) (hE:Env w):au ae 150 #[.string s] w (Gives (.tuple #[.int .i64 v,.bool true]) w):=by
 obtain⟨h0,h1,h2⟩:=Pb.1 h;have e:=aec.2 h2;have I1:=aes v (by omega) h1 w hE;rw[e] at I1;have c:decide (v<0)=false:=decide_eq_false (by omega);clear h h2 e hE;exact XH
theorem aoY {s:ByteArray} (h:xw (bs s)=ai) (hs:s.size<=140737488355328) (w:af) (hE:Env w):au ae 150 #[.string s] w (Gives (.tuple #[.int .i64 0,.bool false]) w):=by
 by_cases hv:∃v,dG v=true/\num v=s
 · obtain⟨v,hv,e⟩:=hv;obtain⟨h0,h1⟩:=acD hv;have hneg:v<0:=by
    rcases Int.lt_or_le v 0 with g|g
    · exact g
    · exact absurd (aec.1 e) (aoV.1 h v g h1)
   have I1:=aes v h0 h1 w hE;rw[e] at I1;have c:decide (v<0)=true:=decide_eq_true hneg;clear h e hE hv;exact XH
 · have I1:=apv s hs (fun v hi e=>hv ⟨v,hi,e⟩) w hE;clear h hE hv;exact XH
theorem amz {l:List UInt8} {k:Nat} (h:xH l=k) (hk:0<k):fT l=ak (⟨1,mkS (l.take k),0,0⟩,k):=by
 unfold xH at h;unfold fT;by_cases h1:dz ko l=0
 · rw[if_pos h1] at h;omega
 · rw[if_neg h1] at h ⊢; rw[h]
theorem Xo {l:List UInt8} (h:xH l=0):dz ko l=0:=by
 unfold xH at h;by_cases h1:dz ko l=0
 · exact h1
 · rw[if_neg h1] at h;obtain⟨c,t,rfl,hc⟩:=Ws h1;have:=yG (p:=nW) (t:=t) (Xq hc);omega
theorem amw {l:List UInt8} {k:Nat} {v:Int} (h:xH l=0) (h2:dz kK l=k) (hk:0<k) (e:xw (l.take k)=ak v):fT l=ak (⟨2,mt,v,0⟩,k):=by
 unfold fT;rw[if_pos (Xo h),h2,if_neg (by omega),e]
theorem amx {l:List UInt8} {k:Nat} (h:xH l=0) (h2:dz kK l=k) (hk:0<k) (e:xw (l.take k)=ai):fT l=ai:=by
 unfold fT;rw[if_pos (Xo h),h2,if_neg (by omega),e]
theorem amy {l:List UInt8} {k:Nat} (h:xH l=0) (h2:dz kK l=0) (h3:Bp l=k):fT l=if k=0 then ai else ak (⟨3,mkS (l.take k),0,0⟩,k):=by
 unfold fT;rw[if_pos (Xo h),if_pos h2];unfold Bp at h3;by_cases g1:2<=l.length/\iA (l.take 2)=true
 · rw[if_pos g1] at h3 ⊢;subst h3;rw[if_neg (by decide)]
 · rw[if_neg g1] at h3 ⊢;by_cases g2:iA (l.take 1)=true
   · rw[if_pos g2] at h3 ⊢;subst h3;rw[if_neg (by decide)]
   · rw[if_neg g2] at h3 ⊢;subst h3;rw[if_pos rfl]
def Yr (o:Option (Tk×Nat)) (w:af) (e:Ending) (w':af):Prop:=
 ∃(x:Tk) (k:Nat),e=.returned (.tuple #[.agg #[.int .i64 x.k,.string x.t,.int .i64 x.n,.int .i64 x.l],.int .i64 (k:Int)])/\ah w.heap.size w w'/\((o=ak (x,k)/\0<k)∨(o=ai/\k=0))
theorem fst_mk {o:Option (Tk×Nat)} {w w':af} {e:Ending} (a:Int) (b:ByteArray) (c:Int) (d:Int) (k:Nat) (he:e=.returned (.tuple #[.agg #[.int .i64 a,.string b,.int .i64 c,.int .i64 d],.int .i64 (k:Int)])) (hb:ah w.heap.size w w') (h:(o=ak (⟨a,b,c,d⟩,k)/\0<k)∨(o=ai/\k=0)):Yr o w e w':=⟨⟨a,b,c,d⟩,k,he,hb,h⟩
def zb (w:af) (g:Nat):Prop:=w.cell? ⟨g,0,ai⟩=ak (.int .i64 0)/\w.cell? ⟨g,1,ai⟩=ak (.string ⟨#[]⟩)/\w.cell? ⟨g,2,ai⟩=ak (.int .i64 0)/\w.cell? ⟨g,3,ai⟩=ak (.int .i64 0)/\(∀o,w.frozen? ⟨g,o,ai⟩=false)/\g<w.heap.size
theorem zb.new {w:af}:zb (w.alloc (.cells #[.int .i64 0,.string ⟨#[]⟩,.int .i64 0,.int .i64 0] 135)) w.heap.size:=by
 have h:=A_ (w:=w) (x:=⟨0,⟨#[]⟩,0,0⟩) (t:=135);exact⟨h.1,h.2.1,h.2.2.1,h.2.2.2,fun o=>frozen_of_row _ _ o _ _ (heap_alloc_new w _),by simp⟩
theorem zb.on {w w2:af} {g:Nat} (hb:ah w.heap.size w w2) (h:zb w g):zb w2 g:=by
 obtain⟨h0,h1,h2,h3,h4,h5⟩:=h;exact⟨(hb.cell (p:=⟨g,0,ai⟩) h5).trans h0,(hb.cell (p:=⟨g,1,ai⟩) h5).trans h1,(hb.cell (p:=⟨g,2,ai⟩) h5).trans h2,(hb.cell (p:=⟨g,3,ai⟩) h5).trans h3,fun o=>(hb.frozen (p:=⟨g,o,ai⟩) h5).trans (h4 o),Nat.lt_of_lt_of_le h5 hb.size⟩
theorem Qw {p:Prop} (h:p:=by simp[results,Tryz.results101,go_sem, *]):p:=h
set_option maxRecDepth 100000 in
theorem ame (s:ByteArray) (w:af) (hs:s.size<=140737488355328) (hE:Env w):au ae 101 #[.string s] w (Yr (fT (bs s)) w):=by
 have hs1:s.size<=9223372036854775807:=by omega
 have hs':(s.size:Int)<=140737488355328:=by omega
 obtain⟨K,hK⟩:∃K,xH (bs s)=K:=⟨_,rfl⟩
 have hKs:K<=s.size:=by
  rw[← hK,← eG];unfold xH
  split
  · exact ay _
  · exact zS _ _
 have I1:=asU hK hs1 (w.alloc (.cells #[.int .i64 0,.string ⟨#[]⟩,.int .i64 0,.int .i64 0] 135));have Z:=zb.new (w:=w);have hB0:ah w.heap.size w (w.alloc (.cells #[.int .i64 0,.string ⟨#[]⟩,.int .i64 0,.int .i64 0] 135)):=ji (aj _ _);have q0:(0:Int)<=(K:Int):=by omega
 have q1:(K:Int)<=(s.size:Int):=by omega
 by_cases h:0<K
 · have HF:=av (amz hK h);have hx:=Gy s K;rw[← hx] at HF;have q2:decide ((0:Int)<(K:Int))=true:=decide_eq_true (by omega);have HP:Hid (0<K):=av h;clear hK hx h hKs hE;go_enter Tryz.func101,Tryz.ntmps101;go_wp2_with fail;refine I1.mono ?_;rintro e w1 ⟨rfl,hb1⟩;have Z1:=zb.on hb1 Z;obtain⟨z0,z1,z2,z3,z4,z5⟩:=Z1;clear Z;go_wp2_with fail;exact bodyPost_ret (v:=.tuple #[.agg #[.int .i64 1,.string (s.extract 0 K),.int .i64 0,.int .i64 0],.int .i64 (K:Int)]) Qw rfl (fst_mk _ _ _ _ K rfl DT (.inl ⟨HF.out,HP.out⟩))
 · obtain rfl:K=0:=by omega
   obtain⟨D,hD⟩:∃D,dz kK (bs s)=D:=⟨_,rfl⟩
   have hDs:D<=s.size:=by rw[← hD,← eG];exact zS _ _
   have I2:=fun w1=>arn s w1 hs1;simp only[hD] at I2;have d0:(0:Int)<=(D:Int):=by omega
   have d1:(D:Int)<=(s.size:Int):=by omega
   by_cases g:0<D
   · have d2:decide ((0:Int)<(D:Int))=true:=decide_eq_true (by omega);have hx:=Gy s D;have hxs:(s.extract 0 D).size<=140737488355328:=by rw[ByteArray.size_extract];omega
     have hxb:bs (s.extract 0 D)=(bs s).take D:=by rw[hx,pM]
     cases hv:xw ((bs s).take D) with
     | some v=>
      have HF:=av (amw hK hD g hv);have HP:=av g;have I3:=fun w1 hE=>aoZ (s:=s.extract 0 D) (v:=v) (by rw[hxb];exact hv) w1 hE;clear hK hD hx hxs hxb hv h;have RD:=av fun w1 (hb:ah w.heap.size w w1)=>I3 w1 (hE.below hb);clear I3 hE;go_enter Tryz.func101,Tryz.ntmps101;go_wp2_with fail;refine I1.mono ?_;rintro e w1 ⟨rfl,hb1⟩;have Z1:=zb.on hb1 Z;clear Z;go_wp2_with fail;refine(I2 w1).mono ?_;rintro e w2 ⟨rfl,hb2⟩;have Z2:=zb.on hb2 Z1;clear Z1;go_wp2_with fail;refine(RD.out w2 DT).mono ?_;rintro e w3 ⟨rfl,hb3⟩;have Z3:=zb.on hb3 Z2;clear Z2;obtain⟨z0,z1,z2,z3,z4,z5⟩:=Z3;go_wp2_with fail;exact bodyPost_ret (v:=.tuple #[.agg #[.int .i64 2,.string (⟨#[]⟩),.int .i64 v,.int .i64 0],.int .i64 (D:Int)]) Qw rfl (fst_mk _ _ _ _ D rfl DT (.inl ⟨HF.out,HP.out⟩))
     | none=>
      have HF:=av (amx hK hD g hv);have I3:=fun w1 hE=>aoY (s:=s.extract 0 D) (by rw[hxb];exact hv) hxs w1 hE;clear hK hD hx hxs hxb hv h;have RD:=av fun w1 (hb:ah w.heap.size w w1)=>I3 w1 (hE.below hb);clear I3 hE;go_enter Tryz.func101,Tryz.ntmps101;go_wp2_with fail;refine I1.mono ?_;rintro e w1 ⟨rfl,hb1⟩;have Z1:=zb.on hb1 Z;clear Z;go_wp2_with fail;refine(I2 w1).mono ?_;rintro e w2 ⟨rfl,hb2⟩;have Z2:=zb.on hb2 Z1;clear Z1;go_wp2_with fail;refine(RD.out w2 DT).mono ?_;rintro e w3 ⟨rfl,hb3⟩;have Z3:=zb.on hb3 Z2;clear Z2;obtain⟨z0,z1,z2,z3,z4,z5⟩:=Z3;go_wp2_with fail;exact bodyPost_ret (v:=.tuple #[.agg #[.int .i64 0,.string (⟨#[]⟩),.int .i64 0,.int .i64 0],.int .i64 0]) Qw rfl (fst_mk _ _ _ _ 0 rfl DT (.inr ⟨HF.out,rfl⟩))
   · obtain rfl:D=0:=by omega
     obtain⟨G,hG⟩:∃G,Bp (bs s)=G:=⟨_,rfl⟩
     have hGs:G<=s.size:=by
      rw[← hG,← eG];unfold Bp
      split
      · omega
      · split
        · rename_i g2
          have:=acK g2;rw[List.length_take] at this;omega
        · omega
     have HF:=amy hK hD hG;have hx:=Gy s G;rw[← hx] at HF;have HF':=av HF;have I3:=fun w1=>aq_ s w1 hs1;simp only[hG] at I3;have g0:(0:Int)<=(G:Int):=by omega
     have g1:(G:Int)<=(s.size:Int):=by omega
     clear hK hD hG hx HF g h hE hGs;go_enter Tryz.func101,Tryz.ntmps101;go_wp2_with fail;refine I1.mono ?_;rintro e w1 ⟨rfl,hb1⟩;have Z1:=zb.on hb1 Z;clear Z;go_wp2_with fail;refine(I2 w1).mono ?_;rintro e w2 ⟨rfl,hb2⟩;have Z2:=zb.on hb2 Z1;clear Z1;go_wp2_with fail;refine(I3 w2).mono ?_;rintro e w3 ⟨rfl,hb3⟩;have Z3:=zb.on hb3 Z2;clear Z2;obtain⟨z0,z1,z2,z3,z4,z5⟩:=Z3;go_wp2_with fail;exact bodyPost_ret (v:=.tuple #[.agg #[.int .i64 3,.string (s.extract 0 G),.int .i64 0,.int .i64 0],.int .i64 (G:Int)]) Qw rfl (fst_mk _ _ _ _ G rfl DT (by
      have h:=HF'.out;by_cases e:G=0
      · rw[if_pos e] at h;exact .inr ⟨h,e⟩
      · rw[if_neg e] at h;exact .inl ⟨h,by omega⟩))
end Lx
namespace Lx
open Nu
open Go.RowKit
set_option maxHeartbeats 2000000
def ow (x:Tk):Bool:=if x.k=1 then AJ (bs x.t)&&decide (x.n=0) else if x.k=2 then decide (x.t.size=0)&&(decide (0<=x.n)&&decide (x.n<=1000000000000)) else if x.k=3 then iA (bs x.t)&&decide (x.n=0) else decide (x.n=0)&&decide (x.t.size=0)
def jg (w':af) (g:Nat) (k:Int) (t:ByteArray) (n ln:Int):Prop:=w'.cell? ⟨g,0,ai⟩=ak (.int .i64 k)/\w'.cell? ⟨g,1,ai⟩=ak (.string t)/\w'.cell? ⟨g,2,ai⟩=ak (.int .i64 n)/\w'.cell? ⟨g,3,ai⟩=ak (.int .i64 ln)
theorem jg.new {w:af} {k:Int} {t:ByteArray} {n ln:Int}:jg (w.alloc (.cells #[.int .i64 k,.string t,.int .i64 n,.int .i64 ln] 135)) w.heap.size k t n ln:=by
 have h:=A_ (w:=w) (x:=⟨k,t,n,ln⟩) (t:=135);exact⟨h.1,h.2.1,h.2.2.1,h.2.2.2⟩
theorem jg.on {w w2:af} {g:Nat} {k:Int} {t:ByteArray} {n ln:Int} (hb:ah w.heap.size w w2) (hg:g<w.heap.size) (h:jg w g k t n ln):jg w2 g k t n ln:=by
 obtain⟨h0,h1,h2,h3⟩:=h;exact⟨(hb.cell (p:=⟨g,0,ai⟩) hg).trans h0,(hb.cell (p:=⟨g,1,ai⟩) hg).trans h1,(hb.cell (p:=⟨g,2,ai⟩) hg).trans h2,(hb.cell (p:=⟨g,3,ai⟩) hg).trans h3⟩
theorem jg.drew {w:af} {g:Nat} {k:Int} {t:ByteArray} {n ln:Int} (h:jg w g k t n ln):jg w.drew g k t n ln:=h
theorem jg.keep {w':af} {g:Nat} {k:Int} {t:ByteArray} {n ln:Int} (h:jg w' g k t n ln):w'.cell? ⟨g,0,ai⟩=ak (.int .i64 k)/\w'.cell? ⟨g,1,ai⟩=ak (.string t)/\w'.cell? ⟨g,2,ai⟩=ak (.int .i64 n)/\w'.cell? ⟨g,3,ai⟩=ak (.int .i64 ln):=h
end Lx
namespace Ps
open Ps.P (rt fl bd acc see kd kw tk exp len)
open Lx (Tk bs eG ow)
open Na (lH)
open Ex (Ex)
open Sm (St)
open Md (b_ dx)
def Wf (x:Tk):Prop:=ow x=true/\0<=x.k/\x.k<=4/\x.t.size<=20000/\0<=x.l/\x.l<=30000
def Gd:List Tk->Prop
 | []=>False
 | [x]=>Wf x/\x.k=0
 | x::y::r=>Wf x/\¬x.k=0/\Gd (y::r)
theorem Gd.ne {t:List Tk} (h:Gd t):0<t.length:=by
 cases t with
 | nil=>exact h.elim
 | cons x r=>simp
theorem Gd.wf {t:List Tk} (h:Gd t):Wf (hd t):=by
 match t,h with
 | [x],h=>exact h.1
 | x::y::r,h=>exact h.1
theorem Gd.tail {t:List Tk} (h:Gd t) (hk:¬(hd t).k=0):Gd t.tail/\t.tail.length+1=t.length:=by
 match t,h with
 | [x],h=>exact absurd h.2 hk
 | x::y::r,h=>exact⟨h.2.2,rfl⟩
theorem Gd.last {t:List Tk} (h:Gd t) (hk:(hd t).k=0):t.length=1:=by
 match t,h with
 | [x],h=>rfl
 | x::y::r,h=>exact absurd hk h.2.1
theorem Wf.txt {x:Tk} (h:Wf x) (h1:¬x.k=1) (h3:¬x.k=3):bs x.t=[]:=by
 obtain⟨hf,-⟩:=h;unfold ow at hf;rw[if_neg h1] at hf;have key:x.t.size=0->bs x.t=[]:=fun h=>List.length_eq_zero_iff.1 (by rw[eG];exact h)
 split at hf
 · rw[ag,decide_eq_true_eq] at hf;exact key hf.1
 · try rw[if_neg h3] at hf
   simp only[ag,decide_eq_true_eq] at hf;exact key hf.2
theorem Wf.n {x:Tk} (h:Wf x):0<=x.n/\x.n<=1000000000000:=by
 obtain⟨hf,-⟩:=h;unfold ow at hf
 split at hf
 · simp only[ag,decide_eq_true_eq] at hf;omega
 · split at hf
   · simp only[ag,decide_eq_true_eq] at hf;omega
   · split at hf <;> (simp only[ag,decide_eq_true_eq] at hf;omega)
theorem anj {s:ByteArray} {t:List Tk}:is s t=true↔bs (hd t).t=bs s:=by unfold is;exact decide_eq_true_iff
theorem acO {s:ByteArray} {t:List Tk} (h:Gd t) (hs:¬bs s=[]) (hi:is s t=true):(hd t).k=1∨(hd t).k=3:=by
 rw[anj] at hi;by_cases h1:(hd t).k=1
 · exact .inl h1
 · by_cases h3:(hd t).k=3
   · exact .inr h3
   · exact absurd (hi▸h.wf.txt h1 h3) hs
theorem Cw {s:ByteArray} {t:List Tk} (h:Gd t) (hs:¬bs s=[]) (hi:is s t=true):Gd t.tail/\t.tail.length+1=t.length:=h.tail (by rcases acO h hs hi with g|g <;> omega)
structure Dn {α:Type} (n:Nat) (m:P α):Prop where
 out:∀{t u:List Tk} {x:α},Gd t->run m t=.ok x u->Gd u/\u.length+n<=t.length
section
variable {α β:Type} {m:P α} {k:α->P β} {A B:P α} {a b n:Nat} {s:ByteArray}
theorem Dn.le (h:Dn a m) (hn:n<=a):Dn n m:=⟨fun g e=>by have:=h.out g e;exact⟨this.1,by omega⟩⟩
theorem Dn.rt {x:α}:Dn 0 (rt x):=⟨fun g e=>by rw[zL] at e;cases e;exact⟨g,ax _⟩⟩
theorem Dn.fl:Dn n (fl:P α):=⟨fun g e=>by rw[Vu] at e;cases e⟩
theorem Dn.bd (h:Dn a m) (hk:∀x,Dn b (k x)) (hn:n<=a+b):Dn n (bd m k):=by
 refine⟨fun {t u x} g e=>?_⟩
 cases hm:run m t with
 | ok y v=>
  rw[fD hm] at e;obtain⟨h1,h2⟩:=h.out g hm;obtain⟨h3,h4⟩:=(hk y).out h1 e;exact⟨h3,by omega⟩
 | no v=>rw[fQ hm] at e;cases e
theorem Dn.len {f:Nat->α->β} (h:Dn n m):Dn n (len m f):=by
 refine⟨fun {t u x} g e=>?_⟩
 cases hm:run m t with
 | ok y v=>rw[OW hm] at e;cases e;exact h.out g hm
 | no v=>rw[OV hm] at e;cases e
theorem Dn.acc (hs:¬bs s=[]) (hA:Dn a A) (hB:Dn b B) (h1:n<=a+1) (h2:n<=b):Dn n (acc s A B):=by
 refine⟨fun {t u x} g e=>?_⟩
 cases hi:is s t with
 | true=>
  rw[FW hi] at e;obtain⟨h3,h4⟩:=Cw g hs hi;obtain⟨h5,h6⟩:=hA.out h3 e;exact⟨h5,by omega⟩
 | false=>
  rw[D_ hi] at e;obtain⟨h5,h6⟩:=hB.out g e;exact⟨h5,by omega⟩
theorem Dn.see (hA:Dn a A) (hB:Dn b B) (h1:n<=a) (h2:n<=b):Dn n (see s A B):=by
 refine⟨fun {t u x} g e=>?_⟩
 cases hi:is s t with
 | true=>rw[KY hi] at e;obtain⟨h5,h6⟩:=hA.out g e;exact⟨h5,by omega⟩
 | false=>rw[KW hi] at e;obtain⟨h5,h6⟩:=hB.out g e;exact⟨h5,by omega⟩
theorem Dn.kd {j:Int} (hA:Dn a A) (hB:Dn b B) (h1:n<=a) (h2:n<=b):Dn n (kd j A B):=by
 refine⟨fun {t u x} g e=>?_⟩;by_cases hi:(hd t).k=j
 · rw[GH hi] at e;obtain⟨h5,h6⟩:=hA.out g e;exact⟨h5,by omega⟩
 · rw[GG hi] at e;obtain⟨h5,h6⟩:=hB.out g e;exact⟨h5,by omega⟩
theorem Dn.kw (hA:Dn a A) (hB:Dn b B) (h1:n<=a) (h2:n<=b):Dn n (kw A B):=by
 refine⟨fun {t u x} g e=>?_⟩
 cases hi:lH (bs (hd t).t) with
 | true=>rw[Kb hi] at e;obtain⟨h5,h6⟩:=hA.out g e;exact⟨h5,by omega⟩
 | false=>rw[UF hi] at e;obtain⟨h5,h6⟩:=hB.out g e;exact⟨h5,by omega⟩
theorem bV {p:Prop} (h:p:=by omega):p:=h
theorem Dn.tk {j:Int} (hj:¬j=0):Dn 1 (tk j):=by
 refine⟨fun {t u x} g e=>?_⟩;by_cases hi:(hd t).k=j
 · rw[Bv hi] at e;cases e;have:=g.tail bV;exact⟨this.1,by omega⟩
 · rw[Dx hi] at e;cases e
theorem Dn.exp (hs:¬bs s=[]):Dn 1 (exp s):=by
 refine⟨fun {t u x} g e=>?_⟩
 cases hi:is s t with
 | true=>rw[Oi hi] at e;cases e;have:=Cw g hs hi;exact⟨this.1,by omega⟩
 | false=>rw[Oh hi] at e;cases e
theorem Dn.iff {c:Prop} [Decidable c] (hA:Dn n A) (hB:Dn n B):Dn n (if c then A else B):=by split <;> assumption
end
theorem ma:Dn 1 num:=.bd (.tk (by decide)) (fun _=>.rt) bV
theorem S_:Dn 1 vz:=.acc (by decide) (.bd ma (fun _=>.rt) bV:Dn 1 _) ma bV bV
theorem Jy:Dn 1 vW:=.acc (by decide) .rt (.bd (.exp (by decide)) (fun _=>.rt) bV:Dn 1 _) bV bV
theorem mJ:Dn 1 fP:=.kw (.fl:Dn 1 _) (.bd (.tk (by decide)) (fun _=>.rt) bV:Dn 1 _) bV bV
theorem ak3 (s:ByteArray) (hs:¬bs s=[]):Dn 2 (vL s):=.bd (.exp hs) (fun _=>mJ) bV
theorem oP:Dn 1 fU:=.bd (.tk (by decide)) (fun _=>.rt) bV
theorem aaq:Dn 2 ui:=.bd mJ (fun _=>.bd oP (fun _=>.rt) bV:∀_,Dn 1 _) bV
theorem NY:Dn 3 pr:=.bd ma (fun _=>.bd (.exp (by decide)) (fun _=>.bd ma (fun _=>.rt) bV:∀_,Dn 1 _) bV:∀_,Dn 2 _) bV
theorem aau:∀n l,Dn 0 (ER n l)
 | 0,l=>.fl
 | n+1,l=>.kd (.bd NY (fun x=>aau n (l++[x])) bV:Dn 3 _) .rt bV bV
theorem aaw:Dn 3 yD:=.bd NY (fun x=>aau FU [x]) bV
section
variable {α:Type} {e:P α}
theorem Ta (h:Dn 1 e):∀n l,Dn 1 (xq e n l)
 | 0,l=>.fl
 | n+1,[]=>.acc (by decide) .rt (.bd h (fun x=>Ta h n [x]) bV:Dn 2 _) bV bV
 | n+1,y::r=>.acc (by decide) .rt (.bd (.exp (by decide)) (fun _=>.bd h (fun x=>Ta h n ((y::r)++[x])) bV:∀_,Dn 2 _) bV:Dn 3 _) bV bV
theorem Tc (h:Dn 1 e):Dn 2 (xu e):=.bd (.exp (by decide)) (fun _=>Ta h FU []) bV
end
theorem SY:Dn 2 dst:=
 .acc (by decide) (.bd ma (fun _=>.rt) bV:Dn 1 _)
 (.acc (by decide) (.bd ma (fun _=>.bd ma (fun _=>.rt) bV:∀_,Dn 1 _) bV:Dn 1 _)
 (.acc (by decide) (.bd aaw (fun _=>.rt) bV:Dn 1 _)
 (.acc (by decide) (.bd ma (fun _=>.bd ma (fun _=>.bd ma (fun _=>.rt) bV:∀_,Dn 1 _) bV:∀_,Dn 1 _) bV:Dn 1 _)
 (.acc (by decide) (.bd ma (fun _=>.bd ma (fun _=>.rt) bV:∀_,Dn 1 _) bV:Dn 1 _) (.fl:Dn 2 _) bV bV:Dn 2 _) bV bV:Dn 2 _) bV bV:Dn 2 _) bV bV:Dn 2 _) bV bV
theorem aas {α:Type} {A:Int->P α} {B:P α} {n:Nat} (hA:∀o,Dn n (A o)) (hB:Dn n B):∀{os:List (ByteArray×Int)},(∀q∈os,¬bs q.1=[])->Dn n (zG A B os)
 | [],_=>hB
 | q::r,hs=>.acc (hs q List.mem_cons_self) (hA q.2) (aas hA hB fun z hz=>hs z (List.mem_cons_of_mem _ hz)) bV bV
section
variable {m:P Ex} {os:List (ByteArray×Int)}
theorem aak (h:Dn 1 m) (hs:∀q∈os,¬bs q.1=[]):∀n e,Dn 0 (wI m os n e)
 | 0,e=>.fl
 | n+1,e=>aas (fun o=>.bd h (fun y=>aak h hs n (jl o e y)) bV) .rt hs
theorem NS (h:Dn 1 m) (hs:∀q∈os,¬bs q.1=[]):Dn 1 (zi m os):=.bd h (fun e=>aak h hs FU e) bV
end
section
variable {E F N:P Ex}
theorem aar (h:Dn 1 E) (o:Int):Dn 3 (one E o):=.bd (.exp (by decide)) (fun _=>.bd h (fun _=>.bd (.exp (by decide)) (fun _=>.rt) bV:∀_,Dn 1 _) bV:∀_,Dn 2 _) bV
theorem aaC (h:Dn 1 E) (o:Int):Dn 5 (two E o):=.bd (.exp (by decide)) (fun _=>.bd h (fun _=>.bd (.exp (by decide)) (fun _=>.bd h (fun _=>.bd (.exp (by decide)) (fun _=>.rt) bV:∀_,Dn 1 _) bV:∀_,Dn 2 _) bV:∀_,Dn 3 _) bV:∀_,Dn 4 _) bV
theorem Te (o:Int):Dn 3 (zF o):=.bd (.exp (by decide)) (fun _=>.bd mJ (fun _=>.bd (.exp (by decide)) (fun _=>.rt) bV:∀_,Dn 1 _) bV:∀_,Dn 2 _) bV
theorem akZ (h:Dn 1 E):Dn 3 (AB E):=.len (.bd (.exp (by decide)) (fun _=>.bd h (fun _=>.bd (.exp (by decide)) (fun _=>.rt) bV:∀_,Dn 1 _) bV:∀_,Dn 2 _) bV)
theorem ak4 (h:Dn 1 E):Dn 1 (De E):=
 .kd (.bd ma (fun _=>.rt) bV:Dn 1 _) (.see (.bd Jy (fun _=>.rt) bV:Dn 1 _) (.see (.bd Jy (fun _=>.rt) bV:Dn 1 _)
 (.acc (by decide) .rt (.acc (by decide) (aar h 7) (.acc (by decide) (aar h 8) (.acc (by decide) (aaC h 20) (.acc (by decide) (aaC h 21)
 (.acc (by decide) (Te 22) (.acc (by decide) (Te 23) (.acc (by decide) (Te 24) (.see (akZ h) (.bd mJ (fun _=>.rt) bV:Dn 1 _)
 bV bV:Dn 1 _) bV bV:Dn 1 _) bV bV:Dn 1 _) bV bV:Dn 1 _) bV bV:Dn 1 _) bV bV:Dn 1 _)
 bV bV:Dn 1 _) bV bV:Dn 1 _) bV bV:Dn 1 _) bV bV:Dn 1 _) bV bV:Dn 1 _) bV bV
theorem akY (h:Dn 1 E) (g:Dn 1 F):Dn 1 (x_ E F):=.acc (by decide) (.bd g (fun _=>.rt) bV:Dn 1 _) (ak4 h) bV bV
theorem aav (g:Dn 1 F):Dn 1 (GX F):=NS g (by decide)
theorem Cj (g:Dn 1 F):Dn 1 (sum F):=NS (aav g) (by decide)
theorem akU (g:Dn 1 F):Dn 1 (cmp F):=
 .bd (Cj g) (fun _=>.acc (by decide) (.bd (Cj g) (fun _=>.rt) bV:Dn 1 _) (.acc (by decide) (.bd (Cj g) (fun _=>.rt) bV:Dn 1 _) (.acc (by decide) (.bd (Cj g) (fun _=>.rt) bV:Dn 1 _)
 (.acc (by decide) (.bd (Cj g) (fun _=>.rt) bV:Dn 1 _) (.acc (by decide) (.bd (Cj g) (fun _=>.rt) bV:Dn 1 _) (.acc (by decide) (.bd (Cj g) (fun _=>.rt) bV:Dn 1 _) .rt
 bV bV:Dn 0 _) bV bV:Dn 0 _) bV bV:Dn 0 _) bV bV:Dn 0 _) bV bV:Dn 0 _) bV bV:∀_,Dn 0 _) bV
theorem ak2 (g:Dn 1 F) (h:Dn 1 N):Dn 1 (Ba F N):=.acc (by decide) (.bd h (fun _=>.rt) bV:Dn 1 _) (akU g) bV bV
theorem aal (g:Dn 1 F):Dn 1 (Gl F):=NS g (by decide)
theorem akV (g:Dn 1 F):Dn 1 (Ck F):=NS (aal g) (by decide)
end
theorem NW:∀n,Dn 1 (fF n)/\Dn 1 (fN n)/\Dn 1 (fE n)
 | 0=>⟨by rw[fF];exact .fl,by rw[fN];exact .fl,by rw[fE];exact .fl⟩
 | n+1=>by
  obtain⟨h1,h2,h3⟩:=NW n;have a:Dn 1 (fF (n+1)):=by rw[abf];exact akY h3 h1
  have b:Dn 1 (fN (n+1)):=by rw[abg];exact ak2 a h2
  exact⟨a,b,by rw[abe];exact akV b⟩
theorem aan (n:Nat):Dn 1 (fF n):=(NW n).1
theorem akX (n:Nat):Dn 1 (fN n):=(NW n).2.1
theorem S9 (n:Nat):Dn 1 (fE n):=(NW n).2.2
theorem Gt:Dn 1 kF:=S9 FU
theorem akT (o:Int):Dn 2 (qZ o):=.bd mJ (fun _=>.bd Gt (fun _=>.rt) bV:∀_,Dn 1 _) bV
theorem aaj (o:Int) (f:ByteArray):Dn 1 (y8 o f):=.bd mJ (fun _=>.bd (Tc Gt) (fun _=>.bd (.exp (by decide)) (fun _=>.bd Gt (fun _=>.rt) bV:∀_,Dn 0 _) bV:∀_,Dn 0 _) bV:∀_,Dn 0 _) bV
theorem NT:Dn 2 cnd:=.bd Gt (fun _=>.bd oP (fun _=>.rt) bV:∀_,Dn 1 _) bV
theorem aaB {B:P (List St)} (h:Dn 0 B):Dn 1 (stt B):=by
 have a:∀o,Dn 0 (qZ o):=fun o=>(akT o).le bV;have n1:∀(k:ByteArray->P St),(∀s,Dn 0 (k s))->Dn 0 (bd fP k):=fun k hk=>.bd mJ hk bV;have x1:∀(k:Ex->P St),(∀s,Dn 0 (k s))->Dn 0 (bd kF k):=fun k hk=>.bd Gt hk bV;have e1:∀(s:ByteArray) (k:Unit->P St),¬bs s=[]->(∀x,Dn 0 (k x))->Dn 0 (bd (exp s) k):=fun s k hs hk=>.bd (.exp hs) hk bV;have b1:∀(s:ByteArray) (k:ByteArray->P St),¬bs s=[]->(∀x,Dn 0 (k x))->Dn 0 (bd (vL s) k):=fun s k hs hk=>.bd (ak3 s hs) hk bV;have st:∀(s:ByteArray) (A B:P St),¬bs s=[]->Dn 0 A->Dn 1 B->Dn 1 (acc s A B):=fun s A B hs hA hB=>.acc hs hA hB bV bV;unfold stt;refine st _ _ _ (by decide) (n1 _ fun _=>e1 _ _ (by decide) fun _=>x1 _ fun _=>.rt) ?_;refine st _ _ _ (by decide) (n1 _ fun _=>b1 _ _ (by decide) fun _=>.bd (SY.le bV:Dn 0 _) (fun _=>.rt) bV) ?_;refine st _ _ _ (by decide) (.bd NT (fun _=>.bd h (fun _=>.bd (.acc (by decide) (.bd oP (fun _=>h) bV:Dn 0 _) .rt bV bV:Dn 0 _) (fun _=>e1 _ _ (by decide) fun _=>.rt) bV:∀_,Dn 0 _) bV:∀_,Dn 0 _) bV) ?_;refine st _ _ _ (by decide) (.bd NT (fun _=>.bd h (fun _=>e1 _ _ (by decide) fun _=>.rt) bV:∀_,Dn 0 _) bV) ?_;refine st _ _ _ (by decide) (x1 _ fun _=>.rt) ?_;refine st _ _ _ (by decide) (n1 _ fun _=>x1 _ fun _=>e1 _ _ (by decide) fun _=>x1 _ fun _=>.bd (.acc (by decide) .rt .rt bV bV:Dn 0 _) (fun _=>.rt) bV) ?_;refine st _ _ _ (by decide) (a 7) ?_;refine st _ _ _ (by decide) (x1 _ fun _=>b1 _ _ (by decide) fun _=>.rt) ?_;refine st _ _ _ (by decide) (n1 _ fun _=>b1 _ _ (by decide) fun _=>.rt) ?_;refine st _ _ _ (by decide) (n1 _ fun _=>.rt) ?_;refine st _ _ _ (by decide) (n1 _ fun _=>.rt) ?_;refine st _ _ _ (by decide) (a 12) ?_;refine st _ _ _ (by decide) (n1 _ fun _=>e1 _ _ (by decide) fun _=>(aaj 13 _).le bV) ?_;refine st _ _ _ (by decide) ((aaj 14 _).le bV) ?_;refine st _ _ _ (by decide) (a 15) ?_;refine st _ _ _ (by decide) (a 16) ?_;refine st _ _ _ (by decide) (a 17) ?_;exact st _ _ _ (by decide) .rt .fl
theorem aaz {S:P St} (h:Dn 1 S):∀n l,Dn 0 (xC S n l)
 | 0,l=>.fl
 | n+1,l=>.see .rt (.see .rt (.kd .rt (.bd h (fun x=>.bd oP (fun _=>aaz h n (l++[x])) bV:∀_,Dn 0 _) bV:Dn 0 _) bV bV:Dn 0 _) bV bV:Dn 0 _) bV bV
theorem NU:∀n,Dn 0 (fS n)
 | 0=>by rw[fS];exact .fl
 | n+1=>by rw[fS];exact aaz (aaB (NU n)) FU []
theorem ak_:Dn 0 Bu:=NU FU
theorem Tg:Dn 1 typ:=.acc (by decide) .rt (.acc (by decide) .rt (.acc (by decide) .rt (.fl:Dn 1 _) bV bV:Dn 1 _) bV bV:Dn 1 _) bV bV
theorem aaD:Dn 1 val:=.bd mJ (fun _=>.bd Tg (fun _=>.bd (.exp (by decide)) (fun _=>.bd (.iff Jy S_) (fun _=>.bd oP (fun _=>.rt) bV:∀_,Dn 0 _) bV:∀_,Dn 0 _) bV:∀_,Dn 0 _) bV:∀_,Dn 0 _) bV
theorem NV:Dn 1 zm:=.bd mJ (fun _=>.bd Tg (fun _=>.rt) bV:∀_,Dn 0 _) bV
theorem aax:Dn 0 Qd:=.acc (by decide) (.bd aaw (fun _=>.bd (.exp (by decide)) (fun _=>.bd ma (fun _=>.rt) bV:∀_,Dn 0 _) bV:∀_,Dn 0 _) bV:Dn 0 _) .rt bV bV
theorem aao:Dn 0 Ay:=.acc (by decide) (.bd mJ (fun _=>.bd (.exp (by decide)) (fun _=>.bd SY (fun _=>.bd (.exp (by decide)) (fun _=>.bd SY (fun _=>.rt) bV:∀_,Dn 0 _) bV:∀_,Dn 0 _) bV:∀_,Dn 0 _) bV:∀_,Dn 0 _) bV:Dn 0 _) .rt bV bV
theorem ak7:Dn 1 gq:=.bd mJ (fun _=>.bd ma (fun _=>.bd aax (fun _=>.bd aao (fun _=>.bd oP (fun _=>.rt) bV:∀_,Dn 0 _) bV:∀_,Dn 0 _) bV:∀_,Dn 0 _) bV:∀_,Dn 0 _) bV
theorem aat:Dn 1 GV:=.acc (by decide) .rt (.acc (by decide) .rt (.acc (by decide) .rt (.fl:Dn 1 _) bV bV:Dn 1 _) bV bV:Dn 1 _) bV bV
theorem ak9:Dn 1 Fu:=.bd mJ (fun _=>.bd ma (fun _=>.bd aat (fun _=>.bd oP (fun _=>.rt) bV:∀_,Dn 0 _) bV:∀_,Dn 0 _) bV:∀_,Dn 0 _) bV
theorem akS:Dn 1 blt:=.bd mJ (fun _=>.bd ma (fun _=>.bd ma (fun _=>.bd oP (fun _=>.rt) bV:∀_,Dn 0 _) bV:∀_,Dn 0 _) bV:∀_,Dn 0 _) bV
theorem aap:∀n l,Dn 0 (Cz n l)
 | 0,l=>.fl
 | n+1,l=>.acc (by decide) (.bd NV (fun x=>.bd oP (fun _=>aap n (l++[x])) bV:∀_,Dn 0 _) bV:Dn 0 _) .rt bV bV
theorem ak6:Dn 1 E_:=.bd mJ (fun _=>.bd (Tc NV) (fun _=>.bd oP (fun _=>.bd (aap FU []:Dn 0 _) (fun _=>.bd ak_ (fun _=>.bd (.exp (by decide)) (fun _=>.bd oP (fun _=>.rt) bV:∀_,Dn 0 _) bV:∀_,Dn 0 _) bV:∀_,Dn 0 _) bV:∀_,Dn 0 _) bV:∀_,Dn 0 _) bV:∀_,Dn 0 _) bV
theorem aai:Dn 1 arg:=.see Jy (.see Jy S_ bV bV:Dn 1 _) bV bV
theorem akW:Dn 0 Od:=.acc (by decide) (.bd ma (fun _=>.bd (.exp (by decide)) (fun _=>.bd ma (fun _=>.rt) bV:∀_,Dn 0 _) bV:∀_,Dn 0 _) bV:Dn 0 _) .rt bV bV
theorem aaA:Dn 1 Fq:=.bd mJ (fun _=>.bd (Tc aai) (fun _=>.bd (.exp (by decide)) (fun _=>.bd ma (fun _=>.bd akW (fun _=>.bd oP (fun _=>.rt) bV:∀_,Dn 0 _) bV:∀_,Dn 0 _) bV:∀_,Dn 0 _) bV:∀_,Dn 0 _) bV:∀_,Dn 0 _) bV
theorem Jw:Dn 2 xE:=.bd (.kd (.bd ma (fun _=>.bd (.exp (by decide)) (fun _=>.rt) bV:∀_,Dn 0 _) bV:Dn 0 _) .rt bV bV:Dn 0 _) (fun _=>.bd mJ (fun _=>.bd mJ (fun _=>.rt) bV:∀_,Dn 1 _) bV:∀_,Dn 2 _) bV
theorem Tf:Dn 1 Dp:=.acc (by decide) Jw (.bd (.exp (by decide)) (fun _=>.bd Jw (fun _=>.rt) bV:∀_,Dn 0 _) bV:Dn 1 _) bV bV
theorem Td:∀n l,Dn 1 (CV n l)
 | 0,l=>.fl
 | n+1,l=>.acc (by decide) .rt (.bd Tf (fun x=>Td n (l++[x])) bV:Dn 1 _) bV bV
theorem ak0:Dn 1 law:=.bd mJ (fun _=>.bd (.exp (by decide)) (fun _=>.bd (.see .rt (.bd Jw (fun _=>.rt) bV:Dn 0 _) bV bV:Dn 0 _) (fun l=>.bd (Td FU l:Dn 1 _) (fun _=>.bd S_ (fun _=>.bd oP (fun _=>.rt) bV:∀_,Dn 0 _) bV:∀_,Dn 0 _) bV:∀_,Dn 0 _) bV:∀_,Dn 0 _) bV:∀_,Dn 0 _) bV
theorem aam (x:b_):Dn 1 (Au x):=by
 have st:∀{α:Type} (s:ByteArray) (A:P α) (k:α->P b_) (B:P b_),¬bs s=[]->Dn 1 A->(∀y,Dn 0 (k y))->Dn 1 B->Dn 1 (acc s (bd A k) B):=fun s A k B hs hA hk hB=>.acc hs (.bd hA hk bV:Dn 1 _) hB bV bV;have nl:Dn 1 ui:=aaq.le bV;unfold Au;refine st _ _ _ _ (by decide) aaD (fun _=>.rt) (st _ _ _ _ (by decide) ak7 (fun _=>.rt) (st _ _ _ _ (by decide) ak9 (fun _=>.rt) (st _ _ _ _ (by decide) akS (fun _=>.rt) ?_)));refine st _ _ _ _ (by decide) nl (fun _=>.rt) (st _ _ _ _ (by decide) nl (fun _=>.rt) (st _ _ _ _ (by decide) nl (fun _=>.rt) (st _ _ _ _ (by decide) nl (fun _=>.rt) (st _ _ _ _ (by decide) nl (fun _=>.rt) ?_))));exact st _ _ _ _ (by decide) ak6 (fun _=>.rt) (st _ _ _ _ (by decide) aaA (fun _=>.rt) (st _ _ _ _ (by decide) ak0 (fun _=>.rt) .fl))
theorem aay:∀n x,Dn 1 (yF n x)
 | 0,x=>.fl
 | n+1,x=>.acc (by decide) .rt (.bd (aam x) (fun y=>aay n y) bV:Dn 1 _) bV bV
theorem ak8:Dn 1 sit:=.bd aaq (fun s=>.bd (aay FU (Dr s):Dn 1 _) (fun _=>.bd oP (fun _=>.rt) bV:∀_,Dn 0 _) bV:∀_,Dn 0 _) bV
theorem ak1:Dn 1 Km:=.bd mJ (fun _=>.bd mJ (fun _=>.bd ma (fun _=>.bd oP (fun _=>.rt) bV:∀_,Dn 0 _) bV:∀_,Dn 0 _) bV:∀_,Dn 0 _) bV
theorem ak5 (m:dx):Dn 1 (prt m):=.acc (by decide) (.bd aaD (fun _=>.rt) bV:Dn 1 _) (.acc (by decide) (.bd ak1 (fun _=>.rt) bV:Dn 1 _) (.acc (by decide) (.bd ak8 (fun _=>.rt) bV:Dn 1 _) (.fl:Dn 1 _) bV bV:Dn 1 _) bV bV:Dn 1 _) bV bV
end Ps
namespace Ps
open Ps.P (rt fl bd acc see kd kw tk exp len)
open Lx (Tk)
theorem af9 {p:Prop} (h:p:=by
 intro t;rw[run]
 split
 · exact⟨fun x u g=>(by cases g;exact List.tail_suffix t),fun u g=>(by cases g)⟩
 · exact⟨fun x u g=>(by cases g),fun u g=>(by cases g;exact List.suffix_refl _)⟩
 ):p:=h
theorem Hd {α:Type} (m:P α):∀t:List Tk,(∀x u,run m t=.ok x u->u <:+ t)/\(∀u,run m t=.no u->u <:+ t):=by
 induction m with
 | rt x=>exact fun t=>⟨fun y u h=>(by rw[run] at h;cases h;exact List.suffix_refl _),fun u h=>(by rw[run] at h;cases h)⟩
 | fl=>exact fun t=>⟨fun y u h=>(by rw[run] at h;cases h),fun u h=>by rw[run] at h;cases h;exact List.suffix_refl _⟩
 | bd m k ih1 ih2=>
  intro t
  cases hm:run m t with
  | ok y v=>
   have hv:=(ih1 t).1 y v hm;exact⟨fun x u h=>(by rw[run,hm] at h;exact((ih2 y v).1 x u h).trans hv),fun u h=>(by rw[run,hm] at h;exact((ih2 y v).2 u h).trans hv)⟩
  | no v=>exact⟨fun x u h=>(by rw[run,hm] at h;cases h),fun u h=>by rw[run,hm] at h;cases h;exact(ih1 t).2 _ hm⟩
 | acc s A B ih1 ih2=>
  intro t;rw[run];by_cases h:is s t=true
  · rw[if_pos h];exact⟨fun x u g=>((ih1 _).1 x u g).trans (List.tail_suffix t),fun u g=>((ih1 _).2 u g).trans (List.tail_suffix t)⟩
  · rw[if_neg h];exact ih2 t
 | see s A B ih1 ih2=>
  intro t;rw[run]
  split
  · exact ih1 t
  · exact ih2 t
 | kd k A B ih1 ih2=>
  intro t;rw[run]
  split
  · exact ih1 t
  · exact ih2 t
 | kw A B ih1 ih2=>
  intro t;rw[run]
  split
  · exact ih1 t
  · exact ih2 t
 | tk k=>
  exact af9
 | exp s=>
  exact af9
 | len m f ih=>
  intro t
  cases hm:run m t with
  | ok y v=>exact⟨fun x u h=>(by rw[run,hm] at h;cases h;exact(ih t).1 _ _ hm),fun u h=>(by rw[run,hm] at h;cases h)⟩
  | no v=>exact⟨fun x u h=>(by rw[run,hm] at h;cases h),fun u h=>by rw[run,hm] at h;cases h;exact(ih t).2 _ hm⟩
end Ps
namespace Lx
open Nu
open Go.RowKit
set_option maxHeartbeats 2000000
def xx (bk xk:Int) (last:Bool):Bool:=if xk=4 then !decide (bk=4) else if xk=0 then decide (bk=4)&&last else true
def vN (first:Bool) (bk bl xk xl:Int):Bool:=if first=true then decide (1<=xl) else if ¬bk=4 then decide (xl=bl) else if xk=0 then decide (bl<=xl) else decide (bl<xl)
def zh (first:Bool) (b x:Tk) (last:Bool):Int:=
 if x.k<0∨4<x.k then 1 else if (ow x&&xx b.k x.k last)=false then 8 else if vN first b.k b.l x.k x.l=false then 12 else 0
def j5 (l:List Tk) (k:Nat):Tk:=if k=0 then ⟨4,mt,0,0⟩ else l.getD (k-1) ⟨4,mt,0,0⟩
theorem Ng {l:List Tk} {j:Nat} (h:j<l.length):j5 l (j+1)=l[j]:=by
 unfold j5;rw[if_neg (by omega),Nat.add_sub_cancel];simp[List.getD,List.getElem?_eq_getElem h]
def Em (l:List Tk) (k:Nat):Int:=zh (decide (k=0)) (j5 l k) (l.getD k ⟨4,mt,0,0⟩) (decide (k+1=l.length))
theorem getD_at {l:List Tk} {k:Nat} (h:k<l.length):l.getD k ⟨4,mt,0,0⟩=l[k]:=by simp[List.getD,List.getElem?_eq_getElem h]
def zH (V:Nat->Int):Nat->Int
 | 0=>0
 | n+1=>if zH V n=0 then V n else zH V n
theorem U4 {V:Nat->Int} {n:Nat}:zH V n=0 ↔ ∀i,i<n->V i=0:=by
 induction n with
 | zero=>exact⟨fun _ i hi=>absurd hi (Nat.not_lt_zero _),fun _=>rfl⟩
 | succ m ih=>
  show(if zH V m=0 then V m else zH V m)=0↔_
  constructor
  · intro h
    split at h
    · rename_i h0
      intro i hi;by_cases e:i=m
      · subst e;exact h
      · exact ih.1 h0 i (by omega)
    · rename_i h0;exact absurd h h0
  · intro h;rw[if_pos (ih.2 fun i hi=>h i (by omega))];exact h m (by omega)
def iY (l:List Tk):Int:=if zH (Em l) l.length=0 then (if (j5 l l.length).k=0 then 0 else 8) else zH (Em l) l.length
end Lx
end Go.Proofs.YtbgodajefaahdaaGreatDoor
