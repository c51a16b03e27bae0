/- The library contracts that the walks call, laid over this dump. -/
import Derived.Test.YtblbkfdhjfppkaaGreatDoorA0
import Derived.Shelf.Strings.Builder1
import Derived.Shelf.Strings.Builder2
import Derived.Shelf.Strings.OnBuilder
import Derived.Shelf.Small.Bits
import Derived.Shelf.Small.Strs
import Derived.Shelf.Small.Wraps
import Derived.Shelf.Utf8.RuneCount
import Derived.Shelf.Strconv.Itoa0
import Derived.Shelf.Strconv.Itoa1
import Derived.Shelf.LaysM
import Derived.Shelf.Strconv.ParseIntEmpty
import Derived.Shelf.Strconv.Clone
import Derived.Shelf.Strconv.SyntaxError
import Derived.Shelf.LaysC
import Derived.Shelf.Strconv.ToError
import Derived.Shelf.Strconv.Lower
import Derived.Shelf.Strconv.ParseUint10
import Derived.Shelf.Strconv.ParseUint10Empty
import Derived.Shelf.Strconv.ParseUint10Any
import Derived.Shelf.Strconv.ParseInt10
import Derived.Shelf.Strconv.RangeError
import Derived.Shelf.Strconv.ToErrorRange
import Derived.Shelf.Strconv.ParseUintEmpty
import Derived.Shelf.Strconv.ParseUint10b64
import Derived.Shelf.Strconv.ParseUint10b32
import Derived.Shelf.Strconv.ParseUint10b16
import Derived.Shelf.Strconv.ParseUint10b8
import Derived.Shelf.Strconv.ParseUint10At
import Derived.Shelf.Strconv.ParseInt10At64
import Derived.Shelf.Strconv.ParseInt10At32
import Derived.Shelf.Strconv.ParseInt10At16
import Derived.Shelf.Strconv.ParseInt10At8
import Derived.Shelf.Strconv.ParseInt10All
import Derived.Shelf.Strconv.ParseIntPublic10
import Derived.Shelf.Strconv.ErrVarParseInt
import Derived.Shelf.Strings.Prefix
import Derived.Shelf.Unicode.DecodeSlow
import Derived.Shelf.Unicode.DecodeAny
import Derived.Ground.Names2Prog
import Derived.Shelf.Slices.Clone
import Derived.Test.YtblbkfdhjfppkaaGreatDoorProg
import Derived.Shelf.Strconv.Itoa2
import Derived.Shelf.Strconv.Itoa3
import Derived.Shelf.Strconv.Itoa4
import Derived.Shelf.SlSortCmp.NoneTotal
import Derived.Shelf.SlLaysF0
import Derived.Shelf.SlGeneric
set_option linter.defProp false
set_option maxRecDepth 100000
namespace Go.Proofs
open _root_.Go.Proofs.Tryz
open Go.Shelf
def laysC174_ren:Go.Shelf.Ren:=⟨fun|174=>300|247=>327|245=>328|287=>338|279=>339|280=>340|281=>341|282=>342|321=>346|322=>347|316=>122|171=>34|205=>348|243=>72|246=>127|283=>177|284=>178|285=>179|286=>180|129=>242|317=>241|318=>243|319=>244|320=>245|337=>293|338=>294|n=>n,fun|9=>9|3=>3|2=>2|75=>414|85=>415|4=>4|167=>463|5=>5|53=>282|175=>464|46=>323|168=>466|37=>247|0=>0|210=>474|21=>21|127=>273|145=>478|143=>476|171=>281|173=>285|212=>370|51=>371|20=>20|213=>372|232=>451|233=>452|80=>428|n=>n,fun|15=>9|16=>10|17=>1|18=>7|19=>8|n=>n⟩
def laysC174:Go.Proofs.LaysC.n174 prog laysC174_ren:={
 mixed:=by kernel_rfl
 f129:=func242.trans (congrArg some (by kernel_rfl))
 f171:=func34.trans (congrArg some (by kernel_rfl))
 f174:=func300.trans (congrArg some (by kernel_rfl))
 f205:=func348.trans (congrArg some (by kernel_rfl))
 f243:=func72.trans (congrArg some (by kernel_rfl))
 f245:=func328.trans (congrArg some (by kernel_rfl))
 f246:=func127.trans (congrArg some (by kernel_rfl))
 f247:=func327.trans (congrArg some (by kernel_rfl))
 f279:=func339.trans (congrArg some (by kernel_rfl))
 f280:=func340.trans (congrArg some (by kernel_rfl))
 f281:=func341.trans (congrArg some (by kernel_rfl))
 f282:=func342.trans (congrArg some (by kernel_rfl))
 f283:=func177.trans (congrArg some (by kernel_rfl))
 f284:=func178.trans (congrArg some (by kernel_rfl))
 f285:=func179.trans (congrArg some (by kernel_rfl))
 f286:=func180.trans (congrArg some (by kernel_rfl))
 f287:=func338.trans (congrArg some (by kernel_rfl))
 f316:=func122.trans (congrArg some (by kernel_rfl))
 f317:=func241.trans (congrArg some (by kernel_rfl))
 f318:=func243.trans (congrArg some (by kernel_rfl))
 f319:=func244.trans (congrArg some (by kernel_rfl))
 f320:=func245.trans (congrArg some (by kernel_rfl))
 f321:=func346.trans (congrArg some (by kernel_rfl))
 f322:=func347.trans (congrArg some (by kernel_rfl))
 f337:=func293.trans (congrArg some (by kernel_rfl))
 f338:=func294.trans (congrArg some (by kernel_rfl))
 t0:=underlying0
 a0:=isAgg0
 z0:=sizeOf0
 v0:=zeroValue0
 t2:=underlying2
 a2:=isAgg2
 z2:=sizeOf2
 v2:=zeroValue2
 t3:=underlying3
 a3:=isAgg3
 z3:=sizeOf3
 v3:=zeroValue3
 t4:=underlying4
 a4:=isAgg4
 z4:=sizeOf4
 v4:=zeroValue4
 t5:=underlying5
 a5:=isAgg5
 z5:=sizeOf5
 v5:=zeroValue5
 t9:=underlying9
 a9:=isAgg9
 z9:=sizeOf9
 v9:=zeroValue9
 t20:=underlying20
 a20:=isAgg20
 z20:=sizeOf20
 v20:=zeroValue20
 t21:=underlying21
 a21:=isAgg21
 z21:=sizeOf21
 v21:=zeroValue21
 t37:=underlying247
 a37:=isAgg247
 z37:=sizeOf247
 v37:=zeroValue247
 t46:=underlying323
 a46:=isAgg323
 z46:=sizeOf323
 v46:=zeroValue323
 t51:=underlying371
 a51:=isAgg371
 z51:=sizeOf371
 v51:=zeroValue371
 t53:=underlying282
 a53:=isAgg282
 z53:=sizeOf282
 v53:=zeroValue282
 t75:=underlying414
 a75:=isAgg414
 z75:=sizeOf414
 v75:=zeroValue414
 t85:=underlying415
 a85:=isAgg415
 z85:=sizeOf415
 v85:=zeroValue415
 t127:=underlying273
 a127:=isAgg273
 z127:=sizeOf273
 v127:=zeroValue273
 t143:=underlying476
 a143:=isAgg476
 z143:=sizeOf476
 v143:=zeroValue476
 t145:=underlying478
 a145:=isAgg478
 z145:=sizeOf478
 v145:=zeroValue478
 t167:=underlying463
 a167:=isAgg463
 z167:=sizeOf463
 v167:=zeroValue463
 t168:=underlying466
 a168:=isAgg466
 z168:=sizeOf466
 v168:=zeroValue466
 t171:=underlying281
 a171:=isAgg281
 z171:=sizeOf281
 v171:=zeroValue281
 t173:=underlying285
 a173:=isAgg285
 z173:=sizeOf285
 v173:=zeroValue285
 t175:=underlying464
 a175:=isAgg464
 z175:=sizeOf464
 v175:=zeroValue464
 t210:=underlying474
 a210:=isAgg474
 z210:=sizeOf474
 v210:=zeroValue474
 t212:=underlying370
 a212:=isAgg370
 z212:=sizeOf370
 v212:=zeroValue370
 t213:=underlying372
 a213:=isAgg372
 z213:=sizeOf372
 t232:=underlying451
 a232:=isAgg451
 z232:=sizeOf451
 v232:=zeroValue451
 t233:=underlying452
 a233:=isAgg452
 z233:=sizeOf452
 v233:=zeroValue452
 g15:=by kernel_rfl
 g16:=by kernel_rfl
 g17:=by kernel_rfl
 g18:=by kernel_rfl
 g19:=by kernel_rfl
 t80:=underlying428
 a80:=isAgg428
 z80:=sizeOf428
 v80:=zeroValue428
 i0:=by kernel_rfl
 i2:=by kernel_rfl
 i3:=by kernel_rfl
 i4:=by kernel_rfl
 i5:=by kernel_rfl
 i9:=by kernel_rfl
 i20:=by kernel_rfl
 i21:=by kernel_rfl
 i37:=by kernel_rfl
 i46:=by kernel_rfl
 i51:=by kernel_rfl
 i53:=by kernel_rfl
 i75:=by kernel_rfl
 i80:=by kernel_rfl
 i85:=by kernel_rfl
 i127:=by kernel_rfl
 i143:=by kernel_rfl
 i145:=by kernel_rfl
 i167:=by kernel_rfl
 i168:=by kernel_rfl
 i171:=by kernel_rfl
 i173:=by kernel_rfl
 i175:=by kernel_rfl
 i210:=by kernel_rfl
 i212:=by kernel_rfl
 i232:=by kernel_rfl
 i233:=by kernel_rfl
 m15:=by kernel_rfl
 m16:=by kernel_rfl
 m17:=by kernel_rfl
 m18:=by kernel_rfl
 m19:=by kernel_rfl
 c0:=by kernel_rfl
 c2:=by kernel_rfl
 c3:=by kernel_rfl
 c4:=by kernel_rfl
 c5:=by kernel_rfl
 c9:=by kernel_rfl
 c20:=by kernel_rfl
 c21:=by kernel_rfl
 c37:=by kernel_rfl
 c46:=by kernel_rfl
 c51:=by kernel_rfl
 c53:=by kernel_rfl
 c75:=by kernel_rfl
 c80:=by kernel_rfl
 c85:=by kernel_rfl
 c127:=by kernel_rfl
 c143:=by kernel_rfl
 c145:=by kernel_rfl
 c167:=by kernel_rfl
 c168:=by kernel_rfl
 c171:=by kernel_rfl
 c173:=by kernel_rfl
 c175:=by kernel_rfl
 c210:=by kernel_rfl
 c212:=by kernel_rfl
 c213:=by kernel_rfl
 c232:=by kernel_rfl
 c233:=by kernel_rfl }
open Go.RowKit in
def strconv_ParseInt_10_at64_ok(s:ByteArray)(a:s.size<=9223372036854775806)(v:Int)(h:Lib.parseIntB 64 s.data.toList=.ok v)(w:World):
 Calls prog 300 #[.string s,.int .i64 10,.int .i64 64] w fun e b=>e=.returned (.tuple #[.int .i64 v,.nilIface])/\(b=w\/∃t,b=Lib.bytesWorld w 5 t):=Any.strconv_ParseInt_10_at64_ok laysC174 s a v h w
open Go.RowKit in
def strconv_ParseInt_10_at64_range(s:ByteArray)(b:s.size<=281474976710656)(h:Lib.parseIntB 64 s.data.toList=.range)(a:Value)(w:World)(g:w.cell? ⟨10,0,none⟩=some a)(c:a=.nilIface\/∃f i,a=.iface f i):
 Calls prog 300 #[.string s,.int .i64 10,.int .i64 64] w fun e d=>∃N,e=.returned (.tuple #[.int .i64 (Lib.intSat 64 s.data.toList),.iface 466 (.pointer (some ⟨N,0,none⟩))])/\w.heap.size<=N/\d.heap[N]?=some (.cells #[.string ⟨#[80,97,114,115,101,73,110,116]⟩,.string s,a] 474 (0,0))/\Below w.heap.size w d:=Any.strconv_ParseInt_10_at64_range laysC174 s b h a w g c
def lays197_ren:Go.Shelf.Ren:=⟨fun|197=>181|260=>246|n=>n,fun|9=>9|21=>21|3=>3|4=>4|5=>5|105=>287|119=>409|0=>0|46=>323|139=>412|138=>411|n=>n,fun|3=>4|4=>5|n=>n⟩
def lays197:Go.Proofs.Lays.n197 prog lays197_ren:={
 mixed:=by kernel_rfl
 f197:=func181.trans (congrArg some (by kernel_rfl))
 f260:=func246.trans (congrArg some (by kernel_rfl))
 t0:=underlying0
 a0:=isAgg0
 z0:=sizeOf0
 v0:=zeroValue0
 t3:=underlying3
 a3:=isAgg3
 z3:=sizeOf3
 v3:=zeroValue3
 t4:=underlying4
 a4:=isAgg4
 z4:=sizeOf4
 v4:=zeroValue4
 t5:=underlying5
 a5:=isAgg5
 z5:=sizeOf5
 v5:=zeroValue5
 t9:=underlying9
 a9:=isAgg9
 z9:=sizeOf9
 v9:=zeroValue9
 t21:=underlying21
 a21:=isAgg21
 z21:=sizeOf21
 v21:=zeroValue21
 t46:=underlying323
 a46:=isAgg323
 z46:=sizeOf323
 v46:=zeroValue323
 t105:=underlying287
 a105:=isAgg287
 z105:=sizeOf287
 v105:=zeroValue287
 t119:=underlying409
 a119:=isAgg409
 z119:=sizeOf409
 t138:=underlying411
 a138:=isAgg411
 z138:=sizeOf411
 v138:=zeroValue411
 t139:=underlying412
 a139:=isAgg412
 z139:=sizeOf412
 v139:=zeroValue412
 g3:=by kernel_rfl
 g4:=by kernel_rfl }
open Go.RowKit Go.Lib in
def utf8_DecodeRuneInString(s:ByteArray)(w:World)(b:Lib.Utf8Tabs 4 5 w):
 Calls prog 181 #[.string s] w fun e a=>e=.returned (.tuple #[.int .i32 (Lib.decodeGo s).1,.int .i64 (Lib.decodeGo s).2])/\Below w.heap.size w a:=Any.utf8_DecodeRuneInString lays197 s w b
end Go.Proofs
namespace Go.Proofs
open _root_.Go.Proofs.Tryz
def lays156_ren:Go.Shelf.Ren:=⟨fun|156=>269|165=>315|166=>316|169=>317|240=>333|241=>334|276=>343|277=>344|n=>n,fun|31=>60|9=>9|3=>3|4=>4|0=>0|20=>20|72=>424|76=>426|70=>422|37=>247|75=>414|127=>273|164=>469|5=>5|80=>428|n=>n,fun|n=>n⟩
def lays156:Go.Proofs.Lays.n156 prog lays156_ren:={
 mixed:=by kernel_rfl
 f156:=func269.trans (congrArg some (by kernel_rfl))
 f165:=func315.trans (congrArg some (by kernel_rfl))
 f166:=func316.trans (congrArg some (by kernel_rfl))
 f169:=func317.trans (congrArg some (by kernel_rfl))
 f240:=func333.trans (congrArg some (by kernel_rfl))
 f241:=func334.trans (congrArg some (by kernel_rfl))
 f276:=func343.trans (congrArg some (by kernel_rfl))
 f277:=func344.trans (congrArg some (by kernel_rfl))
 t0:=underlying0
 a0:=isAgg0
 z0:=sizeOf0
 v0:=zeroValue0
 t3:=underlying3
 a3:=isAgg3
 z3:=sizeOf3
 v3:=zeroValue3
 t4:=underlying4
 a4:=isAgg4
 z4:=sizeOf4
 v4:=zeroValue4
 t9:=underlying9
 a9:=isAgg9
 z9:=sizeOf9
 v9:=zeroValue9
 t20:=underlying20
 a20:=isAgg20
 z20:=sizeOf20
 v20:=zeroValue20
 t31:=underlying60
 a31:=isAgg60
 z31:=sizeOf60
 v31:=zeroValue60
 t37:=underlying247
 a37:=isAgg247
 z37:=sizeOf247
 v37:=zeroValue247
 t70:=underlying422
 a70:=isAgg422
 z70:=sizeOf422
 v70:=zeroValue422
 t72:=underlying424
 a72:=isAgg424
 z72:=sizeOf424
 v72:=zeroValue424
 t75:=underlying414
 a75:=isAgg414
 z75:=sizeOf414
 v75:=zeroValue414
 t76:=underlying426
 a76:=isAgg426
 z76:=sizeOf426
 v76:=zeroValue426
 t127:=underlying273
 a127:=isAgg273
 z127:=sizeOf273
 v127:=zeroValue273
 t164:=underlying469
 a164:=isAgg469
 z164:=sizeOf469
 v164:=zeroValue469 }
def Builder_Extra_156:Builder.Extra prog lays156_ren:={
 sizeBuilder:=by kernel_rfl
 liesBuilder:=by kernel_rfl
 t5:=underlying5
 a5:=isAgg5
 z5:=sizeOf5
 v5:=zeroValue5
 infoByte:=by kernel_rfl
 cellsByte:=by kernel_rfl
 sizeByte:=by kernel_rfl
 neB5:=by decide }
open Go.RowKit in
def strings_Join_none(a:Option Addr)(c:Nat)(b:ByteArray)(w:World):
 Calls prog 269 #[.slice a 0 c,.string b] w fun e d=>e=.returned (.string ⟨#[]⟩)/\d=w:=Any.strings_Join_none lays156 Builder_Extra_156 a c b w
open Go.RowKit in
def strings_Join(g o c:Nat)(xs:List ByteArray)(a:ByteArray)(w:World)(b:∀(j:Nat) x,xs[j]?=some x->w.cell? ⟨g,o+j,none⟩=some (.string x))(h:g<w.heap.size)(k:xs.length<=140737488355328)(d:xs.length<=c)(f:(Lib.join (xs.map (·.data.toList)) a.data.toList).length<=140737488355328):
 Calls prog 269 #[.slice (some ⟨g,o,none⟩) xs.length c,.string a] w fun e i=>e=.returned (.string ⟨(Lib.join (xs.map (·.data.toList)) a.data.toList).toArray⟩)/\Below w.heap.size w i:=Any.strings_Join lays156 Builder_Extra_156 g o c xs a w b h k d f
def lays106_ren:Go.Shelf.Ren:=⟨fun|106=>161|213=>222|265=>279|n=>n,fun|9=>9|3=>3|n=>n,fun|n=>n⟩
def lays106:Go.Proofs.Lays.n106 prog lays106_ren:={
 mixed:=by kernel_rfl
 f106:=func161.trans (congrArg some (by kernel_rfl))
 f213:=func222.trans (congrArg some (by kernel_rfl))
 f265:=func279.trans (congrArg some (by kernel_rfl))
 t3:=underlying3
 a3:=isAgg3
 z3:=sizeOf3
 v3:=zeroValue3
 t9:=underlying9
 a9:=isAgg9
 z9:=sizeOf9
 v9:=zeroValue9 }
open Go.RowKit in
def strings_Compare(a b:ByteArray)(w:World):
 Calls prog 161 #[.string a,.string b] w fun e c=>e=.returned (.int .i64 (Lib.compareBytes a.data.toList b.data.toList))/\c=w:=Any.strings_Compare lays106 a b w
def lays121_ren:Go.Shelf.Ren:=⟨fun|121=>218|214=>268|n=>n,fun|4=>4|9=>9|n=>n,fun|n=>n⟩
def lays121:Go.Proofs.Lays.n121 prog lays121_ren:={
 mixed:=by kernel_rfl
 f121:=func218.trans (congrArg some (by kernel_rfl))
 f214:=func268.trans (congrArg some (by kernel_rfl))
 t4:=underlying4
 a4:=isAgg4
 z4:=sizeOf4
 v4:=zeroValue4
 t9:=underlying9
 a9:=isAgg9
 z9:=sizeOf9
 v9:=zeroValue9 }
open Go.RowKit in
def strconv_FormatBool(b:Bool)(w:World):
 Calls prog 218 #[.bool b] w fun e a=>e=.returned (.string ⟨(Lib.formatBool b).toArray⟩)/\a=w:=Any.strconv_FormatBool lays121 b w
def lays195_ren:Go.Shelf.Ren:=⟨fun|195=>400|n=>n,fun|9=>9|3=>3|0=>0|4=>4|n=>n,fun|n=>n⟩
def lays195:Go.Proofs.Lays.n195 prog lays195_ren:={
 mixed:=by kernel_rfl
 f195:=func400.trans (congrArg some (by kernel_rfl))
 t0:=underlying0
 a0:=isAgg0
 z0:=sizeOf0
 v0:=zeroValue0
 t3:=underlying3
 a3:=isAgg3
 z3:=sizeOf3
 v3:=zeroValue3
 t4:=underlying4
 a4:=isAgg4
 z4:=sizeOf4
 v4:=zeroValue4
 t9:=underlying9
 a9:=isAgg9
 z9:=sizeOf9
 v9:=zeroValue9 }
open Go.RowKit in
def utf8_RuneCountInString(s:ByteArray)(w:World)(c:s.size<9223372036854775807):
 Calls prog 400 #[.string s] w fun e b=>e=.returned (.int .i64 (Lib.runeCount s))/\∃a,b=w.iter s a:=Any.utf8_RuneCountInString lays195 s w c
def laysM173_ren:Go.Shelf.Ren:=⟨fun|173=>217|246=>127|283=>177|284=>178|285=>179|286=>180|129=>242|317=>241|318=>243|319=>244|320=>245|337=>293|338=>294|n=>n,fun|2=>2|3=>3|9=>9|4=>4|171=>281|0=>0|53=>282|37=>247|5=>5|173=>285|212=>370|51=>371|20=>20|213=>372|46=>323|232=>451|233=>452|n=>n,fun|17=>1|18=>7|19=>8|n=>n⟩
def laysM173:Go.Proofs.LaysM.n173 prog laysM173_ren:={
 mixed:=by kernel_rfl
 f129:=func242.trans (congrArg some (by kernel_rfl))
 f173:=func217.trans (congrArg some (by kernel_rfl))
 f246:=func127.trans (congrArg some (by kernel_rfl))
 f283:=func177.trans (congrArg some (by kernel_rfl))
 f284:=func178.trans (congrArg some (by kernel_rfl))
 f285:=func179.trans (congrArg some (by kernel_rfl))
 f286:=func180.trans (congrArg some (by kernel_rfl))
 f317:=func241.trans (congrArg some (by kernel_rfl))
 f318:=func243.trans (congrArg some (by kernel_rfl))
 f319:=func244.trans (congrArg some (by kernel_rfl))
 f320:=func245.trans (congrArg some (by kernel_rfl))
 f337:=func293.trans (congrArg some (by kernel_rfl))
 f338:=func294.trans (congrArg some (by kernel_rfl))
 t0:=underlying0
 a0:=isAgg0
 z0:=sizeOf0
 v0:=zeroValue0
 t2:=underlying2
 a2:=isAgg2
 z2:=sizeOf2
 v2:=zeroValue2
 t3:=underlying3
 a3:=isAgg3
 z3:=sizeOf3
 v3:=zeroValue3
 t4:=underlying4
 a4:=isAgg4
 z4:=sizeOf4
 v4:=zeroValue4
 t5:=underlying5
 a5:=isAgg5
 z5:=sizeOf5
 v5:=zeroValue5
 t9:=underlying9
 a9:=isAgg9
 z9:=sizeOf9
 v9:=zeroValue9
 t20:=underlying20
 a20:=isAgg20
 z20:=sizeOf20
 v20:=zeroValue20
 t37:=underlying247
 a37:=isAgg247
 z37:=sizeOf247
 v37:=zeroValue247
 t46:=underlying323
 a46:=isAgg323
 z46:=sizeOf323
 v46:=zeroValue323
 t51:=underlying371
 a51:=isAgg371
 z51:=sizeOf371
 v51:=zeroValue371
 t53:=underlying282
 a53:=isAgg282
 z53:=sizeOf282
 v53:=zeroValue282
 t171:=underlying281
 a171:=isAgg281
 z171:=sizeOf281
 v171:=zeroValue281
 t173:=underlying285
 a173:=isAgg285
 z173:=sizeOf285
 v173:=zeroValue285
 t212:=underlying370
 a212:=isAgg370
 z212:=sizeOf370
 v212:=zeroValue370
 t213:=underlying372
 a213:=isAgg372
 z213:=sizeOf372
 t232:=underlying451
 a232:=isAgg451
 z232:=sizeOf451
 v232:=zeroValue451
 t233:=underlying452
 a233:=isAgg452
 z233:=sizeOf452
 v233:=zeroValue452
 g17:=by kernel_rfl
 g18:=by kernel_rfl
 g19:=by kernel_rfl
 i0:=by kernel_rfl
 i2:=by kernel_rfl
 i3:=by kernel_rfl
 i4:=by kernel_rfl
 i5:=by kernel_rfl
 i9:=by kernel_rfl
 i20:=by kernel_rfl
 i37:=by kernel_rfl
 i46:=by kernel_rfl
 i51:=by kernel_rfl
 i53:=by kernel_rfl
 i171:=by kernel_rfl
 i173:=by kernel_rfl
 i212:=by kernel_rfl
 i232:=by kernel_rfl
 i233:=by kernel_rfl
 m17:=by kernel_rfl
 m18:=by kernel_rfl
 m19:=by kernel_rfl }
open Go.RowKit Go.Sort Go.Lib in
def strconv_FormatInt_10(n:Int)(f: -9223372036854775808<=n)(d:n<=9223372036854775807)(w:World)(a:Lib.TabIs prog w "internal/strconv.uint64pow10" .u64 Lib.pow10Tab):
 Calls prog 217 #[.int .i64 n,.int .i64 10] w fun e b=>e=.returned (.string ⟨(Lib.itoa n).toArray⟩)/\∃k c,b=grow (w.drewN k) c:=Any.strconv_FormatInt_10 laysM173 n f d w a
end Go.Proofs
namespace Go.Proofs
open _root_.Go.Proofs.Tryz
def laysM316_ren:Go.Shelf.Ren:=⟨fun|316=>122|n=>n,fun|9=>9|3=>3|4=>4|37=>247|0=>0|127=>273|5=>5|n=>n,fun|n=>n⟩
def laysM316:Go.Proofs.LaysM.n316 prog laysM316_ren:={
 mixed:=by kernel_rfl
 f316:=func122.trans (congrArg some (by kernel_rfl))
 t0:=underlying0
 a0:=isAgg0
 z0:=sizeOf0
 v0:=zeroValue0
 t3:=underlying3
 a3:=isAgg3
 z3:=sizeOf3
 v3:=zeroValue3
 t4:=underlying4
 a4:=isAgg4
 z4:=sizeOf4
 v4:=zeroValue4
 t9:=underlying9
 a9:=isAgg9
 z9:=sizeOf9
 v9:=zeroValue9
 t37:=underlying247
 a37:=isAgg247
 z37:=sizeOf247
 v37:=zeroValue247
 t127:=underlying273
 a127:=isAgg273
 z127:=sizeOf273
 v127:=zeroValue273
 t5:=underlying5
 a5:=isAgg5
 z5:=sizeOf5
 v5:=zeroValue5
 i0:=by kernel_rfl
 i3:=by kernel_rfl
 i4:=by kernel_rfl
 i5:=by kernel_rfl
 i9:=by kernel_rfl
 i37:=by kernel_rfl
 i127:=by kernel_rfl }
open Go.RowKit in
def stringslite_Clone(s:ByteArray)(w:World)(a:s.size<=281474976710656):
 Calls prog 122 #[.string s] w fun e b=>e=.returned (.string s)/\Below w.heap.size w b:=Any.stringslite_Clone laysM316 s w a
end Go.Proofs
namespace Go.Proofs
open _root_.Go.Proofs.Tryz
def sortL_ren:Go.Shelf.Ren:=⟨fun|6=>159|15=>221|14=>220|28=>278|29=>242|20=>270|21=>271|22=>272|23=>273|24=>274|25=>275|26=>276|27=>277|46=>318|47=>319|48=>320|49=>321|50=>322|57=>335|n=>n,fun|22=>59|24=>120|25=>261|3=>3|39=>323|0=>0|53=>371|55=>282|4=>4|46=>386|45=>385|50=>199|5=>5|9=>9|66=>429|70=>433|76=>457|77=>458|n=>n,fun|n=>n⟩
def sortL:Go.Proofs.SlLaysF0.n6 prog sortL_ren:={
 mixed:=by kernel_rfl
 f6:=⟨f159.name,by decide,func159.trans (congrArg some (by kernel_rfl))⟩
 f14:=⟨f220.name,by decide,func220.trans (congrArg some (by kernel_rfl))⟩
 f15:=func221.trans (congrArg some (by kernel_rfl))
 f20:=⟨f270.name,by decide,func270.trans (congrArg some (by kernel_rfl))⟩
 f21:=⟨f271.name,by decide,func271.trans (congrArg some (by kernel_rfl))⟩
 f22:=⟨f272.name,by decide,func272.trans (congrArg some (by kernel_rfl))⟩
 f23:=⟨f273.name,by decide,func273.trans (congrArg some (by kernel_rfl))⟩
 f24:=⟨f274.name,by decide,func274.trans (congrArg some (by kernel_rfl))⟩
 f25:=⟨f275.name,by decide,func275.trans (congrArg some (by kernel_rfl))⟩
 f26:=⟨Tryz.f276.name,by decide,func276.trans (congrArg some (by kernel_rfl))⟩
 f27:=⟨Tryz.f277.name,by decide,func277.trans (congrArg some (by kernel_rfl))⟩
 f28:=func278.trans (congrArg some (by kernel_rfl))
 f29:=func242.trans (congrArg some (by kernel_rfl))
 f46:=⟨Tryz.f318.name,by decide,func318.trans (congrArg some (by kernel_rfl))⟩
 f47:=func319.trans (congrArg some (by kernel_rfl))
 f48:=func320.trans (congrArg some (by kernel_rfl))
 f49:=⟨Tryz.f321.name,by decide,func321.trans (congrArg some (by kernel_rfl))⟩
 f50:=⟨Tryz.f322.name,by decide,func322.trans (congrArg some (by kernel_rfl))⟩
 f57:=⟨f335.name,by decide,func335.trans (congrArg some (by kernel_rfl))⟩
 t0:=underlying0
 a0:=isAgg0
 z0:=sizeOf0
 v0:=zeroValue0
 t3:=underlying3
 a3:=isAgg3
 z3:=sizeOf3
 v3:=zeroValue3
 t4:=underlying4
 a4:=isAgg4
 z4:=sizeOf4
 v4:=zeroValue4
 t5:=underlying5
 a5:=isAgg5
 z5:=sizeOf5
 v5:=zeroValue5
 t9:=underlying9
 a9:=isAgg9
 z9:=sizeOf9
 v9:=zeroValue9
 t22:=underlying59
 a22:=isAgg59
 z22:=sizeOf59
 v22:=zeroValue59
 t25:=underlying261
 a25:=isAgg261
 z25:=sizeOf261
 v25:=zeroValue261
 t39:=underlying323
 a39:=isAgg323
 z39:=sizeOf323
 v39:=zeroValue323
 t45:=underlying385
 a45:=isAgg385
 z45:=sizeOf385
 v45:=zeroValue385
 t46:=underlying386
 a46:=isAgg386
 z46:=sizeOf386
 v46:=zeroValue386
 t50:=underlying199
 a50:=isAgg199
 z50:=sizeOf199
 v50:=zeroValue199
 t53:=underlying371
 a53:=isAgg371
 z53:=sizeOf371
 v53:=zeroValue371
 t55:=underlying282
 a55:=isAgg282
 z55:=sizeOf282
 v55:=zeroValue282
 t66:=underlying429
 a66:=isAgg429
 z66:=sizeOf429
 v66:=zeroValue429
 t70:=underlying433
 a70:=isAgg433
 z70:=sizeOf433
 v70:=zeroValue433
 t76:=underlying457
 a76:=isAgg457
 z76:=sizeOf457
 v76:=zeroValue457
 t77:=underlying458
 a77:=isAgg458
 z77:=sizeOf458
 v77:=zeroValue458 }
end Go.Proofs
