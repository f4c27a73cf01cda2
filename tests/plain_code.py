"""The program's own code objects, made the plain dicts of helper.py."""

from helper import FIELDS


def plain_shape(told):
    return (told.kind, told.lengths)


def plain_instruction(told):
    return dict({field: getattr(told, field) for field in FIELDS}, op=told.op, twelfth=told.twelfth)


def plain_piece(told):
    return dict(
        axes=told.axes, inputs=[plain_shape(one) for one in told.inputs],
        results=[plain_shape(one.shape) + (one.joining,) for one in told.results], place=told.place, flag=told.flag,
        body=[plain_instruction(one) for one in told.body])


def plain_call(told):
    return dict(
        sort=told.form, which=told.which, kind=told.kind, u=told.u, v=told.v,
        operands=[(one.bank, one.number) for one in told.operands],
        results=[(one.bank, one.number) for one in told.results])


def plain(told):
    return dict(
        d=told.data_slots, slots=[plain_shape(one) for one in told.slots], names=told.names,
        pieces=[plain_piece(one) for one in told.pieces], calls=[plain_call(one) for one in told.calls],
        main=[plain_instruction(one) for one in told.main])
