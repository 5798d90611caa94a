"""The texts of styles and desks."""


def show_style(style):
    """Return the text of a style."""
    return "; ".join([" ".join([str(stroke) for stroke in shape]) for shape in style.shapes])


def show_desk(desk):
    """Return the text of a desk."""
    checks = "".join([f" {show_check(check)}" for check in desk.checks])
    limits = f"free {show_limit(desk.free)} most {show_limit(desk.most)}"
    ending = " raised" if desk.raised else ""
    return f"({show_style(desk.style)}){checks} {limits}{ending}"


def show_check(check):
    """Return the text of a check."""
    kind = check[0]
    if kind == "rest":
        weights = "".join([f" {weight}" for weight in check[2]])
        return f"rest {check[1]}:{weights};"
    if kind == "copy":
        return f"copy ({show_style(check[1])})"
    return kind


def show_limit(limit):
    """Return the text of a limit; None is no limit."""
    if limit is None:
        return "any"
    return str(limit)
