"""What is known of one posting at an hour."""


def known(versions, hour):
    """The content that a posting is known with at an hour; None where it is struck or not known by then."""
    content = None
    for since, told in versions:
        if since > hour:
            return content
        if told is None:
            # A struck posting stays struck, so whatever stands behind this can't bring it back.
            return None
        content = told
    return content
