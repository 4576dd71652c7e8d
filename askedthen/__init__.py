"""Askedthen: answers as of two times, with papers."""
